
import PyProof.Rows.All
import Wide.All
import OpenK.AllK
import Wide.FinOn
import PyProof.EqAt
import PyProof.EqKinds
import PyProof.TupleCall
import KE.BitLaws
import KE.KSortTupG
import PyProof.Rows.SortShellAny
import PyProof.Rows.ListRangeD
import PyProof.MinMaxWalk
import PyProof.Rows.CallKwBuiltin
import PyProof.WalkInts
import KE.KRevSl
import PyProof.DictCompW
import PyProof.Rows.RowHeap
import PyProof.EnumMake
import PyProof.Draws
import PyProof.TupleOfGen
import PyProof.Rows.GenRows
import PySem.Challenge.RW_insidecount_k05_whole_two_worlds
set_option Elab.async false
set_option linter.all false
set_option maxRecDepth 100000
/-! THE HAND LAYER, for ints, bools, texts, own classes, lists, tuples, dicts, comprehensions, walks over dicts, enumerate, zip, reversed, texts, calls, loops. Paste it whole ahead of your own text; what your proof does not reach may be deleted. -/
namespace L2
open PySem PySem.Spec PyProof.Rows

/-- a key: an int or a str -/
abbrev Key := Sum Int Str
def keyIs : Key → Value → Bool
  | .inl k, v => Value.isInt k v
  | .inr x, v => Value.isStrOf x v
def keyH (w : World) : Key → Int
  | .inl k => hashInt k
  | .inr x => hashStr w x
theorem keyIs_shape : ∀ {k : Key} {v : Value}, keyIs k v = true → (∃ i t, k = Sum.inl i ∧ v = Value.int i t) ∨ (∃ x t, k = Sum.inr x ∧ v = Value.str x t)
  | .inl i, v, h => by
    obtain ⟨t, e⟩ := Value.isInt_shape (k := i) (v := v) h
    exact .inl ⟨i, t, rfl, e⟩
  | .inr x, v, h => by
    obtain ⟨t, e⟩ := Value.isStrOf_shape (x := x) (v := v) h
    exact .inr ⟨x, t, rfl, e⟩
theorem keyIs_int (i : Int) (t : Tok) : keyIs (.inl i) (.int i t) = true := by simp [keyIs, Value.isInt]
theorem keyIs_str (x : Str) (t : Tok) : keyIs (.inr x) (.str x t) = true := by simp [keyIs, Value.isStrOf]
theorem key_ll (a b : Int) : decide ((Sum.inl a : Key) = Sum.inl b) = (a == b) := by
  by_cases e : a = b
  · subst e; simp
  · have h : ¬ (Sum.inl a : Key) = Sum.inl b := fun q => e (Sum.inl.inj q)
    rw [decide_eq_false h]
    exact (beq_eq_false_iff_ne.mpr e).symm
theorem key_rr (a b : Str) : decide ((Sum.inr a : Key) = Sum.inr b) = decide (a = b) := by
  by_cases e : a = b
  · subst e; simp
  · have h : ¬ (Sum.inr a : Key) = Sum.inr b := fun q => e (Sum.inr.inj q)
    rw [decide_eq_false h, decide_eq_false e]
theorem key_lr (a : Int) (b : Str) : decide ((Sum.inl a : Key) = Sum.inr b) = false := decide_eq_false (fun q => nomatch q)
theorem key_rl (a : Str) (b : Int) : decide ((Sum.inr a : Key) = Sum.inl b) = false := decide_eq_false (fun q => nomatch q)

def mixKind (prog : Program) (w : World) : PySem.KeyKind prog w Key where
  is := keyIs
  hash := keyH w
  inj := fun v a b ha hb => by
    rcases keyIs_shape ha with ⟨i, t, rfl, rfl⟩ | ⟨x, t, rfl, rfl⟩
    · rcases keyIs_shape hb with ⟨j, u, rfl, e⟩ | ⟨y, u, rfl, e⟩
      · injection e with e1 _; rw [e1]
      · exact nomatch e
    · rcases keyIs_shape hb with ⟨j, u, rfl, e⟩ | ⟨y, u, rfl, e⟩
      · exact nomatch e
      · injection e with e1 _; rw [e1]
  byValue := fun k v h => by
    rcases keyIs_shape h with ⟨i, t, rfl, rfl⟩ | ⟨x, t, rfl, rfl⟩ <;> rfl
  pyHash := fun hv h => by
    rcases keyIs_shape hv with ⟨i, t, rfl, rfl⟩ | ⟨x, t, rfl, rfl⟩
    · exact wpAny_pyHash_int h
    · exact wpAny_pyHash_str h
  eqBool := fun hu hv h => by
    rcases keyIs_shape hu with ⟨i, t, rfl, rfl⟩ | ⟨x, t, rfl, rfl⟩
    · rcases keyIs_shape hv with ⟨j, u, rfl, rfl⟩ | ⟨y, u, rfl, rfl⟩
      · rw [key_ll] at h; exact wpAny_eqBool_int h
      · rw [key_lr] at h; exact SeqAt.EqAt.int_str i t y u _ _ _ _ h
    · rcases keyIs_shape hv with ⟨j, u, rfl, rfl⟩ | ⟨y, u, rfl, rfl⟩
      · rw [key_rl] at h; exact SeqAt.EqAt.str_int x t j u _ _ _ _ h
      · rw [key_rr] at h; exact wpAny_eqBool_str h
  «strs» := fun k x t v h => by
    rcases keyIs_shape h with ⟨i, u, rfl, e⟩ | ⟨y, u, rfl, e⟩
    · exact nomatch e
    · injection e with e1 _
      subst e1
      cases v <;> rfl

theorem mixKind_int (prog : Program) (w : World) (i : Int) (t : Tok) : (mixKind prog w).is (.inl i) (.int i t) = true := keyIs_int i t
theorem mixKind_str (prog : Program) (w : World) (x : Str) (t : Tok) : (mixKind prog w).is (.inr x) (.str x t) = true := keyIs_str x t
end L2

namespace L2
open PySem PySem.Spec PyProof.Rows

/-- a value, without the heap -/
inductive V where
  | non | bl (b : Bool) | int (i : Int) | str (x : Str) | byt (b : Array UInt8) | flt (b : UInt64) | ref (a : Addr) | ty (n : String)
  deriving DecidableEq

def RelV : V → Value → Prop
  | .non, u => u = Value.none
  | .bl b, u => u = Value.bool b
  | .int i, u => ∃ t, u = Value.int i t
  | .str x, u => ∃ t, u = Value.str x t
  | .byt b, u => ∃ t, u = Value.bytes b t
  | .flt b, u => ∃ t, u = Value.float b t
  | .ref a, u => u = Value.ref a
  | .ty n, u => u = Value.type n

abbrev Vals : List V → List Value → Prop := Paired RelV
theorem Vals.length {xs : List V} {us : List Value} (r : Vals xs us) : xs.length = us.length := Paired.length r
theorem Vals.get : ∀ {xs : List V} {us : List Value} {i : Nat} {x : V}, Vals xs us → xs[i]? = some x → ∃ u, us[i]? = some u ∧ RelV x u
  | _, _, _, _, .nil, e => by simp at e
  | _, _, 0, _, .cons r _, e => by simp at e; subst e; exact ⟨_, rfl, r⟩
  | _, _, i + 1, x, .cons _ t, e => by
    obtain ⟨u, h1, h2⟩ := Vals.get (i := i) (x := x) t (by simpa using e)
    exact ⟨u, by simpa using h1, h2⟩
theorem Vals.set {x : V} {u : Value} (r : RelV x u) : ∀ {xs : List V} {us : List Value} (i : Nat), Vals xs us → Vals (xs.set i x) (us.set i u)
  | _, _, _, .nil => .nil
  | _, _, 0, .cons _ t => .cons r t
  | _, _, i + 1, .cons q t => .cons q (Vals.set r i t)
theorem Vals.append : ∀ {xs ys : List V} {us ws : List Value}, Vals xs us → Vals ys ws → Vals (xs ++ ys) (us ++ ws)
  | _, _, _, _, .nil, s => s
  | _, _, _, _, .cons r t, s => .cons r (Vals.append t s)
theorem Vals.take : ∀ {xs : List V} {us : List Value} (n : Nat), Vals xs us → Vals (xs.take n) (us.take n)
  | _, _, 0, _ => .nil
  | _, _, _ + 1, .nil => .nil
  | _, _, n + 1, .cons r t => .cons r (Vals.take n t)
theorem Vals.drop : ∀ {xs : List V} {us : List Value} (n : Nat), Vals xs us → Vals (xs.drop n) (us.drop n)
  | _, _, 0, r => r
  | _, _, _ + 1, .nil => .nil
  | _, _, n + 1, .cons _ t => Vals.drop n t
theorem Vals.none_of : ∀ {xs : List V} {us : List Value} {i : Nat}, Vals xs us → xs[i]? = none → us[i]? = none := fun {xs us i} r e => by
  have h1 := r.length
  have h2 : xs.length ≤ i := List.getElem?_eq_none_iff.mp e
  exact List.getElem?_eq_none_iff.mpr (by omega)

def RelO : Option V → Option Value → Prop
  | some v, some u => RelV v u
  | none, none => True
  | _, _ => False
def KV {κ : Type} : List (κ × V) → List (κ × Value) → Prop := Paired fun (p : κ × V) (q : κ × Value) => p.1 = q.1 ∧ RelV p.2 q.2

/-- a key of a dict (00_mix): an int or a text -/
def kV : Key → V
  | .inl i => .int i
  | .inr x => .str x

/-- what stands at a tracked address -/
inductive HO where
  /-- a list -/
  | lst (xs : List V)
  /-- a tuple (never changes) -/
  | tup (xs : List V)
  /-- a dict whose keys are ints and texts; one whose keys are tuples of ints and texts (the empty one is both) -/
  | dK (kvs : List (Key × V)) | dT (kvs : List (List Key × V))
  /-- a set of ints: its members, its size -/
  | set (S : Int → Bool) (n : Nat)
  /-- an instance of the class at C, its dict at dx, its attributes -/
  | ins (C dx : Addr) (fs : List (Str × V))
  /-- the dict of the instance at x -/
  | own (x : Addr)
  /-- the dict of an exception -/
  | xd (fs : List (Str × V))
  /-- a bound method, f of x -/
  | met (f x : Addr)
  /-- a range object lo, lo + 1, .. below hi -/
  | rng (lo hi : Int)
  /-- a thing that is known to the object (the script; a dict while a loop walks it): read, never written while it is so -/
  | frz (o : Obj) (u : HO)
  /-- a code object's table -/
  | tbl (ps : Array Value)
  /-- any other thing, by what is true of its one object (a def of one's own: SetO a S n := HO.ext fun h => ..) -/
  | ext (φ : Heap → Prop)

abbrev Hp := Addr → Option HO
def upd (H : Hp) (a : Addr) (o : HO) : Hp := fun b => if b = a then some o else H b
theorem upd_same {H : Hp} {a : Addr} {o : HO} : upd H a o a = some o := by unfold upd; rw [if_pos rfl]
theorem upd_ne {H : Hp} {a b : Addr} {o : HO} (h : b ≠ a) : upd H a o b = H b := by unfold upd; rw [if_neg h]
/-- two objects of different content stand apart -/
theorem ne_of {H : Hp} {a b : Addr} {o u : HO} (h : H a = some o) (h' : H b = some u) (d : o ≠ u) : a ≠ b := by
  intro e; subst e; rw [h] at h'; exact d (Option.some.inj h')
theorem ne_of_none {H : Hp} {a b : Addr} {o : HO} (h : H a = some o) (h' : H b = none) : a ≠ b := by
  intro e; subst e; rw [h] at h'; cases h'

section
variable (P : Program) (w : World)
def ObjOk (H : Hp) (h : Heap) (a : Addr) : HO → Prop
  | .lst xs => xs.length ≤ sizeLine ∧ ∃ (its : List Value) (n : Nat), Vals xs its ∧ h.get? a = some { cls := .type "list", data := .seq its.toArray n }
  | .tup xs => xs.length ≤ sizeLine ∧ ∃ its : List Value, Vals xs its ∧ IsTup h a its.toArray
  | .dK kvs => kvs.length ≤ sizeLine ∧ (a == sysModules) = false ∧ ∃ vs, KV kvs vs ∧ h.DictOf (mixKind P w) a vs
  | .dT kvs => kvs.length ≤ sizeLine ∧ (a == sysModules) = false ∧ ∃ xs : List (List Key × Addr × Value),
      Paired (fun (p : List Key × V) (q : List Key × Addr × Value) => p.1 = q.1 ∧ H q.2.1 = some (.tup (p.1.map kV)) ∧ RelV p.2 q.2.2) kvs xs ∧
      ∃ o es ep, h.get? a = some o ∧ o.ExactDict ∧ o.data = .dict es ep ∧ es.toList = xs.map (entryOfKey (tupleKind (mixKind P w))) ∧ (xs.map (·.1)).Nodup
  | .set S n => h.SetOf (intKind P w) a S n
  | .ins C dx fs => H dx = some (.own a) ∧ fs.length ≤ 1000 ∧ dx ≠ a ∧ h.get? a = some (PySem.W.instObj C dx) ∧
      ∃ mA, h.Ns1 dx mA ∧ (∀ f, RelO (fs.lookup f) (mA f)) ∧ PySem.Within mA (fs.map (·.1))
  | .own _ => ∃ o, h.get? a = some o
  | .xd fs => ∃ mA, h.Ns1 a mA ∧ ∀ f, RelO (fs.lookup f) (mA f)
  | .rng lo hi => ∃ t u v, h.get? a = some { cls := .type "range", data := .fields #[.int lo t, .int hi u, .int 1 v] }
  | .frz o u => h.get? a = some o ∧ ObjOk H h a u
  | .tbl ps => h.get? a = some { cls := .none, data := .fields ps }
  | .met f x => h.get? a = some (PySem.W.methodObj (.ref f) (.ref x))
  | .ext φ => φ h ∧ (∃ o, h.get? a = some o) ∧ ∀ h1 h2 : Heap, φ h1 → (∀ o, h1.get? a = some o → h2.get? a = some o) → φ h2
/-- the abstract heap is held -/
def HOk (H : Hp) (h : Heap) : Prop := ∀ a o, H a = some o → ObjOk P w H h a o
end

section
variable {P : Program} {w : World} {H H' : Hp} {h h' : Heap} {a : Addr} {o : HO}
theorem ObjOk.lt (x : ObjOk P w H h a o) : a < h.objs.size := by
  cases o with
  | lst xs => obtain ⟨_, _, _, _, e⟩ := x; exact Heap.lt_size e
  | tup xs => obtain ⟨_, _, _, p⟩ := x; exact p.lt
  | dK kvs => obtain ⟨_, _, _, _, o, _, _, e, _⟩ := x; exact Heap.lt_size e
  | dT kvs => obtain ⟨_, _, _, _, o, _, _, e, _⟩ := x; exact Heap.lt_size e
  | set S n => obtain ⟨o, _, _, _, e, _⟩ := x; exact Heap.lt_size e
  | ins C dx fs => obtain ⟨_, _, _, e, _⟩ := x; exact Heap.lt_size e
  | own y => obtain ⟨_, e⟩ := x; exact Heap.lt_size e
  | xd fs => obtain ⟨_, ⟨_, _, _, e, _⟩, _⟩ := x; exact Heap.lt_size e
  | rng lo hi => obtain ⟨_, _, _, e⟩ := x; exact Heap.lt_size e
  | frz ob u => obtain ⟨e, _⟩ := x; exact Heap.lt_size e
  | tbl ps => exact Heap.lt_size (show h.get? a = some _ from x)
  | met f y => exact Heap.lt_size (show h.get? a = some _ from x)
  | ext φ => obtain ⟨_, ⟨_, e⟩, _⟩ := x; exact Heap.lt_size e
theorem Paired.mapP {α β : Type} {F G : α → β → Prop} : ∀ {l₁ : List α} {l₂ : List β}, Paired F l₁ l₂ → (∀ a b, F a b → G a b) → Paired G l₁ l₂
  | _, _, .nil, _ => .nil
  | _, _, .cons r t, f => .cons (f _ _ r) (Paired.mapP t f)
theorem Paired.imp' {α β : Type} {F G : α → β → Prop} (f : ∀ a b, F a b → G a b) {l₁ : List α} {l₂ : List β} (r : Paired F l₁ l₂) : Paired G l₁ l₂ := Paired.mapP r f
/-- what an object's description leans on: its own object, its own dict, the tuples -/
theorem ObjOk.stay (x : ObjOk P w H h a o) (k : ∀ b u, (b = a ∨ H b = some (.own a)) → h.get? b = some u → h'.get? b = some u)
    (ho : ∀ b, H b = some (.own a) → H' b = some (.own a)) (ht : ∀ b xs, H b = some (.tup xs) → H' b = some (.tup xs)) : ObjOk P w H' h' a o := by
  induction o with
  | lst xs => obtain ⟨z, its, n, r, e⟩ := x; exact ⟨z, its, n, r, k _ _ (.inl rfl) e⟩
  | tup xs => obtain ⟨z, its, r, ob, e, c⟩ := x; exact ⟨z, its, r, ob, k _ _ (.inl rfl) e, c⟩
  | dK kvs => obtain ⟨z, y, vs, r, ob, es, ep, e, c⟩ := x; exact ⟨z, y, vs, r, ob, es, ep, k _ _ (.inl rfl) e, c⟩
  | dT kvs =>
    obtain ⟨z, y, xs, r, ob, es, ep, e, c⟩ := x
    exact ⟨z, y, xs, Paired.mapP r fun p q z => ⟨z.1, ht _ _ z.2.1, z.2.2⟩, ob, es, ep, k _ _ (.inl rfl) e, c⟩
  | set S n => obtain ⟨ob, es, ep, t, e, c⟩ := x; exact ⟨ob, es, ep, t, k _ _ (.inl rfl) e, c⟩
  | ins C dx fs =>
    obtain ⟨d, z, ne, e, mA, ⟨od, es, ep, e2, c⟩, r⟩ := x
    exact ⟨ho _ d, z, ne, k _ _ (.inl rfl) e, mA, ⟨od, es, ep, k _ _ (.inr d) e2, c⟩, r⟩
  | own y => obtain ⟨ob, e⟩ := x; exact ⟨ob, k _ _ (.inl rfl) e⟩
  | xd fs => obtain ⟨mA, ⟨od, es, ep, e, c⟩, r⟩ := x; exact ⟨mA, ⟨od, es, ep, k _ _ (.inl rfl) e, c⟩, r⟩
  | rng lo hi => obtain ⟨t, u, v, e⟩ := x; exact ⟨t, u, v, k _ _ (.inl rfl) e⟩
  | frz ob u ih => obtain ⟨e, q⟩ := x; exact ⟨k _ _ (.inl rfl) e, ih q⟩
  | tbl ps =>
    have e : h.get? a = some { cls := .none, data := .fields ps } := x
    show h'.get? a = some { cls := .none, data := .fields ps }
    exact k a _ (.inl rfl) e
  | met f y =>
    have e : h.get? a = some (PySem.W.methodObj (.ref f) (.ref y)) := x
    show h'.get? a = some (PySem.W.methodObj (.ref f) (.ref y))
    exact k a _ (.inl rfl) e
  | ext φ => obtain ⟨p, ⟨o, e⟩, st⟩ := x; exact ⟨st _ _ p fun o q => k _ _ (.inl rfl) q, ⟨o, k _ _ (.inl rfl) e⟩, st⟩
theorem HOk.lt (x : HOk P w H h) (e : H a = some o) : a < h.objs.size := (x a o e).lt
theorem HOk.fresh (x : HOk P w H h) (e : h.objs.size ≤ a) : H a = none := by
  cases q : H a with
  | none => rfl
  | some u => exact absurd (Nat.lt_of_lt_of_le (x.lt q) e) (Nat.lt_irrefl _)
/-- every object of the heap is kept -/
theorem HOk.kept (x : HOk P w H h) (k : ∀ b u, h.get? b = some u → h'.get? b = some u) : HOk P w H h' := fun a o e =>
  (x a o e).stay (fun b u _ q => k b u q) (fun _ q => q) fun _ _ q => q
/-- a new object is laid and tracked -/
theorem HOk.laid (x : HOk P w H h) (k : ∀ b u, h.get? b = some u → h'.get? b = some u) (hp : h.objs.size ≤ a) (new : ObjOk P w (upd H a o) h' a o) : HOk P w (upd H a o) h' := fun b u e => by
  have hn := x.fresh hp
  by_cases hb : b = a
  · subst hb; rw [upd_same] at e; cases e; exact new
  · rw [upd_ne hb] at e
    exact (x b u e).stay (fun c v _ q => k c v q) (fun c q => by rw [upd_ne (ne_of_none q hn)]; exact q) fun c xs q => by rw [upd_ne (ne_of_none q hn)]; exact q
end

/-- what may be read as u: it is u, or a known u -/
def Rd (H : Hp) (a : Addr) (u : HO) : Prop := H a = some u ∨ ∃ o, H a = some (.frz o u)
theorem Rd.of {H : Hp} {a : Addr} {u : HO} (h : H a = some u) : Rd H a u := .inl h
theorem Rd.ok {P : Program} {w : World} {H : Hp} {h : Heap} {a : Addr} {u : HO} (r : Rd H a u) (x : HOk P w H h) : ObjOk P w H h a u := by
  rcases r with r | ⟨o, r⟩
  · exact x a u r
  · obtain ⟨_, q⟩ := x a _ r
    exact q
/-- what may be written -/
def Mut : Option HO → Prop
  | some (.lst _) => True
  | some (.dK _) => True
  | some (.dT _) => True
  | some (.set _ _) => True
  | some (.ins _ _ _) => True
  | some (.ext _) => True
  | _ => False
section
variable {P : Program} {w : World} {H : Hp} {h h' : Heap} {x e : Addr} {o' : HO}
/-- the object at e is changed: x itself, or the dict of the instance x -/
theorem HOk.write (ok : HOk P w H h) (mu : Mut (H x)) (he : e = x ∨ H e = some (.own x)) (k : ∀ b u, b ≠ e → h.get? b = some u → h'.get? b = some u) (heo : ∃ u, h'.get? e = some u)
    (new : ObjOk P w (upd H x o') h' x o') : HOk P w (upd H x o') h' := fun b u q => by
  have nown : ∀ c y, H c = some (.own y) → c ≠ x := fun c y r z => by subst z; rw [r] at mu; exact mu
  have ntup : ∀ c xs, H c = some (.tup xs) → c ≠ x := fun c xs r z => by subst z; rw [r] at mu; exact mu
  by_cases hb : b = x
  · subst hb; rw [upd_same] at q; cases q; exact new
  · rw [upd_ne hb] at q
    by_cases hbe : b = e
    · have q' : H b = some (.own x) := by
        rcases he with z | z
        · exact absurd (hbe.trans z) hb
        · rw [hbe]; exact z
      rw [q] at q'; cases q'
      obtain ⟨v, hv⟩ := heo
      exact ⟨v, by rw [hbe]; exact hv⟩
    · refine (ok b u q).stay (fun c v hc r => k c v ?_ r) (fun c r => by rw [upd_ne (nown c b r)]; exact r) fun c xs r => by rw [upd_ne (ntup c xs r)]; exact r
      rcases hc with rfl | hc
      · exact hbe
      · rintro rfl
        rcases he with z | z
        · exact nown c b hc z
        · rw [hc] at z; cases z; exact hb rfl
end

/-! ### kept unless tracked; of the frames at fs (the callers') the slots may change (an exception that passes writes there); of the records at ex (iterators) nothing is said -/
structure Un (fs ex : List Addr) (H H' : Hp) (h h' : Heap) : Prop where
  keep : ∀ b o, h.get? b = some o → H b = none → b ∉ fs → b ∉ ex → h'.get? b = some o
  slot : ∀ b o, h.get? b = some o → H b = none → b ∈ fs → b ∉ ex → ∃ sl, h'.get? b = some { o with slots := sl }
  free : ∀ b o, h.get? b = some o → H b = none → b ∉ ex → H' b = none
  there : ∀ b o, h.get? b = some o → b ∉ ex → ∃ o', h'.get? b = some o'
  tups : ∀ b xs, H b = some (.tup xs) → H' b = some (.tup xs)
  frzs : ∀ b o u, H b = some (.frz o u) → H' b = some (.frz o u)
  tbls : ∀ b ps, H b = some (.tbl ps) → ∃ more, H' b = some (.tbl (ps ++ more))
section
variable {fs fs' ex ex' : List Addr} {H H1 H2 : Hp} {h h1 h2 h' : Heap} {a x e : Addr} {o : HO}
theorem Un.any (u : Un fs ex H H1 h h1) {b : Addr} {ob : Obj} (q : h.get? b = some ob) (n : H b = none) (hx : b ∉ ex) : ∃ sl, h1.get? b = some { ob with slots := sl } := by
  by_cases hb : b ∈ fs
  · exact u.slot b ob q n hb hx
  · exact ⟨ob.slots, u.keep b ob q n hb hx⟩
theorem Un.trans (a : Un fs ex H H1 h h1) (b : Un fs ex H1 H2 h1 h2) : Un fs ex H H2 h h2 where
  keep := fun c ob q n hc hx => b.keep c ob (a.keep c ob q n hc hx) (a.free c ob q n hx) hc hx
  slot := fun c ob q n hc hx => by
    obtain ⟨sl, e1⟩ := a.slot c ob q n hc hx
    obtain ⟨sl', e2⟩ := b.slot c _ e1 (a.free c ob q n hx) hc hx
    exact ⟨sl', e2⟩
  free := fun c ob q n hx => by
    obtain ⟨o', e1⟩ := a.there c ob q hx
    exact b.free c o' e1 (a.free c ob q n hx) hx
  there := fun c ob q hx => by
    obtain ⟨o', e1⟩ := a.there c ob q hx
    exact b.there c o' e1 hx
  tups := fun c xs q => b.tups c xs (a.tups c xs q)
  frzs := fun c ob xs q => b.frzs c ob xs (a.frzs c ob xs q)
  tbls := fun c ps q => by
    obtain ⟨m1, e1⟩ := a.tbls c ps q
    obtain ⟨m2, e2⟩ := b.tbls c _ e1
    exact ⟨m1 ++ m2, by rw [e2, Array.append_assoc]⟩
theorem Un.kept (k : ∀ b u, h.get? b = some u → h'.get? b = some u) : Un fs ex H H h h' :=
  ⟨fun b ob q _ _ _ => k b ob q, fun b ob q _ _ _ => ⟨ob.slots, k b ob q⟩, fun _ _ _ n _ => n, fun b ob q _ => ⟨ob, k b ob q⟩, fun _ _ q => q, fun _ _ _ q => q, fun _ ps q => ⟨#[], by rw [q]; simp⟩⟩
theorem Un.refl : Un fs ex H H h h := Un.kept fun _ _ q => q
theorem Un.laid (k : ∀ b u, h.get? b = some u → h'.get? b = some u) (hp : h.objs.size ≤ a) (hn : H a = none) : Un fs ex H (upd H a o) h h' where
  keep := fun b u q _ _ _ => k b u q
  slot := fun b u q _ _ _ => ⟨u.slots, k b u q⟩
  free := fun b u q n _ => by rw [upd_ne (Nat.ne_of_lt (Nat.lt_of_lt_of_le (Heap.lt_size q) hp))]; exact n
  there := fun b u q _ => ⟨u, k b u q⟩
  tups := fun b xs q => by rw [upd_ne (ne_of_none q hn)]; exact q
  frzs := fun b u xs q => by rw [upd_ne (ne_of_none q hn)]; exact q
  tbls := fun b ps q => ⟨#[], by rw [upd_ne (ne_of_none q hn), q]; simp⟩
theorem Un.write (mu : Mut (H x)) (he : e = x ∨ H e = some (.own x)) (k : ∀ b u, b ≠ e → h.get? b = some u → h'.get? b = some u) (heo : ∃ u, h'.get? e = some u) : Un fs ex H (upd H x o) h h' := by
  have hx : ∀ b, H b = none → b ≠ x := fun b n z => by subst z; rw [n] at mu; exact mu
  have hb : ∀ b, H b = none → b ≠ e := fun b n z => by
    subst z
    rcases he with r | r
    · exact hx b n r
    · rw [n] at r; cases r
  have hm : ∀ b u, H b = some u → ¬ Mut (some u) → b ≠ x := fun b u q nm z => by subst z; rw [q] at mu; exact nm mu
  refine ⟨fun b u q n _ _ => k b u (hb b n) q, fun b u q n _ _ => ⟨u.slots, k b u (hb b n) q⟩, fun b u q n _ => by rw [upd_ne (hx b n)]; exact n, fun b u q _ => ?_,
    fun b xs q => by rw [upd_ne (hm b _ q fun z => z)]; exact q, fun b u xs q => by rw [upd_ne (hm b _ q fun z => z)]; exact q, fun b ps q => ⟨#[], by rw [upd_ne (hm b _ q fun z => z), q]; simp⟩⟩
  by_cases hbe : b = e
  · subst hbe; exact heo
  · exact ⟨u, k b u hbe q⟩
theorem Un.mono (u : Un fs ex H H1 h h1) (hs : ∀ b ∈ fs, b ∈ fs') (hx : ∀ b ∈ ex, b ∈ ex') : Un fs' ex' H H1 h h1 :=
  ⟨fun b ob q n hb he => u.keep b ob q n (fun z => hb (hs b z)) fun z => he (hx b z), fun _ _ q n _ he => u.any q n fun z => he (hx _ z), fun b ob q n he => u.free b ob q n fun z => he (hx b z), fun b ob q he => u.there b ob q fun z => he (hx b z), u.tups, u.frzs, u.tbls⟩
end

/-! ### the heap without what is tracked -/
def trk (h : Heap) (H : Hp) : List Addr := (List.range h.objs.size).filter fun a => (H a).isSome
def hidT (h : Heap) (H : Hp) : Heap := PySem.W.hideAll h (trk h H)
theorem hidT_size (h : Heap) (H : Hp) : (hidT h H).objs.size = h.objs.size := PySem.W.hideAll_size _ _
theorem hidT_get {h : Heap} {H : Hp} {b : Addr} {o : Obj} (e : h.get? b = some o) (n : H b = none) : (hidT h H).get? b = some o :=
  PySem.W.hideAll_get _ e fun hm => by
    have q : (H b).isSome = true := (List.mem_filter.mp hm).2
    rw [n] at q; simp at q
theorem of_hidT {h : Heap} {H : Hp} {b : Addr} {o : Obj} (e : (hidT h H).get? b = some o) : h.get? b = some o ∧ H b = none := by
  have e' : h.get? b = some o := PySem.W.of_hideAll (trk h H) e
  refine ⟨e', ?_⟩
  cases q : H b with
  | none => rfl
  | some x =>
    have hm : b ∈ trk h H := List.mem_filter.mpr ⟨List.mem_range.mpr (Heap.lt_size e'), by simp [q]⟩
    have z : (hidT h H).get? b = none := PySem.W.hideAll_none (trk h H) hm
    rw [z] at e; cases e

/-! ### OpenK's ledger, filled with every new object but one -/
def allNews (g h : Heap) (L : Addr) : List (Addr × Obj) := (List.range h.objs.size).filterMap fun a => if a = L ∨ (g.get? a).isSome = true then none else (h.get? a).map fun o => (a, o)
def rest (g h : Heap) (L d : Addr) : List (Addr × Obj) := (allNews g h L).filter fun p => decide (p.1 ≠ d)
end L2

namespace L2
open PySem PySem.Spec PyProof.Rows

/-- the module's facts, over the base: the heap at the law's entry without what is tracked there -/
structure Mod (K : PySem.W.Frag) (mg : Str → Option Value) (base : Heap) : Prop where
  kin : K.In base
  glob : base.Ns mainGlobals mg
  blt : ∃ mb, base.Ns builtinsNs mb ∧ ∀ x : Str, x ≠ "__name__" → mb x = bootBuiltins x
  nolimit : base.NoLimit

/-- the context: a def's body (or a comprehension's block) running. base: fixed through the whole law; s₀, H₀: the entry; outer: the frames whose slots others may change (a def's callers); stack: all frames that run;
   ex: iterators that were made ahead of the entry and are walked here (a comprehension's); fn: the names whose cells were made at the entry (a def: all; a comprehension's block: its own); calm: not within an except suite; pn: pins that every state bears; xe: what is wanted of an exception that leaves the code -/
structure Cx where
  prog : Program
  w : World
  K : PySem.W.Frag
  mg : Str → Option Value
  base : Heap
  A : Around
  N : List Str
  s_0 : Shared
  H_0 : Hp
  env : Env
  outer : List Env
  stack : List Env
  ex : List Addr
  fn : Str → Bool
  calm : Bool
  pn : List (Addr × Obj)
  xe : Value → Shared → Prop
/-- the callers' frames -/
def frs (l : List Env) : List Addr := l.filterMap (·.frame)
abbrev Cx.fs (X : Cx) : List Addr := frs X.outer

def Vis (sc : Scope) (x : Str) : Prop := sc.names.lookup x = some .local ∨ sc.names.lookup x = some .cell ∨ sc.names.lookup x = some .free
def Loc (sc : Scope) (x : Str) : Prop := sc.names.lookup x = some .local ∨ sc.names.lookup x = some .cell
def Look (env : Env) (h : Heap) (m : Str → Option Value) (x : Str) (u : Value) : Prop :=
  (env.kindOf x = some .local ∧ m x = some u) ∨ ((env.kindOf x = some .cell ∨ env.kindOf x = some .free) ∧ ∃ c, env.cells.lookup x = some c ∧ h.IsCell c (some u))

structure Cx.Ok (X : Cx) : Prop where
  mod : Mod X.K X.mg X.base
  kind : X.env.scope.kind = .function
  glob : X.env.globals = mainGlobals
  blt : X.env.builtins = builtinsNs
  above : X.s_0.heap.objs.size ≤ X.env.locals
  inj : ∀ x y c, X.env.cells.lookup x = some c → X.env.cells.lookup y = some c → x = y
  has : ∀ x, (X.env.kindOf x = some .cell ∨ X.env.kindOf x = some .free) → ∃ c, X.env.cells.lookup x = some c
  cab : ∀ x c, X.fn x = true → X.env.cells.lookup x = some c → X.s_0.heap.objs.size ≤ c
  hd : X.calm = true → X.A.handled = none
  frames : X.A.frames = some X.stack
  stk : X.stack = X.outer ∨ (X.stack = X.env :: X.outer ∧ X.env.frame = some X.env.locals)
  exf : ∀ b ∈ X.ex, b ≠ X.env.locals ∧ ∀ x c, X.env.cells.lookup x = some c → c ≠ b
  bs : ∀ b o, X.base.get? b = some o → X.s_0.heap.get? b = some o ∧ X.H_0 b = none
  bsz : X.base.objs.size ≤ X.s_0.heap.objs.size
  noex : ∀ b o, X.base.get? b = some o → b ∉ X.ex
  exfs : ∀ b ∈ X.ex, b ∉ X.fs
  funs : X.s_0.heap.FunFrames X.base X.outer
  frf : ∀ b ∈ X.fs, X.H_0 b = none

structure Inv (X : Cx) (pins : List (Addr × Obj)) (σ : List (Option V)) (H : Hp) (s : Shared) : Prop where
  ok : X.Ok
  os : s.os = X.s_0.os
  bare : AllBare s.gens
  base : Un X.fs X.ex X.H_0 H X.s_0.heap s.heap
  loc : ∃ m, s.heap.Ns X.env.locals m ∧ ∀ (i : Nat) (x : Str) (v : V), X.N[i]? = some x → σ[i]? = some (some v) → Vis X.env.scope x → ∃ u, RelV v u ∧ Look X.env s.heap m x u
  cell : ∀ x c, X.env.cells.lookup x = some c → ∃ v, s.heap.IsCell c v
  free : H X.env.locals = none
  freeC : ∀ x c, X.env.cells.lookup x = some c → H c = none
  pin : ∀ p ∈ X.pn ++ pins, s.heap.get? p.1 = some p.2 ∧ H p.1 = none ∧ p.1 ≠ X.env.locals ∧ p.1 ∉ X.fs ∧ ∀ v, p.2.data ≠ .cell v
  hok : HOk X.prog X.w H s.heap
  len : σ.length = X.N.length

section
variable {X : Cx} {pins : List (Addr × Obj)} {σ : List (Option V)} {H H' : Hp} {s : Shared} {h' : Heap}

theorem Cx.Ok.nofr (ok : X.Ok) {b : Addr} {o : Obj} (e : X.base.get? b = some o) : b ∉ X.fs := fun hb => by
  have := (ok.funs.mem hb).1
  rw [e] at this; cases this
theorem Inv.bs (I : Inv X pins σ H s) : ∀ b o, X.base.get? b = some o → s.heap.get? b = some o ∧ H b = none := fun b o e =>
  ⟨I.base.keep b o (I.ok.bs b o e).1 (I.ok.bs b o e).2 (I.ok.nofr e) (I.ok.noex b o e), I.base.free b o (I.ok.bs b o e).1 (I.ok.bs b o e).2 (I.ok.noex b o e)⟩
theorem Inv.bk (I : Inv X pins σ H s) : ∀ b o, X.base.get? b = some o → s.heap.get? b = some o := fun b o e => (I.bs b o e).1
theorem Inv.mod (I : Inv X pins σ H s) : Mod X.K X.mg X.base := I.ok.mod
theorem Inv.kIn (I : Inv X pins σ H s) : X.K.In s.heap := I.ok.mod.kin.keeps I.bk
theorem Inv.nolimit (I : Inv X pins σ H s) : s.heap.NoLimit := I.ok.mod.nolimit.keeps I.bk
/-- the frame over the base: for OpenK's rules (K.In X.base is I.mod.kin) -/
theorem Inv.fr (I : Inv X pins σ H s) : ∃ m, Fr X.base X.env.locals s.heap m :=
  let ⟨m, hn, _⟩ := I.loc
  ⟨m, hn, I.bk, Nat.le_trans I.ok.bsz I.ok.above⟩
theorem Inv.lt (I : Inv X pins σ H s) : X.env.locals < s.heap.objs.size := let ⟨_, hn, _⟩ := I.loc; hn.lt
theorem Inv.sz (I : Inv X pins σ H s) : X.s_0.heap.objs.size ≤ s.heap.objs.size := Nat.le_trans I.ok.above (Nat.le_of_lt I.lt)
theorem Inv.nofs (I : Inv X pins σ H s) {a : Addr} (h : s.heap.objs.size ≤ a) : a ∉ X.fs := fun hb => by
  obtain ⟨_, o, ho, _⟩ := I.ok.funs.mem hb
  exact absurd (Nat.lt_of_lt_of_le (Heap.lt_size ho) (Nat.le_trans I.sz h)) (Nat.lt_irrefl _)
theorem Inv.cne (I : Inv X pins σ H s) : ∀ x c, X.env.cells.lookup x = some c → c ≠ X.env.locals := fun x c e z => by
  obtain ⟨v, o, ho, hd⟩ := I.cell x c e
  obtain ⟨m, ⟨o', es, ep, ho', hd', _⟩, _⟩ := I.loc
  rw [z, ho'] at ho; cases ho; rw [hd'] at hd; cases hd
theorem Inv.funs (I : Inv X pins σ H s) : s.heap.FunFrames X.base X.outer := by
  have all : ∀ (l : List Env), (∀ b ∈ frs l, b ∈ X.fs) → X.s_0.heap.FunFrames X.base l → s.heap.FunFrames X.base l := by
    intro l
    induction l with
    | nil => intro _ _; trivial
    | cons env r ih =>
      intro hs hl
      obtain ⟨hk, ⟨L, o, hf, hn, ho, hd⟩, hr⟩ := hl
      have hL : L ∈ X.fs := hs L (by unfold frs; rw [List.filterMap_cons, hf]; exact List.mem_cons_self)
      obtain ⟨sl, e⟩ := I.base.slot L o ho (I.ok.frf L hL) hL fun z => I.ok.exfs L z hL
      exact ⟨hk, ⟨L, _, hf, hn, e, hd⟩, ih (fun b hb => hs b (by unfold frs; rw [List.filterMap_cons, hf]; exact List.mem_cons_of_mem _ hb)) hr⟩
  exact all X.outer (fun _ hb => hb) I.ok.funs

/-- the frames that run, for a call -/
theorem Inv.stack (I : Inv X pins σ H s) : s.heap.FunFrames X.base X.stack := by
  rcases I.ok.stk with e | ⟨e, hf⟩
  · rw [e]; exact I.funs
  · rw [e]
    obtain ⟨m, hn, _⟩ := I.loc
    refine .cons (by rw [I.ok.kind]; decide) hf hn ?_ I.funs
    exact Heap.get?_none_of_le (Nat.le_trans I.ok.bsz I.ok.above)
theorem Inv.stkSub (I : Inv X pins σ H s) : ∀ b ∈ frs X.stack, b ∈ X.env.locals :: X.fs := fun b hb => by
  rcases I.ok.stk with e | ⟨e, hf⟩
  · rw [e] at hb; exact List.mem_cons_of_mem _ hb
  · rw [e] at hb
    unfold frs at hb
    rw [List.filterMap_cons, hf] at hb
    exact hb
theorem Inv.stkFree (I : Inv X pins σ H s) : ∀ b ∈ frs X.stack, H b = none := fun b hb => by
  rcases List.mem_cons.mp (I.stkSub b hb) with e | hb
  · rw [e]; exact I.free
  · obtain ⟨_, o, ho, _⟩ := I.ok.funs.mem hb
    exact I.base.free b o ho (I.ok.frf b hb) fun z => I.ok.exfs b z hb

/-- THE STEP: the untracked objects but the frame and the records at ch are kept (the callers' frames up to slots), the frame's map is kept, the new abstract heap is held -/
theorem Inv.step {g' : Array GenState} {t' : Nat} {d' : Drawn} {ch : List Addr} (I : Inv X pins σ H s)
    (hch : ∀ b ∈ ch, (b ∈ X.ex ∨ X.s_0.heap.objs.size ≤ b) ∧ b ≠ X.env.locals ∧ (∀ x c, X.env.cells.lookup x = some c → c ≠ b) ∧ ∀ p ∈ X.pn ++ pins, p.1 ≠ b)
    (keep : ∀ b o, b ≠ X.env.locals → b ∉ X.fs → b ∉ ch → s.heap.get? b = some o → H b = none → h'.get? b = some o)
    (slot : ∀ b o, b ≠ X.env.locals → b ∈ X.fs → b ∉ ch → s.heap.get? b = some o → H b = none → ∃ sl, h'.get? b = some { o with slots := sl }) (free : ∀ b o, b ∉ ch → s.heap.get? b = some o → H b = none → H' b = none)
    (there : ∀ b o, b ∉ ch → s.heap.get? b = some o → ∃ o', h'.get? b = some o')
    (tups : ∀ b xs, H b = some (.tup xs) → H' b = some (.tup xs)) (frzs : ∀ b o u, H b = some (.frz o u) → H' b = some (.frz o u)) (tbls : ∀ b ps, H b = some (.tbl ps) → ∃ more, H' b = some (.tbl (ps ++ more)))
    (ns : ∀ m, s.heap.Ns X.env.locals m → h'.Ns X.env.locals m) (hok : HOk X.prog X.w H' h') (hg : AllBare g') :
    Inv X pins σ H' { s with heap := h', gens := g', drawn := d', toks := t' } := by
  have neL : ∀ b o, X.s_0.heap.get? b = some o → b ≠ X.env.locals := fun b o e => Nat.ne_of_lt (Nat.lt_of_lt_of_le (Heap.lt_size e) I.ok.above)
  have neC : ∀ b o, X.s_0.heap.get? b = some o → b ∉ X.ex → b ∉ ch := fun b o e hx hb => by
    rcases (hch b hb).1 with z | z
    · exact hx z
    · exact absurd (Nat.lt_of_lt_of_le (Heap.lt_size e) z) (Nat.lt_irrefl _)
  have cellK : ∀ x c, X.env.cells.lookup x = some c → ∀ v, s.heap.IsCell c v → h'.IsCell c v := fun x c e v ⟨o, ho, hd⟩ => by
    have nch : c ∉ ch := fun z => (hch c z).2.2.1 x c e rfl
    by_cases hc : c ∈ X.fs
    · obtain ⟨sl, q⟩ := slot c o (I.cne x c e) hc nch ho (I.freeC x c e)
      exact ⟨_, q, hd⟩
    · exact ⟨o, keep c o (I.cne x c e) hc nch ho (I.freeC x c e), hd⟩
  refine ⟨I.ok, I.os, hg, ⟨fun b o e n hb hx => ?_, fun b o e n hb hx => ?_, fun b o e n hx => ?_, fun b o e hx => ?_, fun b xs e => tups b xs (I.base.tups b xs e), fun b o xs e => frzs b o xs (I.base.frzs b o xs e), fun b ps e => ?_⟩, ?_, fun x c e => ?_, ?_, fun x c e => ?_, fun p hp => ?_, hok, I.len⟩
  · exact keep b o (neL b o e) hb (neC b o e hx) (I.base.keep b o e n hb hx) (I.base.free b o e n hx)
  · obtain ⟨sl, e1⟩ := I.base.slot b o e n hb hx
    obtain ⟨sl', e2⟩ := slot b _ (neL b o e) hb (neC b o e hx) e1 (I.base.free b o e n hx)
    exact ⟨sl', e2⟩
  · obtain ⟨o', e1⟩ := I.base.there b o e hx
    exact free b o' (neC b o e hx) e1 (I.base.free b o e n hx)
  · obtain ⟨o', e1⟩ := I.base.there b o e hx
    exact there b o' (neC b o e hx) e1
  · obtain ⟨m1, e1⟩ := I.base.tbls b ps e
    obtain ⟨m2, e2⟩ := tbls b _ e1
    exact ⟨m1 ++ m2, by rw [e2, Array.append_assoc]⟩
  · obtain ⟨m, hn, hl⟩ := I.loc
    refine ⟨m, ns m hn, fun i x v e1 e2 e3 => ?_⟩
    obtain ⟨u, r, l⟩ := hl i x v e1 e2 e3
    refine ⟨u, r, ?_⟩
    rcases l with l | ⟨k, c, e, z⟩
    · exact .inl l
    · exact .inr ⟨k, c, e, cellK x c e _ z⟩
  · obtain ⟨v, z⟩ := I.cell x c e
    exact ⟨v, cellK x c e v z⟩
  · obtain ⟨m, ⟨o, _, _, ho, _⟩, _⟩ := I.loc
    exact free _ o (fun z => (hch _ z).2.1 rfl) ho I.free
  · obtain ⟨v, o, ho, hd⟩ := I.cell x c e
    exact free c o (fun z => (hch c z).2.2.1 x c e rfl) ho (I.freeC x c e)
  · obtain ⟨e, n, ne, nf, d⟩ := I.pin p hp
    have nch : p.1 ∉ ch := fun z => (hch p.1 z).2.2.2 p hp rfl
    exact ⟨keep p.1 p.2 ne nf nch e n, free p.1 p.2 nch e n, ne, nf, d⟩
/-- .. where the frame's own object is kept too -/
theorem Inv.un {t' : Nat} (I : Inv X pins σ H s) (u : Un X.fs [] H H' s.heap h') (hok : HOk X.prog X.w H' h') : Inv X pins σ H' { s with heap := h', toks := t' } := by
  obtain ⟨m, ⟨o, es, ep, ho, r⟩, _⟩ := id I.loc
  obtain ⟨sl, hL⟩ := u.any ho I.free (by simp)
  exact I.step (g' := s.gens) (d' := s.drawn) (ch := []) (fun _ z => nomatch z) (fun b o _ hb _ e n => u.keep b o e n hb (by simp)) (fun b o _ hb _ e n => u.slot b o e n hb (by simp)) (fun b o _ e n => u.free b o e n (by simp)) (fun b o _ e => u.there b o e (by simp)) u.tups u.frzs u.tbls (fun m' hm => by
    obtain ⟨o', es', ep', ho', r'⟩ := hm
    rw [ho] at ho'; cases ho'
    exact ⟨_, es', ep', hL, r'⟩) hok I.bare
/-- behind a call (or a comprehension's block): the slots of this frame may have changed too, the records at ch may have turned -/
theorem Inv.call {g' : Array GenState} {t' : Nat} {d' : Drawn} {ch : List Addr} (I : Inv X pins σ H s) (u : Un (frs X.stack) ch H H' s.heap h') (hok : HOk X.prog X.w H' h') (hg : AllBare g')
    (hch : ∀ b ∈ ch, (b ∈ X.ex ∨ X.s_0.heap.objs.size ≤ b) ∧ b ≠ X.env.locals ∧ (∀ x c, X.env.cells.lookup x = some c → c ≠ b) ∧ ∀ p ∈ X.pn ++ pins, p.1 ≠ b) :
    Inv X pins σ H' { s with heap := h', gens := g', drawn := d', toks := t' } := by
  obtain ⟨m, ⟨o, es, ep, ho, r⟩, _⟩ := id I.loc
  obtain ⟨sl, hL⟩ := u.any ho I.free fun z => (hch _ z).2.1 rfl
  exact I.step (ch := ch) hch (fun b o hL hb hc e n => u.keep b o e n (fun z => (List.mem_cons.mp (I.stkSub b z)).elim hL hb) hc) (fun b o _ _ hc e n => u.any e n hc) (fun b o hc e n => u.free b o e n hc) (fun b o hc e => u.there b o e hc) u.tups u.frzs u.tbls (fun m' hm => by
    obtain ⟨o', es', ep', ho', r'⟩ := hm
    rw [ho] at ho'; cases ho'
    exact ⟨_, es', ep', hL, r'⟩) hok hg
/-- an untracked record of ours (an iterator) has turned -/
theorem Inv.turned {t' : Nat} {it : Addr} (I : Inv X pins σ H s) (k : ∀ b o, b ≠ it → s.heap.get? b = some o → h'.get? b = some o) (hn : H it = none) (hL : it ≠ X.env.locals)
    (h1 : it ∈ X.ex ∨ X.s_0.heap.objs.size ≤ it) (h2 : ∀ x c, X.env.cells.lookup x = some c → c ≠ it) (h3 : ∀ p ∈ X.pn ++ pins, p.1 ≠ it) : Inv X pins σ H { s with heap := h', toks := t' } := by
  have nit : ∀ b u, H b = some u → b ≠ it := fun b u e z => by rw [z, hn] at e; cases e
  refine I.step (g' := s.gens) (d' := s.drawn) (ch := [it]) (fun b hb => ?_) (fun b o _ _ hc e _ => k b o (fun z => hc (by simp [z])) e) (fun b o _ _ hc e _ => ⟨o.slots, k b o (fun z => hc (by simp [z])) e⟩) (fun _ _ _ _ n => n)
    (fun b o hc e => ⟨o, k b o (fun z => hc (by simp [z])) e⟩) (fun _ _ e => e) (fun _ _ _ e => e) (fun b ps e => ⟨#[], by rw [e]; simp⟩) (fun m hm => ?_) (fun b u e => ?_) I.bare
  · have e : b = it := by simpa using hb
    subst e
    exact ⟨h1, hL, h2, h3⟩
  · obtain ⟨o, es, ep, ho, r⟩ := hm
    exact ⟨o, es, ep, k _ o (Ne.symm hL) ho, r⟩
  · refine (I.hok b u e).stay (fun c v hc q => k c v ?_ q) (fun _ q => q) fun _ _ q => q
    rcases hc with z | z
    · rw [z]; exact nit b u e
    · exact nit c _ z
theorem Inv.tok (I : Inv X pins σ H s) (t : Nat) : Inv X pins σ H { s with toks := t } := I.un (h' := s.heap) (t' := t) Un.refl I.hok
/-- all objects kept -/
theorem Inv.kept {t' : Nat} (I : Inv X pins σ H s) (k : ∀ b u, s.heap.get? b = some u → h'.get? b = some u) : Inv X pins σ H { s with heap := h', toks := t' } := I.un (Un.kept k) (I.hok.kept k)
/-- a new object laid and tracked -/
theorem Inv.laid {a : Addr} {o : HO} {t' : Nat} (I : Inv X pins σ H s) (k : ∀ b u, s.heap.get? b = some u → h'.get? b = some u) (hp : s.heap.objs.size ≤ a) (new : ObjOk X.prog X.w (upd H a o) h' a o) :
    Inv X pins σ (upd H a o) { s with heap := h', toks := t' } := I.un (Un.laid k hp (I.hok.fresh hp)) (I.hok.laid k hp new)
/-- an object written -/
theorem Inv.write {x e : Addr} {o : HO} {t' : Nat} (I : Inv X pins σ H s) (mu : Mut (H x)) (he : e = x ∨ H e = some (.own x)) (k : ∀ b u, b ≠ e → s.heap.get? b = some u → h'.get? b = some u) (heo : ∃ u, h'.get? e = some u)
    (new : ObjOk X.prog X.w (upd H x o) h' x o) : Inv X pins σ (upd H x o) { s with heap := h', toks := t' } := I.un (Un.write mu he k heo) (I.hok.write mu he k heo new)
/-- forgetting slots, pins -/
theorem Inv.weak {σ' : List (Option V)} (I : Inv X pins σ H s) (hl : σ'.length = σ.length) (w : ∀ (i : Nat) v, σ'[i]? = some (some v) → σ[i]? = some (some v)) : Inv X pins σ' H s :=
  ⟨I.ok, I.os, I.bare, I.base, let ⟨m, hn, hl'⟩ := I.loc; ⟨m, hn, fun i x v e1 e2 e3 => hl' i x v e1 (w i v e2) e3⟩, I.cell, I.free, I.freeC, I.pin, I.hok, hl.trans I.len⟩
theorem Inv.pins_of {pins' : List (Addr × Obj)} (I : Inv X pins σ H s) (h : ∀ p ∈ pins', s.heap.get? p.1 = some p.2 ∧ H p.1 = none ∧ p.1 ≠ X.env.locals ∧ p.1 ∉ X.fs ∧ ∀ v, p.2.data ≠ .cell v) : Inv X pins' σ H s :=
  ⟨I.ok, I.os, I.bare, I.base, I.loc, I.cell, I.free, I.freeC, fun p hp => (List.mem_append.mp hp).elim (fun z => I.pin p (List.mem_append_left _ z)) (h p), I.hok, I.len⟩

theorem nodup_ix {N : List Str} (hN : N.Nodup) {i j : Nat} {x : Str} (a : N[i]? = some x) (b : N[j]? = some x) : i = j := by
  obtain ⟨h1, e1⟩ := List.getElem?_eq_some_iff.mp a
  obtain ⟨h2, e2⟩ := List.getElem?_eq_some_iff.mp b
  exact (List.getElem_inj hN).mp (e1.trans e2.symm)

/-- a name is stored; what changed -/
theorem store_ok2 {M : Model} {A : Around} {E : Value → Shared → Prop} {i : Nat} {x : Str} {v : V} {u : Value} {Q : Unit → Shared → Prop} (I : Inv X pins σ H s) (hN : X.N.Nodup) (hi : X.N[i]? = some x) (hx : Loc X.env.scope x) (r : RelV v u)
    (h : ∀ s', Inv X pins (σ.set i (some v)) H s' → (∃ a, Heap.SameBut a s.heap s'.heap ∧ (a = X.env.locals ∨ X.env.cells.lookup x = some a)) → Q () s') (hf : X.fn x = true ∨ X.env.scope.names.lookup x = some .local := by first | exact .inl rfl | exact .inr rfl | assumption) : wpAny M A (storeName X.env x u) Q E s := by
  obtain ⟨m, hn, hl⟩ := id I.loc
  have hcls : (X.env.scope.kind == .class || (X.env.scope.kind == .module && X.env.locals != X.env.globals)) = false := by rw [I.ok.kind]; rfl
  have hiσ : i < σ.length := by rw [I.len]; exact (List.getElem?_eq_some_iff.mp hi).1
  have cne := I.cne
  have tracked : ∀ {a : Addr} {h' : Heap}, (∃ o, s.heap.get? a = some o ∧ H a = none) → Heap.SameBut a s.heap h' → HOk X.prog X.w H h' := fun {a h'} ha hs b ob e => by
    obtain ⟨_, _, hfree⟩ := ha
    refine (I.hok b ob e).stay (fun c w' hc q => (hs.2 c ?_).trans q) (fun _ q => q) fun _ _ q => q
    rintro rfl
    rcases hc with rfl | hc
    · rw [hfree] at e; cases e
    · rw [hfree] at hc; cases hc
  rcases hx with hk | hk
  · refine wpAny_storeName_local hk hn (fun h' hn' hs => ?_) hcls
    obtain ⟨oL, _, _, hoL, _⟩ := id hn
    refine h _ ⟨I.ok, I.os, I.bare, ⟨fun b o e n hb hx => ?_, fun b o e n hb hx => ?_, I.base.free, fun b o e hx => ?_, I.base.tups, I.base.frzs, I.base.tbls⟩, ⟨_, hn', fun j y v' e1 e2 e3 => ?_⟩, fun y c e => ?_, I.free, I.freeC, fun p hp => ?_, tracked ⟨oL, hoL, I.free⟩ hs, by simpa using I.len⟩ ⟨_, hs, .inl rfl⟩
    · exact (hs.2 b (Nat.ne_of_lt (Nat.lt_of_lt_of_le (Heap.lt_size e) I.ok.above))).trans (I.base.keep b o e n hb hx)
    · obtain ⟨sl, e1⟩ := I.base.slot b o e n hb hx
      exact ⟨sl, (hs.2 b (Nat.ne_of_lt (Nat.lt_of_lt_of_le (Heap.lt_size e) I.ok.above))).trans e1⟩
    · obtain ⟨o', e1⟩ := I.base.there b o e hx
      exact ⟨o', (hs.2 b (Nat.ne_of_lt (Nat.lt_of_lt_of_le (Heap.lt_size e) I.ok.above))).trans e1⟩
    · by_cases hj : j = i
      · subst hj
        rw [hi] at e1; cases e1
        rw [List.getElem?_set_self hiσ] at e2
        cases e2
        exact ⟨u, r, .inl ⟨hk, by simp⟩⟩
      · rw [List.getElem?_set_ne (Ne.symm hj)] at e2
        obtain ⟨u', r', q⟩ := hl j y v' e1 e2 e3
        refine ⟨u', r', ?_⟩
        rcases q with ⟨k, e⟩ | ⟨k, c, e, z⟩
        · refine .inl ⟨k, ?_⟩
          have : y ≠ x := fun e => hj (nodup_ix hN e1 (e ▸ hi))
          simp [this, e]
        · exact .inr ⟨k, c, e, z.sameBut hs (cne y c e)⟩
    · obtain ⟨w', z⟩ := I.cell y c e
      exact ⟨w', z.sameBut hs (cne y c e)⟩
    · obtain ⟨e, n, ne, nf, d⟩ := I.pin p hp
      exact ⟨(hs.2 p.1 ne).trans e, n, ne, nf, d⟩
  · have hfn : X.fn x = true := by
      rcases hf with z | z
      · exact z
      · rw [z] at hk; cases hk
    obtain ⟨c, hc⟩ := I.ok.has x (.inl hk)
    obtain ⟨w', z⟩ := I.cell x c hc
    refine wpAny_storeName_cell I.ok.kind hk hc z (fun h' hc' hs => ?_)
    obtain ⟨oc, hoc, hocd⟩ := id z
    refine h { s with heap := h' } ⟨I.ok, I.os, I.bare, ⟨fun b o e n hb hx => ?_, fun b o e n hb hx => ?_, I.base.free, fun b o e hx => ?_, I.base.tups, I.base.frzs, I.base.tbls⟩, ⟨m, hn.sameBut hs (Ne.symm (cne x c hc)), fun j y v' e1 e2 e3 => ?_⟩, fun y c' e => ?_, I.free, I.freeC, fun p hp => ?_, tracked ⟨oc, hoc, I.freeC x c hc⟩ hs, by simpa using I.len⟩ ⟨c, hs, .inr hc⟩
    · exact (hs.2 b (Nat.ne_of_lt (Nat.lt_of_lt_of_le (Heap.lt_size e) (I.ok.cab x c hfn hc)))).trans (I.base.keep b o e n hb hx)
    · obtain ⟨sl, e1⟩ := I.base.slot b o e n hb hx
      exact ⟨sl, (hs.2 b (Nat.ne_of_lt (Nat.lt_of_lt_of_le (Heap.lt_size e) (I.ok.cab x c hfn hc)))).trans e1⟩
    · obtain ⟨o', e1⟩ := I.base.there b o e hx
      exact ⟨o', (hs.2 b (Nat.ne_of_lt (Nat.lt_of_lt_of_le (Heap.lt_size e) (I.ok.cab x c hfn hc)))).trans e1⟩
    · by_cases hj : j = i
      · subst hj
        rw [hi] at e1; cases e1
        rw [List.getElem?_set_self hiσ] at e2
        cases e2
        exact ⟨u, r, .inr ⟨.inl hk, c, hc, hc'⟩⟩
      · rw [List.getElem?_set_ne (Ne.symm hj)] at e2
        obtain ⟨u', r', q⟩ := hl j y v' e1 e2 e3
        refine ⟨u', r', ?_⟩
        rcases q with q | ⟨k, c', e, z'⟩
        · exact .inl q
        · refine .inr ⟨k, c', e, z'.sameBut hs ?_⟩
          rintro rfl
          exact hj (nodup_ix hN e1 (I.ok.inj _ _ _ e hc ▸ hi))
    · by_cases hcc : c' = c
      · subst hcc; exact ⟨_, hc'⟩
      · obtain ⟨w2, z2⟩ := I.cell y c' e
        exact ⟨w2, z2.sameBut hs hcc⟩
    · obtain ⟨e, n, ne, nf, d⟩ := I.pin p hp
      refine ⟨(hs.2 p.1 ?_).trans e, n, ne, nf, d⟩
      intro q
      rw [q, hoc] at e
      have q' : oc = p.2 := Option.some.inj e
      exact d w' (by rw [← q']; exact hocd)
theorem store_ok {M : Model} {A : Around} {E : Value → Shared → Prop} {i : Nat} {x : Str} {v : V} {u : Value} {Q : Unit → Shared → Prop} (I : Inv X pins σ H s) (hN : X.N.Nodup) (hi : X.N[i]? = some x) (hx : Loc X.env.scope x) (r : RelV v u)
    (h : ∀ s', Inv X pins (σ.set i (some v)) H s' → Q () s') (hf : X.fn x = true ∨ X.env.scope.names.lookup x = some .local := by first | exact .inl rfl | exact .inr rfl | assumption) : wpAny M A (storeName X.env x u) Q E s :=
  store_ok2 I hN hi hx r (fun s' I' _ => h s' I') hf
/-- behind a call or a block, the state as it is -/
theorem Inv.call' {s' : Shared} {ch : List Addr} (I : Inv X pins σ H s) (ho : s'.os = s.os) (u : Un (frs X.stack) ch H H' s.heap s'.heap) (hok : HOk X.prog X.w H' s'.heap) (hg : AllBare s'.gens)
    (hch : ∀ b ∈ ch, (b ∈ X.ex ∨ X.s_0.heap.objs.size ≤ b) ∧ b ≠ X.env.locals ∧ (∀ x c, X.env.cells.lookup x = some c → c ≠ b) ∧ ∀ p ∈ X.pn ++ pins, p.1 ≠ b) : Inv X pins σ H' s' := by
  obtain ⟨h', g', d', t', o'⟩ := s'
  have e : o' = s.os := ho
  subst e
  exact I.call (g' := g') (t' := t') (d' := d') u hok hg hch
end

/-! ### the judgements -/
/-- an exception: its class, its own dict's address (where it has one), the abstract heap behind it -/
abbrev XK := Value → Option Addr → Hp → Prop
abbrev St := List (Option V)
abbrev VK := V → Hp → Prop
/-- an expression's reading; a test's; an argument list's -/
abbrev TE := St → Hp → VK → Prop
abbrev TT := St → Hp → (Bool → Hp → Prop) → Prop
abbrev TA := St → Hp → (List V → Hp → Prop) → Prop
/-- what is wanted behind a statement -/
structure Ends where
  nx : St → Hp → Prop
  rt : VK
  bk : St → Hp → Prop := fun _ _ => False
  ct : St → Hp → Prop := fun _ _ => False
abbrev TS := Ends → St → Hp → Prop

def EP (X : Cx) (pins : List (Addr × Obj)) (σ : St) (Q : VK) (u : Value) (s' : Shared) : Prop := ∃ v H', Inv X pins σ H' s' ∧ RelV v u ∧ Q v H'
def TP (X : Cx) (pins : List (Addr × Obj)) (σ : St) (Q : Bool → Hp → Prop) (b : Bool) (s' : Shared) : Prop := ∃ H', Inv X pins σ H' s' ∧ Q b H'
def AP (X : Cx) (pins : List (Addr × Obj)) (σ : St) (Q : List V → Hp → Prop) (us : List Value) (s' : Shared) : Prop := ∃ vs H', Inv X pins σ H' s' ∧ Vals vs us ∧ Q vs H'
def SP (X : Cx) (pins : List (Addr × Obj)) (D : Ends) (f : Flow) (s' : Shared) : Prop :=
  match f with
  | .next => ∃ σ' H', Inv X pins σ' H' s' ∧ D.nx σ' H'
  | .brk => ∃ σ' H', Inv X pins σ' H' s' ∧ D.bk σ' H'
  | .cont => ∃ σ' H', Inv X pins σ' H' s' ∧ D.ct σ' H'
  | .ret u => ∃ v σ' H', Inv X pins σ' H' s' ∧ RelV v u ∧ D.rt v H'

def PE (X : Cx) (e : Expr) (t : TE) : Prop :=
  ∀ (pins : List (Addr × Obj)) (s : Shared) (σ : St) (H : Hp) (Q : VK), Inv X pins σ H s → t σ H Q → wpAny (model X.prog X.w) X.A (eval e X.env) (EP X pins σ Q) X.xe s
def PT (X : Cx) (e : Expr) (t : TT) : Prop :=
  ∀ (pins : List (Addr × Obj)) (s : Shared) (σ : St) (H : Hp) (Q : Bool → Hp → Prop), Inv X pins σ H s → t σ H Q → wpAny (model X.prog X.w) X.A (isTrue e X.env (eval e X.env)) (TP X pins σ Q) X.xe s
/-- a test whatever its 'whole' is (and, or) -/
def PW (X : Cx) (e : Expr) (t : TT) : Prop :=
  ∀ (whole : Sem Value) (pins : List (Addr × Obj)) (s : Shared) (σ : St) (H : Hp) (Q : Bool → Hp → Prop), Inv X pins σ H s → t σ H Q → wpAny (model X.prog X.w) X.A (isTrue e X.env whole) (TP X pins σ Q) X.xe s
theorem PW.pt {X : Cx} {e : Expr} {t : TT} (h : PW X e t) : PT X e t := h _
/-- an argument list (no star), from the left -/
def PA (X : Cx) (es : List Expr) (t : TA) : Prop :=
  ∀ (pos : Pos) (pins : List (Addr × Obj)) (s : Shared) (σ : St) (H : Hp) (Q : List V → Hp → Prop), Inv X pins σ H s → t σ H Q → wpAny (model X.prog X.w) X.A (spliced (backTo pos (starEach es X.env))) (AP X pins σ Q) X.xe s
def PS (X : Cx) (st : Stmt) (t : TS) : Prop :=
  ∀ (pins : List (Addr × Obj)) (s : Shared) (σ : St) (H : Hp) (D : Ends), Inv X pins σ H s → t D σ H → wpAny (model X.prog X.w) X.A (exec st X.env) (SP X pins D) X.xe s
def PSs (X : Cx) (st : List Stmt) (t : TS) : Prop :=
  ∀ (pins : List (Addr × Obj)) (s : Shared) (σ : St) (H : Hp) (D : Ends), Inv X pins σ H s → t D σ H → wpAny (model X.prog X.w) X.A (execs st X.env) (SP X pins D) X.xe s
/-- weaken the end -/
theorem thn {α : Type} {t : Sem α} {Q Q' : α → Shared → Prop} {M : Model} {A : Around} {E : Value → Shared → Prop} {s : Shared} (h : wpAny M A t Q E s) (hQ : ∀ a s, Q a s → Q' a s) : wpAny M A t Q' E s := wpAny_mono h hQ fun _ _ x => x
end L2

namespace L2
open PySem PySem.Spec PyProof.Rows
section
variable {X : Cx}

/-! ### names and constants -/
def tVar (i : Nat) : TE := fun σ H Q => ∃ v, σ[i]? = some (some v) ∧ Q v H
def tC (v : V) : TE := fun _ H Q => Q v H
theorem pe_var {i : Nat} {x : Str} {pos : Pos} (hN : X.N[i]? = some x) (hv : Vis X.env.scope x) (hd : (x == ("__debug__" : Str)) = false := by decide) (hcd : (x == ("__classdict__" : Str)) = false := by decide) : PE X (.Name x pos) (tVar i) := by
  intro pins s σ H Q I h
  obtain ⟨v, e, h⟩ := h
  obtain ⟨m, hn, hl⟩ := I.loc
  obtain ⟨u, r, l⟩ := hl i x v hN e hv
  have fin : EP X pins σ Q u s := ⟨v, H, I, r, h⟩
  rcases l with ⟨hk, hm⟩ | ⟨hk, c, hc, hcell⟩
  · exact wpAny_Name (wpAny_loadName_local I.ok.kind hk hn hm fin) hd
  · rcases hk with hk | hk
    · exact wpAny_Name (wpAny_loadName_cell I.ok.kind hk hc hcell fin) hd
    · exact wpAny_Name (wpAny_loadName_free I.ok.kind hk hc hcell fin hcd) hd
theorem pe_int {i j pos} : PE X (.Constant (.int i) j pos) (tC (.int i)) := fun _ _ _ H _ I h => wpAny_Constant_int ⟨.int i, H, I.tok _, ⟨_, rfl⟩, h⟩
theorem pe_bl {b j pos} : PE X (.Constant (.bool b) j pos) (tC (.bl b)) := fun _ _ _ H _ I h => Constant_bool ⟨.bl b, H, I, rfl, h⟩
theorem pe_non {j pos} : PE X (.Constant .none j pos) (tC .non) := fun _ _ _ H _ I h => Constant_none ⟨.non, H, I, rfl, h⟩
theorem pe_str {x j pos} : PE X (.Constant (.str x) j pos) (tC (.str x)) := fun _ _ _ H _ I h => Calls.Constant_str ⟨.str x, H, I.tok _, ⟨_, rfl⟩, h⟩

/-- a global name of the def -/
def Gl (X : Cx) (x : Str) : Prop := X.env.kindOf x = some .globalImplicit
theorem ld_glob {E : Value → Shared → Prop} {pins : List (Addr × Obj)} {s : Shared} {σ : St} {H : Hp} {x : Str} {u : Value} {pos : Pos} {Q : Value → Shared → Prop} (I : Inv X pins σ H s) (hg : Gl X x) (hm : X.mg x = some u) (h : Q u s)
    (hd : (x == ("__debug__" : Str)) = false := by decide) : wpAny (model X.prog X.w) X.A (eval (.Name x pos) X.env) Q E s :=
  Calls.Name_function_global I.ok.kind hg (Calls.loadGlobal_global (by rw [I.ok.glob]; exact I.mod.glob.keeps I.bk) hm h) hd
theorem ld_blt {E : Value → Shared → Prop} {pins : List (Addr × Obj)} {s : Shared} {σ : St} {H : Hp} {x : Str} {u : Value} {pos : Pos} {Q : Value → Shared → Prop} (I : Inv X pins σ H s) (hg : Gl X x) (hm : X.mg x = none) (hv : bootBuiltins x = some u) (h : Q u s)
    (hn : x ≠ "__name__" := by decide) (hd : (x == ("__debug__" : Str)) = false := by decide) : wpAny (model X.prog X.w) X.A (eval (.Name x pos) X.env) Q E s := by
  obtain ⟨mb, h1, h2⟩ := I.mod.blt
  exact Calls.Name_function_global I.ok.kind hg (Calls.loadGlobal_builtin (by rw [I.ok.glob]; exact I.mod.glob.keeps I.bk) hm (by rw [I.ok.blt]; exact h1.keeps I.bk) ((h2 x hn).trans hv) h) hd
/-- a module's constant, a class, a function, as a value -/
theorem pe_glob {x : Str} {v : V} {u : Value} {pos : Pos} (hg : Gl X x) (hm : X.mg x = some u) (r : RelV v u) (hd : (x == ("__debug__" : Str)) = false := by decide) : PE X (.Name x pos) (tC v) :=
  fun _ _ _ H _ I h => ld_glob I hg hm ⟨v, H, I, r, h⟩ hd
theorem pe_bltn {x : Str} {v : V} {u : Value} {pos : Pos} (hg : Gl X x) (hm : X.mg x = none) (hv : bootBuiltins x = some u) (r : RelV v u) (hn : x ≠ "__name__" := by decide) (hd : (x == ("__debug__" : Str)) = false := by decide) : PE X (.Name x pos) (tC v) :=
  fun _ _ _ H _ I h => ld_blt I hg hm hv ⟨v, H, I, r, h⟩ hn hd

/-! ### arithmetic -/
variable {a b : Expr} {ta tb : TE} {pos : Pos}
/-! ### comparisons -/
def PC (X : Cx) (op : CmpOp) (a b : Expr) (t : TE) : Prop :=
  ∀ (pins : List (Addr × Obj)) (s : Shared) (σ : St) (H : Hp) (Q : VK), Inv X pins σ H s → t σ H Q →
    wpAny (model X.prog X.w) X.A (eval a X.env) (fun v s₁ => wpAny (model X.prog X.w) X.A (eval b X.env) (fun u s₂ => wpAny (model X.prog X.w) X.A (compareOp op v u) (EP X pins σ Q) X.xe s₂) X.xe s₁) X.xe s
theorem nobehind (b : Expr) {op : CmpOp} (h : op ≠ .In) (h2 : op ≠ .NotIn) : behindInMarks op b = false := by
  have e1 : (op == CmpOp.In) = false := by cases op <;> first | rfl | exact absurd rfl h
  have e2 : (op == CmpOp.NotIn) = false := by cases op <;> first | rfl | exact absurd rfl h2
  cases b <;> simp [behindInMarks, e1, e2]
/-- is None -/
def tIsN (ta : TE) : TE := fun σ H Q => ta σ H fun x H1 => Q (.bl (decide (x = .non))) H1
def tNotN (ta : TE) : TE := fun σ H Q => ta σ H fun x H1 => Q (.bl (!decide (x = .non))) H1
theorem RelV.none_iff {x : V} {v : Value} (r : RelV x v) : (v == Value.none) = decide (x = .non) := by
  cases x with
  | non => cases r; rfl
  | bl _ => cases r; rfl
  | int _ => obtain ⟨t, rfl⟩ := r; rfl
  | str _ => obtain ⟨t, rfl⟩ := r; rfl
  | byt _ => obtain ⟨t, rfl⟩ := r; rfl
  | flt _ => obtain ⟨t, rfl⟩ := r; rfl
  | ref _ => cases r; rfl
  | ty _ => cases r; rfl
theorem pc_isN {j pos'} (ha : PE X a ta) : PC X .Is a (.Constant .none j pos') (tIsN ta) := by
  intro pins s σ H Q I h
  refine thn (ha pins s σ H _ I h) fun v s1 ⟨x, H1, I1, r1, q1⟩ => ?_
  exact Constant_none (is_none_gen ⟨.bl _, H1, I1, by rw [r1.none_iff]; rfl, q1⟩)
theorem pc_notN {j pos'} (ha : PE X a ta) : PC X .IsNot a (.Constant .none j pos') (tNotN ta) := by
  intro pins s σ H Q I h
  refine thn (ha pins s σ H _ I h) fun v s1 ⟨x, H1, I1, r1, q1⟩ => ?_
  exact Constant_none (isnot_none_gen ⟨.bl _, H1, I1, by rw [r1.none_iff]; rfl, q1⟩)
/-- a comparison as a value, as a test -/
def tB (t : TE) : TT := fun σ H Q => t σ H fun x H1 => ∃ c, x = .bl c ∧ Q c H1
theorem pe_cmp {op : CmpOp} {t : TE} (h : PC X op a b t) (h1 : behindInMarks op b = false := by first | exact nobehind _ (by decide) (by decide) | rfl) : PE X (.Compare a [op] [b] pos) t := fun pins s σ H Q I hw => wpAny_Compare1 (h pins s σ H Q I hw) h1
theorem pt_cmp {op : CmpOp} {t : TE} (h : PC X op a b t) (h1 : behindInMarks op b = false := by first | exact nobehind _ (by decide) (by decide) | rfl) : PT X (.Compare a [op] [b] pos) (tB t) := by
  intro pins s σ H Q I hw
  refine wpAny_isTrue_Compare1 (thn (h pins s σ H _ I hw) fun v s1 h1 => thn h1 fun u s2 h2 => thn h2 fun c s3 ⟨x, H1, I1, r1, q1⟩ => ?_) h1
  obtain ⟨d, rfl, q⟩ := q1
  cases r1
  exact wpAny_truthy_bool ⟨H1, I1, q⟩
/-- an expression whose value is a bool, as a test -/
theorem pt_val {e : Expr} {t : TE} (h : PE X e t) (he : ∀ whole, isTrue e X.env whole = (do let v ← whole; standAt e.pos; holding [v] (truthy v)) := by intro _; rfl) : PT X e (tB t) := by
  intro pins s σ H Q I hw
  refine isTrue_plain (thn (h pins s σ H _ I hw) fun v s1 ⟨x, H1, I1, r1, q1⟩ => ?_) (he _)
  obtain ⟨d, rfl, q⟩ := q1
  cases r1
  exact wpAny_truthy_bool ⟨H1, I1, q⟩

/-! ### and, or, not -/
variable {tA tB' : TT} {rest : List Expr}
def tAnd (t u : TT) : TT := fun σ H Q => t σ H fun c H1 => if c = true then u σ H1 Q else Q false H1
def tOr (t u : TT) : TT := fun σ H Q => t σ H fun c H1 => if c = true then Q true H1 else u σ H1 Q
def tNot (t : TT) : TT := fun σ H Q => t σ H fun c H1 => Q (!c) H1
theorem pw_and1 (ha : PT X a tA) : PW X (.BoolOp .And [a] pos) tA := by
  intro wh pins s σ H Q I h
  refine isTrue_and (thn (ha pins s σ H Q I h) fun c s1 e => ?_)
  cases c with
  | true => exact isTrue_and_nil e
  | false => exact e
theorem pw_or1 (ha : PT X a tA) : PW X (.BoolOp .Or [a] pos) tA := by
  intro wh pins s σ H Q I h
  refine isTrue_or (thn (ha pins s σ H Q I h) fun c s1 e => ?_)
  cases c with
  | false => exact isTrue_or_nil e
  | true => exact e
theorem pw_and (ha : PT X a tA) (hb : PW X (.BoolOp .And (b :: rest) pos) tB') : PW X (.BoolOp .And (a :: b :: rest) pos) (tAnd tA tB') := by
  intro wh pins s σ H Q I h
  refine isTrue_and (thn (ha pins s σ H _ I h) fun c s1 ⟨H1, I1, q1⟩ => ?_)
  cases c with
  | true => exact hb wh pins s1 σ H1 Q I1 q1
  | false => exact ⟨H1, I1, q1⟩
theorem pw_or (ha : PT X a tA) (hb : PW X (.BoolOp .Or (b :: rest) pos) tB') : PW X (.BoolOp .Or (a :: b :: rest) pos) (tOr tA tB') := by
  intro wh pins s σ H Q I h
  refine isTrue_or (thn (ha pins s σ H _ I h) fun c s1 ⟨H1, I1, q1⟩ => ?_)
  cases c with
  | true => exact ⟨H1, I1, q1⟩
  | false => exact hb wh pins s1 σ H1 Q I1 q1
theorem pt_not (ha : PT X a tA) : PT X (.UnaryOp .Not a pos) (tNot tA) := by
  intro pins s σ H Q I h
  exact isTrue_not (ha pins s σ H (fun c H1 => Q (!c) H1) I h)
/-- .. as values (bools) -/
def tAndV (ta tb : TE) : TE := fun σ H Q => ta σ H fun x H1 => ∃ c, x = .bl c ∧ if c = true then tb σ H1 Q else Q (.bl false) H1
def tOrV (ta tb : TE) : TE := fun σ H Q => ta σ H fun x H1 => ∃ c, x = .bl c ∧ if c = true then Q (.bl true) H1 else tb σ H1 Q
theorem pe_one {op} {t : TE} (h : PE X a t) : PE X (.BoolOp op [a] pos) t := fun pins s σ H Q I hw => BoolOp_one (h pins s σ H Q I hw)
theorem pe_and (ha : PE X a ta) (hb : PE X (.BoolOp .And (b :: rest) pos) tb) : PE X (.BoolOp .And (a :: b :: rest) pos) (tAndV ta tb) := by
  intro pins s σ H Q I h
  refine BoolOp_and (thn (ha pins s σ H _ I h) fun v s1 ⟨x, H1, I1, r1, q1⟩ => ?_)
  obtain ⟨c, rfl, q1⟩ := q1
  cases r1
  refine wpAny_truthy_bool ?_
  cases c with
  | true => exact hb pins s1 σ H1 Q I1 q1
  | false => exact ⟨.bl false, H1, I1, rfl, q1⟩
theorem pe_or (ha : PE X a ta) (hb : PE X (.BoolOp .Or (b :: rest) pos) tb) : PE X (.BoolOp .Or (a :: b :: rest) pos) (tOrV ta tb) := by
  intro pins s σ H Q I h
  refine BoolOp_or (thn (ha pins s σ H _ I h) fun v s1 ⟨x, H1, I1, r1, q1⟩ => ?_)
  obtain ⟨c, rfl, q1⟩ := q1
  cases r1
  refine wpAny_truthy_bool ?_
  cases c with
  | false => exact hb pins s1 σ H1 Q I1 q1
  | true => exact ⟨.bl true, H1, I1, rfl, q1⟩
/-- a if t else b -/
def tIf (t : TT) (ta tb : TE) : TE := fun σ H Q => t σ H fun c H1 => if c = true then ta σ H1 Q else tb σ H1 Q
theorem pe_ifExp {c : Expr} (hc : PT X c tA) (ha : PE X a ta) (hb : PE X b tb) : PE X (.IfExp c a b pos) (tIf tA ta tb) := by
  intro pins s σ H Q I h
  refine wpAny_IfExp (thn (hc pins s σ H _ I h) fun d s1 ⟨H1, I1, q1⟩ => ?_)
  cases d with
  | true => exact ha pins s1 σ H1 Q I1 q1
  | false => exact hb pins s1 σ H1 Q I1 q1
end
end L2

namespace L2
open PySem PySem.Spec PyProof.Rows

/-! ### a list, a tuple that is read: tracked, frozen, or an object of the module -/
def SqL (K : PySem.W.Frag) (H : Hp) (a : Addr) (xs : List V) : Prop :=
  Rd H a (.lst xs) ∨
    ∃ (o : Obj) (its : Array Value) (n : Nat), K.lookup a = some o ∧ o.cls = .type "list" ∧ o.dict = none ∧ o.data = .seq its n ∧ its.size ≤ sizeLine ∧ Vals xs its.toList
def SqT (K : PySem.W.Frag) (H : Hp) (a : Addr) (xs : List V) : Prop :=
  Rd H a (.tup xs) ∨
    ∃ (o : Obj) (its : Array Value) (n : Nat), K.lookup a = some o ∧ o.cls = .type "tuple" ∧ o.data = .seq its n ∧ its.size ≤ sizeLine ∧ Vals xs its.toList
def absV : Value → Option V
  | .none => some .non
  | .bool b => some (.bl b)
  | .int i _ => some (.int i)
  | .str x _ => some (.str x)
  | .bytes b _ => some (.byt b)
  | .float b _ => some (.flt b)
  | .ref a => some (.ref a)
  | .type n => some (.ty n)
  | _ => none
theorem RelV.abs {x : V} {u : Value} (r : RelV x u) : absV u = some x := by
  cases x with
  | non => cases r; rfl
  | bl _ => cases r; rfl
  | int _ => obtain ⟨t, rfl⟩ := r; rfl
  | str _ => obtain ⟨t, rfl⟩ := r; rfl
  | byt _ => obtain ⟨t, rfl⟩ := r; rfl
  | flt _ => obtain ⟨t, rfl⟩ := r; rfl
  | ref _ => cases r; rfl
  | ty _ => cases r; rfl
theorem RelV.inj {x y : V} {u : Value} (r : RelV x u) (q : RelV y u) : x = y := Option.some.inj (r.abs.symm.trans q.abs)
theorem Vals.inj : ∀ {xs ys : List V} {us : List Value}, Vals xs us → Vals ys us → xs = ys
  | _, _, _, .nil, .nil => rfl
  | _, _, _, .cons r t, .cons r' t' => by rw [r.inj r', Vals.inj t t']
section
variable {X : Cx} {pins : List (Addr × Obj)} {σ : St} {H : Hp} {s : Shared} {a : Addr} {xs ys : List V}
theorem SqL.of {K : PySem.W.Frag} (h : H a = some (.lst xs)) : SqL K H a xs := .inl (.inl h)
theorem SqT.of {K : PySem.W.Frag} (h : H a = some (.tup xs)) : SqT K H a xs := .inl (.inl h)
theorem Inv.list (I : Inv X pins σ H s) (h : SqL X.K H a xs) : ∃ its : List Value, Vals xs its ∧ PlainL s.heap a its.toArray ∧ xs.length ≤ sizeLine := by
  rcases h with h | ⟨o, its, n, hk, hc, hd, hs, hz, r⟩
  · obtain ⟨z, its, n, r, e⟩ := h.ok I.hok
    exact ⟨its, r, ⟨_, n, e, rfl, rfl, rfl⟩, z⟩
  · refine ⟨its.toList, r, ⟨o, n, I.kIn a o hk, hc, hd, by simpa using hs⟩, ?_⟩
    have e := r.length
    simp only [Array.length_toList] at e
    omega
theorem Inv.tuple (I : Inv X pins σ H s) (h : SqT X.K H a xs) : ∃ its : List Value, Vals xs its ∧ IsTup s.heap a its.toArray ∧ xs.length ≤ sizeLine := by
  rcases h with h | ⟨o, its, n, hk, hc, hs, hz, r⟩
  · obtain ⟨z, its, r, p⟩ := h.ok I.hok
    exact ⟨its, r, p, z⟩
  · refine ⟨its.toList, r, ⟨o, I.kIn a o hk, hc, n, by simpa using hs⟩, ?_⟩
    have e := r.length
    simp only [Array.length_toList] at e
    omega
theorem Inv.list_inj (I : Inv X pins σ H s) (h : SqL X.K H a xs) (h' : SqL X.K H a ys) : xs = ys := by
  obtain ⟨its, r, ⟨o, n, e, _, _, d⟩, _⟩ := I.list h
  obtain ⟨its', r', ⟨o', n', e', _, _, d'⟩, _⟩ := I.list h'
  rw [e] at e'; cases e'
  rw [d] at d'
  injection d' with d1 _
  have : its = its' := by simpa using congrArg Array.toList d1
  subst this
  exact r.inj r'
theorem Inv.tuple_inj (I : Inv X pins σ H s) (h : SqT X.K H a xs) (h' : SqT X.K H a ys) : xs = ys := by
  obtain ⟨its, r, ⟨o, e, _, n, d⟩, _⟩ := I.tuple h
  obtain ⟨its', r', ⟨o', e', _, n', d'⟩, _⟩ := I.tuple h'
  rw [e] at e'; cases e'
  rw [d] at d'
  injection d' with d1 _
  have : its = its' := by simpa using congrArg Array.toList d1
  subst this
  exact r.inj r'
end

/-! ### another wish about exceptions -/
abbrev Cx.wish (X : Cx) (E : Value → Shared → Prop) : Cx := { X with xe := E }
/-- no exception leaves -/
abbrev Cx.nox (X : Cx) : Cx := X.wish fun _ _ => False
theorem Cx.Ok.wish {X : Cx} (ok : X.Ok) (E : Value → Shared → Prop) : (X.wish E).Ok :=
  ⟨ok.mod, ok.kind, ok.glob, ok.blt, ok.above, ok.inj, ok.has, ok.cab, ok.hd, ok.frames, ok.stk, ok.exf, ok.bs, ok.bsz, ok.noex, ok.exfs, ok.funs, ok.frf⟩
theorem Cx.Ok.unwish {X : Cx} {E : Value → Shared → Prop} (ok : (X.wish E).Ok) : X.Ok :=
  ⟨ok.mod, ok.kind, ok.glob, ok.blt, ok.above, ok.inj, ok.has, ok.cab, ok.hd, ok.frames, ok.stk, ok.exf, ok.bs, ok.bsz, ok.noex, ok.exfs, ok.funs, ok.frf⟩
section
variable {X : Cx} {pins : List (Addr × Obj)} {σ : St} {H : Hp} {s : Shared} {E : Value → Shared → Prop}
theorem Inv.wish (I : Inv X pins σ H s) (E : Value → Shared → Prop) : Inv (X.wish E) pins σ H s := ⟨I.ok.wish E, I.os, I.bare, I.base, I.loc, I.cell, I.free, I.freeC, I.pin, I.hok, I.len⟩
theorem Inv.unwish (I : Inv (X.wish E) pins σ H s) : Inv X pins σ H s := ⟨I.ok.unwish, I.os, I.bare, I.base, I.loc, I.cell, I.free, I.freeC, I.pin, I.hok, I.len⟩
theorem SP.unwish {D : Ends} {f : Flow} {s' : Shared} (h : SP (X.wish E) pins D f s') : SP X pins D f s' := by
  cases f with
  | next => obtain ⟨σ', H', I, q⟩ := h; exact ⟨σ', H', I.unwish, q⟩
  | brk => obtain ⟨σ', H', I, q⟩ := h; exact ⟨σ', H', I.unwish, q⟩
  | cont => obtain ⟨σ', H', I, q⟩ := h; exact ⟨σ', H', I.unwish, q⟩
  | ret u => obtain ⟨v, σ', H', I, r, q⟩ := h; exact ⟨v, σ', H', I.unwish, r, q⟩
theorem PE.nox {e : Expr} {t : TE} (h : PE X.nox e t) : PE X e t := fun pins s σ H Q I hw =>
  wpAny_mono (h pins s σ H Q (I.wish _) hw) (fun _ _ ⟨v, H', I', r, q⟩ => ⟨v, H', I'.unwish, r, q⟩) fun _ _ z => False.elim z
theorem PT.nox {e : Expr} {t : TT} (h : PT X.nox e t) : PT X e t := fun pins s σ H Q I hw =>
  wpAny_mono (h pins s σ H Q (I.wish _) hw) (fun _ _ ⟨H', I', q⟩ => ⟨H', I'.unwish, q⟩) fun _ _ z => False.elim z
theorem PSs.nox {st : List Stmt} {t : TS} (h : PSs X.nox st t) : PSs X st t := fun pins s σ H D I hw =>
  wpAny_mono (h pins s σ H D (I.wish _) hw) (fun _ _ q => q.unwish) fun _ _ z => False.elim z
end

/-! ### blocks and small statements -/
section
variable {X : Cx} {st : Stmt} {rest : List Stmt} {t u : TS} {e : Expr} {te : TE} {pos : Pos}
def tNext : TS := fun D σ H => D.nx σ H
def tSeq (t u : TS) : TS := fun D σ H => t { D with nx := u D } σ H
theorem pss_nil : PSs X [] tNext := fun _ _ σ H _ I h => wpAny_execs_nil ⟨σ, H, I, h⟩
theorem pss_cons (h1 : PS X st t) (h2 : PSs X rest u) : PSs X (st :: rest) (tSeq t u) := by
  intro pins s σ H D I h
  refine wpAny_execs_cons (thn (h1 pins s σ H { D with nx := u D } I h) fun f s1 q => ?_)
  cases f with
  | next =>
    obtain ⟨σ', H', I', q⟩ := q
    exact h2 pins s1 σ' H' D I' q
  | ret v => exact q
  | brk => exact q
  | cont => exact q
theorem pss_one (h1 : PS X st t) : PSs X [st] t := by
  intro pins s σ H D I h
  refine wpAny_execs_cons (thn (h1 pins s σ H D I h) fun f s1 q => ?_)
  cases f with
  | next => exact wpAny_execs_nil q
  | ret v => exact q
  | brk => exact q
  | cont => exact q
/-- in a def's body nothing is shown -/
theorem Inv.quiet {pins : List (Addr × Obj)} {σ : St} {H : Hp} {s : Shared} (I : Inv X pins σ H s) : interactive X.env = false := by simp [interactive, I.ok.kind]
/-- an expression whose value is dropped -/
def tDrop (te : TE) : TS := fun D σ H => te σ H fun _ H1 => D.nx σ H1
theorem ps_expr (he : PE X e te) (hs : swapsWith e none pos.line X.env = pure false := by rfl) : PS X (.Expr e pos) (tDrop te) := by
  intro pins s σ H D I h
  exact wpAny_Expr_any (thn (he pins s σ H _ I h) fun v s1 ⟨x, H1, I1, r1, q1⟩ => ⟨σ, H1, I1, q1⟩) I.quiet hs
def tRet (te : TE) : TS := fun D σ H => te σ H D.rt
theorem ps_ret (he : PE X e te) : PS X (.Return (some e) pos) (tRet te) := by
  intro pins s σ H D I h
  exact wpAny_Return_some (thn (he pins s σ H _ I h) fun v s1 ⟨x, H1, I1, r1, q1⟩ => ⟨x, σ, H1, I1, r1, q1⟩)
def tIfS (c : TT) (t u : TS) : TS := fun D σ H => c σ H fun b H1 => if b = true then t D σ H1 else u D σ H1
theorem ps_if {c : Expr} {a b : List Stmt} {tc : TT} (hc : PT X c tc) (ha : PSs X a t) (hb : PSs X b u) : PS X (.If c a b pos) (tIfS tc t u) := by
  intro pins s σ H D I h
  refine wpAny_If (thn (hc pins s σ H _ I h) fun d s1 ⟨H1, I1, q1⟩ => ?_)
  cases d with
  | true => exact ha pins s1 σ H1 D I1 q1
  | false => exact hb pins s1 σ H1 D I1 q1
/-- code that the proof never comes to -/
def tNever : TS := fun _ _ _ => False
theorem pss_never {sts : List Stmt} : PSs X sts tNever := fun _ _ _ _ _ _ h => h.elim
end

/-! ### targets -/
abbrev TG := V → St → Hp → (St → Hp → Prop) → Prop
abbrev TGs := List V → St → Hp → (St → Hp → Prop) → Prop
def PG (X : Cx) (target : Expr) (t : TG) : Prop :=
  ∀ (pins : List (Addr × Obj)) (s : Shared) (σ : St) (H : Hp) (v : V) (u : Value) (Q : St → Hp → Prop), Inv X pins σ H s → RelV v u → t v σ H Q →
    wpAny (model X.prog X.w) X.A (assign target X.env u) (fun _ s' => ∃ σ' H', Inv X pins σ' H' s' ∧ Q σ' H') X.xe s
/-- several targets, one after another -/
def PGs (X : Cx) (ts : List Expr) (t : TGs) : Prop :=
  ∀ (pins : List (Addr × Obj)) (s : Shared) (σ : St) (H : Hp) (vs : List V) (us : List Value) (Q : St → Hp → Prop), Inv X pins σ H s → Vals vs us → t vs σ H Q →
    wpAny (model X.prog X.w) X.A (assignInOrder ((assignEach ts X.env).map (·.2)) us) (fun _ s' => ∃ σ' H', Inv X pins σ' H' s' ∧ Q σ' H') X.xe s
/-- o[i] = v, by values -/
abbrev TSet := V → V → V → Hp → (Hp → Prop) → Prop
def PSet (X : Cx) (t : TSet) : Prop :=
  ∀ (pins : List (Addr × Obj)) (s : Shared) (σ : St) (H : Hp) (o i v : V) (ov iv u : Value) (Q : Hp → Prop), Inv X pins σ H s → RelV o ov → RelV i iv → RelV v u → t o i v H Q →
    wpAny (model X.prog X.w) X.A (setItem ov iv u) (fun _ s' => ∃ H', Inv X pins σ H' s' ∧ Q H') X.xe s
section
variable {X : Cx} {pos : Pos}
def gName (i : Nat) : TG := fun v σ H Q => Q (σ.set i (some v)) H
theorem pg_name {i : Nat} {x : Str} (hN : X.N.Nodup) (hi : X.N[i]? = some x) (hx : Loc X.env.scope x) (hf : X.fn x = true ∨ X.env.scope.names.lookup x = some .local := by first | exact .inl rfl | exact .inr rfl | assumption) : PG X (.Name x pos) (gName i) := by
  intro pins s σ H v u Q I r h
  exact wpAny_assign_Name (store_ok I hN hi hx r (fun s' I' => ⟨_, H, I', h⟩) hf)
def gNil : TGs := fun vs σ H Q => vs = [] ∧ Q σ H
def gCons (t : TG) (u : TGs) : TGs := fun vs σ H Q => ∃ v r, vs = v :: r ∧ t v σ H fun σ' H' => u r σ' H' Q
theorem pgs_nil : PGs X [] gNil := by
  intro pins s σ H vs us Q I r h
  obtain ⟨e, h⟩ := h
  subst e
  cases r
  exact assignInOrder_nil ⟨σ, H, I, h⟩
theorem pgs_cons {e : Expr} {es : List Expr} {t : TG} {u : TGs} (h1 : PG X e t) (h2 : PGs X es u)
    (hs : (assignEach (e :: es) X.env).map (·.2) = assign e X.env :: (assignEach es X.env).map (·.2) := by rfl) : PGs X (e :: es) (gCons t u) := by
  intro pins s σ H vs us Q I r h
  obtain ⟨v, vr, e1, h⟩ := h
  subst e1
  cases r with
  | cons r rr =>
    rw [hs]
    refine assignInOrder_cons (thn (h1 pins s σ H _ _ _ I r h) fun _ s1 ⟨σ1, H1, I1, q1⟩ => ?_)
    exact h2 pins s1 σ1 H1 _ _ Q I1 rr q1
/-- (a, b, ..) = a tuple of that length -/
def gTup (K : PySem.W.Frag) (n : Nat) (t : TGs) : TG := fun v σ H Q => ∃ a xs, v = .ref a ∧ SqT K H a xs ∧ xs.length = n ∧ t xs σ H Q
theorem pg_tup {es : List Expr} {k : Nat} {t : TGs} {n : Nat} (hc : X.calm = true) (h : PGs X es t)
    (hn : (assignEach es X.env).length = n := by rfl) (hst : (assignEach es X.env).findIdx? (·.1) = none := by rfl) : PG X (.Tuple es k pos) (gTup X.K n t) := by
  intro pins s σ H v u Q I r hw
  obtain ⟨a, xs, e1, hq, hl, hw⟩ := hw
  subst e1
  cases r
  obtain ⟨its, rv, ht, hz⟩ := I.tuple hq
  refine assign_Tuple_tuple (I.ok.hd hc) ht (by simp [hn, ← hl, rv.length]) hst fun h' hx => ?_
  have I1 : Inv X pins σ H { s with heap := h' } := I.kept (t' := s.toks) fun b o e => hx b o (Nat.ne_of_lt (Heap.lt_size e)) e
  exact h pins _ σ H xs _ Q I1 (by simpa using rv) hw
/-- o[i] = .. -/
def gSub (to ti : TE) (t : TSet) : TG := fun v σ H Q => to σ H fun o H1 => ti σ H1 fun i H2 => t o i v H2 fun H3 => Q σ H3
theorem pg_sub {o i : Expr} {to ti : TE} {t : TSet} (ho : PE X o to) (hi : PE X i ti) (hs : PSet X t)
    (ha : ∀ v, assign (.Subscript o i pos) X.env v = (do
      let ov ← holding [v] (eval o X.env)
      let iv ← holding [v, ov] (eval i X.env)
      standAt pos
      holding [v, ov, iv] (setItem ov iv v)
      release [v, ov, iv] []) := by intro _; rfl) : PG X (.Subscript o i pos) (gSub to ti t) := by
  intro pins s σ H v u Q I r h
  rw [ha]
  refine wpAny_bind (wpAny_holding (thn (ho pins s σ H _ I h) fun ov s1 ⟨x, H1, I1, r1, q1⟩ => ?_))
  refine wpAny_bind (wpAny_holding (thn (hi pins s1 σ H1 _ I1 q1) fun iv s2 ⟨y, H2, I2, r2, q2⟩ => ?_))
  refine wpAny_bind (wpAny_standAt (wpAny_bind (wpAny_holding (thn (hs pins s2 σ H2 x y v ov iv u _ I2 r1 r2 r q2) fun _ s3 ⟨H3, I3, q3⟩ => ?_))))
  exact wpAny_release ⟨σ, H3, I3, q3⟩
/-- target = value -/
def tAsg (te : TE) (g : TG) : TS := fun D σ H => te σ H fun x H1 => g x σ H1 D.nx
theorem ps_asg {tg e : Expr} {te : TE} {g : TG} (he : PE X e te) (hg : PG X tg g) (hs : swapsWithSole [tg] e pos.line X.env = pure false := by rfl) (hw : swappedStores [tg] e X.env = pure none := by rfl)
    (h1 : (assignEach [tg] X.env).map (·.2) = [assign tg X.env] := by rfl) : PS X (.Assign [tg] e pos) (tAsg te g) := by
  intro pins s σ H D I h
  refine wpAny_Assign_stores (thn (he pins s σ H _ I h) fun v s1 ⟨x, H1, I1, r1, q1⟩ => ?_) hs hw
  rw [h1]
  exact thn (hg pins s1 σ H1 x v _ I1 r1 q1) fun _ s2 q => q
/-- name = value -/
theorem ps_set {i : Nat} {x : Str} {e : Expr} {te : TE} {pos' : Pos} (hN : X.N.Nodup) (hi : X.N[i]? = some x) (hx : Loc X.env.scope x) (he : PE X e te) (hs : swapsWith e (some (.Name x pos')) pos.line X.env = pure false := by rfl) (hf : X.fn x = true ∨ X.env.scope.names.lookup x = some .local := by first | exact .inl rfl | exact .inr rfl | assumption) :
    PS X (.Assign [.Name x pos'] e pos) (tAsg te (gName i)) := by
  intro pins s σ H D I h
  refine wpAny_Assign_Name (thn (he pins s σ H _ I h) fun v s1 ⟨y, H1, I1, r1, q1⟩ => ?_) hs
  exact store_ok I1 hN hi hx r1 (fun s2 I2 => ⟨_, H1, I2, q1⟩) hf
end

/-! ### while -/
section
variable {X : Cx} {pos : Pos}
end

/-! ### what a loop or a comprehension walks -/
/-- at turn i: it yields x (the heap may grow), or it stops -/
structure It where
  go : Nat → Hp → Prop
  yld : Nat → Hp → V → Hp → Prop
  stop : Nat → Hp → Prop
/-- the iterator's own objects may turn: they are not the frame's, not pinned, younger than the entry (or a comprehension's own) -/
def FpOk (X : Cx) (pins : List (Addr × Obj)) (H : Hp) (b : Addr) : Prop :=
  H b = none ∧ b ≠ X.env.locals ∧ b ∉ X.fs ∧ (b ∈ X.ex ∨ X.s_0.heap.objs.size ≤ b) ∧ (∀ x c, X.env.cells.lookup x = some c → c ≠ b) ∧ ∀ p ∈ X.pn ++ pins, p.1 ≠ b
theorem Inv.fpOk {X : Cx} {pins : List (Addr × Obj)} {σ : St} {H H' : Hp} {s : Shared} {b : Addr} (I : Inv X pins σ H s) (hb : s.heap.objs.size ≤ b) (hn : H' b = none) : FpOk X pins H' b := by
  refine ⟨hn, Nat.ne_of_gt (Nat.lt_of_lt_of_le I.lt hb), I.nofs hb, .inr (Nat.le_trans I.sz hb), fun x c e z => ?_, fun p hp z => ?_⟩
  · obtain ⟨v, q⟩ := I.cell x c e
    exact absurd (Nat.lt_of_lt_of_le q.lt (by rw [z]; exact hb)) (Nat.lt_irrefl _)
  · exact absurd (Nat.lt_of_lt_of_le (Heap.lt_size (I.pin p hp).1) (by rw [z]; exact hb)) (Nat.lt_irrefl _)
structure Turn (P : Program) (w : World) (K : PySem.W.Frag) (tg : Expr) (J : It) (fp : List Addr) (it : Addr) (tn : Nat → Heap → Prop) : Prop where
  mem : it ∈ fp
  obj : ∀ i h, tn i h → ∀ b ∈ fp, ∃ o, h.get? b = some o ∧ ∀ v, o.data ≠ .cell v
  keep : ∀ i h h', tn i h → (∀ b ∈ fp, ∀ o, h.get? b = some o → h'.get? b = some o) → tn i h'
  item : ∀ (X : Cx), X.prog = P → X.w = w → X.K = K → X.calm = true → ∀ (i : Nat) (pins : List (Addr × Obj)) (s : Shared) (σ : St) (H : Hp) (E : Value → Shared → Prop), Inv X pins σ H s → (∀ b ∈ fp, FpOk X pins H b) → tn i s.heap → J.go i H →
    wpAny (model P w) X.A (pyNext (.ref it)) (fun r s1 => ∃ u, r = some u ∧
      wpAny (model P w) X.A (letOwnedTupleGo tg (.ref it) u) (fun _ s2 => ∃ x H', Inv X pins σ H' s2 ∧ RelV x u ∧ J.yld i H x H' ∧ tn (i + 1) s2.heap ∧ ∀ b ∈ fp, H' b = none) E s1) E s
  done : ∀ (X : Cx), X.prog = P → X.w = w → X.K = K → X.calm = true → ∀ (i : Nat) (pins : List (Addr × Obj)) (s : Shared) (σ : St) (H : Hp) (E : Value → Shared → Prop), Inv X pins σ H s → (∀ b ∈ fp, FpOk X pins H b) → tn i s.heap → J.stop i H →
    wpAny (model P w) X.A (pyNext (.ref it)) (fun r s1 => r = none ∧ Inv X pins σ H s1) E s
  self : ∀ (A : Around) (i : Nat) (s : Shared) (Q : Value → Shared → Prop) (E : Value → Shared → Prop), tn i s.heap → Q (.ref it) s → wpAny (model P w) A (pyIter (.ref it)) Q E s
abbrev TI := St → Hp → (It → Hp → Prop) → Prop
/-- an iterator has come -/
def PIE (X : Cx) (pins : List (Addr × Obj)) (σ : St) (tg : Expr) (R : It → Hp → Prop) (itv : Value) (s2 : Shared) : Prop :=
  ∃ (it : Addr) (fp : List Addr) (tn : Nat → Heap → Prop) (J : It) (H' : Hp), itv = .ref it ∧ Inv X pins σ H' s2 ∧ Turn X.prog X.w X.K tg J fp it tn ∧ tn 0 s2.heap ∧ (∀ b ∈ fp, FpOk X pins H' b) ∧ R J H'
def PI (X : Cx) (tg iter : Expr) (wi : TI) : Prop :=
  ∀ (pins : List (Addr × Obj)) (s : Shared) (σ : St) (H : Hp) (R : It → Hp → Prop), Inv X pins σ H s → wi σ H R →
    wpAny (model X.prog X.w) X.A (eval iter X.env) (fun v s1 => wpAny (model X.prog X.w) X.A (pyIter v) (PIE X pins σ tg R) X.xe s1) X.xe s

/-- the step ahead of the store is nothing for an iterator that keeps no tuple -/
theorem go_of {M : Model} {A : Around} {E : Value → Shared → Prop} {s : Shared} {tg : Expr} {it : Addr} {u : Value} {o : Obj} {n : String} {vs : Array Value} {Q : Unit → Shared → Prop} (ho : s.heap.get? it = some o) (hc : o.cls = .type n) (hd : o.data = .fields vs)
    (hn : ["enumerate", "zip", "dict_itemiterator", "dict_reverseitemiterator", "odict_iterator", "itertools.zip_longest", "itertools.pairwise"].contains n = false) (hQ : Q () s) : wpAny M A (letOwnedTupleGo tg (.ref it) u) Q E s := by
  unfold letOwnedTupleGo
  cases tg <;> first
    | exact wpAny_pure hQ
    | (cases u <;> first
        | exact wpAny_pure hQ
        | (refine wpAny_bind (wpAny_load ho ?_)
           rw [hc, hd]
           show wpAny M A (if (["enumerate", "zip", "dict_itemiterator", "dict_reverseitemiterator", "odict_iterator", "itertools.zip_longest", "itertools.pairwise"].contains n && vs[0]? == some (rawInt _)) = true then _ else _) Q E s
           rw [if_neg (by intro h; rw [hn, Bool.false_and] at h; cases h)]
           exact wpAny_pure hQ))

/-- the list at a, as it stands at each turn (a loop may append to it) -/
def Itl (K : PySem.W.Frag) (a : Addr) : It :=
  ⟨fun i H => ∃ xs x, SqL K H a xs ∧ xs[i]? = some x, fun i H x H' => H' = H ∧ ∀ xs, SqL K H a xs → xs[i]? = some x, fun i H => ∃ xs, SqL K H a xs ∧ xs.length ≤ i⟩
def Itt (K : PySem.W.Frag) (a : Addr) : It :=
  ⟨fun i H => ∃ xs x, SqT K H a xs ∧ xs[i]? = some x, fun i H x H' => H' = H ∧ ∀ xs, SqT K H a xs → xs[i]? = some x, fun i H => ∃ xs, SqT K H a xs ∧ xs.length ≤ i⟩
/-- lo, lo + 1, .. (n of them) -/
def Itr (lo : Int) (n : Nat) : It := ⟨fun i _ => i < n, fun i H x H' => H' = H ∧ x = .int (lo + i), fun i _ => n ≤ i⟩
theorem turn_list {P : Program} {w : World} {K : PySem.W.Frag} {tg : Expr} (a it : Addr) : Turn P w K tg (Itl K a) [it] it (fun i h => h.IsListIter it a i) where
  mem := by simp
  obj := fun i h st b hb => by
    have e : b = it := by simpa using hb
    subst e
    obtain ⟨o, e, c, d⟩ := st
    exact ⟨o, e, fun v z => by rw [d] at z; cases z⟩
  keep := fun i h h' st k => st.at fun o e => k it (by simp) o e
  item := by
    intro X hP hw hK hc i pins s σ H E I hf st hg
    subst hP hw hK
    obtain ⟨xs, x, hq, hx⟩ := hg
    obtain ⟨its, rv, p, hz⟩ := I.list hq
    obtain ⟨u, hu, ru⟩ := rv.get hx
    obtain ⟨f0, f1, f2, f3, f4, f5⟩ := hf it (by simp)
    refine wpAny_pyNext_list_item st p.isList (x := u) (by simpa using hu) fun h' st' sb => ?_
    have I1 : Inv X pins σ H { s with heap := h' } := I.turned (t' := s.toks) (fun b o hb e => (sb.2 b hb).trans e) f0 f1 f3 f4 f5
    obtain ⟨o, e, c, d⟩ := id st'
    exact ⟨u, rfl, go_of (s := { s with heap := h' }) e c d (by decide) ⟨x, H, I1, ru, ⟨rfl, fun ys hy => by rw [I.list_inj hy hq]; exact hx⟩, st', fun b hb => (hf b hb).1⟩⟩
  done := by
    intro X hP hw hK hc i pins s σ H E I hf st hg
    subst hP hw hK
    obtain ⟨xs, hq, hx⟩ := hg
    obtain ⟨its, rv, p, hz⟩ := I.list hq
    obtain ⟨f0, f1, f2, f3, f4, f5⟩ := hf it (by simp)
    have hl := rv.length
    exact wpAny_pyNext_list_end (I.ok.hd hc) st p.isList (by simp; omega) fun h' eb => ⟨rfl, I.turned (t' := s.toks) (fun b o hb e => eb b o hb e) f0 f1 f3 f4 f5⟩
  self := fun _ _ _ _ _ st h => wpAny_pyIter_listiter st h
theorem turn_tuple {P : Program} {w : World} {K : PySem.W.Frag} {tg : Expr} (a it : Addr) : Turn P w K tg (Itt K a) [it] it (fun i h => h.IsTupleIter it a i) where
  mem := by simp
  obj := fun i h st b hb => by
    have e : b = it := by simpa using hb
    subst e
    obtain ⟨o, e, c, d⟩ := st
    exact ⟨o, e, fun v z => by rw [d] at z; cases z⟩
  keep := fun i h h' st k => st.at fun o e => k it (by simp) o e
  item := by
    intro X hP hw hK hc i pins s σ H E I hf st hg
    subst hP hw hK
    obtain ⟨xs, x, hq, hx⟩ := hg
    obtain ⟨its, rv, p, hz⟩ := I.tuple hq
    obtain ⟨u, hu, ru⟩ := rv.get hx
    obtain ⟨f0, f1, f2, f3, f4, f5⟩ := hf it (by simp)
    refine wpAny_pyNext_tuple_item st (show s.heap.IsTuple a its.toArray from p) (x := u) (by simpa using hu) fun h' st' sb => ?_
    have I1 : Inv X pins σ H { s with heap := h' } := I.turned (t' := s.toks) (fun b o hb e => (sb.2 b hb).trans e) f0 f1 f3 f4 f5
    obtain ⟨o, e, c, d⟩ := id st'
    exact ⟨u, rfl, go_of (s := { s with heap := h' }) e c d (by decide) ⟨x, H, I1, ru, ⟨rfl, fun ys hy => by rw [I.tuple_inj hy hq]; exact hx⟩, st', fun b hb => (hf b hb).1⟩⟩
  done := by
    intro X hP hw hK hc i pins s σ H E I hf st hg
    subst hP hw hK
    obtain ⟨xs, hq, hx⟩ := hg
    obtain ⟨its, rv, p, hz⟩ := I.tuple hq
    obtain ⟨f0, f1, f2, f3, f4, f5⟩ := hf it (by simp)
    have hl := rv.length
    exact wpAny_pyNext_tuple_end (I.ok.hd hc) st (show s.heap.IsTuple a its.toArray from p) (by simp; omega) fun h' eb => ⟨rfl, I.turned (t' := s.toks) (fun b o hb e => eb b o hb e) f0 f1 f3 f4 f5⟩
  self := fun _ _ _ _ _ st h => wpAny_pyIter_tupleiter st h
theorem turn_range {P : Program} {w : World} {K : PySem.W.Frag} {tg : Expr} (it : Addr) (lo : Int) (n : Nat) : Turn P w K tg (Itr lo n) [it] it (fun i h => IsRangeIter h it (lo + (i : Nat) * 1) ((n : Int) - (i : Nat)) 1) where
  mem := by simp
  obj := fun i h st b hb => by
    have e : b = it := by simpa using hb
    subst e
    exact ⟨_, st, fun v z => by
      have z' : Data.fields _ = Data.cell v := z
      cases z'⟩
  keep := fun i h h' st k => k it (by simp) _ st
  item := by
    intro X hP hw hK hc i pins s σ H E I hf st hg
    subst hP hw hK
    obtain ⟨f0, f1, f2, f3, f4, f5⟩ := hf it (by simp)
    have W := Walks.range (prog := X.prog) (w := X.w) (I.ok.hd hc) it lo 1 n
    refine W.item i s _ _ hg st fun v h' tk hv st' kk => ?_
    obtain ⟨t, rfl⟩ := hv
    have I1 : Inv X pins σ H { s with heap := h', toks := tk } := I.turned (fun b o hb e => kk b o (by simpa using hb) e) f0 f1 f3 f4 f5
    refine ⟨_, rfl, go_of (s := { s with heap := h', toks := tk }) (n := "range_iterator") st' rfl rfl (by decide) ⟨.int (lo + i), H, I1, ⟨t, ?_⟩, ⟨rfl, rfl⟩, st', fun b hb => (hf b hb).1⟩⟩
    rw [Int.mul_one]
  done := by
    intro X hP hw hK hc i pins s σ H E I hf st hg
    subst hP hw hK
    obtain ⟨f0, f1, f2, f3, f4, f5⟩ := hf it (by simp)
    exact wpAny_pyNext_range_end (I.ok.hd hc) st (by have : n ≤ i := hg; omega) fun h' eb => ⟨rfl, I.turned (t' := s.toks) (fun b o hb e => eb b o hb e) f0 f1 f3 f4 f5⟩
  self := fun _ _ _ _ _ st h => wpAny_pyIter_rangeiter st h
end L2

namespace L2
open PySem PySem.Spec PyProof.Rows
section
variable {X : Cx} {tg : Expr}
def iList (K : PySem.W.Frag) (tl : TE) : TI := fun σ H R => tl σ H fun x H1 => ∃ a, x = .ref a ∧ (∃ xs, SqL K H1 a xs) ∧ R (Itl K a) H1
def iTup (K : PySem.W.Frag) (tl : TE) : TI := fun σ H R => tl σ H fun x H1 => ∃ a, x = .ref a ∧ (∃ xs, SqT K H1 a xs) ∧ R (Itt K a) H1
theorem pi_list {l : Expr} {tl : TE} (hl : PE X l tl) : PI X tg l (iList X.K tl) := by
  intro pins s σ H R I h
  refine thn (hl pins s σ H _ I h) fun v s1 ⟨x, H1, I1, r1, q1⟩ => ?_
  obtain ⟨a, e, ⟨xs, hq⟩, q⟩ := q1
  subst e
  cases r1
  obtain ⟨its, rv, p, hz⟩ := I1.list hq
  refine wpAny_pyIter_list p.isList ?_
  refine ⟨s1.heap.objs.size, [s1.heap.objs.size], _, _, H1, rfl, I1.kept (t' := s1.toks) fun b o e => Heap.get?_push_of_some _ e, turn_list a _, ⟨_, Heap.get?_push_size _ rfl, rfl, rfl⟩, fun b hb => ?_, q⟩
  have e : b = s1.heap.objs.size := by simpa using hb
  subst e
  exact I1.fpOk (Nat.le_refl _) (I1.hok.fresh (Nat.le_refl _))
theorem pi_tup {l : Expr} {tl : TE} (hl : PE X l tl) : PI X tg l (iTup X.K tl) := by
  intro pins s σ H R I h
  refine thn (hl pins s σ H _ I h) fun v s1 ⟨x, H1, I1, r1, q1⟩ => ?_
  obtain ⟨a, e, ⟨xs, hq⟩, q⟩ := q1
  subst e
  cases r1
  obtain ⟨its, rv, p, hz⟩ := I1.tuple hq
  refine wpAny_pyIter_tuple (show s1.heap.IsTuple a its.toArray from p) ?_
  refine ⟨s1.heap.objs.size, [s1.heap.objs.size], _, _, H1, rfl, I1.kept (t' := s1.toks) fun b o e => Heap.get?_push_of_some _ e, turn_tuple a _, ⟨_, Heap.get?_push_size _ rfl, rfl, rfl⟩, fun b hb => ?_, q⟩
  have e : b = s1.heap.objs.size := by simpa using hb
  subst e
  exact I1.fpOk (Nat.le_refl _) (I1.hok.fresh (Nat.le_refl _))
/-- a range object just made, walked -/
theorem range_it {pins : List (Addr × Obj)} {σ : St} {H : Hp} {s : Shared} {R : It → Hp → Prop} {E : Value → Shared → Prop} {lo hi : Int} {t u v : Tok} {tk : Nat} (I : Inv X pins σ H s) (h1 : -(2 ^ 62) ≤ lo) (h2 : lo < 2 ^ 62) (h3 : -(2 ^ 62) ≤ hi) (h4 : hi < 2 ^ 62)
    (q : R (Itr lo (hi - lo).toNat) H) : wpAny (model X.prog X.w) X.A (pyIter (.ref s.heap.objs.size)) (PIE X pins σ tg R) E { s with heap := s.heap.push { cls := .type "range", data := .fields #[.int lo t, .int hi u, .int 1 v] }, toks := tk } := by
  refine wpAny_pyIter_range (IsRange.new ..) (small_one h1 h2 h3 h4) ?_
  have I1 : Inv X pins σ H { s with heap := s.heap.push { cls := .type "range", data := .fields #[.int lo t, .int hi u, .int 1 v] }, toks := tk } := I.kept fun b o e => Heap.get?_push_of_some _ e
  refine ⟨(s.heap.push { cls := .type "range", data := .fields #[.int lo t, .int hi u, .int 1 v] }).objs.size, [(s.heap.push { cls := .type "range", data := .fields #[.int lo t, .int hi u, .int 1 v] }).objs.size], _, _, H, rfl,
    I1.kept (t' := tk) fun b o e => Heap.get?_push_of_some _ e, turn_range _ lo (hi - lo).toNat, ?_, fun b hb => ?_, q⟩
  · have e1 : lo + ((0 : Nat) : Int) * 1 = lo := by simp
    have e2 : (((hi - lo).toNat : Nat) : Int) - ((0 : Nat) : Int) = Builtin.Range.rangeSize lo hi 1 := by rw [rangeSize_one]; split <;> omega
    show IsRangeIter _ _ (lo + ((0 : Nat) : Int) * 1) ((((hi - lo).toNat : Nat) : Int) - ((0 : Nat) : Int)) 1
    rw [e1, e2]
    exact Heap.get?_push_size _ rfl
  · have e : b = (s.heap.push { cls := .type "range", data := .fields #[.int lo t, .int hi u, .int 1 v] }).objs.size := by simpa using hb
    subst e
    exact I1.fpOk (Nat.le_refl _) (I1.hok.fresh (Nat.le_refl _))
def iRng1 (ta : TA) : TI := fun σ H R => ta σ H fun vs H1 => ∃ j : Int, vs = [.int j] ∧ -(2 ^ 62) ≤ j ∧ j < 2 ^ 62 ∧ R (Itr 0 j.toNat) H1
def iRng2 (ta : TA) : TI := fun σ H R => ta σ H fun vs H1 => ∃ i j : Int, vs = [.int i, .int j] ∧ (-(2 ^ 62) ≤ i ∧ i < 2 ^ 62 ∧ -(2 ^ 62) ≤ j ∧ j < 2 ^ 62) ∧ R (Itr i (j - i).toNat) H1
theorem pi_range1 {a : Expr} {ta : TA} {p pos : Pos} (hg : Gl X "range") (hm : X.mg "range" = none) (ha : PA X [a] ta) (hs : starEach [a] X.env = [(false, eval a X.env)] := by rfl) : PI X tg (.Call (.Name "range" p) [a] [] pos) (iRng1 ta) := by
  intro pins s σ H R I h
  refine Call_ (ld_blt I hg hm boot_range (PyProof.Rows.callWith_type1 (thn (ha pos pins s σ H _ I h) fun us s1 ⟨vs, H1, I1, r1, q1⟩ => ?_) hs rfl))
  obtain ⟨j, e, q1, q2, q⟩ := q1
  subst e
  cases r1 with
  | cons r rr =>
    cases rr
    obtain ⟨t, rfl⟩ := r
    exact call_range_1 (range_it I1 (by omega) (by omega) q1 q2 (by simpa using q))
theorem pi_range2 {a b : Expr} {ta : TA} {p pos : Pos} (hg : Gl X "range") (hm : X.mg "range" = none) (ha : PA X [a, b] ta) (hs : starEach [a, b] X.env = [(false, eval a X.env), (false, eval b X.env)] := by rfl) (hs2 : starEach [b] X.env = [(false, eval b X.env)] := by rfl) :
    PI X tg (.Call (.Name "range" p) [a, b] [] pos) (iRng2 ta) := by
  intro pins s σ H R I h
  refine Call_ (ld_blt I hg hm boot_range (PyProof.Rows.callWith_type1 (thn (ha pos pins s σ H _ I h) fun us s1 ⟨vs, H1, I1, r1, q1⟩ => ?_) (by rw [hs, hs2]) (by rw [hs2]; rfl)))
  obtain ⟨i, j, e, ⟨q1, q2, q3, q4⟩, q⟩ := q1
  subst e
  cases r1 with
  | cons r rr =>
    cases rr with
    | cons r' rr =>
      cases rr
      obtain ⟨t, rfl⟩ := r
      obtain ⟨t', rfl⟩ := r'
      exact call_range_2 (range_it I1 q1 q2 q3 q4 q)

/-! ### for -/
/-- W: the invariant by the turn and a measure; N: what the body is to reach -/
def tFor (wi : TI) (g : TG) (tb : TS) : TS := fun D σ H => wi σ H fun J H1 => ∃ W : Nat → Nat → St → Hp → Prop, (∃ m, W 0 m σ H1) ∧ ∀ i m σ H, W i m σ H →
  (J.stop i H ∧ D.nx σ H) ∨ (J.go i H ∧ ∃ N : St → Hp → Prop, (∀ σ' H', N σ' H' → ∃ m', m' < m ∧ W (i + 1) m' σ' H') ∧ ∀ x H', J.yld i H x H' → g x σ H' fun σ2 H2 => tb { D with nx := N, ct := N, bk := D.nx } σ2 H2)
/-- the records at fp as they stand -/
def pinsAt (fp : List Addr) (h : Heap) : List (Addr × Obj) := fp.filterMap fun b => (h.get? b).map fun o => (b, o)
theorem mem_pinsAt {fp : List Addr} {h : Heap} {b : Addr} {o : Obj} (hb : b ∈ fp) (e : h.get? b = some o) : (b, o) ∈ pinsAt fp h := List.mem_filterMap.mpr ⟨b, hb, by rw [e]; rfl⟩
theorem of_pinsAt {fp : List Addr} {h : Heap} {p : Addr × Obj} (hp : p ∈ pinsAt fp h) : p.1 ∈ fp ∧ h.get? p.1 = some p.2 := by
  obtain ⟨b, hb, e⟩ := List.mem_filterMap.mp hp
  cases q : h.get? b with
  | none => rw [q] at e; cases e
  | some o =>
    rw [q] at e
    have e' : (b, o) = p := Option.some.inj e
    subst e'
    exact ⟨hb, q⟩
theorem Inv.pinned {pins : List (Addr × Obj)} {σ : St} {H : Hp} {s : Shared} {fp : List Addr} (I : Inv X pins σ H s) (hf : ∀ b ∈ fp, FpOk X pins H b) (ho : ∀ b ∈ fp, ∃ o, s.heap.get? b = some o ∧ ∀ v, o.data ≠ .cell v) : Inv X (pins ++ pinsAt fp s.heap) σ H s :=
  I.pins_of fun p hp => (List.mem_append.mp hp).elim (fun z => I.pin p (List.mem_append_right _ z)) fun z => by
    obtain ⟨hb, e⟩ := of_pinsAt z
    obtain ⟨f0, f1, f2, _⟩ := hf p.1 hb
    obtain ⟨o, e', d⟩ := ho p.1 hb
    rw [e] at e'; cases e'
    exact ⟨e, f0, f1, f2, d⟩
theorem Inv.unpinned {pins pl : List (Addr × Obj)} {σ : St} {H : Hp} {s : Shared} (I : Inv X (pins ++ pl) σ H s) : Inv X pins σ H s := I.pins_of fun p hp => I.pin p (List.mem_append_right _ (List.mem_append_left _ hp))
theorem ps_for {iter : Expr} {body : List Stmt} {wi : TI} {g : TG} {tb : TS} {pos : Pos} (hp : PassesOwn (model X.prog X.w) X.A X.env X.xe) (hc : X.calm = true) (hi : PI X tg iter wi) (hg : PG X tg g) (hb : PSs X body tb)
    (hs : ∀ x, foldedSetIterable iter X.env x = pure x := by intro _; rfl) : PS X (.For tg iter body [] pos) (tFor wi g tb) := by
  intro pins s σ H D I h
  refine wpAny_For (thn (hi pins s σ H _ I h) fun v s1 h1 => thn h1 fun itv s2 h2 => ?_) hs
  obtain ⟨it, fp, tn, J, H2, e, I2, T, st2, f2, W, ⟨m0, w0⟩, turn⟩ := h2
  subst e
  -- what stays true of the iterator's objects through the loop
  have stat : ∀ {H' : Hp}, (∀ b ∈ fp, H' b = none) → ∀ b ∈ fp, FpOk X pins H' b := fun hn b hb => ⟨hn b hb, (f2 b hb).2⟩
  refine codeAny_forLoop_any (fun n s' => ∃ i σ' H', Inv X pins σ' H' s' ∧ tn i s'.heap ∧ (∀ b ∈ fp, H' b = none) ∧ W i n σ' H') ?_ m0 ⟨0, σ, H2, I2, st2, fun b hb => (f2 b hb).1, w0⟩
  rintro n s3 ⟨i, σ3, H3, I3, st3, fr3, w3⟩
  rcases turn i n σ3 H3 w3 with ⟨stop, qn⟩ | ⟨go, N, hN, step⟩
  · refine wpAny_passesOwn hp (thn (T.done X rfl rfl rfl hc i pins s3 σ3 H3 X.xe I3 (stat fr3) st3 stop) fun r s4 ⟨hr, I4⟩ => ?_)
    subst hr
    exact wpAny_execs_nil ⟨σ3, H3, I4, qn⟩
  · refine wpAny_passesOwn hp (thn (T.item X rfl rfl rfl hc i pins s3 σ3 H3 X.xe I3 (stat fr3) st3 go) fun r s4 ⟨u, hr, h4⟩ => ?_)
    subst hr
    refine wpAny_passesOwn hp (thn h4 fun _ s5 ⟨x, H5, I5, r5, y5, st5, fr5⟩ => ?_)
    have I5' := I5.pinned (stat fr5) (T.obj _ _ st5)
    refine wpAny_passesOwn hp (thn (hg _ s5 σ3 H5 x u _ I5' r5 (step x H5 y5)) fun _ s6 ⟨σ6, H6, I6, q6⟩ => ?_)
    refine wpAny_passesOwn hp (thn (hb _ s6 σ6 H6 _ I6 q6) fun f s7 q7 => ?_)
    have again : ∀ {σ7 : St} {H7 : Hp}, Inv X (pins ++ pinsAt fp s5.heap) σ7 H7 s7 → N σ7 H7 → ∃ m, m < n ∧ ∃ i σ' H', Inv X pins σ' H' s7 ∧ tn i s7.heap ∧ (∀ b ∈ fp, H' b = none) ∧ W i m σ' H' := fun {σ7 H7} I7 n7 => by
      obtain ⟨m', hm, w7⟩ := hN σ7 H7 n7
      refine ⟨m', hm, i + 1, σ7, H7, I7.unpinned, T.keep _ _ _ st5 fun b hb o e => (I7.pin (b, o) (List.mem_append_right _ (List.mem_append_right _ (mem_pinsAt hb e)))).1, fun b hb => ?_, w7⟩
      obtain ⟨o, e, d⟩ := T.obj _ _ st5 b hb
      exact (I7.pin (b, o) (List.mem_append_right _ (List.mem_append_right _ (mem_pinsAt hb e)))).2.1
    cases f with
    | next => obtain ⟨σ7, H7, I7, n7⟩ := q7; exact again I7 n7
    | cont => obtain ⟨σ7, H7, I7, n7⟩ := q7; exact again I7 n7
    | brk => obtain ⟨σ7, H7, I7, q7⟩ := q7; exact ⟨σ7, H7, I7.unpinned, q7⟩
    | ret v => obtain ⟨x7, σ7, H7, I7, r7, q7⟩ := q7; exact ⟨x7, σ7, H7, I7.unpinned, r7, q7⟩
end

/-! ### the forms one uses -/
/-- over a list that the body leaves as it is -/
theorem for_list {K : PySem.W.Frag} {a : Addr} {xs : List V} {g : TG} {tb : TS} {D : Ends} {σ : St} {H : Hp} (Pv : Nat → St → Hp → Prop) (h0 : Pv 0 σ H) (hl : ∀ i σ H, i ≤ xs.length → Pv i σ H → SqL K H a xs)
    (hs : ∀ i x σ H, xs[i]? = some x → Pv i σ H → g x σ H fun σ2 H2 => tb { D with nx := Pv (i + 1), ct := Pv (i + 1), bk := D.nx } σ2 H2) (hd : ∀ σ H, Pv xs.length σ H → D.nx σ H) :
    ∃ W : Nat → Nat → St → Hp → Prop, (∃ m, W 0 m σ H) ∧ ∀ i m σ H, W i m σ H →
      ((Itl K a).stop i H ∧ D.nx σ H) ∨ ((Itl K a).go i H ∧ ∃ N : St → Hp → Prop, (∀ σ' H', N σ' H' → ∃ m', m' < m ∧ W (i + 1) m' σ' H') ∧ ∀ x H', (Itl K a).yld i H x H' → g x σ H' fun σ2 H2 => tb { D with nx := N, ct := N, bk := D.nx } σ2 H2) := by
  refine ⟨fun i m σ H => m = xs.length - i ∧ i ≤ xs.length ∧ Pv i σ H, ⟨xs.length, by simp, Nat.zero_le _, h0⟩, ?_⟩
  rintro i m σ H ⟨rfl, hi, p⟩
  have q := hl i σ H hi p
  by_cases hlt : i < xs.length
  · refine .inr ⟨⟨xs, xs[i], q, by simp [hlt]⟩, Pv (i + 1), fun σ' H' p' => ⟨xs.length - (i + 1), by omega, rfl, hlt, p'⟩, fun x H' y => ?_⟩
    obtain ⟨e, y⟩ := y
    subst e
    exact hs i x σ _ (y xs q) p
  · have e : i = xs.length := by omega
    subst e
    exact .inl ⟨⟨xs, q, Nat.le_refl _⟩, hd σ H p⟩
theorem for_range {lo : Int} {n : Nat} {g : TG} {tb : TS} {D : Ends} {σ : St} {H : Hp} (Pv : Nat → St → Hp → Prop) (h0 : Pv 0 σ H)
    (hs : ∀ i σ H, i < n → Pv i σ H → g (.int (lo + i)) σ H fun σ2 H2 => tb { D with nx := Pv (i + 1), ct := Pv (i + 1), bk := D.nx } σ2 H2) (hd : ∀ σ H, Pv n σ H → D.nx σ H) :
    ∃ W : Nat → Nat → St → Hp → Prop, (∃ m, W 0 m σ H) ∧ ∀ i m σ H, W i m σ H →
      ((Itr lo n).stop i H ∧ D.nx σ H) ∨ ((Itr lo n).go i H ∧ ∃ N : St → Hp → Prop, (∀ σ' H', N σ' H' → ∃ m', m' < m ∧ W (i + 1) m' σ' H') ∧ ∀ x H', (Itr lo n).yld i H x H' → g x σ H' fun σ2 H2 => tb { D with nx := N, ct := N, bk := D.nx } σ2 H2) := by
  refine ⟨fun i m σ H => m = n - i ∧ i ≤ n ∧ Pv i σ H, ⟨n, by simp, Nat.zero_le _, h0⟩, ?_⟩
  rintro i m σ H ⟨rfl, hi, p⟩
  by_cases hlt : i < n
  · refine .inr ⟨hlt, Pv (i + 1), fun σ' H' p' => ⟨n - (i + 1), by omega, rfl, hlt, p'⟩, fun x H' y => ?_⟩
    obtain ⟨e, y⟩ := y
    subst e y
    exact hs i σ _ hlt p
  · have e : i = n := by omega
    subst e
    exact .inl ⟨Nat.le_refl _, hd σ H p⟩
end L2

namespace L2
open PySem PySem.Spec PyProof.Rows

abbrev R2 := V → V → Hp → VK → Prop
/-- a two-place operation on values: f is binaryOp op, inplaceOp op or compareOp op -/
def OpR (X : Cx) (f : Value → Value → Sem Value) (r : R2) : Prop :=
  ∀ (pins : List (Addr × Obj)) (s : Shared) (σ : St) (H : Hp) (x y : V) (v u : Value) (Q : VK), Inv X pins σ H s → RelV x v → RelV y u → r x y H Q →
    wpAny (model X.prog X.w) X.A (f v u) (EP X pins σ Q) X.xe s
/-- a one-place operation -/
def UnR (X : Cx) (f : Value → Sem Value) (r : V → Hp → VK → Prop) : Prop :=
  ∀ (pins : List (Addr × Obj)) (s : Shared) (σ : St) (H : Hp) (x : V) (v : Value) (Q : VK), Inv X pins σ H s → RelV x v → r x H Q →
    wpAny (model X.prog X.w) X.A (f v) (EP X pins σ Q) X.xe s
/-- a call of a value that is known (a builtin, a type) with values -/
def CallR (X : Cx) (f : Value) (r : List V → Hp → VK → Prop) : Prop :=
  ∀ (pins : List (Addr × Obj)) (s : Shared) (σ : St) (H : Hp) (xs : List V) (us : List Value) (Q : VK), Inv X pins σ H s → Vals xs us → r xs H Q →
    wpAny (model X.prog X.w) X.A (call f us) (EP X pins σ Q) X.xe s
def tOp (r : R2) (ta tb : TE) : TE := fun σ H Q => ta σ H fun x H1 => tb σ H1 fun y H2 => r x y H2 Q
def tUn (r : V → Hp → VK → Prop) (ta : TE) : TE := fun σ H Q => ta σ H fun x H1 => r x H1 Q
/-- ints in, under C, and a value out -/
def rI (C : Int → Int → Prop) (g : Int → Int → V) : R2 := fun x y H Q => ∃ i j, x = .int i ∧ y = .int j ∧ C i j ∧ Q (g i j) H
def rI0 (g : Int → Int → V) : R2 := fun x y H Q => ∃ i j, x = .int i ∧ y = .int j ∧ Q (g i j) H
def rU (g : Int → V) : V → Hp → VK → Prop := fun x H Q => ∃ i, x = .int i ∧ Q (g i) H

section
variable {X : Cx} {a b c : Expr} {ta tb tc : TE} {pos : Pos}

theorem binT (ha : PE X a ta) (hb : PE X b tb) {pins : List (Addr × Obj)} {s : Shared} {σ : St} {H : Hp} {R : V → V → Hp → Prop} (I : Inv X pins σ H s)
    (h : ta σ H fun x H1 => tb σ H1 fun y H2 => R x y H2) {Q : Value → Shared → Prop} {f : Value → Value → Sem Value}
    (hf : ∀ v u s2 x y H2, Inv X pins σ H2 s2 → RelV x v → RelV y u → R x y H2 → wpAny (model X.prog X.w) X.A (f v u) Q X.xe s2) :
    wpAny (model X.prog X.w) X.A (eval a X.env) (fun v s₁ => wpAny (model X.prog X.w) X.A (eval b X.env) (fun u s₂ => wpAny (model X.prog X.w) X.A (f v u) Q X.xe s₂) X.xe s₁) X.xe s := by
  refine thn (ha pins s σ H _ I h) fun v s1 ⟨x, H1, I1, r1, q1⟩ => ?_
  refine thn (hb pins s1 σ H1 _ I1 q1) fun u s2 ⟨y, H2, I2, r2, q2⟩ => ?_
  exact hf v u s2 x y H2 I2 r1 r2 q2

theorem pe_op {op : Operator} {r : R2} (ho : OpR X (binaryOp op) r) (ha : PE X a ta) (hb : PE X b tb) : PE X (.BinOp a op b pos) (tOp r ta tb) := by
  intro pins s σ H Q I h
  exact wpAny_BinOp (binT ha hb I h fun v u s2 x y H2 I2 rx ry q => ho pins s2 σ H2 x y v u Q I2 rx ry q)
theorem pe_un {op : UnaryOp} {r : V → Hp → VK → Prop} (ho : UnR X (unaryOp op) r) (ha : PE X a ta) : PE X (.UnaryOp op a pos) (tUn r ta) := by
  intro pins s σ H Q I h
  exact UnaryOp_ (thn (ha pins s σ H _ I h) fun v s1 ⟨x, H1, I1, r1, q1⟩ => ho pins s1 σ H1 x v Q I1 r1 q1)
/-! ### ints -/
theorem opI {f : Value → Value → Sem Value} {C : Int → Int → Prop} {g : Int → Int → Int}
    (rule : ∀ (i j : Int) (t u : Tok) (s : Shared) (Q : Value → Shared → Prop) (E : Value → Shared → Prop), C i j → Q (.int (g i j) s.toks) { s with toks := s.toks + 1 } → wpAny (model X.prog X.w) X.A (f (.int i t) (.int j u)) Q E s) :
    OpR X f (rI C fun i j => .int (g i j)) := by
  intro pins s σ H x y v u Q I rx ry h
  obtain ⟨i, j, rfl, rfl, hc, q⟩ := h
  obtain ⟨t, rfl⟩ := rx
  obtain ⟨t', rfl⟩ := ry
  exact rule i j t t' s _ _ hc ⟨.int (g i j), H, I.tok _, ⟨_, rfl⟩, q⟩
theorem opI0 {f : Value → Value → Sem Value} {g : Int → Int → Int}
    (rule : ∀ (i j : Int) (t u : Tok) (s : Shared) (Q : Value → Shared → Prop) (E : Value → Shared → Prop), Q (.int (g i j) s.toks) { s with toks := s.toks + 1 } → wpAny (model X.prog X.w) X.A (f (.int i t) (.int j u)) Q E s) :
    OpR X f (rI0 fun i j => .int (g i j)) := by
  intro pins s σ H x y v u Q I rx ry h
  obtain ⟨i, j, rfl, rfl, q⟩ := h
  obtain ⟨t, rfl⟩ := rx
  obtain ⟨t', rfl⟩ := ry
  exact rule i j t t' s _ _ ⟨.int (g i j), H, I.tok _, ⟨_, rfl⟩, q⟩
theorem opB0 {f : Value → Value → Sem Value} {g : Int → Int → Bool}
    (rule : ∀ (i j : Int) (t u : Tok) (s : Shared) (Q : Value → Shared → Prop) (E : Value → Shared → Prop), Q (.bool (g i j)) s → wpAny (model X.prog X.w) X.A (f (.int i t) (.int j u)) Q E s) :
    OpR X f (rI0 fun i j => .bl (g i j)) := by
  intro pins s σ H x y v u Q I rx ry h
  obtain ⟨i, j, rfl, rfl, q⟩ := h
  obtain ⟨t, rfl⟩ := rx
  obtain ⟨t', rfl⟩ := ry
  exact rule i j t t' s _ _ ⟨.bl (g i j), H, I, rfl, q⟩

def CDiv (i j : Int) : Prop := 0 < j ∧ j < 1073741824
def CPow (i j : Int) : Prop := 0 ≤ j ∧ j ≤ 1000000 ∧ i.natAbs < 2 ^ 64
def CMul (i j : Int) : Prop := (-(2 ^ 64) < i ∧ i < 2 ^ 64) ∨ (-(2 ^ 64) < j ∧ j < 2 ^ 64)
theorem CMul.ok {i j : Int} (h : CMul i j) : IntMulOk i j := by
  rcases h with ⟨h1, h2⟩ | ⟨h1, h2⟩
  · exact .of_left (intBits_le_64 h1 h2)
  · exact .of_right (intBits_le_64 h1 h2)
theorem op_add : OpR X (binaryOp .Add) (rI0 fun i j => .int (i + j)) := opI0 fun _ _ _ _ _ _ _ q => add_int q
theorem op_sub : OpR X (binaryOp .Sub) (rI0 fun i j => .int (i - j)) := opI0 fun _ _ _ _ _ _ _ q => sub_int q
theorem op_mul : OpR X (binaryOp .Mult) (rI CMul fun i j => .int (i * j)) := opI fun _ _ _ _ _ _ _ hc q => mul_int q hc.ok
/-- // by a positive divisor -/
theorem op_fdiv : OpR X (binaryOp .FloorDiv) (rI CDiv fun i j => .int (i / j)) := opI fun i j _ _ _ _ _ hc q => by
  have h1 : (0 : Int) < j := hc.1
  have h2 : j < 1073741824 := hc.2
  exact floordiv_int (by omega) (by rw [Int.fdiv_eq_ediv_of_nonneg i (by omega)]; exact q) (.inl (PyProof.noPylong_small (by omega)))
/-- % by a positive divisor of any size -/
theorem op_mod : OpR X (binaryOp .Mod) (rI (fun _ j => 0 < j) fun i j => .int (i % j)) := opI fun i j _ _ _ _ _ hc q => by
  have h1 : (0 : Int) < j := hc
  exact mod_int' (by omega) (by rw [Int.fmod_eq_emod_of_nonneg i (by omega)]; exact q)
theorem op_pow : OpR X (binaryOp .Pow) (rI CPow fun i j => .int (i ^ j.toNat)) := opI fun _ _ _ _ _ _ _ hc q => pow_int_small hc.1 hc.2.1 hc.2.2 q
theorem unI {f : Value → Sem Value} {g : Int → Int}
    (rule : ∀ (i : Int) (t : Tok) (s : Shared) (Q : Value → Shared → Prop) (E : Value → Shared → Prop), Q (.int (g i) s.toks) { s with toks := s.toks + 1 } → wpAny (model X.prog X.w) X.A (f (.int i t)) Q E s) :
    UnR X f (rU fun i => .int (g i)) := by
  intro pins s σ H x v Q I rx h
  obtain ⟨i, rfl, q⟩ := h
  obtain ⟨t, rfl⟩ := rx
  exact rule i t s _ _ ⟨.int (g i), H, I.tok _, ⟨_, rfl⟩, q⟩
theorem un_neg : UnR X (unaryOp .USub) (rU fun i => .int (-i)) := unI fun _ _ _ _ _ q => neg_int q
/-! ### bools among ints: n += (a < b) -/
end

/-! ### comparisons -/
/-- the scalars that == tells apart as data does -/
def scal : V → V → Bool
  | .non, .non => true | .non, .int _ => true | .int _, .non => true | .non, .bl _ => true | .bl _, .non => true | .non, .str _ => true | .str _, .non => true
  | .int _, .int _ => true | .bl _, .bl _ => true | .str _, .str _ => true | .byt _, .byt _ => true
  | .int _, .str _ => true | .str _, .int _ => true | .bl _, .str _ => true | .str _, .bl _ => true
  | _, _ => false
def rEq : R2 := fun x y H Q => scal x y = true ∧ Q (.bl (decide (x = y))) H
def rNe : R2 := fun x y H Q => scal x y = true ∧ Q (.bl (!decide (x = y))) H

theorem dec_int {i j : Int} : decide (V.int i = V.int j) = (i == j) := by
  rw [Bool.eq_iff_iff]
  simp
theorem dec_bl {i j : Bool} : decide (V.bl i = V.bl j) = (i == j) := by
  rw [Bool.eq_iff_iff]
  simp
theorem dec_str {i j : Str} : decide (V.str i = V.str j) = (i == j) := by
  rw [Bool.eq_iff_iff]
  simp
theorem dec_byt {i j : Array UInt8} : decide (V.byt i = V.byt j) = (i.toList == j.toList) := by
  rw [Bool.eq_iff_iff]
  cases i
  cases j
  simp

section
variable {X : Cx} {a b c : Expr} {ta tb tc : TE} {pos : Pos}
theorem fin_bl {pins : List (Addr × Obj)} {σ : St} {H : Hp} {s : Shared} {Q : VK} {k k' : Bool} (I : Inv X pins σ H s) (q : Q (.bl k) H) (e : k = k') : EP X pins σ Q (.bool k') s := by
  subst e
  exact ⟨.bl k, H, I, rfl, q⟩
theorem op_eq : OpR X (compareOp .Eq) rEq := by
  intro pins s σ H x y v u Q I rx ry h
  obtain ⟨hs, q⟩ := h
  cases x with
  | non =>
    cases rx
    cases y with
    | non => cases ry; exact PySem.EqNone.eq_none_none (fin_bl I q (by simp))
    | bl j => cases ry; exact PySem.EqNone.eq_none_bool (fin_bl I q (by simp))
    | int j => obtain ⟨t', rfl⟩ := ry; exact PySem.EqNone.eq_none_int (fin_bl I q (by simp))
    | str j => obtain ⟨t', rfl⟩ := ry; exact PySem.EqNone.eq_none_str (fin_bl I q (by simp))
    | _ => exact absurd (show false = true from hs) Bool.false_ne_true
  | bl i =>
    cases rx
    cases y with
    | non => cases ry; exact PySem.EqNone.eq_bool_none (fin_bl I q (by simp))
    | bl j => cases ry; exact eq_bool (fin_bl I q dec_bl)
    | str j => obtain ⟨t', rfl⟩ := ry; exact PySem.EqMixed.eq_bool_str (fin_bl I q (by simp))
    | _ => exact absurd (show false = true from hs) Bool.false_ne_true
  | int i =>
    obtain ⟨t, rfl⟩ := rx
    cases y with
    | non => cases ry; exact PySem.EqNone.eq_int_none (fin_bl I q (by simp))
    | int j => obtain ⟨t', rfl⟩ := ry; exact eq_int (fin_bl I q dec_int)
    | str j => obtain ⟨t', rfl⟩ := ry; exact PySem.EqMixed.eq_int_str (fin_bl I q (by simp))
    | _ => exact absurd (show false = true from hs) Bool.false_ne_true
  | str i =>
    obtain ⟨t, rfl⟩ := rx
    cases y with
    | non => cases ry; exact PySem.EqNone.eq_str_none (fin_bl I q (by simp))
    | bl j => cases ry; exact PySem.EqMixed.eq_str_bool (fin_bl I q (by simp))
    | int j => obtain ⟨t', rfl⟩ := ry; exact PySem.EqMixed.eq_str_int (fin_bl I q (by simp))
    | str j => obtain ⟨t', rfl⟩ := ry; exact eq_str (fin_bl I q dec_str)
    | _ => exact absurd (show false = true from hs) Bool.false_ne_true
  | byt i =>
    obtain ⟨t, rfl⟩ := rx
    cases y with
    | byt j => obtain ⟨t', rfl⟩ := ry; exact PySem.W.eq_bytes (fin_bl I q dec_byt)
    | _ => exact absurd (show false = true from hs) Bool.false_ne_true
  | _ => cases y <;> exact absurd (show false = true from hs) Bool.false_ne_true
theorem op_ne : OpR X (compareOp .NotEq) rNe := by
  intro pins s σ H x y v u Q I rx ry h
  obtain ⟨hs, q⟩ := h
  cases x with
  | non =>
    cases rx
    cases y with
    | non => cases ry; exact PySem.EqNone.ne_none_none (fin_bl I q (by simp))
    | bl j => cases ry; exact PySem.EqNone.ne_none_bool (fin_bl I q (by simp))
    | int j => obtain ⟨t', rfl⟩ := ry; exact PySem.EqNone.ne_none_int (fin_bl I q (by simp))
    | str j => obtain ⟨t', rfl⟩ := ry; exact PySem.EqNone.ne_none_str (fin_bl I q (by simp))
    | _ => exact absurd (show false = true from hs) Bool.false_ne_true
  | bl i =>
    cases rx
    cases y with
    | non => cases ry; exact PySem.EqNone.ne_bool_none (fin_bl I q (by simp))
    | bl j => cases ry; exact ne_bool (fin_bl I q (congrArg not dec_bl))
    | str j => obtain ⟨t', rfl⟩ := ry; exact PySem.EqMixed.ne_bool_str (fin_bl I q (by simp))
    | _ => exact absurd (show false = true from hs) Bool.false_ne_true
  | int i =>
    obtain ⟨t, rfl⟩ := rx
    cases y with
    | non => cases ry; exact PySem.EqNone.ne_int_none (fin_bl I q (by simp))
    | int j => obtain ⟨t', rfl⟩ := ry; exact ne_int (fin_bl I q (congrArg not dec_int))
    | str j => obtain ⟨t', rfl⟩ := ry; exact PySem.EqMixed.ne_int_str (fin_bl I q (by simp))
    | _ => exact absurd (show false = true from hs) Bool.false_ne_true
  | str i =>
    obtain ⟨t, rfl⟩ := rx
    cases y with
    | non => cases ry; exact PySem.EqNone.ne_str_none (fin_bl I q (by simp))
    | bl j => cases ry; exact PySem.EqMixed.ne_str_bool (fin_bl I q (by simp))
    | int j => obtain ⟨t', rfl⟩ := ry; exact PySem.EqMixed.ne_str_int (fin_bl I q (by simp))
    | str j => obtain ⟨t', rfl⟩ := ry; exact ne_str (fin_bl I q (congrArg not dec_str))
    | _ => exact absurd (show false = true from hs) Bool.false_ne_true
  | byt i =>
    obtain ⟨t, rfl⟩ := rx
    cases y with
    | byt j => obtain ⟨t', rfl⟩ := ry; exact PySem.W.ne_bytes (fin_bl I q (congrArg not dec_byt))
    | _ => exact absurd (show false = true from hs) Bool.false_ne_true
  | _ => cases y <;> exact absurd (show false = true from hs) Bool.false_ne_true

theorem op_lt : OpR X (compareOp .Lt) (rI0 fun i j => .bl (decide (i < j))) := opB0 fun _ _ _ _ _ _ _ q => lt_int q
theorem op_le : OpR X (compareOp .LtE) (rI0 fun i j => .bl (decide (i ≤ j))) := opB0 fun _ _ _ _ _ _ _ q => le_int q
theorem op_gt : OpR X (compareOp .Gt) (rI0 fun i j => .bl (decide (j < i))) := opB0 fun _ _ _ _ _ _ _ q => gt_int q
theorem op_ge : OpR X (compareOp .GtE) (rI0 fun i j => .bl (decide (j ≤ i))) := opB0 fun _ _ _ _ _ _ _ q => ge_int q
/-- two rules for one operation: by cases -/
theorem OpR.or {f : Value → Value → Sem Value} {r r' : R2} (h : OpR X f r) (h' : OpR X f r') : OpR X f (fun x y H Q => r x y H Q ∨ r' x y H Q) := by
  intro pins s σ H x y v u Q I rx ry q
  rcases q with q | q
  · exact h pins s σ H x y v u Q I rx ry q
  · exact h' pins s σ H x y v u Q I rx ry q

theorem nomark (b : Expr) {op : CmpOp} (h : op ≠ .In := by decide) (h2 : op ≠ .NotIn := by decide) : behindInMarks op b = false := by
  have e1 : (op == CmpOp.In) = false := by cases op <;> first | rfl | exact absurd rfl h
  have e2 : (op == CmpOp.NotIn) = false := by cases op <;> first | rfl | exact absurd rfl h2
  cases b <;> simp [behindInMarks, e1, e2]
/-- a comparison as a value; hm: nomark b, or (for in, not in) by with_unfolding_all rfl -/
theorem pe_cmpR {op : CmpOp} {r : R2} (ho : OpR X (compareOp op) r) (ha : PE X a ta) (hb : PE X b tb) (hm : behindInMarks op b = false) : PE X (.Compare a [op] [b] pos) (tOp r ta tb) := by
  intro pins s σ H Q I h
  exact wpAny_Compare1 (binT ha hb I h fun v u s2 x y H2 I2 rx ry q => ho pins s2 σ H2 x y v u Q I2 rx ry q) hm
/-- a reading of a value as a test -/
def tTest (t : TE) : TT := fun σ H Q => t σ H fun x H' => ∃ k, x = .bl k ∧ Q k H'
theorem pt_cmpR {op : CmpOp} {r : R2} (ho : OpR X (compareOp op) r) (ha : PE X a ta) (hb : PE X b tb) (hm : behindInMarks op b = false) : PT X (.Compare a [op] [b] pos) (tTest (tOp r ta tb)) := by
  intro pins s σ H Q I h
  refine wpAny_isTrue_Compare1 (thn (ha pins s σ H _ I h) fun v s1 ⟨x, H1, I1, r1, q1⟩ => thn (hb pins s1 σ H1 _ I1 q1) fun u s2 ⟨y, H2, I2, r2, q2⟩ =>
    thn (ho pins s2 σ H2 x y v u _ I2 r1 r2 q2) fun c s3 ⟨z, H3, I3, r3, k, e, q3⟩ => ?_) hm
  subst e
  cases r3
  exact wpAny_truthy_bool ⟨H3, I3, q3⟩
/-- a op1 b op2 c -/
def tChain (r r' : R2) (ta tb tc : TE) : TE := fun σ H Q => ta σ H fun x H1 => tb σ H1 fun y H2 => r x y H2 fun z H3 => ∃ k, z = .bl k ∧
  (if k = true then tc σ H3 fun w' H4 => r' y w' H4 Q else Q (.bl false) H3)
theorem pt_chain {op op' : CmpOp} {r r' : R2} (ho : OpR X (compareOp op) r) (ho' : OpR X (compareOp op') r') (ha : PE X a ta) (hb : PE X b tb) (hc : PE X c tc)
    (hm : lastMarks [op, op'] [b, c] = false := by with_unfolding_all rfl) : PT X (.Compare a [op, op'] [b, c] pos) (tTest (tChain r r' ta tb tc)) := by
  intro pins s σ H Q I h
  refine isTrue_chain (thn (ha pins s σ H _ I h) fun v s1 ⟨x, H1, I1, r1, q1⟩ => test_link (thn (hb pins s1 σ H1 _ I1 q1) fun u s2 ⟨y, H2, I2, r2, q2⟩ =>
    thn (ho pins s2 σ H2 x y v u _ I2 r1 r2 q2) fun d s3 ⟨z, H3, I3, r3, k, e, q3⟩ => ?_)) hm
  subst e
  cases r3
  refine wpAny_truthy_bool ?_
  cases k with
  | false =>
    obtain ⟨k', e', q'⟩ := q3
    cases e'
    exact ite_ff ⟨H3, I3, q'⟩
  | true =>
    refine ite_tt (test_last (thn (hc pins s3 σ H3 _ I3 q3) fun w' s4 ⟨z', H4, I4, r4, q4⟩ => thn (ho' pins s4 σ H4 y z' u w' _ I4 r2 r4 q4) fun d' s5 ⟨z2, H5, I5, r5, k2, e2, q5⟩ => ?_))
    subst e2
    cases r5
    exact wpAny_truthy_bool ⟨H5, I5, q5⟩

/-! ### truth -/
theorem line63 : (sizeLine : Nat) < 2 ^ 63 := by rw [sizeLine_eq]; decide
/-! ### strs and bytes -/
/-! ### scalar builtins, by CallR -/
theorem vals1 {x : V} {us : List Value} (r : Vals [x] us) : ∃ u, us = [u] ∧ RelV x u := by
  cases r with
  | cons r1 r2 => cases r2; exact ⟨_, rfl, r1⟩
theorem vals2 {x y : V} {us : List Value} (r : Vals [x, y] us) : ∃ u w', us = [u, w'] ∧ RelV x u ∧ RelV y w' := by
  cases r with
  | cons r1 r2 =>
    cases r2 with
    | cons r3 r4 => cases r4; exact ⟨_, _, rfl, r1, r3⟩
theorem call_int1 : CallR X (.type "int") (fun xs H Q => (∃ i, xs = [.int i] ∧ Q (.int i) H) ∨ ∃ k, xs = [.bl k] ∧ Q (.int (if k then 1 else 0)) H) := by
  intro pins s σ H xs us Q I r h
  rcases h with ⟨i, rfl, q⟩ | ⟨k, rfl, q⟩
  · obtain ⟨u, rfl, t, rfl⟩ := vals1 r
    exact call_int_int ⟨.int i, H, I, ⟨_, rfl⟩, q⟩
  · obtain ⟨u, rfl, r1⟩ := vals1 r
    cases r1
    exact call_int_bool ⟨.int (if k then 1 else 0), H, I.tok _, ⟨_, rfl⟩, q⟩
end
end L2

namespace L2
open PySem PySem.Spec PyProof.Rows

/-! ### an instance, its attributes a map -/
structure ObjM (h : Heap) (x dx C : Addr) (mA : Str → Option Value) : Prop where
  obj : h.get? x = some (PySem.W.instObj C dx)
  ns : h.Ns1 dx mA
  ne : dx ≠ x

theorem lookIn_ns {h : Heap} {dx : Addr} {mA : Str → Option Value} (n : h.Ns1 dx mA) : ∃ od, h.get? dx = some od ∧ ∀ name, PySem.W.lookIn name od = some (mA name) := by
  obtain ⟨o, es, ep, ho, hd, hk, _, hm⟩ := n
  refine ⟨o, ho, fun name => ?_⟩
  have e := hm name
  unfold nsFind findBy at e
  rw [← Array.find?_toList] at e
  unfold PySem.W.lookIn
  rw [hd]
  dsimp only
  split
  · rename_i y q
    rw [q] at e
    exact congrArg some e
  · rename_i q
    rw [q] at e
    have a : es.toList.any (·.refKey) = false := by
      rw [List.any_eq_false]
      intro y hy
      obtain ⟨z, t, hkey⟩ := hk y (Array.mem_toList_iff.mp hy)
      simp [DictEntry.refKey, hkey]
    have a' : ¬ es.toList.any (·.refKey) = true := by rw [a]; exact Bool.false_ne_true
    rw [if_neg a']
    exact congrArg some e

theorem ObjM.look {h : Heap} {x dx C : Addr} {mA : Str → Option Value} (I : ObjM h x dx C mA) : ∃ od, PySem.W.InstAt h x (PySem.W.instObj C dx) C (some od) ∧ ∀ name, PySem.W.lookIn name od = some (mA name) :=
  let ⟨od, ho, hl⟩ := lookIn_ns I.ns
  ⟨od, ⟨I.obj, rfl, rfl, ho⟩, hl⟩

section
variable {prog : Program} {w : World} {A : Around} {E : Value → Shared → Prop} {s : Shared} {K : PySem.W.Frag} {x dx C f : Addr} {mA : Str → Option Value} {name : Str} {v : Value}

theorem get_map {expr : Bool} {Q : Value → Shared → Prop} (X : K.In s.heap) (I : ObjM s.heap x dx C mA) (hg : PySem.W.plainGet K C name = true) (hh : PySem.W.hasDictIn K C = true)
    (ha : PySem.W.findIn K (.ref C) name = some none) (hv : mA name = some v) (hv' : PySem.W.handedIn v = true) (h : Q v { s with toks := s.toks + 1 }) :
    wpAny (model prog w) A (getAttr (.ref x) name expr) Q E s := by
  obtain ⟨od, J, hl⟩ := I.look
  exact PySem.W.get_value X J (PySem.W.plainGet_of hg).1 (PySem.W.findObj_own hh ha rfl (by rw [hl, hv])) hv' h

theorem get_meth {pl : Sem Bool} {Q : Value × List Value → Shared → Prop} (X : K.In s.heap) (I : ObjM s.heap x dx C mA) (hg : PySem.W.plainGet K C name = true)
    (hf : PySem.W.findIn K (.ref C) name = some (some (.ref f))) (ht : PySem.W.isFn K (.ref f) = true) (hv : mA name = none) (h : Q (.ref f, [.ref x]) s) :
    wpAny (model prog w) A (getMethod (.ref x) name pl) Q E s := by
  obtain ⟨od, J, hl⟩ := I.look
  exact PySem.W.method_fn X J (PySem.W.plainGet_of hg).1 (PySem.W.plainGet_of hg).2 hf (beq_iff_eq.mp ht) (by show (PySem.W.lookIn name od).map (·.isSome) = some false; rw [hl, hv]; rfl) h

theorem set_map {ns : List Str} {Q : Unit → Shared → Prop} (X : K.In s.heap) (I : ObjM s.heap x dx C mA)
    (hs : PySem.W.findIn K (.ref C) "__setattr__" = some (some (.builtin "object.__setattr__"))) (hp : PySem.W.plainOver K C = true) (ht : PySem.W.takerIn K C name = some none) (hh : PySem.W.hasDictIn K C = true)
    (hw : PySem.Within mA ns) (hsz : ns.length ≤ sizeLine)
    (h : ∀ h', ObjM h' x dx C (fun y => if y = name then some v else mA y) → Heap.SameBut dx s.heap h' → Q () { s with heap := h', toks := s.toks + 2 }) :
    wpAny (model prog w) A (setAttr (.ref x) name v) Q E s := by
  obtain ⟨od, J, hl⟩ := I.look
  refine PySem.W.set_plain X J hs (PySem.W.osa_open (s := { s with toks := s.toks + 1 }) (r := none) X J hp ht fun b => ?_)
  obtain ⟨cd, hc, hd'⟩ := PySem.W.any_some hh
  have hx : s.heap.get? x = some ⟨.ref C, some dx, .plain, #[]⟩ := I.obj
  refine wpAny_bind (wpAny_pure (wpAny_bind (wpAny_bind (wpAny_loadPart hx (wpAny_bind (PySem.W.Looks.here (s := { s with toks := s.toks + 1 }) (PySem.W.looks_clsIn X hc) ?_))))))
  rw [hd']
  refine wpAny_pure (a := some dx) (wpAny_bind (wpAny_pure (wpAny_bind ?_)))
  refine wpAny_nsSet1 (s := { s with toks := s.toks + 1 }) I.ns fun h' hn2 hs2 => ?_
  obtain ⟨oD, esD, epD, hoD, hdD, hcD⟩ := hn2.count (PySem.Within.cons name v hw)
  refine wpAny_bind (wpAny_lookBehind hoD (by rw [hdD]; exact pastItsLine_dict (Nat.le_trans hcD (by rw [List.length_cons]; omega))) ?_)
  exact wpAny_pure (h _ ⟨(hs2.2 _ (Ne.symm I.ne)).trans I.obj, hn2, I.ne⟩ hs2)

/-- C(..): the dict at the heap's end, the instance behind it; then its __init__ -/
theorem make_map {R : Result → Shared → Prop} {vs : List Value} {kw : List (Str × Value)} (X : K.In s.heap) (hm : PySem.W.makesIn K C = true)
    (hi : PySem.W.findIn K (.ref C) "__init__" = some (some (.ref f))) (hf : PySem.W.typeIn K (.ref f) = some (.type "function"))
    (h : codeAny (model prog w) (A.under (.builtin "type.__call__" ⟨.ref C :: vs, kw⟩)) (.call (.ref f) ⟨.ref (s.heap.objs.size + 1) :: vs, kw⟩) (PySem.W.InitBack (s.heap.objs.size + 1) R)
      { s with heap := (s.heap.push PySem.W.emptyDict).push (PySem.W.instObj C s.heap.objs.size) }) :
    codeAny (model prog w) A (.call (.ref C) ⟨vs, kw⟩) R s := by
  obtain ⟨hh, g, d, t, os⟩ := s
  exact PySem.W.make_core (PySem.W.makes_of X hm) (PySem.W.looks_findIn X hi) (fun self => PySem.W.bind_fn X self hf) (.inl rfl) h
end

/-! ### the attributes as a list of pairs -/
def putF (f : Str) (v : V) : List (Str × V) → List (Str × V)
  | [] => [(f, v)]
  | (g, x) :: r => if g = f then (g, v) :: r else (g, x) :: putF f v r
theorem lookup_putF (f g : Str) (v : V) : ∀ fs : List (Str × V), (putF f v fs).lookup g = if g = f then some v else fs.lookup g
  | [] => by
    show List.lookup g [(f, v)] = _
    by_cases h : g = f
    · have hb : (g == f) = true := beq_iff_eq.mpr h
      simp only [List.lookup, hb, if_pos h]
    · have hb : (g == f) = false := beq_eq_false_iff_ne.mpr h
      simp only [List.lookup, hb, if_neg h]
  | (k, x) :: r => by
    have ih := lookup_putF f g v r
    rw [show putF f v ((k, x) :: r) = (if k = f then (k, v) :: r else (k, x) :: putF f v r) from rfl]
    by_cases hk : k = f
    · rw [if_pos hk]
      by_cases h : g = k
      · have hb : (g == k) = true := beq_iff_eq.mpr h
        simp only [List.lookup, hb, if_pos (h.trans hk)]
      · have hb : (g == k) = false := beq_eq_false_iff_ne.mpr h
        simp only [List.lookup, hb, if_neg (fun e : g = f => h (e.trans hk.symm))]
    · rw [if_neg hk]
      by_cases h : g = k
      · have hb : (g == k) = true := beq_iff_eq.mpr h
        simp only [List.lookup, hb, if_neg (fun e : g = f => hk (h.symm.trans e))]
      · have hb : (g == k) = false := beq_eq_false_iff_ne.mpr h
        simp only [List.lookup, hb]
        exact ih
theorem keys_putF (f : Str) (v : V) : ∀ fs : List (Str × V), f ∈ (putF f v fs).map (·.1) ∧ ∀ g, g ∈ fs.map (·.1) → g ∈ (putF f v fs).map (·.1)
  | [] => ⟨by simp [putF], fun g h => by simp at h⟩
  | (k, x) :: r => by
    obtain ⟨i1, i2⟩ := keys_putF f v r
    rw [show putF f v ((k, x) :: r) = (if k = f then (k, v) :: r else (k, x) :: putF f v r) from rfl]
    by_cases hk : k = f
    · rw [if_pos hk]
      subst hk
      exact ⟨by simp, fun g h => by simpa using h⟩
    · rw [if_neg hk]
      refine ⟨?_, fun g h => ?_⟩
      · rw [List.map_cons]
        exact List.mem_cons_of_mem _ i1
      · rw [List.map_cons] at h ⊢
        rcases List.mem_cons.mp h with e | e
        · exact List.mem_cons.mpr (.inl e)
        · exact List.mem_cons_of_mem _ (i2 g e)
theorem length_putF (f : Str) (v : V) : ∀ fs : List (Str × V), (putF f v fs).length ≤ fs.length + 1
  | [] => by simp [putF]
  | (k, x) :: r => by
    have ih := length_putF f v r
    rw [show putF f v ((k, x) :: r) = (if k = f then (k, v) :: r else (k, x) :: putF f v r) from rfl]
    by_cases hk : k = f
    · rw [if_pos hk, List.length_cons, List.length_cons]; omega
    · rw [if_neg hk, List.length_cons, List.length_cons]; omega

theorem RelO.some_of {v : V} {o : Option Value} (r : RelO (some v) o) : ∃ u, o = some u ∧ RelV v u := by
  cases o with
  | none => exact (show False from r).elim
  | some u => exact ⟨u, rfl, r⟩
theorem RelO.none_of {o : Option Value} (r : RelO none o) : o = none := by
  cases o with
  | none => rfl
  | some u => exact (show False from r).elim
theorem handed_of {v : V} {u : Value} (r : RelV v u) : PySem.W.handedIn u = true := by
  cases v with
  | non => cases (show u = Value.none from r); rfl
  | bl b => cases (show u = Value.bool b from r); rfl
  | int i => obtain ⟨t, e⟩ := (show ∃ t, u = Value.int i t from r); cases e; rfl
  | str x => obtain ⟨t, e⟩ := (show ∃ t, u = Value.str x t from r); cases e; rfl
  | byt b => obtain ⟨t, e⟩ := (show ∃ t, u = Value.bytes b t from r); cases e; rfl
  | flt b => obtain ⟨t, e⟩ := (show ∃ t, u = Value.float b t from r); cases e; rfl
  | ref a => cases (show u = Value.ref a from r); rfl
  | ty n => cases (show u = Value.type n from r); rfl

section
variable {P : Program} {w : World} {H H' : Hp} {h h' : Heap} {a C dx : Addr} {fs fs' : List (Str × V)}
theorem ins_get (hok : HOk P w H h) (e : H a = some (.ins C dx fs)) : ∃ mA, ObjM h a dx C mA ∧ (∀ f, RelO (fs.lookup f) (mA f)) ∧ PySem.Within mA (fs.map (·.1)) ∧ fs.length ≤ 1000 ∧ H dx = some (.own a) := by
  obtain ⟨d, z, ne, ob, mA, n, r, q⟩ := (show ObjOk P w H h a (.ins C dx fs) from hok a _ e)
  exact ⟨mA, ⟨ob, n, ne⟩, r, q, z, d⟩
end

/-! ### what of the text a class must have -/
structure Cls (K : PySem.W.Frag) (C : Addr) : Prop where
  pg : PySem.W.plainGet K C Str.empty = true
  hd : PySem.W.hasDictIn K C = true
  po : PySem.W.plainOver K C = true
  sa : PySem.W.findIn K (.ref C) "__setattr__" = some (some (.builtin "object.__setattr__"))
theorem Cls.get {K : PySem.W.Frag} {C : Addr} (c : Cls K C) (f : Str) : PySem.W.plainGet K C f = true := c.pg
/-- no class of it has the name -/
def NoAttr (K : PySem.W.Frag) (C : Addr) (f : Str) : Prop := PySem.W.findIn K (.ref C) f = some none
theorem NoAttr.taker {K : PySem.W.Frag} {C : Addr} {f : Str} (n : NoAttr K C f) : PySem.W.takerIn K C f = some none := by
  unfold PySem.W.takerIn
  rw [show PySem.W.findIn K (.ref C) f = some none from n]
  rfl
/-- a constant of the class -/
structure Con (K : PySem.W.Frag) (C : Addr) (f : Str) (v : V) (u : Value) : Prop where
  at_ : PySem.W.findIn K (.ref C) f = some (some u)
  rel : RelV v u
  get : PySem.W.specialIn K u "__get__" = some none
  cp : PySem.W.copiedNames.contains f = false
/-- a method: a plain def of the class or of one above it -/
structure Meth (K : PySem.W.Frag) (C : Addr) (m : Str) (f : Addr) : Prop where
  at_ : PySem.W.findIn K (.ref C) m = some (some (.ref f))
  fn : PySem.W.isFn K (.ref f) = true
  kp : PySem.W.keepIn K (.ref f) = true

section
variable {X : Cx} {pins : List (Addr × Obj)} {σ : St} {H : Hp} {s : Shared} {a C dx : Addr} {fs : List (Str × V)} {f : Str} {v : V} {A : Around} {E : Value → Shared → Prop}

theorem getattr_ok {b : Bool} {Q : Value → Shared → Prop} (I : Inv X pins σ H s) (e : H a = some (.ins C dx fs)) (c : Cls X.K C) (n : NoAttr X.K C f) (l : fs.lookup f = some v)
    (h : ∀ u s', Inv X pins σ H s' → RelV v u → Q u s') : wpAny (model X.prog X.w) A (getAttr (.ref a) f b) Q E s := by
  obtain ⟨mA, O, r, _, _, _⟩ := ins_get I.hok e
  obtain ⟨u, hu, ru⟩ := RelO.some_of (v := v) (o := mA f) (by rw [← l]; exact r f)
  exact get_map I.kIn O (c.get f) c.hd n hu (handed_of ru) (h u _ (I.tok _) ru)

theorem getmeth_ok {m : Str} {g : Addr} {pl : Sem Bool} {Q : Value × List Value → Shared → Prop} (I : Inv X pins σ H s) (e : H a = some (.ins C dx fs)) (c : Cls X.K C) (k : Meth X.K C m g) (l : fs.lookup m = none)
    (h : Q (.ref g, [.ref a]) s) : wpAny (model X.prog X.w) A (getMethod (.ref a) m pl) Q E s := by
  obtain ⟨mA, O, r, _, _, _⟩ := ins_get I.hok e
  have hn : mA m = none := RelO.none_of (by rw [← l]; exact r m)
  exact get_meth I.kIn O (c.get m) k.at_ k.fn hn h

theorem setattr_ok {y : V} {u : Value} {Q : Unit → Shared → Prop} (I : Inv X pins σ H s) (e : H a = some (.ins C dx fs)) (c : Cls X.K C) (n : NoAttr X.K C f) (hl : fs.length < 1000) (ry : RelV y u)
    (h : ∀ s', Inv X pins σ (upd H a (.ins C dx (putF f y fs))) s' → Q () s') : wpAny (model X.prog X.w) A (setAttr (.ref a) f u) Q E s := by
  obtain ⟨mA, O, r, wi, _, ho⟩ := ins_get I.hok e
  have hz : (fs.map (·.1)).length ≤ sizeLine := by rw [List.length_map, sizeLine_eq]; omega
  refine set_map I.kIn O c.sa c.po n.taker c.hd wi hz fun h' O' sb => h _ ?_
  have hd : ∃ o, h'.get? dx = some o := let ⟨o, _, _, e', _⟩ := O'.ns; ⟨o, e'⟩
  refine I.write (x := a) (e := dx) (by rw [e]; exact True.intro) (.inr ho) (fun b q hb z => (sb.2 b hb).trans z) hd ?_
  refine ⟨by rw [upd_ne O.ne]; exact ho, ?_, O.ne, O'.obj, _, O'.ns, fun g => ?_, fun g hg => ?_⟩
  · have := length_putF f y fs; omega
  · show RelO ((putF f y fs).lookup g) (if g = f then some u else mA g)
    rw [lookup_putF]
    by_cases q : g = f
    · rw [if_pos q, if_pos q]; exact ry
    · rw [if_neg q, if_neg q]; exact r g
  · by_cases q : g = f
    · rw [q]; exact (keys_putF f y fs).1
    · refine (keys_putF f y fs).2 g (wi g fun z => hg ?_)
      show (if g = f then some u else mA g) = none
      rw [if_neg q]; exact z

/-- a new instance, tracked, without attributes -/
theorem Inv.made (I : Inv X pins σ H s) : Inv X pins σ (upd (upd H s.heap.objs.size (.own (s.heap.objs.size + 1))) (s.heap.objs.size + 1) (.ins C s.heap.objs.size []))
    { s with heap := (s.heap.push PySem.W.emptyDict).push (PySem.W.instObj C s.heap.objs.size) } := by
  have e1 : (s.heap.push PySem.W.emptyDict).get? s.heap.objs.size = some PySem.W.emptyDict := Heap.get?_push_size s.heap rfl
  have e2 : ((s.heap.push PySem.W.emptyDict).push (PySem.W.instObj C s.heap.objs.size)).get? (s.heap.objs.size + 1) = some (PySem.W.instObj C s.heap.objs.size) := by
    have := Heap.get?_push_size (s.heap.push PySem.W.emptyDict) (o := PySem.W.instObj C s.heap.objs.size) rfl
    rwa [Heap.size_push] at this
  have e3 : (s.heap.push PySem.W.emptyDict).Ns s.heap.objs.size (fun _ => none) := ⟨PySem.W.emptyDict, #[], _, e1, rfl, (fun e he => absurd he (by simp)), fun _ => rfl⟩
  have I1 := I.laid (a := s.heap.objs.size) (o := .own (s.heap.objs.size + 1)) (h' := s.heap.push PySem.W.emptyDict) (t' := s.toks) (fun b u q => Heap.get?_push_of_some _ q) (Nat.le_refl _) ⟨_, e1⟩
  refine I1.laid (a := s.heap.objs.size + 1) (o := .ins C s.heap.objs.size []) (t' := s.toks) (fun b u q => Heap.get?_push_of_some _ q) (Nat.le_of_eq (Heap.size_push _ _)) ?_
  have ne : s.heap.objs.size ≠ s.heap.objs.size + 1 := Nat.ne_of_lt (Nat.lt_succ_self _)
  refine ⟨by rw [upd_ne ne, upd_same], Nat.zero_le _, ne, e2, fun _ => none, (Heap.Ns1.of_empty e3).at fun o q => Heap.get?_push_of_some _ q, fun _ => True.intro, fun y hy => absurd rfl hy⟩

/-- e.f where nothing but the object is asked: through attributeBase (super) and the last hold -/
theorem attr_of {prog : Program} {w : World} {env : Env} {e : Expr} {f : Str} {pos : Pos} {s : Shared} {Q : Value → Shared → Prop} (hb : attributeBase e f env (eval e env) = eval e env)
    (h : wpAny (model prog w) A (eval e env) (fun o s₁ => wpAny (model prog w) A (getAttr o f true) Q E s₁) E s) : wpAny (model prog w) A (eval (.Attribute e f pos) env) Q E s :=
  Attribute_any_ h (by rw [arm_eval_Attribute, hb])
end

/-! ### readings and rules -/
/-- e.f, an attribute of the instance -/
def tFld (K : PySem.W.Frag) (ta : TE) (f : Str) : TE := fun σ H Q => ta σ H fun x H1 => ∃ a C dx fs v, x = .ref a ∧ H1 a = some (.ins C dx fs) ∧ Cls K C ∧ NoAttr K C f ∧ fs.lookup f = some v ∧ Q v H1
/-- e.f = value -/
def sFld (K : PySem.W.Frag) (ta tv : TE) (f : Str) : TS := fun D σ H => tv σ H fun y H1 => ta σ H1 fun x H2 => ∃ a C dx fs, x = .ref a ∧ H2 a = some (.ins C dx fs) ∧ Cls K C ∧ NoAttr K C f ∧ fs.length < 1000 ∧
  D.nx σ (upd H2 a (.ins C dx (putF f y fs)))
/-- an augmented operator on two values -/
def InOp (X : Cx) (op : Operator) (rd : V → V → Hp → VK → Prop) : Prop :=
  ∀ (pins : List (Addr × Obj)) (s : Shared) (σ : St) (H : Hp) (x y : V) (u v : Value) (Q : VK), Inv X pins σ H s → RelV x u → RelV y v → rd x y H Q → wpAny (model X.prog X.w) X.A (inplaceOp op u v) (EP X pins σ Q) X.xe s
/-- e.f op= value -/
def sFldAug (K : PySem.W.Frag) (ta tv : TE) (rd : V → V → Hp → VK → Prop) (f : Str) : TS := fun D σ H => ta σ H fun x H1 => ∃ a C dx fs v, x = .ref a ∧ H1 a = some (.ins C dx fs) ∧ Cls K C ∧ NoAttr K C f ∧ fs.lookup f = some v ∧
  tv σ H1 fun y H2 => rd v y H2 fun z H3 => ∃ dx' fs', H3 a = some (.ins C dx' fs') ∧ fs'.length < 1000 ∧ D.nx σ (upd H3 a (.ins C dx' (putF f z fs')))

section
variable {X : Cx} {o e value : Expr} {f : Str} {pos pos' tpos : Pos} {ta tv : TE}
theorem pe_fld (he : PE X e ta) (hb : attributeBase e f X.env (eval e X.env) = eval e X.env) : PE X (.Attribute e f pos) (tFld X.K ta f) := by
  intro pins s σ H Q I h
  refine attr_of hb (thn (he pins s σ H _ I h) fun u s1 ⟨x, H1, I1, rx, a, C, dx, fs, v, ex, ea, c, n, l, q⟩ => ?_)
  subst ex
  obtain rfl : u = Value.ref a := rx
  exact getattr_ok I1 ea c n l fun u' s2 I2 ru => ⟨v, H1, I2, ru, q⟩
theorem ps_fld (ha : PE X o ta) (hv : PE X value tv) (hs : swapsWith value (some (.Attribute o f pos')) pos.line X.env = pure false) : PS X (.Assign [.Attribute o f pos'] value pos) (sFld X.K ta tv f) := by
  intro pins s σ H D I h
  refine plainObj_wpAny_Assign_Attribute (thn (hv pins s σ H _ I h) fun u s1 ⟨y, H1, I1, ry, q⟩ => thn (ha pins s1 σ H1 _ I1 q) fun ov s2 ⟨x, H2, I2, rx, a, C, dx, fs, ex, ea, c, n, l, q2⟩ => ?_) hs
  subst ex
  obtain rfl : ov = Value.ref a := rx
  exact setattr_ok I2 ea c n l ry fun s3 I3 => ⟨σ, _, I3, q2⟩
theorem ps_fldaug {op : Operator} {rd : V → V → Hp → VK → Prop} (ha : PE X o ta) (hv : PE X value tv) (hop : InOp X op rd) : PS X (.AugAssign (.Attribute o f tpos) op value pos) (sFldAug X.K ta tv rd f) := by
  intro pins s σ H D I h
  refine wpAny_AugAssign_AttributeAny (thn (ha pins s σ H _ I h) fun ov s1 ⟨x, H1, I1, rx, a, C, dx, fs, v, ex, ea, c, n, l, q⟩ => ?_)
  subst ex
  obtain rfl : ov = Value.ref a := rx
  refine getattr_ok I1 ea c n l fun u s2 I2 ru => thn (hv pins s2 σ H1 _ I2 q) fun w3 s3 ⟨y, H2, I3, ry, q3⟩ => thn (hop pins s3 σ H2 v y u w3 _ I3 ru ry q3) fun w4 s4 ⟨z, H3, I4, rz, dx', fs', ea', l', q4⟩ => ?_
  exact setattr_ok I4 ea' c n l' rz fun s5 I5 => ⟨σ, _, I5, q4⟩
def rAdd : V → V → Hp → VK → Prop := fun x y H Q => ∃ i j, x = .int i ∧ y = .int j ∧ Q (.int (i + j)) H
theorem in_add : InOp X .Add rAdd := by
  rintro pins s σ H x y u v Q I rx ry ⟨i, j, rfl, rfl, q⟩
  obtain ⟨t, rfl⟩ := (show ∃ t, u = Value.int i t from rx)
  obtain ⟨t', rfl⟩ := (show ∃ t', v = Value.int j t' from ry)
  exact PyProof.Rows.iadd_int ⟨.int (i + j), H, I.tok _, ⟨_, rfl⟩, q⟩
end

/-! ### isinstance -/
section
variable {X : Cx} {pins : List (Addr × Obj)} {σ : St} {H : Hp} {s : Shared} {A : Around} {E : Value → Shared → Prop} {Q : Value → Shared → Prop} {c : Value} {b : Bool}
/-- the type of a value, as the fragment's deciders take it; for an instance its class -/
inductive TyOf (K : PySem.W.Frag) (H : Hp) : V → Value → Prop where
  | non : TyOf K H .non (.type "NoneType")
  | bl (x : Bool) : TyOf K H (.bl x) (.type "bool")
  | int (i : Int) : TyOf K H (.int i) (.type "int")
  | str (x : Str) : TyOf K H (.str x) (.type "str")
  | flt (x : UInt64) : TyOf K H (.flt x) (.type "float")
  | lst {a : Addr} {xs : List V} (e : H a = some (.lst xs)) : TyOf K H (.ref a) (.type "list")
  | frz {a : Addr} {o : Obj} {xs : List V} (e : H a = some (.frz o (.lst xs))) : TyOf K H (.ref a) (.type "list")
  | tup {a : Addr} {xs : List V} (e : H a = some (.tup xs)) : TyOf K H (.ref a) (.type "tuple")
  | dK {a : Addr} {kvs : List (Key × V)} (e : H a = some (.dK kvs)) : TyOf K H (.ref a) (.type "dict")
  | dT {a : Addr} {kvs : List (List Key × V)} (e : H a = some (.dT kvs)) : TyOf K H (.ref a) (.type "dict")
  | ins {a C dx : Addr} {fs : List (Str × V)} (e : H a = some (.ins C dx fs)) (cl : Cls K C) (ha : PySem.W.findIn K (.ref C) "__class__" = some (some (.builtin "object.__class__")))
      (hn : PySem.W.specialIn K (.builtin "object.__class__") "__get__" = some (some (.builtin "getset_descriptor.__get__"))) (htk : PySem.W.takesIn K (.builtin "object.__class__") = some true)
      (hm : PySem.W.mroIn K C (.type "object") = some true) : TyOf K H (.ref a) (.ref C)
/-- isinstance(x, c) for one class c, a built-in or an own one: kitOne's answer -/
theorem isinst_ok {x : V} {u t : Value} (I : Inv X pins σ H s) (rx : RelV x u) (ty : TyOf X.K H x t) (e : PySem.W.kitOne X.K t c = some b) (h : ∀ tk, Q (.bool b) { s with toks := tk }) :
    wpAny (model X.prog X.w) A (call (.builtin "isinstance") [u, c]) Q E s := by
  cases ty with
  | non => cases (show u = Value.none from rx); exact PySem.W.kia_one PySem.W.kitx_none I.kIn True.intro e (fun z => nomatch z) h
  | bl y => cases (show u = Value.bool y from rx); exact PySem.W.kia_one PySem.W.kitx_bool I.kIn True.intro e (fun z => nomatch z) h
  | int i => obtain ⟨t, q⟩ := (show ∃ t, u = Value.int i t from rx); cases q; exact PySem.W.kia_one PySem.W.kitx_int I.kIn True.intro e (fun z => nomatch z) h
  | str y => obtain ⟨t, q⟩ := (show ∃ t, u = Value.str y t from rx); cases q; exact PySem.W.kia_one PySem.W.kitx_str I.kIn True.intro e (fun z => nomatch z) h
  | flt y => obtain ⟨t, q⟩ := (show ∃ t, u = Value.float y t from rx); cases q; exact PySem.W.kia_one PySem.W.kitx_float I.kIn True.intro e (fun z => nomatch z) h
  | @lst a xs ea =>
    cases (show u = Value.ref a from rx)
    obtain ⟨_, _, n, _, h1⟩ := (show ObjOk X.prog X.w H s.heap a (.lst xs) from I.hok a _ ea)
    exact PySem.W.kia_one PySem.W.kitx_list I.kIn ⟨_, h1, rfl⟩ e (fun z => nomatch z) h
  | @frz a ob xs ea =>
    cases (show u = Value.ref a from rx)
    obtain ⟨_, _, _, n, _, h1⟩ := (show ObjOk X.prog X.w H s.heap a (.frz ob (.lst xs)) from I.hok a _ ea)
    exact PySem.W.kia_one PySem.W.kitx_list I.kIn ⟨_, h1, rfl⟩ e (fun z => nomatch z) h
  | @tup a xs ea =>
    cases (show u = Value.ref a from rx)
    obtain ⟨_, _, _, p⟩ := (show ObjOk X.prog X.w H s.heap a (.tup xs) from I.hok a _ ea)
    obtain ⟨o, h1, h2, _⟩ := p
    exact PySem.W.kia_one PySem.W.kitx_tuple I.kIn ⟨o, h1, h2⟩ e (fun z => nomatch z) h
  | @dK a kvs ea =>
    cases (show u = Value.ref a from rx)
    obtain ⟨_, _, vs, _, p⟩ := (show ObjOk X.prog X.w H s.heap a (.dK kvs) from I.hok a _ ea)
    obtain ⟨o, es, ep, h1, h2, _⟩ := p
    exact PySem.W.kia_one PySem.W.kitx_dict I.kIn ⟨o, h1, h2.1⟩ e (fun z => nomatch z) h
  | @dT a kvs ea =>
    cases (show u = Value.ref a from rx)
    obtain ⟨_, _, xs, _, o, es, ep, h1, h2, _⟩ := (show ObjOk X.prog X.w H s.heap a (.dT kvs) from I.hok a _ ea)
    exact PySem.W.kia_one PySem.W.kitx_dict I.kIn ⟨o, h1, h2.1⟩ e (fun z => nomatch z) h
  | @ins a C dx fs ea cl ha hn htk hm =>
    cases (show u = Value.ref a from rx)
    obtain ⟨mA, O, _⟩ := ins_get I.hok ea
    obtain ⟨od, J, _⟩ := O.look
    exact PySem.W.kia_one (PySem.W.kitx_own (cl.get _) cl.hd ha hn htk hm) I.kIn J e (fun z => nomatch z) h
end
end L2

namespace L2
open PySem PySem.Spec PyProof.Rows

/-! ### room -/
structure Room (k : Nat) (A : Around) : Prop where
  hd : A.handled = none
  dp : A.depth + 3 * k + 5 < recursionLimit
  un : A.units + 16 * k + 200 < cLine
theorem Room.mono {j k : Nat} {A : Around} (r : Room k A) (h : j ≤ k) : Room j A := ⟨r.hd, by have := r.dp; omega, by have := r.un; omega⟩
theorem Room.deeper {k : Nat} {A : Around} (r : Room (k + 1) A) (env : Env) : Room k (A.deeper env) :=
  ⟨r.hd, by have := r.dp; show A.depth + 1 + 3 * k + 5 < _; omega, by have := r.un; show A.units + 3 + 16 * k + 200 < _; omega⟩
theorem Room.in1 {k : Nat} {A : Around} (r : Room (k + 1) A) : Room k A.in1 :=
  ⟨r.hd, by have := r.dp; show A.depth + 3 * k + 5 < _; omega, by have := r.un; show A.units + 1 + 16 * k + 200 < _; omega⟩
theorem make_depth {A : Around} {C : Addr} {us : List Value} {kw : List (Str × Value)} : (A.under (.builtin "type.__call__" ⟨.ref C :: us, kw⟩)).depth = A.depth + 1 := by
  first | rfl | simp [Around.under, Code.weight, Code.isCreation, Code.isGuard, Code.isCaller, Code.frames, Code.isFrame, guardIds]
theorem make_units {A : Around} {C : Addr} {us : List Value} {kw : List (Str × Value)} : (A.under (.builtin "type.__call__" ⟨.ref C :: us, kw⟩)).units = A.units + 1 := by
  first | rfl | simp [Around.under, Code.cUnits, Code.frames, Code.isFrame]
theorem Room.make {k : Nat} {A : Around} (r : Room (k + 1) A) (C : Addr) (us : List Value) (kw : List (Str × Value)) : Room k (A.under (.builtin "type.__call__" ⟨.ref C :: us, kw⟩)) :=
  ⟨r.hd, by have := r.dp; rw [make_depth]; omega, by have := r.un; rw [make_units]; omega⟩
theorem Room.depth {k : Nat} {A : Around} (r : Room k A) : A.depth < recursionLimit := by have := r.dp; omega
theorem Room.units {k : Nat} {A : Around} (r : Room k A) : A.units + 64 < cLine := by have := r.un; omega
/-! ### argument lists and displays -/
def tNil : TA := fun _ H Q => Q [] H
def tCons (ta : TE) (tr : TA) : TA := fun σ H Q => ta σ H fun x H1 => tr σ H1 fun xs H2 => Q (x :: xs) H2
section
variable {X : Cx} {e : Expr} {es : List Expr} {te : TE} {t : TA} {pos : Pos}
theorem pa_nil : PA X [] tNil := fun _ _ _ _ H Q I h => Calls.spliced_nil ⟨[], H, I, .nil, h⟩
theorem pa_cons (ha : PE X e te) (hr : PA X es t) (hs : starEach (e :: es) X.env = (false, eval e X.env) :: starEach es X.env := by rfl) : PA X (e :: es) (tCons te t) := by
  intro pos pins s σ H Q I h
  rw [hs]
  show wpAny _ _ (spliced ((false, eval e X.env) :: backTo pos (starEach es X.env))) _ _ s
  refine Calls.spliced_cons (thn (ha pins s σ H _ I h) fun u s1 ⟨x, H1, I1, r1, q1⟩ => ?_)
  exact thn (hr pos pins s1 σ H1 _ I1 q1) fun us s2 ⟨xs, H2, I2, r2, q2⟩ => ⟨x :: xs, H2, I2, .cons r1 r2, q2⟩

/-- a tuple, a list of written items -/
def tTup (t : TA) : TE := fun σ H Q => t σ H fun xs H1 => xs.length ≤ sizeLine ∧ ∀ p, H1 p = none → Q (.ref p) (upd H1 p (.tup xs))
def tLst (t : TA) : TE := fun σ H Q => t σ H fun xs H1 => xs.length ≤ sizeLine ∧ ∀ p, H1 p = none → Q (.ref p) (upd H1 p (.lst xs))
theorem pe_tup {x1} (h : PA X es t) : PE X (.Tuple es x1 pos) (tTup t) := by
  intro pins s σ H Q I hq
  refine wpAny_Tuple_spliced (thn (h pos pins s σ H _ I hq) fun us s1 ⟨xs, H1, I1, r, z, q⟩ => ⟨by rw [← r.length]; exact z, ?_⟩)
  have hf : H1 s1.heap.objs.size = none := I1.hok.fresh (Nat.le_refl _)
  refine ⟨.ref s1.heap.objs.size, upd H1 s1.heap.objs.size (.tup xs), I1.laid (t' := s1.toks) (fun b u e => Heap.get?_push_of_some _ e) (Nat.le_refl _) ?_, rfl, q _ hf⟩
  exact ⟨z, us, r, ⟨_, Heap.get?_push_size _ rfl, rfl, _, rfl⟩⟩
theorem pe_lst (h : PA X es t) : PE X (.List es pos) (tLst t) := by
  intro pins s σ H Q I hq
  refine wpAny_List_spliced (thn (h pos pins s σ H _ I hq) fun us s1 ⟨xs, H1, I1, r, z, q⟩ => ⟨by rw [← r.length]; exact z, ?_⟩)
  have hf : H1 s1.heap.objs.size = none := I1.hok.fresh (Nat.le_refl _)
  refine ⟨.ref s1.heap.objs.size, upd H1 s1.heap.objs.size (.lst xs), I1.laid (t' := s1.toks) (fun b u e => Heap.get?_push_of_some _ e) (Nat.le_refl _) ?_, rfl, q _ hf⟩
  exact ⟨z, us, 0, r, Heap.get?_push_size _ rfl⟩
end

/-! ### what a def promises -/
/-- a def's promise: the bound arguments in the parameters' order, the heap, the wanted end, the wanted exception -/
abbrev Sp := List V → Hp → VK → XK → Prop
/-- how an exception lies behind a call (file 08 gives it): the callers' frames, abstract heap and state ahead of the call, the wish, the exception, the state -/
abbrev CXT := List Env → Hp → Shared → XK → Value → Shared → Prop

/-- the state at a call -/
structure Env0 (P : Program) (w : World) (K : PySem.W.Frag) (mg : Str → Option Value) (base : Heap) (A : Around) (outer : List Env) (s : Shared) (H : Hp) : Prop where
  frames : A.frames = some outer
  mod : Mod K mg base
  bs : ∀ b o, base.get? b = some o → s.heap.get? b = some o ∧ H b = none
  bsz : base.objs.size ≤ s.heap.objs.size
  funs : s.heap.FunFrames base outer
  frf : ∀ b ∈ frs outer, H b = none
  hok : HOk P w H s.heap
  bare : AllBare s.gens
/-- a call's end -/
def CE (outer : List Env) (P : Program) (w : World) (H : Hp) (s : Shared) (Q : VK) (u : Value) (s' : Shared) : Prop :=
  ∃ v H', s'.os = s.os ∧ AllBare s'.gens ∧ Un (frs outer) [] H H' s.heap s'.heap ∧ HOk P w H' s'.heap ∧ RelV v u ∧ Q v H'
def CR (CX : CXT) (outer : List Env) (P : Program) (w : World) (H : Hp) (s : Shared) (Q : VK) (E : XK) (r : Result) (s' : Shared) : Prop :=
  match r with
  | .ok (.ret u) => CE outer P w H s Q u s'
  | .ok _ => False
  | .error e => CX outer H s E e s'
structure FnOk (P : Program) (w : World) (K : PySem.W.Frag) (mg : Str → Option Value) (base : Heap) (CX : CXT) (k : Nat) (f : Addr) (fd : FuncData) (ps : List Str) (sp : Sp) : Prop where
  len : ∀ vs H Q E, sp vs H Q E → vs.length = ps.length
  run : ∀ (A : Around) (outer : List Env) (s : Shared) (H : Hp) (args : Args) (us : List Value) (vs : List V) (Q : VK) (E : XK), Room k A → Env0 P w K mg base A outer s H → BindsTo s fd args (ps.zip us) → Vals vs us → sp vs H Q E →
    codeAny (model P w) A (.call (.ref f) args) (CR CX outer P w H s Q E) s
theorem FnOk.mono {P : Program} {w : World} {K : PySem.W.Frag} {mg : Str → Option Value} {base : Heap} {CX : CXT} {j k : Nat} {f : Addr} {fd : FuncData} {ps : List Str} {sp : Sp} (F : FnOk P w K mg base CX j f fd ps sp) (h : j ≤ k) :
    FnOk P w K mg base CX k f fd ps sp := ⟨F.len, fun A outer s H args us vs Q E hr => F.run A outer s H args us vs Q E (hr.mono h)⟩
/-- a weaker promise -/
theorem FnOk.imp {P : Program} {w : World} {K : PySem.W.Frag} {mg : Str → Option Value} {base : Heap} {CX : CXT} {k : Nat} {f : Addr} {fd : FuncData} {ps : List Str} {sp sp' : Sp} (F : FnOk P w K mg base CX k f fd ps sp)
    (h : ∀ vs H Q E, sp' vs H Q E → sp vs H Q E) : FnOk P w K mg base CX k f fd ps sp' :=
  ⟨fun vs H Q E q => F.len vs H Q E (h _ _ _ _ q), fun A outer s H args us vs Q E hr he hb hv hs => F.run A outer s H args us vs Q E hr he hb hv (h _ _ _ _ hs)⟩

theorem Env0.make {P : Program} {w : World} {K : PySem.W.Frag} {mg : Str → Option Value} {base : Heap} {A : Around} {outer : List Env} {s : Shared} {H : Hp} (e : Env0 P w K mg base A outer s H) (C : Addr) (us : List Value) (kw : List (Str × Value)) :
    Env0 P w K mg base (A.under (.builtin "type.__call__" ⟨.ref C :: us, kw⟩)) outer s H := ⟨by first | exact e.frames | (simpa [Around.under, Code.envs, Code.isFrame, pushEnvs] using e.frames), e.mod, e.bs, e.bsz, e.funs, e.frf, e.hok, e.bare⟩
theorem Env0.in1 {P : Program} {w : World} {K : PySem.W.Frag} {mg : Str → Option Value} {base : Heap} {A : Around} {outer : List Env} {s : Shared} {H : Hp} (e : Env0 P w K mg base A outer s H) :
    Env0 P w K mg base A.in1 outer s H := ⟨e.frames, e.mod, e.bs, e.bsz, e.funs, e.frf, e.hok, e.bare⟩

section
variable {X : Cx} {pins : List (Addr × Obj)} {σ : St} {H : Hp} {s s' : Shared}
/-- from a body: what a callee wants -/
theorem Inv.env0 (I : Inv X pins σ H s) : Env0 X.prog X.w X.K X.mg X.base X.A X.stack s H :=
  ⟨I.ok.frames, I.ok.mod, I.bs, Nat.le_trans I.ok.bsz I.sz, I.stack, I.stkFree, I.hok, I.bare⟩
/-- behind a call -/
theorem Inv.after {Q : VK} {u : Value} (I : Inv X pins σ H s) (h : CE X.stack X.prog X.w H s Q u s') : EP X pins σ Q u s' := by
  obtain ⟨v, H', os, bare, un, hok, r, q⟩ := h
  obtain ⟨hh, g, d, t, os'⟩ := s'
  obtain rfl : os' = s.os := os
  exact ⟨v, H', I.call (h' := hh) (g' := g) (d' := d) (t' := t) (ch := []) un hok bare (fun b z => absurd z (by simp)), r, q⟩
end

/-! ### calls -/
/-- f(..): the written arguments, then the defaults dvs; E: what is wanted of an exception -/
def tCall (sp : Sp) (dvs : List V) (E : XK) (t : TA) : TE := fun σ H Q => t σ H fun vs H1 => sp (vs ++ dvs) H1 Q E
/-- o.m(..) of an instance of the class at C -/
def tMeth (C : Addr) (m : Str) (sp : Sp) (dvs : List V) (E : XK) (ta : TE) (t : TA) : TE := fun σ H Q => ta σ H fun x H1 => ∃ a dx fs, x = .ref a ∧ H1 a = some (.ins C dx fs) ∧ fs.lookup m = none ∧
  t σ H1 fun vs H2 => sp (x :: (vs ++ dvs)) H2 Q E
/-- C(..): a new instance and its dict, then __init__ -/
def tMake (C : Addr) (sp : Sp) (dvs : List V) (E : XK) (t : TA) : TE := fun σ H Q => t σ H fun vs H1 => ∀ x dx, H1 x = none → H1 dx = none → dx ≠ x →
  sp (.ref x :: (vs ++ dvs)) (upd (upd H1 dx (.own x)) x (.ins C dx [])) (fun v H2 => v = .non ∧ Q (.ref x) H2) E

/-- how the parameters are bound: us the positional arguments, kw the keywords' values by name, ds the defaults that fill up -/
def Binds (K : PySem.W.Frag) (fd : FuncData) (ps : List Str) (ds : List Value) : Prop :=
  ∀ (s : Shared) (us : List Value), K.In s.heap → (us ++ ds).length = ps.length → BindsTo s fd ⟨us, []⟩ (ps.zip (us ++ ds))
/-- every parameter is given -/
theorem Binds.all {K : PySem.W.Frag} {fd : FuncData} {ps : List Str} (h : ∀ us : List Value, us.length = ps.length → bindArgs fd ⟨us, []⟩ = pure (ps.zip us)) : Binds K fd ps [] := fun s us _ hl => by
  rw [List.append_nil] at hl ⊢
  exact .of_eq (h us hl)

/-- an exception of a callee reaches what this body wants of exceptions -/
def Passes (CX : CXT) (X : Cx) (E : XK) : Prop := ∀ (pins : List (Addr × Obj)) (σ : St) (H : Hp) (s : Shared) (e : Value) (s' : Shared), Inv X pins σ H s → CX X.stack H s E e s' → X.xe e s'

section
variable {X : Cx} {CX : CXT} {k : Nat} {f C : Addr} {fd : FuncData} {ps : List Str} {sp : Sp} {dvs : List V} {ds : List Value} {E : XK} {x m : Str} {p pos apos : Pos} {e o : Expr} {es : List Expr} {ta : TE} {t : TA}

/-- the callee runs -/
theorem run_fn {pins : List (Addr × Obj)} {σ : St} {H : Hp} {s : Shared} {Q : VK} {us : List Value} {vs : List V} (F : FnOk X.prog X.w X.K X.mg X.base CX k f fd ps sp) (hr : Room k X.A) (hb : Binds X.K fd ps ds) (hd : Vals dvs ds) (hx : Passes CX X E)
    (I : Inv X pins σ H s) (r : Vals vs us) (h : sp (vs ++ dvs) H Q E) : wpAny (model X.prog X.w) X.A (call (.ref f) us) (EP X pins σ Q) X.xe s := by
  have r2 : Vals (vs ++ dvs) (us ++ ds) := r.append hd
  have hl : (us ++ ds).length = ps.length := by rw [← r2.length]; exact F.len _ _ _ _ h
  refine wpAny_call (codeAny_mono (F.run X.A X.stack s H ⟨us, []⟩ (us ++ ds) (vs ++ dvs) Q E hr I.env0 (hb s us I.kIn hl) r2 h) fun r s' hq => ?_)
  cases r with
  | error e => exact hx pins σ H s e s' I hq
  | ok fl =>
    cases fl with
    | ret u => exact I.after hq
    | next => exact False.elim hq
    | brk => exact False.elim hq
    | cont => exact False.elim hq

theorem pe_call (F : FnOk X.prog X.w X.K X.mg X.base CX k f fd ps sp) (hr : Room k X.A) (hg : Gl X x) (hm : X.mg x = some (.ref f)) (hk : PySem.W.keepIn X.K (.ref f) = true) (hb : Binds X.K fd ps ds) (hd : Vals dvs ds) (hx : Passes CX X E)
    (ha : PA X (e :: es) t) (hdb : (x == ("__debug__" : Str)) = false := by decide) (he : starEach (e :: es) X.env = (false, eval e X.env) :: starEach es X.env := by rfl) (hpl : (backTo pos (starEach es X.env)).any (·.1) = false := by rfl) :
    PE X (.Call (.Name x p) (e :: es) [] pos) (tCall sp dvs E t) := by
  intro pins s σ H Q I h
  refine wpAny_Call_Name_kw (ld_glob I hg hm ?_ hdb)
  refine PySem.W.callWith_K (h₀ := X.base) I.ok.mod.kin hk (thn (ha pos pins s σ H _ I h) fun us s1 ⟨vs, H1, I1, r, q⟩ => ⟨I1.kIn, ?_⟩) he hpl
  exact run_fn F hr hb hd hx I1 r q
/-- o.m(e, ..) -/
theorem pe_meth {pl : Sem Bool} (he : PE X o ta) (c : Cls X.K C) (hm : Meth X.K C m f) (F : FnOk X.prog X.w X.K X.mg X.base CX k f fd ps sp) (hr : Room k X.A) (hb : Binds X.K fd ps ds) (hd : Vals dvs ds) (hx : Passes CX X E) (ha : PA X (e :: es) t)
    (hst : starEach (e :: es) X.env = (false, eval e X.env) :: starEach es X.env := by rfl) (hpl : (backTo pos (starEach es X.env)).any (·.1) = false := by rfl)
    (ht : eval (.Call (.Attribute o m apos) (e :: es) [] pos) X.env = (do
      let ov ← eval o X.env
      standAt apos.atName
      let (f, first) ← holding [ov] (getMethod ov m pl)
      callWith pos f first (backTo pos (starEach (e :: es) X.env)) (backToKw pos (keywordEach [] X.env))) := by rfl) :
    PE X (.Call (.Attribute o m apos) (e :: es) [] pos) (tMeth C m sp dvs E ta t) := by
  intro pins s σ H Q I h
  refine PySem.W.methodCall_KW (pl := pl) (thn (he pins s σ H _ I h) fun u s1 ⟨x, H1, I1, rx, a, dx, fs, ex, ea, l, q⟩ => ?_) ht
  subst ex
  obtain rfl : u = Value.ref a := rx
  refine getmeth_ok I1 ea c hm l ?_
  refine PySem.W.callWith_K (first := [.ref a]) (h₀ := X.base) I.ok.mod.kin hm.kp (thn (ha pos pins s1 σ H1 _ I1 q) fun us s2 ⟨vs, H2, I2, r, q2⟩ => ⟨I2.kIn, ?_⟩) hst hpl
  exact run_fn (us := .ref a :: us) (vs := .ref a :: vs) F hr hb hd hx I2 (.cons rfl r) q2
/-- o.m() -/
theorem pe_meth0 {pl : Sem Bool} (he : PE X o ta) (c : Cls X.K C) (hm : Meth X.K C m f) (F : FnOk X.prog X.w X.K X.mg X.base CX k f fd ps sp) (hr : Room k X.A) (hb : Binds X.K fd ps ds) (hd : Vals dvs ds) (hx : Passes CX X E)
    (ht : eval (.Call (.Attribute o m apos) [] [] pos) X.env = (do
      let ov ← eval o X.env
      standAt apos.atName
      let (f, first) ← holding [ov] (getMethod ov m pl)
      callWith pos f first (backTo pos (starEach [] X.env)) (backToKw pos (keywordEach [] X.env))) := by rfl) :
    PE X (.Call (.Attribute o m apos) [] [] pos) (tMeth C m sp dvs E ta tNil) := by
  intro pins s σ H Q I h
  refine PySem.W.methodCall_KW (pl := pl) (thn (he pins s σ H _ I h) fun u s1 ⟨x, H1, I1, rx, a, dx, fs, ex, ea, l, q⟩ => ?_) ht
  subst ex
  obtain rfl : u = Value.ref a := rx
  refine getmeth_ok I1 ea c hm l ?_
  exact PySem.W.callWith_K0 (first := [.ref a]) I1.kIn hm.kp (run_fn (us := [.ref a]) (vs := [.ref a]) F hr hb hd hx I1 (.cons rfl .nil) q)

/-- what a class must have to be made -/
structure Mk (K : PySem.W.Frag) (C f : Addr) : Prop where
  makes : PySem.W.makesIn K C = true
  init : PySem.W.findIn K (.ref C) "__init__" = some (some (.ref f))
  fn : PySem.W.isFn K (.ref f) = true
  kp : PySem.W.keepIn K (.ref C) = true

theorem run_make {pins : List (Addr × Obj)} {σ : St} {H : Hp} {s : Shared} {Q : VK} {us : List Value} {vs : List V} (M : Mk X.K C f) (F : FnOk X.prog X.w X.K X.mg X.base CX k f fd ps sp) (hr : Room (k + 1) X.A) (hb : Binds X.K fd ps ds) (hd : Vals dvs ds)
    (hx : Passes CX X E) (I : Inv X pins σ H s) (r : Vals vs us)
    (h : ∀ x dx, H x = none → H dx = none → dx ≠ x → sp (.ref x :: (vs ++ dvs)) (upd (upd H dx (.own x)) x (.ins C dx [])) (fun v H2 => v = .non ∧ Q (.ref x) H2) E) :
    wpAny (model X.prog X.w) X.A (call (.ref C) us) (EP X pins σ Q) X.xe s := by
  have hq := h (s.heap.objs.size + 1) s.heap.objs.size (I.hok.fresh (Nat.le_succ _)) (I.hok.fresh (Nat.le_refl _)) (Nat.ne_of_lt (Nat.lt_succ_self _))
  have I2 := Inv.made (C := C) I
  have r2 : Vals (V.ref (s.heap.objs.size + 1) :: (vs ++ dvs)) (Value.ref (s.heap.objs.size + 1) :: (us ++ ds)) := .cons rfl (r.append hd)
  have hl : (Value.ref (s.heap.objs.size + 1) :: us ++ ds).length = ps.length := by
    have e := r2.length
    rw [F.len _ _ _ _ hq] at e
    exact e.symm
  refine wpAny_call (make_map (f := f) I.kIn M.makes M.init (beq_iff_eq.mp M.fn) (codeAny_mono (F.run _ X.stack _ _ ⟨Value.ref (s.heap.objs.size + 1) :: us, []⟩ (Value.ref (s.heap.objs.size + 1) :: (us ++ ds)) _ _ E (hr.make C us [])
    (I2.env0.make C us []) (hb _ (Value.ref (s.heap.objs.size + 1) :: us) I2.kIn hl) r2 hq) fun r s' hq' => ?_))
  cases r with
  | error e => exact hx pins σ _ _ e s' I2 hq'
  | ok fl =>
    cases fl with
    | ret u =>
      obtain ⟨v, H', I3, rv, ev, q3⟩ := I2.after hq'
      subst ev
      exact ⟨rv, ⟨V.ref (s.heap.objs.size + 1), H', I3, rfl, q3⟩⟩
    | next => exact False.elim hq'
    | brk => exact False.elim hq'
    | cont => exact False.elim hq'
theorem pe_make (M : Mk X.K C f) (F : FnOk X.prog X.w X.K X.mg X.base CX k f fd ps sp) (hr : Room (k + 1) X.A) (hg : Gl X x) (hm : X.mg x = some (.ref C)) (hb : Binds X.K fd ps ds) (hd : Vals dvs ds) (hx : Passes CX X E)
    (ha : PA X (e :: es) t) (hdb : (x == ("__debug__" : Str)) = false := by decide) (he : starEach (e :: es) X.env = (false, eval e X.env) :: starEach es X.env := by rfl) (hpl : (backTo pos (starEach es X.env)).any (·.1) = false := by rfl) :
    PE X (.Call (.Name x p) (e :: es) [] pos) (tMake C sp dvs E t) := by
  intro pins s σ H Q I h
  refine wpAny_Call_Name_kw (ld_glob I hg hm ?_ hdb)
  refine PySem.W.callWith_K (h₀ := X.base) I.ok.mod.kin M.kp (thn (ha pos pins s σ H _ I h) fun us s1 ⟨vs, H1, I1, r, q⟩ => ⟨I1.kIn, ?_⟩) he hpl
  exact run_make M F hr hb hd hx I1 r q
end

/-! ### keywords -/
/-- the values of the keywords, from the left -/
def PK (X : Cx) (kws : List Keyword) (t : TA) : Prop :=
  ∀ (pos : Pos) (pins : List (Addr × Obj)) (s : Shared) (σ : St) (H : Hp) (Q : List V → Hp → Prop), Inv X pins σ H s → t σ H Q → wpAny (model X.prog X.w) X.A (evalAll ((backToKw pos (keywordEach kws X.env)).map (·.2))) (AP X pins σ Q) X.xe s
section
variable {X : Cx} {CX : CXT} {k : Nat} {f C : Addr} {fd : FuncData} {ps ks : List Str} {sp : Sp} {E : XK} {x m : Str} {p pos apos kpos : Pos} {e o : Expr} {es : List Expr} {kws : List Keyword} {te ta : TE} {t tk : TA} {nm : Option Str}
theorem pk_nil : PK X [] tNil := fun _ _ _ _ H Q I h => wpAny_evalAll_nil ⟨[], H, I, .nil, h⟩
theorem pk_cons (ha : PE X e te) (hr : PK X kws t) : PK X (⟨nm, e, kpos⟩ :: kws) (tCons te t) := by
  intro pos pins s σ H Q I h
  show wpAny _ _ (evalAll ((do let v ← eval e X.env; standAt pos; pure v) :: (backToKw pos (keywordEach kws X.env)).map (·.2))) _ _ s
  refine wpAny_evalAll_cons (wpAny_bind (thn (ha pins s σ H _ I h) fun u s1 ⟨x, H1, I1, r1, q1⟩ => wpAny_bind (wpAny_standAt (wpAny_pure ?_))))
  exact thn (hr pos pins s1 σ H1 _ I1 q1) fun us s2 ⟨xs, H2, I2, r2, q2⟩ => ⟨x :: xs, H2, I2, .cons r1 r2, q2⟩

/-- how a call with keywords binds: g puts the positional values us and the keywords' values ws (names ks) in the parameters' order, defaults among them -/
structure KBinds (K : PySem.W.Frag) (fd : FuncData) (ps ks : List Str) (g : List Value → List Value → List Value) (gV : List V → List V → List V) : Prop where
  to : ∀ (s : Shared) (us ws : List Value), K.In s.heap → (g us ws).length = ps.length → BindsTo s fd ⟨us, ks.zip ws⟩ (ps.zip (g us ws))
  rel : ∀ {vs : List V} {us : List Value} {zs : List V} {ws : List Value}, Vals vs us → Vals zs ws → Vals (gV vs zs) (g us ws)
variable {g : List Value → List Value → List Value} {gV : List V → List V → List V}
end

/-! ### a def's body keeps its promise -/
/-- names: the parameters first -/
structure FnScope (N P : List Str) (sc : Scope) : Prop where
  kind : sc.kind = .function
  co : sc.isCoroutine = false
  gen : sc.isGenerator = false
  nd : N.Nodup
  pre : N.take P.length = P
  par : ∀ x ∈ P, sc.names.lookup x = some .local ∨ sc.names.lookup x = some .cell
  nofree : ∀ y ∈ sc.names, y.2 ≠ .free

theorem bindL_out {kindOf : Str → Option NameKind} {x : Str} : ∀ {binds : List (Str × Value)} {m : Str → Option Value}, (∀ v, (x, v) ∉ binds) → bindL kindOf binds m x = m x
  | [], _, _ => rfl
  | (n, v) :: r, m, h => by
    unfold bindL
    rw [bindL_out fun w hw => h w (List.mem_cons_of_mem _ hw)]
    split
    · have : x ≠ n := by rintro rfl; exact h v List.mem_cons_self
      simp [this]
    · rfl
theorem bindC_out {kindOf : Str → Option NameKind} {x : Str} : ∀ {binds : List (Str × Value)} {m : Str → Option Value}, (∀ v, (x, v) ∉ binds) → bindC kindOf binds m x = m x
  | [], _, _ => rfl
  | (n, v) :: r, m, h => by
    unfold bindC
    rw [bindC_out fun w hw => h w (List.mem_cons_of_mem _ hw)]
    split
    · rfl
    · have : x ≠ n := by rintro rfl; exact h v List.mem_cons_self
      simp [this]
theorem bindL_get {kindOf : Str → Option NameKind} {x : Str} {v : Value} : ∀ {P : List Str} {vs : List Value} {i : Nat} {m : Str → Option Value}, P.Nodup → P[i]? = some x → vs[i]? = some v → kindOf x = some .local →
    bindL kindOf (P.zip vs) m x = some v
  | [], _, _, _, _, h, _, _ => by simp at h
  | _ :: _, [], _, _, _, _, h, _ => by simp at h
  | p :: P, w :: vs, 0, m, nd, h1, h2, hk => by
    simp at h1 h2; subst h1; subst h2
    show bindL kindOf ((p, w) :: P.zip vs) m p = _
    unfold bindL
    rw [bindL_out fun v hv => (List.nodup_cons.mp nd).1 (List.of_mem_zip hv).1, if_pos hk]
    simp
  | p :: P, w :: vs, i + 1, m, nd, h1, h2, hk => by
    show bindL kindOf ((p, w) :: P.zip vs) m x = _
    unfold bindL
    exact bindL_get (i := i) (List.nodup_cons.mp nd).2 (by simpa using h1) (by simpa using h2) hk
theorem bindC_get {kindOf : Str → Option NameKind} {x : Str} {v : Value} : ∀ {P : List Str} {vs : List Value} {i : Nat} {m : Str → Option Value}, P.Nodup → P[i]? = some x → vs[i]? = some v → kindOf x ≠ some .local →
    bindC kindOf (P.zip vs) m x = some v
  | [], _, _, _, _, h, _, _ => by simp at h
  | _ :: _, [], _, _, _, _, h, _ => by simp at h
  | p :: P, w :: vs, 0, m, nd, h1, h2, hk => by
    simp at h1 h2; subst h1; subst h2
    show bindC kindOf ((p, w) :: P.zip vs) m p = _
    unfold bindC
    rw [bindC_out fun v hv => (List.nodup_cons.mp nd).1 (List.of_mem_zip hv).1, if_neg hk]
    simp
  | p :: P, w :: vs, i + 1, m, nd, h1, h2, hk => by
    show bindC kindOf ((p, w) :: P.zip vs) m x = _
    unfold bindC
    exact bindC_get (i := i) (List.nodup_cons.mp nd).2 (by simpa using h1) (by simpa using h2) hk

/-- the names' values at the entry -/
def start (N : List Str) (vs : List V) : St := vs.map some ++ List.replicate (N.length - vs.length) none

/-- the context of a def's body, at its entry; an exception leaves the frame, then lies as CX says -/
def cxOf (CX : CXT) (P : Program) (w : World) (K : PySem.W.Frag) (mg : Str → Option Value) (base : Heap) (N : List Str) (qual : Str) (scope : Scope) (f : Addr) (cd : Value) (A : Around) (outer : List Env) (s : Shared) (H : Hp) (E : XK) : Cx where
  prog := P
  w := w
  K := K
  mg := mg
  base := base
  A := A.deeper (envOfC qual scope s.heap.objs.size f cd)
  N := N
  s_0 := s
  H_0 := H
  env := envOfC qual scope s.heap.objs.size f cd
  outer := outer
  stack := envOfC qual scope s.heap.objs.size f cd :: outer
  ex := []
  calm := true
  fn := fun _ => true
  pn := []
  xe := fun e s' => wpAny (model P w) (A.deeper (envOfC qual scope s.heap.objs.size f cd)) (leaving (envOfC qual scope s.heap.objs.size f cd) e) (fun _ s'' => CX outer H s E e s'') (fun e' s'' => CX outer H s E e' s'') s'

theorem cell_has {sc : Scope} {n : Nat} {x : Str} (h : sc.names.lookup x = some .cell) : ∃ c, (cellsFrom n sc.names []).lookup x = some c := by
  have q := PySem.W.cellsFrom_some sc.names n [] (.inl h)
  exact Option.isSome_iff_exists.mp q

theorem inv_start {CX : CXT} {P : Program} {w : World} {K : PySem.W.Frag} {mg : Str → Option Value} {base : Heap} {N ps : List Str} {qual : Str} {scope : Scope} {f : Addr} {cd : Value} {A : Around} {outer : List Env} {s s1 : Shared} {H : Hp} {E : XK} {us : List Value} {vs : List V}
    (S : FnScope N ps scope) (hd : A.handled = none) (e0 : Env0 P w K mg base A outer s H) (hl : vs.length = ps.length) (r : Vals vs us)
    (x : InCallC s s.heap.objs.size (bindL (envOfC qual scope s.heap.objs.size f cd).kindOf (ps.zip us) fun _ => none) (cellsFrom (s.heap.objs.size + 1) scope.names []) (bindC (envOfC qual scope s.heap.objs.size f cd).kindOf (ps.zip us) fun _ => none) s1) :
    Inv (cxOf CX P w K mg base N qual scope f cd A outer s H E) [] (start N vs) H s1 := by
  have hpl : ps.length ≤ N.length := by have := congrArg List.length S.pre; rw [List.length_take] at this; omega
  obtain ⟨h1, tk, rfl, hk⟩ := x.done
  have noA : ∀ b : Addr, b ∉ (cxOf CX P w K mg base N qual scope f cd A outer s H E).ex := fun b z => absurd (show b ∈ ([] : List Addr) from z) (by simp)
  refine ⟨⟨e0.mod, S.kind, rfl, rfl, Nat.le_refl _, fun y z c h1 h2 => ?_, fun y hy => ?_, fun y c _ h => ?_, fun _ => hd, Around.frames_deeper e0.frames, .inr ⟨rfl, rfl⟩, fun b z => absurd z (noA b), e0.bs, e0.bsz, fun b _ _ => noA b, fun b z => absurd z (noA b), e0.funs, e0.frf⟩,
    rfl, e0.bare, Un.kept hk, ⟨_, x.toInCall.ns, fun i y v h1 h2 h3 => ?_⟩, fun y c h => ⟨_, x.cell y c h⟩, e0.hok.fresh (Nat.le_refl _), fun y c h => ?_, fun p hp => absurd (show p ∈ ([] : List (Addr × Obj)) from hp) (by simp), e0.hok.kept hk, ?_⟩
  · exact name_of_addr x.apart (PySem.mem_of_lookup h1) (PySem.mem_of_lookup h2)
  · have hy : scope.names.lookup y = some .cell ∨ scope.names.lookup y = some .free := hy
    rcases hy with hy | hy
    · exact cell_has hy
    · exact absurd rfl (S.nofree _ (PySem.mem_of_lookup hy))
  · exact Nat.le_of_lt (x.above y c (PySem.mem_of_lookup h))
  · have hi : i < vs.length := by
      unfold start at h2
      by_cases hi : i < vs.length
      · exact hi
      · rw [List.getElem?_append_right (by simpa using hi)] at h2
        rw [List.getElem?_replicate] at h2
        split at h2 <;> cases h2
    have ha : vs[i]? = some v := by
      unfold start at h2
      rw [List.getElem?_append_left (by simpa using hi), List.getElem?_map] at h2
      cases e : vs[i]? with
      | none => rw [e] at h2; cases h2
      | some a => rw [e] at h2; cases h2; rfl
    obtain ⟨u, hu, rv⟩ := r.get ha
    have hp : ps[i]? = some y := by
      rw [← S.pre, List.getElem?_take_of_lt (by omega)]; exact h1
    have ndP : ps.Nodup := by rw [← S.pre]; exact S.nd.sublist (List.take_sublist _ _)
    refine ⟨u, rv, ?_⟩
    rcases S.par y (List.mem_of_getElem? hp) with k | k
    · exact .inl ⟨k, bindL_get ndP hp hu k⟩
    · obtain ⟨c, e⟩ := cell_has (n := s.heap.objs.size + 1) k
      refine .inr ⟨.inl k, c, e, ?_⟩
      have q := x.cell y c e
      rw [bindC_get ndP hp hu (by show scope.names.lookup y ≠ _; rw [k]; decide)] at q
      exact q
  · exact e0.hok.fresh (Nat.le_of_lt (x.above y c (PySem.mem_of_lookup h)))
  · unfold start
    show _ = N.length
    rw [List.length_append, List.length_map, List.length_replicate]
    omega

/-- THE RULE: a def (or a method) of the text, by its body. The body's reading t is chosen for each entry; it is run at the parameters' values -/
theorem fn_of {CX : CXT} {P : Program} {w : World} {K : PySem.W.Frag} {mg : Str → Option Value} {base : Heap} {k : Nat} {f : Addr} {name qual : Str} {params : Arguments} {body : List Stmt} {scope : Scope} {dV kV doc pm cdv ct oc : Value} {an od : Option Addr}
    {osl : Array (Option Value)} {N ps : List Str} {sp : Sp} (lk : K.lookup f = some ⟨oc, od, .func (PySem.W.fnOf name qual params body scope dV kV doc pm an cdv ct), osl⟩) (hcd : PySem.W.codeIn K cdv qual = true) (S : FnScope N ps scope)
    (len : ∀ vs H Q E, sp vs H Q E → vs.length = ps.length)
    (hbody : ∀ (A : Around) (outer : List Env) (s : Shared) (H : Hp) (vs : List V) (Q : VK) (E : XK), Room k (A.deeper (envOfC qual scope s.heap.objs.size f cdv)) → sp vs H Q E →
      ∃ t, PSs (cxOf CX P w K mg base N qual scope f cdv A outer s H E) body t ∧ t { nx := fun _ H' => Q .non H', rt := Q } (start N vs) H) :
    FnOk P w K mg base CX (k + 1) f (PySem.W.fnOf name qual params body scope dV kV doc pm an cdv ct) ps sp := by
  refine ⟨len, fun A outer s H args us vs Q E hr e0 hb r hsp => ?_⟩
  have hl := len _ _ _ _ hsp
  have KX : K.In s.heap := e0.mod.kin.keeps fun b o e => (e0.bs b o e).1
  have lim : s.heap.NoLimit := e0.mod.nolimit.keeps fun b o e => (e0.bs b o e).1
  have hkind : ∀ y ∈ ps.zip us, scope.names.lookup y.1 = some .local ∨ (scope.names.lookup y.1 = some .cell ∧ ((cellsFrom (s.heap.objs.size + 1) scope.names []).lookup y.1).isSome = true) := fun ⟨n, v⟩ hy => by
    rcases S.par n (List.of_mem_zip hy).1 with q | q
    · exact .inl q
    · exact .inr ⟨q, PySem.W.cellsFrom_some _ _ _ (.inl q)⟩
  refine codeAny_call_function hr.depth (KX _ _ lk) rfl S.co S.gen rfl (PySem.W.codeRec_of KX hcd) (hb _ _ _ _ ?_)
  refine wpAny_newFunctionEnv_cells S.kind hkind fun env he s1 x => ?_
  subst he
  refine ⟨lim.keeps x.toInCall.keep, codeAny_func ?_⟩
  obtain ⟨t, ht, hq⟩ := hbody A outer s H vs Q E (hr.deeper _) hsp
  have I : Inv (cxOf CX P w K mg base N qual scope f cdv A outer s H E) [] (start N vs) H s1 := inv_start S hr.hd e0 hl r x
  refine wpAny_mono (ht [] s1 (start N vs) H _ I hq) (fun fl s' hs => ?_) fun e s' hs => hs
  have fin : ∀ {σ' : St} {H' : Hp} {v : V} {u : Value}, Inv (cxOf CX P w K mg base N qual scope f cdv A outer s H E) [] σ' H' s' → RelV v u → Q v H' → CE outer P w H s Q u s' :=
    fun {σ' H' v u} J rv q => ⟨v, H', J.os, J.bare, J.base, J.hok, rv, q⟩
  cases fl with
  | ret u =>
    obtain ⟨v, σ', H', J, rv, q⟩ := hs
    exact fin J rv q
  | next =>
    obtain ⟨σ', H', J, q⟩ := hs
    exact fin (v := V.non) (u := Value.none) J rfl q
  | brk =>
    obtain ⟨_, _, _, q⟩ := hs
    exact False.elim q
  | cont =>
    obtain ⟨_, _, _, q⟩ := hs
    exact False.elim q
end L2

namespace L2
open PySem PySem.Spec PyProof.Rows
section
variable {X : Cx} {x : Str} {p pos : Pos} {e : Expr} {es : List Expr} {t : TA} {id T : String} {r : List V → Hp → VK → Prop}

def tCB (r : List V → Hp → VK → Prop) (t : TA) : TE := fun σ H Q => t σ H fun vs H1 => r vs H1 Q
/-- f(e, ..), f a built-in function -/
theorem pe_callB (hc : CallR X (.builtin id) r) (hg : Gl X x) (hm : X.mg x = none) (hv : bootBuiltins x = some (.builtin id)) (ha : PA X (e :: es) t) (hn : x ≠ "__name__" := by decide) (hdb : (x == ("__debug__" : Str)) = false := by decide)
    (he : starEach (e :: es) X.env = (false, eval e X.env) :: starEach es X.env := by rfl) (hpl : (backTo pos (starEach es X.env)).any (·.1) = false := by rfl) : PE X (.Call (.Name x p) (e :: es) [] pos) (tCB r t) := by
  intro pins s σ H Q I h
  refine wpAny_Call_Name_kw (ld_blt I hg hm hv ?_ hn hdb)
  exact PyProof.Rows.callWith_builtin1 (thn (ha pos pins s σ H _ I h) fun us s1 ⟨vs, H1, I1, r1, q1⟩ => hc pins s1 σ H1 vs us Q I1 r1 q1) he hpl
/-- T(e, ..), T a built-in type -/
theorem pe_callTy (hc : CallR X (.type T) r) (hg : Gl X x) (hm : X.mg x = none) (hv : bootBuiltins x = some (.type T)) (ha : PA X (e :: es) t) (hn : x ≠ "__name__" := by decide) (hdb : (x == ("__debug__" : Str)) = false := by decide)
    (he : starEach (e :: es) X.env = (false, eval e X.env) :: starEach es X.env := by rfl) (hpl : (backTo pos (starEach es X.env)).any (·.1) = false := by rfl) : PE X (.Call (.Name x p) (e :: es) [] pos) (tCB r t) := by
  intro pins s σ H Q I h
  refine wpAny_Call_Name_kw (ld_blt I hg hm hv ?_ hn hdb)
  exact PyProof.Rows.callWith_type1 (thn (ha pos pins s σ H _ I h) fun us s1 ⟨vs, H1, I1, r1, q1⟩ => hc pins s1 σ H1 vs us Q I1 r1 q1) he hpl
end
end L2

namespace HT
open PySem PyProof.Rows

/-- t < u of tuples of ints -/
def lexLt : List Int → List Int → Bool
  | [], [] => false
  | [], _ :: _ => true
  | _ :: _, [] => false
  | x :: xs, y :: ys => if x = y then lexLt xs ys else decide (x < y)
section
open PySem.SeqAt
open PySem.AutoSeq1 (wpAny_loadPart')
open PySem.MeetsSeq PySem.MeetsSeq2 PySem.MeetsSeq3

end

section
variable {prog : Program} {w : World} {A : Around} {E : Value → Shared → Prop} {s : Shared}

/-- t + u, t not empty -/
theorem cat_tup {t b : Addr} {vs ws : List Value} {Q : Value → Shared → Prop} (ht : IsTup s.heap t vs.toArray) (hb : IsTup s.heap b ws.toArray) (hv : vs ≠ [])
    (h1 : ws = [] → Q (.ref t) s) (h2 : ws ≠ [] → Q (.ref s.heap.objs.size) { s with heap := s.heap.push { cls := .type "tuple", data := .seq (vs ++ ws).toArray } })
    (hsz : vs.length + ws.length ≤ sizeLine) : wpAny (model prog w) A (binaryOp .Add (.ref t) (.ref b)) Q E s := by
  obtain ⟨⟨cls, dd, data, sl⟩, ho, hc, n, hd⟩ := id ht
  obtain ⟨⟨cls2, dd2, data2, sl2⟩, ho2, hc2, n2, hd2⟩ := id hb
  simp only at hc hd hc2 hd2
  subst hc hd hc2 hd2
  have e : vs.toArray ++ ws.toArray = (vs ++ ws).toArray := by simp
  by_cases hw : ws = []
  · exact concat_meets ⟨_, ho, rfl⟩ ⟨_, ho2, rfl⟩ noFill_tuple_add seq_tuple_add PySem.F.slot_tuple_add PySem.F.entry_tuple_add (PySem.F.args_tuple_add_2 _ _)
      (tuple_addW1 t b vs.toArray ws.toArray n n2 dd dd2 sl sl2 (by simpa using hv) (by simp [hw])) ⟨ho, ho2, h1 hw⟩
  · refine concat_meets ⟨_, ho, rfl⟩ ⟨_, ho2, rfl⟩ noFill_tuple_add seq_tuple_add PySem.F.slot_tuple_add PySem.F.entry_tuple_add (PySem.F.args_tuple_add_2 _ _)
      (tuple_addW2 t b vs.toArray ws.toArray n n2 dd dd2 sl sl2 (by simpa using hv) (by simpa using hw) (by rw [List.size_toArray, List.size_toArray]; exact hsz)) ⟨ho, ho2, ?_⟩
    rw [e]
    exact h2 hw

/-! ### t[a:b], not the whole -/
/-- a slice's bound as a place among n (d where it is left out) -/
def sIx (n d : Nat) : Option Int → Nat
  | none => d
  | some v => if v < 0 then (v + (n : Int)).toNat else min v.toNat n
theorem sIx_none (n d : Nat) : sIx n d none = d := rfl
theorem sIx_nat (n d k : Nat) : sIx n d (some (k : Int)) = min k n := by
  show (if (k : Int) < 0 then ((k : Int) + (n : Int)).toNat else min (k : Int).toNat n) = min k n
  rw [if_neg (by omega), Int.toNat_natCast]
theorem sIx_le (n d : Nat) (hd : d ≤ n) (o : Option Int) : sIx n d o ≤ n := by
  cases o with
  | none => exact hd
  | some v =>
    show (if v < 0 then (v + (n : Int)).toNat else min v.toNat n) ≤ n
    by_cases hv : v < 0
    · rw [if_pos hv]; omega
    · rw [if_neg hv]; exact Nat.min_le_right _ _
theorem clip_eq (v : Int) (n d : Nat) : (if v < 0 then max (v + (n : Int)) 0 else min v (n : Int)) = ((sIx n d (some v) : Nat) : Int) := by
  show (if v < 0 then max (v + (n : Int)) 0 else min v (n : Int)) = (((if v < 0 then (v + (n : Int)).toNat else min v.toNat n) : Nat) : Int)
  by_cases hv : v < 0
  · simp only [if_pos hv]; omega
  · simp only [if_neg hv]; omega
theorem adjust_gen (lo hi : Option Int) (n : Nat) : Builtin.Slice.sliceAdjust lo hi 1 (n : Int) = (((sIx n 0 lo : Nat) : Int), ((sIx n n hi : Nat) : Int)) := by
  have h1 : ¬ ((1 : Int) < 0) := by omega
  unfold Builtin.Slice.sliceAdjust
  simp only [h1, if_false]
  refine Prod.ext ?_ ?_
  · cases lo with
    | none => rfl
    | some v => exact clip_eq v n 0
  · cases hi with
    | none => rfl
    | some v => exact clip_eq v n n
theorem places_gen (i j : Nat) : Builtin.Slice.slicePlaces (i : Int) (j : Int) 1 = j - i := by
  unfold Builtin.Slice.slicePlaces
  have h1 : (1 : Int) > 0 := by omega
  simp only [h1, if_true, Int.ediv_one]
  split <;> omega
theorem slicePart_ {v : Value} {o : Option Int} {Q : Option Int → Shared → Prop} (p : IsPart v o) (h : Q o s) : wpAny (model prog w) A (Builtin.Slice.slicePartIndex v) Q E s := by
  cases p with
  | none => exact slicePart_none h
  | int i t => exact slicePart_int h
theorem sliceApplied_gen {sl : Addr} {vl vu : Value} {lo hi : Option Int} {n : Nat} {Q : Int × Int × Nat → Shared → Prop} (hs : s.heap.IsSliceOf sl vl vu .none) (pl : IsPart vl lo) (pu : IsPart vu hi)
    (h : Q (((sIx n 0 lo : Nat) : Int), 1, sIx n n hi - sIx n 0 lo) s) : wpAny (model prog w) A (Builtin.Slice.sliceApplied (.ref sl) (pure (n : Int))) Q E s := by
  obtain ⟨os, hos, hcs, hds⟩ := id hs
  unfold Builtin.Slice.sliceApplied Builtin.Slice.sliceFields
  refine wpAny_bind (wpAny_bind (wpAny_field hos hds (x := vl) rfl (wpAny_bind (wpAny_field hos hds (x := vu) rfl (wpAny_bind (wpAny_field hos hds (x := .none) rfl (wpAny_pure ?_)))))))
  refine wpAny_bind (slicePart_none ?_)
  show wpAny _ _ (if ((1 : Int) == 0) = true then _ else _) _ _ s
  rw [if_neg (by decide)]
  refine wpAny_bind (slicePart_ pl (wpAny_bind (slicePart_ pu (wpAny_bind (wpAny_pure ?_)))))
  show wpAny _ _ (match Builtin.Slice.sliceAdjust lo hi 1 (n : Int) with | (lo, hi) => pure (lo, (1 : Int), Builtin.Slice.slicePlaces lo hi 1)) _ _ s
  rw [adjust_gen lo hi n]
  show wpAny _ _ (pure (((sIx n 0 lo : Nat) : Int), (1 : Int), Builtin.Slice.slicePlaces ((sIx n 0 lo : Nat) : Int) ((sIx n n hi : Nat) : Int) 1)) _ _ s
  rw [places_gen]
  exact wpAny_pure h
theorem pick_gen (xs : Array Value) (i k : Nat) : ((List.range k).filterMap fun (m : Nat) => xs[((i : Int) + (m : Int) * 1).toNat]?).toArray = ((xs.toList.drop i).take k).toArray := by
  have e : (fun (m : Nat) => xs[((i : Int) + (m : Int) * 1).toNat]?) = fun m => xs[i + m]? := by
    funext m
    have : ((i : Int) + (m : Int) * 1).toNat = i + m := by omega
    rw [this]
  rw [e]
  have := pick_run xs i k
  rw [List.filterMap_map] at this
  have e2 : ((fun x => xs[x]?) ∘ fun x => i + x) = fun m => xs[i + m]? := rfl
  rw [e2] at this
  rw [this]

theorem getItem_tuple_cut {t sl : Addr} {items : Array Value} {vl vu : Value} {lo hi : Option Int} {Q : Value → Shared → Prop} (ht : IsTup s.heap t items) (hs : s.heap.IsSliceOf sl vl vu .none) (pl : IsPart vl lo) (pu : IsPart vu hi)
    (hw : ¬ (sIx items.size 0 lo = 0 ∧ sIx items.size items.size hi = items.size))
    (h : Q (.ref s.heap.objs.size) { s with heap := s.heap.push { cls := .type "tuple", data := .seq ((items.toList.drop (sIx items.size 0 lo)).take (sIx items.size items.size hi - sIx items.size 0 lo)).toArray } })
    (hsz : items.size ≤ sizeLine) : wpAny (model prog w) A (getItem (.ref t) (.ref sl)) Q E s := by
  have htake : sizeOk (.seq ((items.toList.drop (sIx items.size 0 lo)).take (sIx items.size items.size hi - sIx items.size 0 lo)).toArray) := by
    show ((items.toList.drop (sIx items.size 0 lo)).take (sIx items.size items.size hi - sIx items.size 0 lo)).toArray.size ≤ sizeLine
    rw [List.size_toArray, List.length_take, List.length_drop, Array.length_toList]
    omega
  have hj : sIx items.size items.size hi ≤ items.size := sIx_le _ _ (Nat.le_refl _) hi
  obtain ⟨os, hos, hcs, hds⟩ := id hs
  have hTs : s.TypeIs (.ref sl) "slice" := ⟨os, hos, hcs⟩
  unfold getItem
  try with_reducible refine wpAny_holding ?_
  first | refine wpAny_bind (wpAny_pure ?_) | skip
  refine wpAny_bind (wpAny_sequenceKey ht.typeIs (by decide) ?_)
  refine wpAny_bind (wpAny_callSpecial?_slot (name := Str.ofString "__getitem__") ht.typeIs PyProof.Rows.slot_tuple_getitem
    (wpAny_call_entry PyProof.Rows.slot_tuple_getitem ht.typeIs entry_tuple_getitem ?_ (args_tuple_getitem _ _)))
  show wpAny _ _ (Builtin.Tuple.tupleItemsOf (.ref t) >>= _) _ _ s
  refine wpAny_bind (tupleItemsOf_ ht ?_)
  refine wpAny_bind (wpAny_typeOf hTs ?_)
  rw [if_pos (by decide)]
  refine wpAny_bind (sliceApplied_gen hs pl pu ?_)
  have hno : ¬ ((((sIx items.size 0 lo : Nat) : Int) == 0 && (1 : Int) == 1 && (sIx items.size items.size hi - sIx items.size 0 lo) == items.size) = true) := by
    intro q
    rw [Bool.and_eq_true, Bool.and_eq_true] at q
    have q1 : ((sIx items.size 0 lo : Nat) : Int) = 0 := eq_of_beq q.1.1
    have q2 : sIx items.size items.size hi - sIx items.size 0 lo = items.size := eq_of_beq q.2
    exact hw ⟨by omega, by omega⟩
  show wpAny _ _ (if (((sIx items.size 0 lo : Nat) : Int) == 0 && (1 : Int) == 1 && (sIx items.size items.size hi - sIx items.size 0 lo) == items.size) = true then _ else _) _ _ s
  rw [if_neg hno, pick_gen]
  first
    | exact wpAny_bind (m := Builtin.Tuple.tupleExact _) (wpAny_newObj_type (wpAny_pure ⟨_, rfl, wpAny_pure h⟩) htake)
    | exact wpAny_bind (m := Builtin.Tuple.tupleExact _) (wpAny_newObj_type (wpAny_bind (wpAny_pure (wpAny_pure ⟨_, rfl, wpAny_pure h⟩))) htake)
    | exact wpAny_bind (wpAny_bind (m := Builtin.Tuple.tupleExact _) (wpAny_newObj_type (wpAny_pure (wpAny_pure ⟨_, rfl, wpAny_pure h⟩)) htake))
    | exact wpAny_bind (wpAny_bind (m := Builtin.Tuple.tupleExact _) (wpAny_newObj_type (wpAny_pure ⟨_, rfl, wpAny_pure h⟩) htake))
end
end HT

namespace L2
open PySem PySem.Spec PyProof.Rows

/-! ### the parts of a slice -/
abbrev TO := St → Hp → (Option Int → Hp → Prop) → Prop
/-- a slice's part (left out, or an int) -/
def PO (X : Cx) (e : Option Expr) (t : TO) : Prop :=
  ∀ (pins : List (Addr × Obj)) (s : Shared) (σ : St) (H : Hp) (Q : Option Int → Hp → Prop), Inv X pins σ H s → t σ H Q →
    wpAny (model X.prog X.w) X.A (evalPart e X.env) (fun u s' => ∃ o H', Inv X pins σ H' s' ∧ IsPart u o ∧ Q o H') X.xe s
def tNoPart : TO := fun _ H Q => Q none H
def tPart (t : TE) : TO := fun σ H Q => t σ H fun x H1 => ∃ i, x = .int i ∧ Q (some i) H1

section
variable {X : Cx} {e : Expr} {te : TE} {lo hi : Option Expr} {tl th : TO} {pos p2 : Pos}

theorem po_none : PO X none tNoPart := by
  intro pins s σ H Q I h
  rw [evalPart_none]
  exact wpAny_pure ⟨none, H, I, .none, h⟩
theorem po_some (h : PE X e te) : PO X (some e) (tPart te) := by
  intro pins s σ H Q I hw
  rw [evalPart_some]
  refine thn (h pins s σ H _ I hw) fun u s1 ⟨x, H1, I1, r1, q1⟩ => ?_
  obtain ⟨i, rfl, q⟩ := q1
  obtain ⟨t, rfl⟩ := r1
  exact ⟨some i, H1, I1, .int i t, q⟩

/-- what a slice of a value is, by values: the slice object stands at sl -/
def SlR (X : Cx) (r : V → Option Int → Option Int → Hp → VK → Prop) : Prop :=
  ∀ (pins : List (Addr × Obj)) (s : Shared) (σ : St) (H : Hp) (x : V) (v vl vu : Value) (lo hi : Option Int) (sl : Addr) (Q : VK), Inv X pins σ H s → RelV x v → s.heap.IsSliceOf sl vl vu .none → IsPart vl lo → IsPart vu hi → r x lo hi H Q →
    ∃ T id, typeLookup (.type T) "__getitem__" = pure (some (.builtin id)) ∧ s.TypeIs v T ∧ wpAny (model X.prog X.w) X.A (getItem v (.ref sl)) (EP X pins σ Q) X.xe s
theorem SlR.or {r r' : V → Option Int → Option Int → Hp → VK → Prop} (h : SlR X r) (h' : SlR X r') : SlR X (fun x lo hi H Q => r x lo hi H Q ∨ r' x lo hi H Q) := by
  intro pins s σ H x v vl vu lo hi sl Q I rx hs pl pu q
  rcases q with q | q
  · exact h pins s σ H x v vl vu lo hi sl Q I rx hs pl pu q
  · exact h' pins s σ H x v vl vu lo hi sl Q I rx hs pl pu q
def tSl (r : V → Option Int → Option Int → Hp → VK → Prop) (te : TE) (tl th : TO) : TE := fun σ H Q => te σ H fun x H1 => tl σ H1 fun l H2 => th σ H2 fun u H3 => r x l u H3 Q
/-- a[lo:hi], any a -/
theorem pe_slice {r : V → Option Int → Option Int → Hp → VK → Prop} (hr : SlR X r) (he : PE X e te) (hl : PO X lo tl) (hu : PO X hi th) : PE X (.Subscript e (.Slice lo hi none p2) pos) (tSl r te tl th) := by
  intro pins s σ H Q I h
  refine Subscript_ (thn (he pins s σ H _ I h) fun v s1 ⟨x, H1, I1, r1, q1⟩ => ?_)
  refine wpAny_Slice (thn (hl pins s1 σ H1 _ I1 q1) fun vl s2 ⟨l, H2, I2, pl, q2⟩ => thn (hu pins s2 σ H2 _ I2 q2) fun vu s3 ⟨u, H3, I3, pu, q3⟩ => ?_)
  rw [evalPart_none]
  refine wpAny_pure ?_
  have I4 : Inv X pins σ H3 { s3 with heap := s3.heap.push { cls := .type "slice", data := .fields #[vl, vu, .none] } } := I3.kept (t' := s3.toks) fun b ob q => Heap.get?_push_of_some _ q
  obtain ⟨T, id, hT, ht, hg⟩ := hr pins { s3 with heap := s3.heap.push { cls := .type "slice", data := .fields #[vl, vu, .none] } } σ H3 x v vl vu l u s3.heap.objs.size Q I4 r1 (Heap.IsSliceOf.new ..) pl pu q3
  show wpAny (model X.prog X.w) X.A (subscriptTail e (.Slice lo hi none p2) v (.ref s3.heap.objs.size)) (EP X pins σ Q) X.xe { s3 with heap := s3.heap.push { cls := .type "slice", data := .fields #[vl, vu, .none] } }
  exact tail_any (ops := [.ref s3.heap.objs.size, v]) ht hT hg (by with_unfolding_all rfl)

/-- the items of xs[lo:hi] -/
def cutV (xs : List V) (lo hi : Option Int) : List V := (xs.drop (HT.sIx xs.length 0 lo)).take (HT.sIx xs.length xs.length hi - HT.sIx xs.length 0 lo)
theorem cutV_length (xs : List V) (lo hi : Option Int) : (cutV xs lo hi).length ≤ xs.length := by
  unfold cutV
  rw [List.length_take, List.length_drop]
  omega
/-- t[lo:hi], not the whole of it (the whole would be t itself) -/
def rSlT (K : PySem.W.Frag) : V → Option Int → Option Int → Hp → VK → Prop := fun x lo hi H Q => ∃ a xs, x = .ref a ∧ SqT K H a xs ∧
  ¬ (HT.sIx xs.length 0 lo = 0 ∧ HT.sIx xs.length xs.length hi = xs.length) ∧ ∀ p, H p = none → Q (.ref p) (upd H p (.tup (cutV xs lo hi)))
theorem sl_tup : SlR X (rSlT X.K) := by
  intro pins s σ H x v vl vu lo hi sl Q I rx hs pl pu h
  obtain ⟨a, xs, rfl, hx, hw, q⟩ := h
  cases rx
  obtain ⟨its, r, ht, hz⟩ := I.tuple hx
  have hlen : its.toArray.size = xs.length := by rw [List.size_toArray]; exact r.length.symm
  refine ⟨"tuple", _, PyProof.Rows.slot_tuple_getitem.lookup, ht.typeIs, ?_⟩
  refine HT.getItem_tuple_cut ht hs pl pu (by rw [hlen]; exact hw) ?_ (by rw [hlen]; exact hz)
  rw [hlen]
  refine ⟨.ref s.heap.objs.size, _, I.laid (t' := s.toks) (o := .tup (cutV xs lo hi)) (fun b ob q => Heap.get?_push_of_some _ q) (Nat.le_refl _) ?_, rfl, q _ (I.hok.fresh (Nat.le_refl _))⟩
  exact ⟨Nat.le_trans (cutV_length xs lo hi) hz, _, (r.drop (HT.sIx xs.length 0 lo)).take (HT.sIx xs.length xs.length hi - HT.sIx xs.length 0 lo), IsTup.new _ _⟩

/-! ### t < u, t + u -/
/-- t + u, t not empty: u empty gives t itself -/
def rCatT (K : PySem.W.Frag) : R2 := fun x y H Q => ∃ a b xs ys, x = .ref a ∧ y = .ref b ∧ SqT K H a xs ∧ SqT K H b ys ∧ xs ≠ [] ∧ xs.length + ys.length ≤ sizeLine ∧
  (ys = [] → Q (.ref a) H) ∧ (ys ≠ [] → ∀ p, H p = none → Q (.ref p) (upd H p (.tup (xs ++ ys))))
theorem Vals.nil_iff {xs : List V} {us : List Value} (r : Vals xs us) : us = [] ↔ xs = [] := by
  cases r with
  | nil => simp
  | cons _ _ => simp
theorem op_catT : OpR X (binaryOp .Add) (rCatT X.K) := by
  intro pins s σ H x y v u Q I rx ry h
  obtain ⟨a, b, xs, ys, rfl, rfl, ha, hb, hx, hz, q1, q2⟩ := h
  cases rx
  cases ry
  obtain ⟨its, r1, p1, _⟩ := I.tuple ha
  obtain ⟨its2, r2, p2, _⟩ := I.tuple hb
  refine HT.cat_tup p1 p2 (fun z => hx (r1.nil_iff.mp z)) (fun z => ⟨.ref a, H, I, rfl, q1 (r2.nil_iff.mp z)⟩) (fun z => ?_) (by rw [← r1.length, ← r2.length]; exact hz)
  refine ⟨.ref s.heap.objs.size, _, I.laid (t' := s.toks) (o := .tup (xs ++ ys)) (fun b ob q => Heap.get?_push_of_some _ q) (Nat.le_refl _) ?_, rfl, q2 (fun w => z (r2.nil_iff.mpr w)) _ (I.hok.fresh (Nat.le_refl _))⟩
  exact ⟨by rw [List.length_append]; exact hz, _, r1.append r2, IsTup.new _ _⟩
end
end L2

namespace L2
open PySem PySem.Spec PyProof.Rows

/-! ### places -/
/-- the place that an index of any sign means -/
def ixN (n : Nat) (i : Int) : Option Nat := if 0 ≤ i then (if i < n then some i.toNat else none) else if -(n : Int) ≤ i then some (i + n).toNat else none
def atI {α : Type} (xs : List α) (i : Int) : Option α := (ixN xs.length i).bind fun j => xs[j]?
theorem ixN_seq {n : Nat} {i : Int} {j : Nat} (h : ixN n i = some j) : seqIndex? i n = some j ∧ j < n ∧ -(n : Int) ≤ i ∧ i < n := by
  unfold ixN at h
  by_cases h0 : 0 ≤ i
  · rw [if_pos h0] at h
    by_cases h1 : i < n
    · rw [if_pos h1] at h
      have e : i.toNat = j := Option.some.inj h
      exact ⟨by rw [seqIndex_of h0 h1, e], by omega, by omega, h1⟩
    · rw [if_neg h1] at h; cases h
  · rw [if_neg h0] at h
    by_cases h1 : -(n : Int) ≤ i
    · rw [if_pos h1] at h
      have e : (i + n).toNat = j := Option.some.inj h
      exact ⟨by rw [seqIndex_neg (by omega) h1, e], by omega, h1, by omega⟩
    · rw [if_neg h1] at h; cases h
theorem atI_get {α : Type} {xs : List α} {i : Int} {v : α} (h : atI xs i = some v) : ∃ j, seqIndex? i xs.length = some j ∧ xs[j]? = some v ∧ j < xs.length ∧ -(xs.length : Int) ≤ i ∧ i < xs.length := by
  unfold atI at h
  cases e : ixN xs.length i with
  | none => rw [e] at h; cases h
  | some j =>
    rw [e] at h
    obtain ⟨h1, h2, h3, h4⟩ := ixN_seq e
    exact ⟨j, h1, h, h2, h3, h4⟩
theorem atI_nat {α : Type} {xs : List α} {j : Nat} {v : α} (h : xs[j]? = some v) : atI xs (j : Int) = some v := by
  have hj : j < xs.length := (List.getElem?_eq_some_iff.mp h).1
  have e : ixN xs.length (j : Int) = some j := by
    unfold ixN
    rw [if_pos (by omega), if_pos (by omega)]; simp
  unfold atI; rw [e]; exact h
theorem atI_last {α : Type} (xs : List α) (v : α) : atI (xs ++ [v]) (-1) = some v := by
  have hl : (xs ++ [v]).length = xs.length + 1 := by simp
  have e : ixN (xs ++ [v]).length (-1) = some xs.length := by
    unfold ixN
    rw [hl, if_neg (by decide), if_pos (by omega)]
    congr 1
    omega
  unfold atI
  rw [e]
  show (xs ++ [v])[xs.length]? = some v
  simp

/-! ### what may be subscripted -/
/-- what stands as an index of a plain subscript -/
def PlainIx (b : Expr) : Prop := ∀ o i, subscripted b false o i = operate [o, i] (getItem o i)
/-- a subscript by values -/
def IxR (X : Cx) (r : R2) : Prop :=
  ∀ (value slice : Expr) (pins : List (Addr × Obj)) (s : Shared) (σ : St) (H : Hp) (x y : V) (v u : Value) (Q : VK), Inv X pins σ H s → RelV x v → RelV y u → r x y H Q →
    subscripted slice false v u = operate [v, u] (getItem v u) → wpAny (model X.prog X.w) X.A (subscriptTail value slice v u) (EP X pins σ Q) X.xe s
/-- a call of a builtin's method by values: the receiver, the arguments -/
def MtR (X : Cx) (id : String) (r : V → List V → Hp → VK → Prop) : Prop :=
  ∀ (pins : List (Addr × Obj)) (s : Shared) (σ : St) (H : Hp) (x : V) (xs : List V) (v : Value) (us : List Value) (Q : VK), Inv X pins σ H s → RelV x v → Vals xs us → r x xs H Q →
    wpAny (model X.prog X.w) X.A (call (.builtin id) (v :: us)) (EP X pins σ Q) X.xe s
section
variable {X : Cx} {a b : Expr} {ta tb : TE} {pos : Pos}
theorem IxR.or {r r' : R2} (h : IxR X r) (h' : IxR X r') : IxR X (fun x y H Q => r x y H Q ∨ r' x y H Q) := by
  intro value slice pins s σ H x y v u Q I rx ry q hs
  rcases q with q | q
  · exact h value slice pins s σ H x y v u Q I rx ry q hs
  · exact h' value slice pins s σ H x y v u Q I rx ry q hs
theorem MtR.or {id : String} {r r' : V → List V → Hp → VK → Prop} (h : MtR X id r) (h' : MtR X id r') : MtR X id (fun x xs H Q => r x xs H Q ∨ r' x xs H Q) := by
  intro pins s σ H x xs v us Q I rx rs q
  rcases q with q | q
  · exact h pins s σ H x xs v us Q I rx rs q
  · exact h' pins s σ H x xs v us Q I rx rs q
/-- a[b] -/
theorem pe_ix {r : R2} (hr : IxR X r) (ha : PE X a ta) (hb : PE X b tb) (hs : PlainIx b) : PE X (.Subscript a b pos) (tOp r ta tb) := by
  intro pins s σ H Q I h
  exact Subscript_ (binT ha hb I h fun v u s2 x y H2 I2 rx ry q => hr a b pins s2 σ H2 x y v u Q I2 rx ry q (hs _ _))

def rIxL (K : PySem.W.Frag) : R2 := fun x y H Q => ∃ p xs i v, x = .ref p ∧ y = .int i ∧ SqL K H p xs ∧ atI xs i = some v ∧ Q v H
def rIxT (K : PySem.W.Frag) : R2 := fun x y H Q => ∃ p xs i v, x = .ref p ∧ y = .int i ∧ SqT K H p xs ∧ atI xs i = some v ∧ Q v H
def rIxS : R2 := fun x y H Q => ∃ z i c, x = .str z ∧ y = .int i ∧ z.length ≤ sizeLine ∧ atI z.cps.toList i = some c ∧ Q (.str ⟨#[c]⟩) H
theorem ix_list : IxR X (rIxL X.K) := by
  intro value slice pins s σ H x y v u Q I rx ry h hs
  obtain ⟨p, xs, i, z, rfl, rfl, hq, he, q⟩ := h
  cases rx
  obtain ⟨t, rfl⟩ := ry
  obtain ⟨its, r, pl, hz⟩ := I.list hq
  obtain ⟨j, h1, h2, h3, h4, h5⟩ := atI_get he
  obtain ⟨w, ew, rw'⟩ := r.get h2
  have hl := r.length
  have hn := line63
  have fin : EP X pins σ Q w s := ⟨z, H, I, rw', q⟩
  by_cases h0 : 0 ≤ i
  · have hj : i.toNat = j := by
      rw [seqIndex_of h0 h5] at h1
      exact Option.some.inj h1
    exact item_listR pl.isList h0 (by omega) (by rw [hj]; simpa using ew) fin hs
  · have hj : (i + (its.toArray.size : Int)).toNat = j := by
      rw [seqIndex_neg (by omega) h4] at h1
      rw [List.size_toArray, ← hl]
      exact Option.some.inj h1
    exact subscriptTail_builtinR (x := w) pl.isList.typeIs slot_list_getitem.lookup
      (wpAny_getItem_list_neg (Q := fun r s' => r = w ∧ EP X pins σ Q r s') pl.isList (by omega) (by rw [List.size_toArray] <;> omega) (by omega) (by rw [hj]; simpa using ew) ⟨rfl, fin⟩) hs
theorem ix_tup : IxR X (rIxT X.K) := by
  intro value slice pins s σ H x y v u Q I rx ry h hs
  obtain ⟨p, xs, i, z, rfl, rfl, hq, he, q⟩ := h
  cases rx
  obtain ⟨t, rfl⟩ := ry
  obtain ⟨its, r, pl, hz⟩ := I.tuple hq
  obtain ⟨j, h1, h2, h3, h4, h5⟩ := atI_get he
  obtain ⟨w, ew, rw'⟩ := r.get h2
  have hl := r.length
  have hn := line63
  have fin : EP X pins σ Q w s := ⟨z, H, I, rw', q⟩
  exact subscriptTail_builtinR (x := w) pl.typeIs slot_tuple_getitem.lookup
    (getItem_tuple (j := j) (Q := fun r s' => r = w ∧ EP X pins σ Q r s') pl (by omega) (by omega) (by rw [List.size_toArray, ← hl]; exact h1) (by simpa using ew) ⟨rfl, fin⟩) hs
theorem ix_str : IxR X rIxS := by
  intro value slice pins s σ H x y v u Q I rx ry h hs
  obtain ⟨z, i, c, rfl, rfl, hz, he, q⟩ := h
  obtain ⟨t, rfl⟩ := rx
  obtain ⟨t', rfl⟩ := ry
  obtain ⟨j, h1, h2, h3, h4, h5⟩ := atI_get he
  have hl : z.cps.toList.length = z.length := by simp [Str.length]
  rw [hl] at h1 h4 h5
  have hn := line63
  exact tail_any (typeIs_str s z t) slot_str_getitem.lookup (getItem_str (c := c) (by
    have e1 : decide (i < -(2 ^ 63 : Int)) = false := decide_eq_false (by omega)
    have e2 : decide (i ≥ 2 ^ 63) = false := decide_eq_false (by omega)
    rw [e1, e2, Bool.or_false]) (by rw [h1]; simpa using h2) ⟨.str ⟨#[c]⟩, H, I.tok _, ⟨_, rfl⟩, q⟩) hs
/-- list, tuple or str -/
def rIx (K : PySem.W.Frag) : R2 := fun x y H Q => rIxL K x y H Q ∨ rIxT K x y H Q ∨ rIxS x y H Q
theorem ix_seq : IxR X (rIx X.K) := ix_list.or (ix_tup.or ix_str)

/-! ### xs[i] = v, any sign -/
/-- the list's object behind a store -/
theorem mapSeq_set (its : List Value) (n j : Nat) (u : Value) : Obj.mapSeq (·.setIfInBounds j u) { cls := .type "list", data := .seq its.toArray n } = { cls := .type "list", data := .seq (its.set j u).toArray n } := by
  simp [Obj.mapSeq]
theorem Inv.lst {pins : List (Addr × Obj)} {σ : St} {H : Hp} {s : Shared} {p : Addr} {xs : List V} (I : Inv X pins σ H s) (h : H p = some (.lst xs)) :
    ∃ (its : List Value) (n : Nat), Vals xs its ∧ s.heap.get? p = some { cls := .type "list", data := .seq its.toArray n } ∧ xs.length ≤ sizeLine := by
  obtain ⟨z, its, n, r, e⟩ := I.hok p _ h
  exact ⟨its, n, r, e, z⟩
/-- the list at p is written by an update of its object -/
theorem Inv.lstUpd {pins : List (Addr × Obj)} {σ : St} {H : Hp} {s : Shared} {p : Addr} {xs ys : List V} {its its' : List Value} {n n' : Nat} {f : Obj → Obj} (I : Inv X pins σ H s) (h : H p = some (.lst xs))
    (ho : s.heap.get? p = some { cls := .type "list", data := .seq its.toArray n }) (hf : f { cls := .type "list", data := .seq its.toArray n } = { cls := .type "list", data := .seq its'.toArray n' }) (r : Vals ys its') (hz : ys.length ≤ sizeLine) (t : Nat) :
    Inv X pins σ (upd H p (.lst ys)) { s with heap := s.heap.update p f, toks := t } := by
  have e : (s.heap.update p f).get? p = some { cls := .type "list", data := .seq its'.toArray n' } := by
    rw [Heap.get?_update_self f ho (by rw [hf] <;> rfl), hf]
  refine I.write (x := p) (e := p) (by rw [h]; trivial) (.inl rfl) (fun b u hb q => (Heap.get?_update_other _ _ (Ne.symm hb)).trans q) ⟨_, e⟩ ?_
  exact ⟨hz, its', n', r, e⟩
def rSetL : V → V → V → Hp → (Hp → Prop) → Prop := fun o i v H Q => ∃ p xs k j, o = .ref p ∧ i = .int k ∧ H p = some (.lst xs) ∧ ixN xs.length k = some j ∧ Q (upd H p (.lst (xs.set j v)))
theorem set_list : PSet X rSetL := by
  intro pins s σ H o i v ov iv u Q I ro ri rv h
  obtain ⟨p, xs, k, j, rfl, rfl, hp, hj, q⟩ := h
  cases ro
  obtain ⟨t, rfl⟩ := ri
  obtain ⟨its, n, r, ho, hz⟩ := I.lst hp
  obtain ⟨h1, h2, h3, h4⟩ := ixN_seq hj
  have hl := r.length
  have hn := line63
  have I' : Inv X pins σ (upd H p (.lst (xs.set j v))) { s with heap := s.heap.update p (Obj.mapSeq (·.setIfInBounds j u)) } :=
    I.lstUpd hp ho (mapSeq_set its n j u) (r.set rv j) (by rw [List.length_set]; exact hz) s.toks
  by_cases h0 : 0 ≤ k
  · have hk : k.toNat = j := by
      rw [seqIndex_of h0 h4] at h1
      exact Option.some.inj h1
    exact PySem.W.ki_setAt ho h0 (by omega) (by rw [List.size_toArray, ← hl]; exact h4) (by rw [hk]; exact ⟨_, I', q⟩)
  · have hk : (k + (its.toArray.size : Int)).toNat = j := by
      rw [seqIndex_neg (by omega) h3] at h1
      rw [List.size_toArray, ← hl]
      exact Option.some.inj h1
    exact PySem.W.ki_setBack ho (by omega) (by rw [List.size_toArray, ← hl]; exact h3) (by omega) (by rw [hk]; exact ⟨_, I', q⟩)

/-! ### slices -/
theorem slice_bounds (lo hi : Option Int) (n : Nat) : (sliceBounds lo hi none n).1 = ((HT.sIx n 0 lo : Nat) : Int) ∧ (sliceBounds lo hi none n).2.1 = ((HT.sIx n n hi : Nat) : Int) ∧ (sliceBounds lo hi none n).2.2 = 1 := by
  refine ⟨?_, ?_, rfl⟩
  · cases lo with
    | none => simp [sliceBounds, HT.sIx]
    | some i =>
      simp only [sliceBounds, HT.sIx, Option.getD_none, show (1 : Int) > 0 by decide, if_true]
      by_cases h : i < 0
      · simp only [h, if_true] <;> omega
      · simp only [h, if_false] <;> omega
  · cases hi with
    | none => simp [sliceBounds, HT.sIx]
    | some i =>
      simp only [sliceBounds, HT.sIx, Option.getD_none, show (1 : Int) > 0 by decide, if_true]
      by_cases h : i < 0
      · simp only [h, if_true] <;> omega
      · simp only [h, if_false] <;> omega
theorem slicePick_cut (its : List Value) (lo hi : Option Int) : slicePick its.toArray lo hi none = ((its.drop (HT.sIx its.length 0 lo)).take (HT.sIx its.length its.length hi - HT.sIx its.length 0 lo)).toArray := by
  obtain ⟨h1, h2, h3⟩ := slice_bounds lo hi its.toArray.size
  unfold slicePick
  rw [h1, h2, h3]
  simp only [sliceRange_one, pick_run, List.size_toArray] <;> rfl
/-- xs[lo:hi] of a list: a new list -/
def rSlL (K : PySem.W.Frag) : V → Option Int → Option Int → Hp → VK → Prop := fun x lo hi H Q => ∃ a xs, x = .ref a ∧ SqL K H a xs ∧ ∀ p, H p = none → Q (.ref p) (upd H p (.lst (cutV xs lo hi)))
theorem sl_list : SlR X (rSlL X.K) := by
  intro pins s σ H x v vl vu lo hi sl Q I rx hs pl pu h
  obtain ⟨a, xs, rfl, hx, q⟩ := h
  cases rx
  obtain ⟨its, r, ht, hz⟩ := I.list hx
  have hlen := r.length
  refine ⟨"list", _, slot_list_getitem.lookup, ht.isList.typeIs, ?_⟩
  refine wpAny_getItem_list_slice ht.isList hs pl pu .none (by simp) ?_ (by rw [List.size_toArray] <;> omega)
  rw [slicePick_cut, ← hlen]
  refine ⟨.ref s.heap.objs.size, _, I.laid (t' := s.toks) (o := .lst (cutV xs lo hi)) (fun b ob q => Heap.get?_push_of_some _ q) (Nat.le_refl _) ?_, rfl, q _ (I.hok.fresh (Nat.le_refl _))⟩
  exact ⟨Nat.le_trans (cutV_length xs lo hi) hz, _, 0, (r.drop (HT.sIx xs.length 0 lo)).take (HT.sIx xs.length xs.length hi - HT.sIx xs.length 0 lo), Heap.get?_push_size _ rfl⟩

/-! ### in, not in: flat items -/
def flatV : V → Bool
  | .non => true
  | .bl _ => true
  | .int _ => true
  | .str _ => true
  | _ => false
/-- == of flat values -/
def eqV : V → V → Bool
  | .non, .non => true
  | .bl a, .bl b => a == b
  | .bl a, .int b => (if a then 1 else 0) == b
  | .int a, .bl b => a == (if b then 1 else 0)
  | .int a, .int b => a == b
  | .str a, .str b => a == b
  | _, _ => false
theorem eqAt_V {A : Around} {s : Shared} {y x : V} {u v : Value} (ry : RelV y u) (rx : RelV x v) (fy : flatV y = true) (fx : flatV x = true) : SeqAt.EqAt A s u v (eqV y x) := by
  cases y with
  | non =>
    cases ry
    cases x with
    | non => cases rx; exact SeqAt.EqAt.same _
    | bl b => cases rx; exact SeqAt.EqAt.none_bool b
    | int b => obtain ⟨t, rfl⟩ := rx; exact SeqAt.EqAt.none_int b t
    | str b => obtain ⟨t, rfl⟩ := rx; exact SeqAt.EqAt.none_str b t
    | _ => exact absurd (show false = true from fx) Bool.false_ne_true
  | bl a =>
    cases ry
    cases x with
    | non => cases rx; exact SeqAt.EqAt.bool_none a
    | bl b => cases rx; exact SeqAt.EqAt.bool_bool a b
    | int b => obtain ⟨t, rfl⟩ := rx; exact SeqAt.EqAt.bool_int a b t
    | str b => obtain ⟨t, rfl⟩ := rx; exact SeqAt.EqAt.bool_str a b t
    | _ => exact absurd (show false = true from fx) Bool.false_ne_true
  | int a =>
    obtain ⟨t', rfl⟩ := ry
    cases x with
    | non => cases rx; exact SeqAt.EqAt.int_none a t'
    | bl b => cases rx; exact SeqAt.EqAt.int_bool a t' b
    | int b => obtain ⟨t, rfl⟩ := rx; exact SeqAt.EqAt.int_int a t' b t
    | str b => obtain ⟨t, rfl⟩ := rx; exact SeqAt.EqAt.int_str a t' b t
    | _ => exact absurd (show false = true from fx) Bool.false_ne_true
  | str a =>
    obtain ⟨t', rfl⟩ := ry
    cases x with
    | non => cases rx; exact SeqAt.EqAt.str_none a t'
    | bl b => cases rx; exact SeqAt.EqAt.str_bool a t' b
    | int b => obtain ⟨t, rfl⟩ := rx; exact SeqAt.EqAt.str_int a t' b t
    | str b => obtain ⟨t, rfl⟩ := rx; exact SeqAt.EqAt.str_str a t' b t
    | _ => exact absurd (show false = true from fx) Bool.false_ne_true
  | _ => exact absurd (show false = true from fy) Bool.false_ne_true
/-- the items' answers, read off the values (a value's own answer does not lean on its token) -/
def eqU (x : V) (u : Value) : Bool := match u with
  | .none => eqV .non x
  | .bool b => eqV (.bl b) x
  | .int i _ => eqV (.int i) x
  | .str z _ => eqV (.str z) x
  | _ => false
theorem eqU_of {x y : V} {u : Value} (r : RelV y u) (f : flatV y = true) : eqU x u = eqV y x := by
  cases y with
  | non => cases r; rfl
  | bl b => cases r; rfl
  | int i => obtain ⟨t, rfl⟩ := r; rfl
  | str z => obtain ⟨t, rfl⟩ := r; rfl
  | _ => exact absurd (show false = true from f) Bool.false_ne_true
theorem any_eqU {x : V} : ∀ {xs : List V} {us : List Value}, Vals xs us → xs.all flatV = true → us.any (eqU x) = xs.any fun y => eqV y x
  | _, _, .nil, _ => rfl
  | y :: xs, u :: us, .cons r t, f => by
    rw [List.all_cons, Bool.and_eq_true] at f
    rw [List.any_cons, List.any_cons, eqU_of r f.1, any_eqU t f.2]
theorem mem_eqAt {A : Around} {s : Shared} {x : V} {v : Value} (rx : RelV x v) (fx : flatV x = true) : ∀ {xs : List V} {us : List Value}, Vals xs us → xs.all flatV = true → ∀ u ∈ us, SeqAt.EqAt A s u v (eqU x u)
  | _, _, .nil, _ => fun u hu => by cases hu
  | y :: xs, u :: us, .cons r t, f => fun u' hu => by
    rw [List.all_cons, Bool.and_eq_true] at f
    rcases List.mem_cons.mp hu with rfl | hu
    · rw [eqU_of r f.1]; exact eqAt_V r rx f.1 fx
    · exact mem_eqAt rx fx t f.2 u' hu
def inV (x : V) (xs : List V) : Bool := xs.any fun y => eqV y x
/-- x in a list or tuple of flat items -/
def rIn (K : PySem.W.Frag) (neg : Bool) : R2 := fun x y H Q => ∃ p xs, y = .ref p ∧ (SqL K H p xs ∨ SqT K H p xs) ∧ flatV x = true ∧ xs.all flatV = true ∧ Q (.bl (if neg then !inV x xs else inV x xs)) H
theorem op_notIn_seq : OpR X (compareOp .NotIn) (rIn X.K true) := by
  intro pins s σ H x y v u Q I rx ry h
  obtain ⟨p, xs, rfl, hq, fx, fs, q⟩ := h
  cases ry
  rcases hq with hq | hq
  · obtain ⟨its, r, pl, hz⟩ := I.list hq
    refine SeqAt.notIn_listAt (eqU x) pl.isList (fun w hw => mem_eqAt rx fx r fs w (by simpa using hw)) ⟨.bl _, H, I, rfl, ?_⟩
    rw [show its.toArray.any (eqU x) = its.any (eqU x) by simp, any_eqU r fs]
    exact q
  · obtain ⟨its, r, pl, hz⟩ := I.tuple hq
    refine SeqAt.notIn_tupleAt (eqU x) pl (fun w hw => mem_eqAt rx fx r fs w (by simpa using hw)) ⟨.bl _, H, I, rfl, ?_⟩
    rw [show its.toArray.any (eqU x) = its.any (eqU x) by simp, any_eqU r fs]
    exact q
/-! ### len, list(x), tuple(x) of any list or tuple that is read -/
theorem call_len_seq : CallR X (.builtin "len") (fun xs H Q => ∃ p ys, xs = [.ref p] ∧ (SqL X.K H p ys ∨ SqT X.K H p ys) ∧ Q (.int ys.length) H) := by
  intro pins s σ H xs us Q I r h
  obtain ⟨p, ys, rfl, hq, q⟩ := h
  obtain ⟨u, rfl, rx⟩ := vals1 r
  cases rx
  have hn := line63
  rcases hq with hq | hq
  · obtain ⟨its, r', pl, hz⟩ := I.list hq
    have hlen := r'.length
    exact Calls.call_len_list pl.isList (by simp only [List.size_toArray] <;> omega) ⟨.int ys.length, H, I.tok _, ⟨s.toks + 1, by rw [List.size_toArray, hlen]⟩, q⟩
  · obtain ⟨its, r', pl, hz⟩ := I.tuple hq
    have hlen := r'.length
    exact len_tuple pl (by simp only [List.size_toArray] <;> omega) ⟨.int ys.length, H, I.tok _, ⟨s.toks + 1, by rw [List.size_toArray, hlen]⟩, q⟩
theorem CallR.or {f : Value} {r r' : List V → Hp → VK → Prop} (h : CallR X f r) (h' : CallR X f r') : CallR X f (fun xs H Q => r xs H Q ∨ r' xs H Q) := by
  intro pins s σ H xs us Q I rs q
  rcases q with q | q
  · exact h pins s σ H xs us Q I rs q
  · exact h' pins s σ H xs us Q I rs q
/-! ### the call of a builtin's method: o.m(..) -/
/-- the value is of that builtin type -/
def tyV (K : PySem.W.Frag) (T : String) (x : V) (H : Hp) : Prop := match x with
  | .str _ => T = "str"
  | .int _ => T = "int"
  | .ref p => (T = "list" ∧ ∃ xs, SqL K H p xs) ∨ (T = "tuple" ∧ ∃ o, K.lookup p = some o ∧ o.cls = .type "tuple" ∧ o.dict = none) ∨
      (T = "dict" ∧ ((∃ kvs, H p = some (.dK kvs)) ∨ ∃ kvs, H p = some (.dT kvs))) ∨ (T = "set" ∧ ∃ S n, H p = some (.set S n))
  | _ => False
theorem tyV_is {pins : List (Addr × Obj)} {σ : St} {H : Hp} {s : Shared} {T : String} {x : V} {v : Value} (I : Inv X pins σ H s) (r : RelV x v) (ty : tyV X.K T x H) :
    s.TypeIs v T ∧ ∀ a, v = .ref a → ∃ ob, s.heap.get? a = some ob ∧ ob.dict = none := by
  cases x with
  | str z =>
    obtain ⟨t, rfl⟩ := r
    cases (show T = "str" from ty)
    exact ⟨typeIs_str s z t, fun _ e => nomatch e⟩
  | int i =>
    obtain ⟨t, rfl⟩ := r
    cases (show T = "int" from ty)
    exact ⟨typeIs_int s i t, fun _ e => nomatch e⟩
  | ref p =>
    cases r
    rcases ty with ⟨rfl, xs, hq⟩ | ⟨rfl, o, hk, hc, hd⟩ | ⟨rfl, hk⟩ | ⟨rfl, S, n, hk⟩
    · obtain ⟨its, _, pl, _⟩ := I.list hq
      refine ⟨pl.isList.typeIs, fun a e => ?_⟩
      cases e
      obtain ⟨o, n, e, c, hd, _⟩ := pl
      exact ⟨o, e, hd⟩
    · refine ⟨⟨o, I.kIn p o hk, hc⟩, fun a e => ?_⟩
      cases e
      exact ⟨o, I.kIn _ o hk, hd⟩
    · have z : ∃ o, s.heap.get? p = some o ∧ o.ExactDict := by
        rcases hk with ⟨kvs, hk⟩ | ⟨kvs, hk⟩
        · obtain ⟨_, _, _, _, o, _, _, e, ex, _⟩ := I.hok p _ hk
          exact ⟨o, e, ex⟩
        · obtain ⟨_, _, _, _, o, _, _, e, ex, _⟩ := I.hok p _ hk
          exact ⟨o, e, ex⟩
      obtain ⟨o, e, ex⟩ := z
      refine ⟨⟨o, e, ex.1⟩, fun a e2 => ?_⟩
      cases e2
      exact ⟨o, e, ex.2.1⟩
    · obtain ⟨o, _, _, _, e, ex, _⟩ := I.hok p _ hk
      refine ⟨⟨o, e, ex.1⟩, fun a e2 => ?_⟩
      cases e2
      exact ⟨o, e, ex.2.1⟩
  | _ => exact False.elim ty
def tBM (K : PySem.W.Frag) (T : String) (r : V → List V → Hp → VK → Prop) (to : TE) (t : TA) : TE := fun σ H Q => to σ H fun x H1 => tyV K T x H1 ∧ t σ H1 fun xs H2 => r x xs H2 Q
variable {o e : Expr} {es : List Expr} {to : TE} {t : TA} {name : Str} {apos cpos : Pos} {T id : String} {r : V → List V → Hp → VK → Prop}
theorem pe_bm (pa : PlainAttrs T) (slot : Slot T name id) (hty : typeOf (.builtin id) = pure (.type "method_descriptor")) (hm : MtR X id r) (ho : PE X o to) (ha : PA X (e :: es) t)
    (hbase : attributeBase o name X.env (eval o X.env) = eval o X.env := by rfl)
    (hfew : ((backTo cpos (starEach (e :: es) X.env)).all (fun x => !x.1) && (backToKw cpos (keywordEach [] X.env)).all (fun x => x.1.isSome)
      && decide ((e :: es).length + ([] : List Keyword).length + (if ([] : List Keyword).isEmpty then 0 else 1) < 30)) = true := by rfl)
    (hline : (apos.endLine == cpos.line) = true := by rfl) (hs : starEach (e :: es) X.env = (false, eval e X.env) :: starEach es X.env := by rfl) (hplain : (backTo cpos (starEach es X.env)).any (·.1) = false := by rfl) :
    PE X (.Call (.Attribute o name apos) (e :: es) [] cpos) (tBM X.K T r to t) := by
  intro pins s σ H Q I h
  refine wpAny_Call_method_late hbase hfew hline rfl (thn (ho pins s σ H _ I h) fun v s1 ⟨x, H1, I1, r1, ty, q1⟩ => ?_)
  obtain ⟨h1, h2⟩ := tyV_is I1 r1 ty
  refine ⟨T, id, pa, slot, hty, h1, h2, ?_⟩
  have hA := ha cpos pins s1 σ H1 _ I1 q1
  rw [hs] at hA ⊢
  refine Calls.callWith_builtin (by show (false || (backTo cpos (starEach es X.env)).any (·.1)) = false; rw [hplain] <;> rfl) (Calls.evalArgs_plain ?_)
  exact thn hA fun us s2 ⟨vs, H2, I2, r2, q2⟩ => hm pins s2 σ H2 x vs v us Q I2 r1 r2 q2
/- xs.append(e), list.index on a module's tuple .. are MtR facts of 06m -/
end
end L2

namespace L2
open PySem PySem.Spec PyProof.Rows

def MtM (X : Cx) (id : String) (r : V → List V → Hp → VK → Prop) : Prop :=
  ∀ (pins : List (Addr × Obj)) (s : Shared) (σ : St) (H : Hp) (x : V) (xs : List V) (v : Value) (us : List Value) (Q : VK), Inv X pins σ H s → RelV x v → Vals xs us → r x xs H Q →
    wpAny (model X.prog X.w) X.A (call (.builtin id) (v :: us)) (EP X pins σ Q) X.xe s

/-! ### lists of values -/
theorem Vals.one : ∀ {x : V} {us : List Value}, Vals [x] us → ∃ u, us = [u] ∧ RelV x u
  | _, _, .cons r .nil => ⟨_, rfl, r⟩
theorem Vals.two : ∀ {x y : V} {us : List Value}, Vals [x, y] us → ∃ u v, us = [u, v] ∧ RelV x u ∧ RelV y v
  | _, _, _, .cons r (.cons q .nil) => ⟨_, _, rfl, r, q⟩
theorem Vals.zero : ∀ {us : List Value}, Vals [] us → us = []
  | _, .nil => rfl
theorem Vals.dropLast {xs : List V} {us : List Value} (h : Vals xs us) : Vals xs.dropLast us.dropLast := by
  induction h with
  | nil => exact .nil
  | cons r t ih =>
    cases t with
    | nil => exact .nil
    | cons q t' => exact .cons r ih
theorem Vals.reverse {xs : List V} {us : List Value} (h : Vals xs us) : Vals xs.reverse us.reverse := by
  induction h with
  | nil => exact .nil
  | cons r t ih => rw [List.reverse_cons, List.reverse_cons]; exact Vals.append ih (.cons r .nil)
theorem Vals.rep {xs : List V} {us : List Value} (h : Vals xs us) : ∀ k : Nat, Vals (List.replicate k xs).flatten (List.replicate k us).flatten
  | 0 => .nil
  | k + 1 => by
    rw [List.replicate_succ, List.replicate_succ, List.flatten_cons, List.flatten_cons]
    exact Vals.append h (Vals.rep h k)
theorem foldl_rep (its : List Value) : ∀ (k : Nat) (acc : List Value),
    List.foldl (fun x1 x2 => x1 ++ x2) acc.toArray (List.replicate k its.toArray) = (acc ++ (List.replicate k its).flatten).toArray
  | 0, acc => by simp
  | k + 1, acc => by
    have e : acc.toArray ++ its.toArray = (acc ++ its).toArray := by simp
    have e2 : (acc ++ its) ++ (List.replicate k its).flatten = acc ++ (List.replicate (k + 1) its).flatten := by
      rw [List.replicate_succ, List.flatten_cons, List.append_assoc]
    rw [← e2, ← foldl_rep its k (acc ++ its), ← e, List.replicate_succ, List.foldl_cons]

section
variable {X : Cx} {pins : List (Addr × Obj)} {σ : St} {H : Hp} {s : Shared} {l b : Addr} {xs ys zs : List V}

/-! ### the two steps: a tracked list is rewritten, a new list is laid -/
theorem Inv.lset {its its' : List Value} {n : Nat} {f : Array Value → Array Value} {t' : Nat} (I : Inv X pins σ H s) (hH : H l = some (.lst xs))
    (e : s.heap.get? l = some { cls := .type "list", data := .seq its.toArray n }) (hf : f its.toArray = its'.toArray) (hv : Vals ys its') (hz : ys.length ≤ sizeLine) :
    Inv X pins σ (upd H l (.lst ys)) { s with heap := s.heap.update l (Obj.mapSeq f), toks := t' } := by
  have q := PySem.IsL.update e f
  rw [hf] at q
  refine I.write (x := l) (e := l) (by rw [hH]; exact trivial) (.inl rfl) (fun b' u hb hu => (Heap.get?_update_other s.heap (Obj.mapSeq f) (Ne.symm hb)).trans hu) ⟨_, q⟩ ?_
  exact ⟨hz, its', _, hv, q⟩
theorem Inv.lnew {its : List Value} {t' : Nat} (I : Inv X pins σ H s) (hv : Vals ys its) (hz : ys.length ≤ sizeLine) :
    Inv X pins σ (upd H s.heap.objs.size (.lst ys)) { s with heap := s.heap.push { cls := .type "list", data := .seq its.toArray }, toks := t' } :=
  I.laid (fun _ _ q => Heap.get?_push_of_some _ q) (Nat.le_refl _) ⟨hz, its, 0, hv, Heap.get?_push_size _ rfl⟩
theorem Inv.fresh (I : Inv X pins σ H s) : H s.heap.objs.size = none := I.hok.fresh (Nat.le_refl _)
theorem Inv.lstM (I : Inv X pins σ H s) (hH : H l = some (.lst xs)) : xs.length ≤ sizeLine ∧ ∃ (its : List Value) (n : Nat), Vals xs its ∧ xs.length = its.length ∧ s.heap.get? l = some { cls := .type "list", data := .seq its.toArray n } := by
  obtain ⟨z, its, n, r, e⟩ := I.hok l _ hH
  exact ⟨z, its, n, r, r.length, e⟩

theorem notLongL {n : Nat} (h : n ≤ sizeLine) : Builtin.List.listTooLong n = false := by
  unfold Builtin.List.listTooLong
  exact decide_eq_false (by omega)
end

section
variable {X : Cx}

/-! ### methods -/
def rAppend : V → List V → Hp → VK → Prop := fun x vs H Q => ∃ l xs y, x = .ref l ∧ vs = [y] ∧ H l = some (.lst xs) ∧ xs.length < sizeLine ∧ Q .non (upd H l (.lst (xs ++ [y])))
theorem mt_append : MtM X "list.append" rAppend := by
  intro pins s σ H x vs v us Q I rx rv h
  obtain ⟨l, xs, y, rfl, rfl, hH, hz, q⟩ := h
  cases rx
  obtain ⟨u, rfl, ru⟩ := rv.one
  obtain ⟨z, its, n, r, hl, e⟩ := I.lstM hH
  refine call_meets F.slot_list_append ⟨_, e, rfl⟩ F.entry_list_append (F.args_list_append_2 _ _) (PySem.list_append l its.toArray n u (by rw [List.size_toArray]; omega)) ⟨e, ?_⟩
  refine ⟨.non, _, I.lset (its' := its ++ [u]) hH e (by simp) (r.append (.cons ru .nil)) ?_, rfl, q⟩
  rw [List.length_append, List.length_singleton]
  omega

def rExtend : V → List V → Hp → VK → Prop := fun x vs H Q => ∃ l b xs zs, x = .ref l ∧ vs = [.ref b] ∧ H l = some (.lst xs) ∧ H b = some (.lst zs) ∧ xs.length + zs.length ≤ sizeLine ∧ Q .non (upd H l (.lst (xs ++ zs)))
theorem mt_extend : MtM X "list.extend" rExtend := by
  intro pins s σ H x vs v us Q I rx rv h
  obtain ⟨l, b, xs, zs, rfl, rfl, hH, hB, hz, q⟩ := h
  cases rx
  obtain ⟨u, rfl, ru⟩ := rv.one
  cases ru
  obtain ⟨z, its, n, r, hl, e⟩ := I.lstM hH
  obtain ⟨z2, its2, n2, r2, hl2, e2⟩ := I.lstM hB
  have hsz : its.toArray.size + its2.toArray.size ≤ sizeLine := by rw [List.size_toArray, List.size_toArray]; omega
  have hlong : ¬ (!its.toArray.isEmpty && Builtin.List.listTooLong (its.toArray.size + its2.toArray.size)) = true := by
    rw [notLongL hsz, Bool.and_false]
    exact Bool.false_ne_true
  refine call_meets F.slot_list_extend ⟨_, e, rfl⟩ F.entry_list_extend (F.args_list_extend_2 _ _)
    (AutoSeq1.list_extend_list_list_0 l its.toArray n b its2.toArray n2 hlong (by rw [List.size_toArray]; omega) (by omega)) ⟨e, e2, ?_⟩
  refine ⟨.non, _, I.lset (its' := its ++ its2) hH e (by simp) (r.append r2) ?_, rfl, q⟩
  rw [List.length_append]
  omega

/-! ### list + list, list += list, list * int -/
def rCat : R2 := fun x y H Q => ∃ l b xs zs, x = .ref l ∧ y = .ref b ∧ H l = some (.lst xs) ∧ H b = some (.lst zs) ∧ xs.length + zs.length ≤ sizeLine ∧ ∀ p, H p = none → Q (.ref p) (upd H p (.lst (xs ++ zs)))
theorem op_cat : OpR X (binaryOp .Add) rCat := by
  intro pins s σ H x y v u Q I rx ry h
  obtain ⟨l, b, xs, zs, rfl, rfl, hH, hB, hz, q⟩ := h
  cases rx
  cases ry
  obtain ⟨z, its, n, r, hl, e⟩ := I.lstM hH
  obtain ⟨z2, its2, n2, r2, hl2, e2⟩ := I.lstM hB
  refine PySem.P.add_list e e2 ?_ (by rw [List.size_toArray, List.size_toArray]; omega)
  have ea : its.toArray ++ its2.toArray = (its ++ its2).toArray := by simp
  rw [ea]
  exact ⟨.ref _, _, I.lnew (t' := s.toks) (r.append r2) (by rw [List.length_append]; omega), rfl, q _ I.fresh⟩
/-- a list times an int (a negative one is nothing) -/
def rRep : R2 := fun x y H Q => ∃ l k xs, x = .ref l ∧ y = .int k ∧ H l = some (.lst xs) ∧ -(2 ^ 63) ≤ k ∧ k < 2 ^ 63 ∧ xs.length * k.toNat ≤ sizeLine ∧
  ∀ p, H p = none → Q (.ref p) (upd H p (.lst (List.replicate k.toNat xs).flatten))
theorem len_rep {α : Type} (xs : List α) (k : Nat) : (List.replicate k xs).flatten.length = k * xs.length := by
  induction k with
  | zero => simp
  | succ k ih => rw [List.replicate_succ, List.flatten_cons, List.length_append, ih, Nat.succ_mul, Nat.add_comm]
theorem op_rep : OpR X (binaryOp .Mult) rRep := by
  intro pins s σ H x y v u Q I rx ry h
  obtain ⟨l, k, xs, rfl, rfl, hH, h1, h2, hz, q⟩ := h
  cases rx
  obtain ⟨t, rfl⟩ := ry
  obtain ⟨z, its, n, r, hl, e⟩ := I.lstM hH
  have hlen : its.toArray.size * k.toNat ≤ sizeLine := by rw [List.size_toArray, ← hl]; exact hz
  have hcap : ¬ its.toArray.size * k.toNat > (2 ^ 63 - 1) / 8 := by
    have : (sizeLine : Nat) ≤ (2 ^ 63 - 1) / 8 := by decide
    omega
  have hfit : ¬ (!Builtin.List.listFitsIndex k) = true := by
    rw [fitsIndex_both h1 h2]
    exact Bool.false_ne_true
  have hlong : ¬ Builtin.List.listTooLong (its.toArray.size * k.toNat) = true := by
    rw [notLongL hlen]
    exact Bool.false_ne_true
  have hnew : List.foldl (fun x1 x2 => x1 ++ x2) #[] (List.replicate (if its.toArray.isEmpty = true then 0 else k.toNat) its.toArray) = (List.replicate k.toNat its).flatten.toArray := by
    have f0 : ∀ m : Nat, List.foldl (fun x1 x2 => x1 ++ x2) #[] (List.replicate m its.toArray) = (List.replicate m its).flatten.toArray := fun m => by
      have := foldl_rep its m []
      rw [List.nil_append] at this
      exact this
    rw [f0]
    cases its with
    | nil => simp
    | cons a r' => rw [if_neg (by simp)]
  refine wpAny_binaryOp_repeat_ref (T := "list") (U := "int") (by decide) ⟨_, e, rfl⟩ (fun s' => typeIs_int s' k t) noFill_list_mul F.fills_int_mul F.slot_int_rmul repeat_list F.slot_int_index.lookup
    (call_meets F.slot_int_rmul (typeIs_int s k t) F.entry_int_rmul (F.args_int_rmul_2 _ _) (int___rmul___int_list k t l its.toArray n)
      ⟨e, rfl, ⟨_, e, rfl⟩, call_meets F.slot_list_mul ⟨_, e, rfl⟩ F.entry_list_mul (F.args_list_mul_2 _ _) (AutoListH.list___mul___list_int_3 l its.toArray n k t hfit hcap hlong) ⟨e, ?_⟩⟩)
  rw [hnew]
  exact ⟨.ref _, _, I.lnew (t' := s.toks) (r.rep k.toNat) (by rw [len_rep, Nat.mul_comm]; exact hz), rfl, q _ I.fresh⟩

/-! ### del xs[i] -/
end

/-! ### xs[a:b] = ys -/
section
variable {prog : Program} {w : World} {A : Around} {E : Value → Shared → Prop} {s : Shared}
end

section
variable {X : Cx}
end
end L2

namespace L2
open PySem PySem.Spec PyProof.Rows

theorem Vals.ints : ∀ {ns : List Int} {us : List Value}, Vals (ns.map V.int) us → IntsAre us ns
  | [], us, h => by
    rw [List.map_nil] at h
    cases h
    exact IntsAre.nil
  | n :: ns, us, h => by
    rw [List.map_cons] at h
    cases h with
    | cons r t =>
      obtain ⟨k, rfl⟩ := r
      exact IntsAre.cons n k (Vals.ints t)
theorem Vals.strs : ∀ {xs : List Str} {us : List Value}, Vals (xs.map V.str) us → StrsAre us xs
  | [], us, h => by
    rw [List.map_nil] at h
    cases h
    exact StrsAre.nil
  | x :: xs, us, h => by
    rw [List.map_cons] at h
    cases h with
    | cons r t =>
      obtain ⟨k, rfl⟩ := r
      exact StrsAre.cons x k (Vals.strs t)
theorem Vals.ref1 {a : Addr} {us : List Value} (r : Vals [V.ref a] us) : us = [Value.ref a] := by
  cases r with
  | cons r t =>
    cases t
    cases r
    rfl
/-! ### the library's walks over a list of ints, kept objects alone -/
section
variable {prog : Program} {w : World} {A : Around} {E : Value → Shared → Prop} {s : Shared} {l : Addr} {its : List Value} {ns : List Int} {Q : Value → Shared → Prop}
theorem min_raw (hh : A.handled = none) (hl : s.heap.IsList l its.toArray) (hi : IntsAre its ns) (hne : 0 < ns.length)
    (h : ∀ h' tk M t', (∀ b o, s.heap.get? b = some o → h'.get? b = some o) → M ∈ ns → (∀ a, a ∈ ns → M ≤ a) → Q (.int M t') { s with heap := h', toks := tk }) : wpAny (model prog w) A (call (.builtin "min") [.ref l]) Q E s := by
  obtain ⟨xs, e⟩ := hi.allInts.items
  have hn : numsOf (intItems xs).toList = ns := by rw [← e]; exact hi.numsOf
  rw [nums_intItems] at hn
  subst hn
  rw [e] at hl
  have hsz : 0 < xs.size := by simpa using hne
  refine PySem.min_intList hh hl hsz fun v h' tk hv hk => ?_
  obtain ⟨t, rfl⟩ := intItems_at hv
  obtain ⟨h1, h2⟩ := argBest_lt (numAt xs) (xs.size - 1)
  refine h h' tk _ t hk ?_ fun a ha => ?_
  · rw [numAt_eq]; exact PySem.getD_mem (by rw [List.length_map, Array.length_toList]; omega)
  · obtain ⟨j, hj, rfl⟩ := mem_getD ha
    rw [List.length_map, Array.length_toList] at hj
    rw [← numAt_eq]; exact h2 j (by omega)
end

/-! ### the calls, by values (CallR of 03t; MtR of 06l) -/
section
variable {X : Cx}
def rMin (K : PySem.W.Frag) : List V → Hp → VK → Prop := fun vs H Q => ∃ (a : Addr) (ns : List Int), vs = [V.ref a] ∧ SqL K H a (ns.map V.int) ∧ 0 < ns.length ∧ ∀ m, m ∈ ns → (∀ y, y ∈ ns → m ≤ y) → Q (.int m) H
theorem cr_min (hc : X.calm = true) : CallR X (.builtin "min") (rMin X.K) := by
  intro pins s σ H vs us Q I r h
  obtain ⟨a, ns, rfl, hs, hne, q⟩ := h
  obtain ⟨its, rv, hl, _⟩ := I.list hs
  rw [Vals.ref1 r]
  exact min_raw (I.ok.hd hc) hl.isList rv.ints hne fun h' tk m t' hk h1 h2 => ⟨.int _, H, I.kept hk, ⟨_, rfl⟩, q m h1 h2⟩

/-! sorted, sort (fewer than 64 items: the library's own bound) -/
end

/-! ### list.index, flat items -/
section
variable {X : Cx}
end

/-! ### type(x) of an own instance; is, is not of a module's class -/
section
variable {X : Cx}
end

/-! ### any(xs), all(xs) of a list of bools -/
section
variable {X : Cx}
end

/-! ### == and != of data at any depth: none, bools, ints, texts, lists, tuples -/
mutual
inductive Dp (K : PySem.W.Frag) (H : Hp) : V → PyData → Prop
  | non : Dp K H .non .none
  | bl (b : Bool) : Dp K H (.bl b) (.bool b)
  | int (i : Int) : Dp K H (.int i) (.int i)
  | str (x : Str) : Dp K H (.str x) (.str x)
  | lst {a : Addr} {xs : List V} {ds : List PyData} : SqL K H a xs → DpAll K H xs ds → Dp K H (.ref a) (.list ds)
  | tup {a : Addr} {xs : List V} {ds : List PyData} : SqT K H a xs → DpAll K H xs ds → Dp K H (.ref a) (.tuple ds)
inductive DpAll (K : PySem.W.Frag) (H : Hp) : List V → List PyData → Prop
  | nil : DpAll K H [] []
  | cons {v : V} {vs : List V} {d : PyData} {ds : List PyData} : Dp K H v d → DpAll K H vs ds → DpAll K H (v :: vs) (d :: ds)
end
section
variable {X : Cx} {pins : List (Addr × Obj)} {σ : St} {H : Hp} {s : Shared}
mutual
theorem Dp.reads (I : Inv X pins σ H s) : ∀ (d : PyData) (v : V) (u : Value), Dp X.K H v d → RelV v u → ∃ as, Reads s.heap u d as
  | .none, _, _, h, r => by
    cases h
    cases r
    exact ⟨_, Reads.none⟩
  | .bool b, _, _, h, r => by
    cases h
    cases r
    exact ⟨_, Reads.bool b⟩
  | .int i, _, _, h, r => by
    cases h
    obtain ⟨t, rfl⟩ := r
    exact ⟨_, Reads.int i t⟩
  | .str x, _, _, h, r => by
    cases h
    obtain ⟨t, rfl⟩ := r
    exact ⟨_, Reads.str x t⟩
  | .list ds, _, _, h, r => by
    cases h with
    | lst hs ha =>
      cases r
      obtain ⟨its, rv, ⟨o, n, ho, hc, _, hd⟩, _⟩ := I.list hs
      obtain ⟨as, hr⟩ := Dp.readsAll I ds _ its ha rv
      exact ⟨_, Reads.list ho hc hd hr⟩
  | .tuple ds, _, _, h, r => by
    cases h with
    | tup hs ha =>
      cases r
      obtain ⟨its, rv, ⟨o, ho, hc, n, hd⟩, _⟩ := I.tuple hs
      obtain ⟨as, hr⟩ := Dp.readsAll I ds _ its ha rv
      exact ⟨_, Reads.tuple ho hc hd hr⟩
  | .dict _, _, _, h, _ => by cases h
theorem Dp.readsAll (I : Inv X pins σ H s) : ∀ (ds : List PyData) (vs : List V) (us : List Value), DpAll X.K H vs ds → Vals vs us → ∃ as, ReadsAll s.heap us ds as
  | [], _, _, h, r => by
    cases h
    cases r
    exact ⟨_, ReadsAll.nil⟩
  | d :: ds, _, _, h, r => by
    cases h with
    | cons h1 h2 =>
      cases r with
      | cons r1 r2 =>
        obtain ⟨as, q1⟩ := Dp.reads I d _ _ h1 r1
        obtain ⟨bs, q2⟩ := Dp.readsAll I ds _ _ h2 r2
        exact ⟨_, ReadsAll.cons q1 q2⟩
end
end
section
variable {X : Cx}
def rEqD (K : PySem.W.Frag) : R2 := fun x y H Q => ∃ d e, Dp K H x d ∧ Dp K H y e ∧ SeqAt.shaped d = true ∧ SeqAt.shaped e = true ∧ Q (.bl (PyData.eqv d e)) H
def rNeD (K : PySem.W.Frag) : R2 := fun x y H Q => ∃ d e, Dp K H x d ∧ Dp K H y e ∧ SeqAt.shaped d = true ∧ SeqAt.shaped e = true ∧ Q (.bl (!PyData.eqv d e)) H
theorem op_eqD (hu : X.A.units + 64 < cLine) : OpR X (compareOp .Eq) (rEqD X.K) := by
  intro pins s σ H x y v u Q I rx ry h
  obtain ⟨d, e, hd, he, sd, se, q⟩ := h
  obtain ⟨as, r1⟩ := Dp.reads I d x v hd rx
  obtain ⟨bs, r2⟩ := Dp.reads I e y u he ry
  exact SeqAt.compareEq_shaped r1 r2 sd se hu ⟨.bl _, H, I, rfl, q⟩
theorem op_neD (hu : X.A.units + 64 < cLine) : OpR X (compareOp .NotEq) (rNeD X.K) := by
  intro pins s σ H x y v u Q I rx ry h
  obtain ⟨d, e, hd, he, sd, se, q⟩ := h
  obtain ⟨as, r1⟩ := Dp.reads I d x v hd rx
  obtain ⟨bs, r2⟩ := Dp.reads I e y u he ry
  exact SeqAt.compareNe_shaped r1 r2 sd se hu ⟨.bl _, H, I, rfl, q⟩
end
end L2

namespace L2
open PySem PySem.Spec PyProof.Rows
abbrev CellAt (h : Heap) (c : Addr) (v : Option Value) : Prop := h.IsCell c v
def relS (scope sc : Scope) : Scope :=
  { scope with names := scope.names.map fun (n, k) => if (k == .free && sc.kind == .function && sc.names.lookup n == some .cell) then (n, .cell) else (n, k) }

def cloFrom (cells : List (Str × Addr)) : List (Str × NameKind) → List (Str × Addr) → List (Str × Addr)
  | [], acc => acc
  | (n, k) :: r, acc => if k == .free then cloFrom cells r ((n, (cells.lookup n).getD 0) :: acc) else cloFrom cells r acc

theorem closure_loop (env : Env) (f : Str × NameKind → List (Str × Addr) → Sem (ForInStep (List (Str × Addr))))
    (hf : ∀ n k c, f (n, k) c = if k == .free then (do let a ← cellOf env n; pure (.yield ((n, a) :: c))) else pure (.yield c)) :
    ∀ (names : List (Str × NameKind)) (acc : List (Str × Addr)), (∀ y ∈ names, y.2 = .free → ∃ c, env.cells.lookup y.1 = some c) → forIn names acc f = pure (cloFrom env.cells names acc)
  | [], acc, _ => by rw [List.forIn_nil]; rfl
  | (n, k) :: r, acc, h => by
    rw [List.forIn_cons, hf]
    have ih := fun acc => closure_loop env f hf r acc fun y hy => h y (List.mem_cons_of_mem _ hy)
    unfold cloFrom
    by_cases hk : (k == NameKind.free) = true
    · rw [if_pos hk, if_pos hk]
      obtain ⟨c, hc⟩ := h (n, k) List.mem_cons_self (by simpa using hk)
      have e : cellOf env n = pure c := by unfold cellOf; rw [hc]
      rw [e]
      have e2 : (env.cells.lookup n).getD 0 = c := by rw [hc]; rfl
      rw [e2]
      exact ih _
    · rw [if_neg hk, if_neg hk]
      exact ih _
theorem closure_ok {scope : Scope} {env : Env} (h : ∀ y ∈ scope.names, y.2 = .free → ∃ c, env.cells.lookup y.1 = some c) : closureFor scope env = pure (cloFrom env.cells scope.names []) := by
  simp only [closureFor]
  rw [closure_loop env _ (fun n k c => rfl) scope.names [] h]
  rfl

theorem mem_lookup {α : Type} : ∀ {l : List (Str × α)} {n : Str} {c : α}, (n, c) ∈ l → ∃ c', l.lookup n = some c'
  | (k, v) :: r, n, c, h => by
    rw [List.lookup_cons]
    cases hb : n == k with
    | true => exact ⟨_, rfl⟩
    | false =>
      rcases List.mem_cons.mp h with e | h
      · cases e; simp at hb
      · exact mem_lookup h

theorem cloFrom_mem {cells : List (Str × Addr)} : ∀ {names : List (Str × NameKind)} {acc : List (Str × Addr)} {n : Str} {c : Addr}, (n, c) ∈ cloFrom cells names acc → (n, c) ∈ acc ∨ ((n, .free) ∈ names ∧ c = (cells.lookup n).getD 0)
  | [], _, _, _, h => .inl h
  | (m, k) :: r, acc, n, c, h => by
    unfold cloFrom at h
    split at h
    · rename_i hk
      have hk : k = .free := by simpa using hk
      rcases cloFrom_mem h with h | ⟨h1, h2⟩
      · rcases List.mem_cons.mp h with e | h
        · cases e; exact .inr ⟨hk ▸ List.mem_cons_self, rfl⟩
        · exact .inl h
      · exact .inr ⟨List.mem_cons_of_mem _ h1, h2⟩
    · rcases cloFrom_mem h with h | ⟨h1, h2⟩
      · exact .inl h
      · exact .inr ⟨List.mem_cons_of_mem _ h1, h2⟩
theorem cloFrom_acc {cells : List (Str × Addr)} : ∀ {names : List (Str × NameKind)} {acc : List (Str × Addr)} {p : Str × Addr}, p ∈ acc → p ∈ cloFrom cells names acc
  | [], _, _, h => h
  | (m, k) :: r, acc, p, h => by
    unfold cloFrom
    split
    · exact cloFrom_acc (List.mem_cons_of_mem _ h)
    · exact cloFrom_acc h
theorem cloFrom_has {cells : List (Str × Addr)} : ∀ {names : List (Str × NameKind)} {acc : List (Str × Addr)} {n : Str}, (n, .free) ∈ names → (n, (cells.lookup n).getD 0) ∈ cloFrom cells names acc
  | (m, k) :: r, acc, n, h => by
    unfold cloFrom
    rcases List.mem_cons.mp h with e | h
    · cases e
      exact cloFrom_acc List.mem_cons_self
    · split
      · exact cloFrom_has h
      · exact cloFrom_has h

theorem cells_mem : ∀ {names : List (Str × NameKind)} {h : Heap} {acc : List (Str × Addr)} {x : Str} {c : Addr}, (x, c) ∈ cellsFrom h.objs.size names acc →
    (x, c) ∈ acc ∨ ((x, .cell) ∈ names ∧ h.objs.size ≤ c ∧ CellAt (pushCells h names) c none)
  | [], _, _, _, _, h => .inl h
  | (n, k) :: r, h, acc, x, c, hm => by
    unfold cellsFrom at hm
    unfold pushCells
    split at hm
    · rename_i hk
      rw [if_pos hk]
      have hk : k = .cell := by simpa using hk
      rw [← Heap.size_push h { cls := .type "cell", data := .cell none }] at hm
      rcases cells_mem hm with hm | ⟨h1, h2, h3⟩
      · rcases List.mem_cons.mp hm with e | hm
        · cases e
          exact .inr ⟨hk ▸ List.mem_cons_self, Nat.le_refl _, _, pushCells_keeps r _ _ _ (Heap.get?_push_size _ rfl), rfl⟩
        · exact .inl hm
      · rw [Heap.size_push] at h2
        exact .inr ⟨List.mem_cons_of_mem _ h1, Nat.le_of_succ_le h2, h3⟩
    · rename_i hk
      rw [if_neg hk]
      rcases cells_mem hm with hm | ⟨h1, h2, h3⟩
      · exact .inl hm
      · exact .inr ⟨List.mem_cons_of_mem _ h1, h2, h3⟩
theorem cells_acc : ∀ {names : List (Str × NameKind)} {n : Nat} {acc : List (Str × Addr)} {p : Str × Addr}, p ∈ acc → p ∈ cellsFrom n names acc
  | [], _, _, _, h => h
  | (m, k) :: r, n, acc, p, h => by
    unfold cellsFrom
    split
    · exact cells_acc (List.mem_cons_of_mem _ h)
    · exact cells_acc h
theorem cells_has : ∀ {names : List (Str × NameKind)} {n : Nat} {acc : List (Str × Addr)} {x : Str}, (x, .cell) ∈ names → ∃ c, (x, c) ∈ cellsFrom n names acc
  | (m, k) :: r, n, acc, x, h => by
    unfold cellsFrom
    rcases List.mem_cons.mp h with e | h
    · cases e
      exact ⟨n, cells_acc List.mem_cons_self⟩
    · split
      · exact cells_has h
      · exact cells_has h
theorem cells_inj : ∀ {names : List (Str × NameKind)} {h : Heap} {acc : List (Str × Addr)} {x y : Str} {c : Addr}, (∀ p ∈ acc, p.2 < h.objs.size) → (∀ x y c, (x, c) ∈ acc → (y, c) ∈ acc → x = y) →
    (x, c) ∈ cellsFrom h.objs.size names acc → (y, c) ∈ cellsFrom h.objs.size names acc → x = y
  | [], _, _, _, _, _, _, hi, h1, h2 => hi _ _ _ h1 h2
  | (n, k) :: r, h, acc, x, y, c, hl, hi, h1, h2 => by
    unfold cellsFrom at h1 h2
    split at h1
    · rename_i hk
      rw [if_pos hk] at h2
      rw [← Heap.size_push h { cls := .type "cell", data := .cell none }] at h1 h2
      refine cells_inj (h := h.push _) (fun p hp => ?_) (fun x y c a b => ?_) h1 h2
      · rw [Heap.size_push]
        rcases List.mem_cons.mp hp with rfl | hp
        · exact Nat.lt_succ_self _
        · exact Nat.lt_succ_of_lt (hl p hp)
      · rcases List.mem_cons.mp a with e | a <;> rcases List.mem_cons.mp b with e' | b
        · cases e; cases e'; rfl
        · cases e; exact absurd (hl _ b) (Nat.lt_irrefl _)
        · cases e'; exact absurd (hl _ a) (Nat.lt_irrefl _)
        · exact hi _ _ _ a b
    · rename_i hk
      rw [if_neg hk] at h2
      exact cells_inj hl hi h1 h2

theorem newEnv_comp {M : Model} {A : Around} {E : Value → Shared → Prop} {s : Shared} {scope : Scope} {globals : Addr} {closure : List (Str × Addr)} {qual : Str} {func : Option Addr} {code : Value} {around : Env} {builtins : Addr} {Q : Env → Shared → Prop}
    (h : Q (newEnv scope s.heap.objs.size globals (cellsFrom (s.heap.objs.size + 1) scope.names closure) qual func code (some around) builtins)
      { s with heap := pushCells (s.heap.push { cls := .type "dict", data := .dict #[] }) scope.names }) :
    wpAny M A (newFunctionEnv scope globals closure [] qual func code (some around) builtins) Q E s := by
  simp only [newFunctionEnv, Option.isSome_some, if_true]
  refine wpAny_bind (wpAny_alloc ?_)
  refine wpAny_bind (wpAny_layCells _ (fun n k c => rfl) scope.names closure _ _ ?_)
  rw [show ({ s with heap := s.heap.push { cls := .type "dict", data := .dict #[] } } : Shared).heap.objs.size = s.heap.objs.size + 1 from Heap.size_push ..]
  rw [List.forIn_nil]
  exact wpAny_bind (wpAny_pure (wpAny_pure h))

/-- every name of the written scope, in the scope that runs -/
theorem lookup_relS {sc : Scope} : ∀ {names : List (Str × NameKind)} {x : Str} {k : NameKind},
    (names.map fun (n, k) => if (k == NameKind.free && sc.kind == .function && sc.names.lookup n == some .cell) then (n, NameKind.cell) else (n, k)).lookup x = some k →
    ∃ k', names.lookup x = some k' ∧ (k = k' ∨ (k' = .free ∧ k = .cell))
  | [], _, _, h => by simp at h
  | (n, k₀) :: r, x, k, h => by
    have ih := @lookup_relS sc r x k
    have h' : List.lookup x ((if (k₀ == NameKind.free && sc.kind == .function && sc.names.lookup n == some .cell) = true then (n, NameKind.cell) else (n, k₀)) :: (r.map _)) = some k := h
    cases hx : x == n with
    | true =>
      simp only [List.lookup_cons, hx]
      by_cases hc : (k₀ == NameKind.free && sc.kind == .function && sc.names.lookup n == some .cell) = true
      · rw [if_pos hc] at h'
        simp only [List.lookup_cons, hx] at h'
        cases h'
        simp only [Bool.and_eq_true, beq_iff_eq] at hc
        exact ⟨k₀, rfl, .inr ⟨hc.1.1, rfl⟩⟩
      · rw [if_neg hc] at h'
        simp only [List.lookup_cons, hx] at h'
        cases h'
        exact ⟨_, rfl, .inl rfl⟩
    | false =>
      simp only [List.lookup_cons, hx]
      by_cases hc : (k₀ == NameKind.free && sc.kind == .function && sc.names.lookup n == some .cell) = true
      · rw [if_pos hc] at h'
        simp only [List.lookup_cons, hx] at h'
        exact ih h'
      · rw [if_neg hc] at h'
        simp only [List.lookup_cons, hx] at h'
        exact ih h'
/-- the names of a comprehension's block: its own (with their places in N), or captured -/
structure BlkOk (N : List Str) (sc scope : Scope) (own : List (Str × Nat)) : Prop where
  kind : scope.kind = .function
  uniq : ∀ y ∈ scope.names, scope.names.lookup y.1 = some y.2
  ix : ∀ p ∈ own, N[p.2]? = some p.1
  free : ∀ y ∈ scope.names, y.2 = .free → sc.names.lookup y.1 = some .cell ∨ sc.names.lookup y.1 = some .free
  own : ∀ y ∈ scope.names, y.2 = .local ∨ y.2 = .cell → y.1 ∈ own.map (·.1) ∨ y.1 ∉ N
/-- the slots of the block's own names forgotten -/
def wipe (σ : St) : List Nat → St
  | [] => σ
  | v :: vs => (wipe σ vs).set v none
theorem wipe_length (σ : St) : ∀ vs : List Nat, (wipe σ vs).length = σ.length
  | [] => rfl
  | v :: vs => by unfold wipe; rw [List.length_set, wipe_length σ vs]
theorem wipe_some {σ : St} {i : Nat} {x : V} : ∀ {vs : List Nat}, (wipe σ vs)[i]? = some (some x) → σ[i]? = some (some x) ∧ i ∉ vs
  | [], h => ⟨h, by simp⟩
  | v :: vs, h => by
    unfold wipe at h
    by_cases hi : v = i
    · subst hi
      by_cases hv : v < (wipe σ vs).length
      · rw [List.getElem?_set_self hv] at h; cases h
      · rw [List.getElem?_eq_none (by simpa using hv)] at h; cases h
    · rw [List.getElem?_set_ne hi] at h
      obtain ⟨h1, h2⟩ := wipe_some h
      exact ⟨h1, by simp only [List.mem_cons, not_or]; exact ⟨fun e => hi e.symm, h2⟩⟩

/-- the context of a block that starts at s, its iterator's objects at fp -/
abbrev Cx.blk (X : Cx) (s : Shared) (H : Hp) (scope : Scope) (cenv : Env) (fp : List Addr) : Cx := { X with s_0 := s, H_0 := H, env := cenv, outer := X.stack, ex := fp, fn := fun x => scope.names.lookup x == some .cell, pn := [], xe := fun _ _ => False }
section
variable {X : Cx} {pins : List (Addr × Obj)} {σ : St} {H : Hp} {s : Shared}
theorem block_start {scope : Scope} {own : List (Str × Nat)} {fp : List Addr} (I : Inv X pins σ H s) (ok : BlkOk X.N X.env.scope scope own) (hN : X.N.Nodup) (hfp : ∀ b ∈ fp, FpOk X pins H b ∧ b < s.heap.objs.size) :
    Inv (X.blk s H scope (compEnvC scope (cellsFrom (s.heap.objs.size + 1) scope.names (cloFrom X.env.cells scope.names [])) s.heap.objs.size X.env) fp) [] (wipe σ (own.map (·.2))) H { s with heap := pushCells (s.heap.push { cls := .type "dict", data := .dict #[] }) scope.names } := by
  have hfree : ∀ y ∈ scope.names, y.2 = .free → ∃ c, X.env.cells.lookup y.1 = some c := fun y hy e => by
    rcases ok.free y hy e with k | k
    · exact I.ok.has _ (.inl k)
    · exact I.ok.has _ (.inr k)
  generalize hcenv : compEnvC scope (cellsFrom (s.heap.objs.size + 1) scope.names (cloFrom X.env.cells scope.names [])) s.heap.objs.size X.env = cenv
  have kp : ∀ b o, s.heap.get? b = some o → (pushCells (s.heap.push { cls := .type "dict", data := .dict #[] }) scope.names).get? b = some o := fun b o e => pushCells_keeps _ _ _ _ (Heap.get?_push_of_some _ e)
  have hL : cenv.locals = s.heap.objs.size := by rw [← hcenv]; rfl
  have hcl : cenv.cells = cellsFrom (s.heap.objs.size + 1) scope.names (cloFrom X.env.cells scope.names []) := by rw [← hcenv]; rfl
  have hsc : cenv.scope = relS scope X.env.scope := by rw [← hcenv]; rfl
  rw [← Heap.size_push s.heap { cls := .type "dict", data := .dict #[] }] at hcl
  have cm : ∀ {y c}, (y, c) ∈ cloFrom X.env.cells scope.names [] → X.env.cells.lookup y = some c ∧ c < s.heap.objs.size := fun {y c} hm => by
    rcases cloFrom_mem hm with hm | ⟨h1, rfl⟩
    · cases hm
    · obtain ⟨c, hc⟩ := hfree _ h1 rfl
      rw [hc]
      obtain ⟨w, z⟩ := I.cell _ _ hc
      exact ⟨rfl, z.lt⟩
  have mem : ∀ {y c}, cenv.cells.lookup y = some c → (X.env.cells.lookup y = some c ∧ c < s.heap.objs.size) ∨ (s.heap.objs.size + 1 ≤ c ∧ CellAt (pushCells (s.heap.push { cls := .type "dict", data := .dict #[] }) scope.names) c none) := fun {y c} e => by
    rw [hcl] at e
    rcases cells_mem (PySem.mem_of_lookup e) with hm | ⟨_, h2, h3⟩
    · exact .inl (cm hm)
    · rw [Heap.size_push] at h2; exact .inr ⟨h2, h3⟩
  have look : ∀ {y}, scope.names.lookup y = some .free → ∃ c, cenv.cells.lookup y = some c ∧ X.env.cells.lookup y = some c := fun {y} hl => by
    have hy : (y, NameKind.free) ∈ scope.names := PySem.mem_of_lookup hl
    obtain ⟨c', e'⟩ := mem_lookup (cells_acc (names := scope.names) (n := (s.heap.push { cls := .type "dict", data := .dict #[] }).objs.size) (cloFrom_has (cells := X.env.cells) (acc := []) hy))
    rw [← hcl] at e'
    refine ⟨c', e', ?_⟩
    rw [hcl] at e'
    rcases cells_mem (PySem.mem_of_lookup e') with hm | ⟨h1, _, _⟩
    · exact (cm hm).1
    · have := ok.uniq _ h1
      rw [hl] at this; cases this
  have okB : (X.blk s H scope cenv fp).Ok := by
    refine ⟨I.ok.mod, by show cenv.scope.kind = _; rw [hsc]; exact ok.kind, by show cenv.globals = _; rw [← hcenv]; exact I.ok.glob, by show cenv.builtins = _; rw [← hcenv]; exact I.ok.blt, by show s.heap.objs.size ≤ cenv.locals; rw [hL]; exact Nat.le_refl _,
      fun y z c e1 e2 => ?_, fun y hy => ?_, fun y c z e => ?_, I.ok.hd, I.ok.frames, .inl rfl, fun b hb => ⟨?_, fun y c e z => ?_⟩, I.bs, Nat.le_trans I.ok.bsz I.sz, fun b o e hb => ?_, fun b hb z => ?_, I.stack, I.stkFree⟩
    · have e1 : cenv.cells.lookup y = some c := e1
      have e2 : cenv.cells.lookup z = some c := e2
      rw [hcl] at e1 e2
      refine cells_inj (fun p hp => ?_) (fun y z c a b => I.ok.inj y z c (cm a).1 (cm b).1) (PySem.mem_of_lookup e1) (PySem.mem_of_lookup e2)
      rw [Heap.size_push]
      exact Nat.lt_succ_of_lt (cm (y := p.1) (c := p.2) hp).2
    · show ∃ c, cenv.cells.lookup y = some c
      have key : ∀ k, cenv.kindOf y = some k → (k = .cell ∨ k = .free) → ∃ c, cenv.cells.lookup y = some c := fun k hk hk' => by
        unfold Env.kindOf at hk
        rw [hsc] at hk
        obtain ⟨k', e, r⟩ := lookup_relS hk
        have : k' = .cell ∨ k' = .free := by
          rcases r with rfl | ⟨rfl, _⟩
          · exact hk'
          · exact .inr rfl
        rcases this with rfl | rfl
        · obtain ⟨c, hm⟩ := cells_has (n := (s.heap.push { cls := .type "dict", data := .dict #[] }).objs.size) (acc := cloFrom X.env.cells scope.names []) (PySem.mem_of_lookup e)
          obtain ⟨c', e'⟩ := mem_lookup hm
          exact ⟨c', by rw [hcl]; exact e'⟩
        · obtain ⟨c, h1, _⟩ := look e
          exact ⟨c, h1⟩
      rcases hy with hy | hy
      · exact key _ hy (.inl rfl)
      · exact key _ hy (.inr rfl)
    · have z : (scope.names.lookup y == some NameKind.cell) = true := z
      have z : scope.names.lookup y = some .cell := by simpa using z
      have e : cenv.cells.lookup y = some c := e
      rw [hcl] at e
      rcases cells_mem (PySem.mem_of_lookup e) with hm | ⟨_, h2, _⟩
      · rcases cloFrom_mem hm with hm | ⟨h1, _⟩
        · cases hm
        · have q := ok.uniq _ h1
          rw [z] at q; cases q
      · rw [Heap.size_push] at h2
        exact Nat.le_of_succ_le h2
    · show b ≠ cenv.locals
      rw [hL]; exact Nat.ne_of_lt (hfp b hb).2
    · have e : cenv.cells.lookup y = some c := e
      rcases mem e with ⟨h1, _⟩ | ⟨h1, _⟩
      · exact (hfp b hb).1.2.2.2.2.1 y c h1 z
      · have h2 : s.heap.objs.size + 1 ≤ b := by rw [← z]; exact h1
        exact absurd (Nat.lt_of_lt_of_le (hfp b hb).2 (Nat.le_of_succ_le h2)) (Nat.lt_irrefl _)
    · rcases (hfp b hb).1.2.2.2.1 with z | z
      · exact I.ok.noex b o e z
      · exact absurd (Nat.lt_of_lt_of_le (Heap.lt_size e) (Nat.le_trans I.ok.bsz z)) (Nat.lt_irrefl _)
    · rcases List.mem_cons.mp (I.stkSub b z) with z | z
      · exact (hfp b hb).1.2.1 z
      · exact (hfp b hb).1.2.2.1 z
  refine ⟨okB, rfl, I.bare, Un.kept kp, ⟨fun _ => none, ?_, fun i y av e1 e2 e3 => ?_⟩, fun y c e => ?_, ?_, fun y c e => ?_, fun p hp => ?_, I.hok.kept kp, by rw [wipe_length]; exact I.len⟩
  · show Heap.Ns _ cenv.locals _
    rw [hL]
    exact Heap.Ns.keeps (Heap.Ns.new ..) fun b o e => pushCells_keeps _ _ _ _ e
  · obtain ⟨e2, hne⟩ := wipe_some e2
    have hfr : scope.names.lookup y = some .free ∧ (cenv.kindOf y = some .cell ∨ cenv.kindOf y = some .free) := by
      have key : ∀ k, cenv.scope.names.lookup y = some k → k = .local ∨ k = .cell ∨ k = .free → scope.names.lookup y = some .free ∧ (cenv.kindOf y = some .cell ∨ cenv.kindOf y = some .free) := fun k hk hk' => by
        have hk0 := hk
        rw [hsc] at hk
        obtain ⟨k', e, r⟩ := lookup_relS hk
        have no : ¬ (k' = .local ∨ k' = .cell) := fun hh => by
          rcases ok.own _ (PySem.mem_of_lookup e) hh with e' | e'
          · obtain ⟨p, hp, hpy⟩ := List.mem_map.mp e'
            have e3 := ok.ix p hp
            have : p.1 = y := hpy
            rw [this] at e3
            exact hne (List.mem_map.mpr ⟨p, hp, nodup_ix hN e3 e1⟩)
          · exact e' (List.mem_of_getElem? e1)
        rcases r with rfl | ⟨rfl, rfl⟩
        · rcases hk' with rfl | rfl | rfl
          · exact absurd (.inl rfl) no
          · exact absurd (.inr rfl) no
          · exact ⟨e, .inr hk0⟩
        · exact ⟨e, .inl hk0⟩
      have e3 : Vis cenv.scope y := e3
      rcases e3 with e3 | e3 | e3
      · exact key _ e3 (.inl rfl)
      · exact key _ e3 (.inr (.inl rfl))
      · exact key _ e3 (.inr (.inr rfl))
    obtain ⟨m, hn, hl⟩ := I.loc
    have hvis : Vis X.env.scope y := (ok.free _ (PySem.mem_of_lookup hfr.1) rfl).elim (fun k => .inr (.inl k)) (fun k => .inr (.inr k))
    obtain ⟨w, r, q⟩ := hl i y av e1 e2 hvis
    refine ⟨w, r, .inr ⟨hfr.2, ?_⟩⟩
    obtain ⟨c, h1, h2⟩ := look hfr.1
    rcases q with ⟨k, _⟩ | ⟨_, c', e', z⟩
    · have k : X.env.scope.names.lookup y = some .local := k
      rcases ok.free _ (PySem.mem_of_lookup hfr.1) rfl with k' | k' <;> rw [show X.env.scope.names.lookup y = _ from k'] at k <;> cases k
    · rw [h2] at e'; cases e'
      exact ⟨c, h1, z.keeps kp⟩
  · have e : cenv.cells.lookup y = some c := e
    rcases mem e with ⟨h1, _⟩ | ⟨_, z⟩
    · obtain ⟨w, z⟩ := I.cell y c h1
      exact ⟨w, z.keeps kp⟩
    · exact ⟨_, z⟩
  · show H cenv.locals = none
    rw [hL]; exact I.hok.fresh (Nat.le_refl _)
  · have e : cenv.cells.lookup y = some c := e
    rcases mem e with ⟨h1, _⟩ | ⟨h1, _⟩
    · exact I.freeC y c h1
    · exact I.hok.fresh (Nat.le_of_succ_le h1)
  · exact absurd (show p ∈ ([] : List (Addr × Obj)) ++ [] from hp) (by simp)

/-- an item appended to a tracked list -/
theorem app_ok {E : Value → Shared → Prop} {D : Addr} {xs : List V} {y : V} {v : Value} {Q : Value → Shared → Prop} (I : Inv X pins σ H s) (hD : H D = some (.lst xs)) (hz : xs.length < sizeLine) (r : RelV y v)
    (h : ∀ s', Inv X pins σ (upd H D (.lst (xs ++ [y]))) s' → Q .none s') : wpAny (model X.prog X.w) X.A (call (.builtin "list.append") [.ref D, v]) Q E s := by
  obtain ⟨hz', its, n, ri, e⟩ := I.hok D _ hD
  have hl := ri.length
  refine append_at (hsz := by rw [List.size_toArray]; omega) e fun h' sb ho' => ?_
  refine h { s with heap := h' } (I.write (t' := s.toks) (by rw [hD]; trivial) (.inl rfl) (fun b u hb q => (sb.2 b hb).trans q) ⟨_, ho'⟩ ⟨by rw [List.length_append]; exact hz, its ++ [v], n + 1, ri.append (.cons r .nil), ?_⟩)
  rw [ho']
  simp

/-- a clause's tests -/
def PTs (X : Cx) (ifs : List Expr) (t : TT) : Prop :=
  ∀ (pins : List (Addr × Obj)) (s : Shared) (σ : St) (H : Hp) (Q : Bool → Hp → Prop), Inv X pins σ H s → t σ H Q →
    wpAny (model X.prog X.w) X.A (forIn ifs true fun c r => if r = true then do let ok ← isTrue c X.env (eval c X.env); pure (ForInStep.yield ok) else pure (ForInStep.yield r)) (TP X pins σ Q) X.xe s
def tYes : TT := fun _ H Q => Q true H
theorem pts_nil : PTs X [] tYes := fun _ _ _ H _ I h => wpAny_tests_nil ⟨H, I, h⟩
theorem pts_one {c : Expr} {t : TT} (h : PT X c t) : PTs X [c] t := fun pins s σ H Q I hw => wpAny_tests_one (h pins s σ H Q I hw)
end

theorem thnF {α : Type} {t : Sem α} {Q Q' : α → Shared → Prop} {M : Model} {A : Around} {E : Value → Shared → Prop} {s : Shared} (h : wpAny M A t Q (fun _ _ => False) s) (hQ : ∀ a s, Q a s → Q' a s) : wpAny M A t Q' E s := wpAny_mono h hQ fun _ _ z => False.elim z

/-- the loop of a list comprehension's block, the target of any form (codeAny_compLoop_tests asks a target that no tuple goes to; statement and proof follow it, PyProof/CompMap.lean:41-61, with the step letOwnedTupleGo kept) -/
theorem compLoop_any {prog : Program} {w : World} {A : Around} {R : Result → Shared → Prop} {s : Shared} {elt target iter : Expr} {ifs : List Expr} {scope : Scope} {pos : Pos} {it acc : Value} {env : Env} (I : Nat → Shared → Prop)
    (turn : ∀ n s, I n s → wpAny (model prog w) A (pyNext it) (fun r s₁ => match r with
      | none => R (.ok .next) s₁
      | some v => wpAny (model prog w) A (letOwnedTupleGo target it v) (fun _ s₁' => wpAny (model prog w) A (assign target env v) (fun _ s₂ =>
          wpAny (model prog w) A (forIn ifs true fun c r => if r = true then do let ok ← isTrue c env (eval c env); pure (ForInStep.yield ok) else pure (ForInStep.yield r)) (fun ok s₃ =>
            if ok = true then wpAny (model prog w) A (eval elt env) (fun x s₄ =>
              wpAny (model prog w) A (call (.builtin "list.append") [acc, x]) (fun _ s₅ => ∃ m, m < n ∧ I m s₅) (notedBy (model prog w) A env fun e s' => R (.error e) s') s₄) (notedBy (model prog w) A env fun e s' => R (.error e) s') s₃
            else ∃ m, m < n ∧ I m s₃) (notedBy (model prog w) A env fun e s' => R (.error e) s') s₂) (notedBy (model prog w) A env fun e s' => R (.error e) s') s₁') (notedBy (model prog w) A env fun e s' => R (.error e) s') s₁) (notedBy (model prog w) A env fun e s' => R (.error e) s') s)
    (n : Nat) (h : I n s) :
    codeAny (model prog w) A (.compLoop (.ListComp elt [⟨target, iter, ifs, 0⟩] scope pos) 0 it acc env) R s := by
  refine codeAny_loop rfl I (fun n s hI => ?_) n h
  show wpAny _ A ((compTurn (.ListComp elt [⟨target, iter, ifs, 0⟩] scope pos) 0 it acc env).onRaise (fun x => do noteFrame x env; theTreesLotGoes x)) _ _ s
  refine wpAny_noted ?_
  rw [compTurn_list]
  refine wpAny_bind (wpAny_standAt (wpAny_bind (wpAny_mono (turn n s hI) (fun r s₁ h₁ => ?_) fun _ _ h' => h')))
  cases r with
  | none => exact wpAny_pure h₁
  | some v =>
    refine wpAny_bind (wpAny_mono h₁ (fun _ s₁' h₁' => ?_) fun _ _ h' => h')
    refine wpAny_bind (wpAny_mono h₁' (fun _ s₂ h₂ => wpAny_bind (wpAny_mono h₂ (fun ok s₃ h₃ => ?_) fun _ _ h' => h')) fun _ _ h' => h')
    cases ok with
    | false => exact wpAny_pure ⟨rfl, h₃⟩
    | true =>
      exact wpAny_bind (wpAny_bind (wpAny_mono h₃ (fun x s₄ h₄ => wpAny_bind (wpAny_mono h₄ (fun _ s₅ h₅ => wpAny_pure (wpAny_pure ⟨rfl, h₅⟩)) fun _ _ h' => h')) fun _ _ h' => h'))

section
variable {X : Cx}
/-- [elt for target in iter if ..]: D the new list; W by the turn and a measure, Nx what a turn is to reach -/
def tLc (wi : TI) (g : TG) (tt : TT) (te : TE) (vs : List Nat) : TE := fun σ H Q => wi σ H fun J H1 => ∀ D, H1 D = none → ∃ W : Nat → Nat → Hp → Prop, (∃ m, W 0 m (upd H1 D (.lst []))) ∧ ∀ i m H, W i m H →
  (J.stop i H ∧ Q (.ref D) H) ∨ (J.go i H ∧ ∃ Nx : Hp → Prop, (∀ H', Nx H' → ∃ m', m' < m ∧ W (i + 1) m' H') ∧ ∀ x H', J.yld i H x H' → g x (wipe σ vs) H' fun σ2 H2 => wipe σ2 vs = wipe σ vs ∧ tt σ2 H2 fun b H3 =>
    if b = true then te σ2 H3 fun y H4 => ∃ acc, H4 D = some (.lst acc) ∧ acc.length < sizeLine ∧ Nx (upd H4 D (.lst (acc ++ [y]))) else Nx H3)
theorem lc_core {pins : List (Addr × Obj)} {s : Shared} {σ : St} {H : Hp} {Q : VK} {elt tg iter : Expr} {ifs : List Expr} {scope : Scope} {own : List (Str × Nat)} {pos pos' : Pos} {wi : TI} {g : TG} {tt : TT} {te : TE} {use : Option (Value → Sem Unit)} {Qf : Value → Shared → Prop}
    (hc : X.calm = true) (hN : X.N.Nodup) (I : Inv X pins σ H s) (hi : PI X tg iter wi) (ok : BlkOk X.N X.env.scope scope own)
    (hg : ∀ (s : Shared) (H : Hp) (C : Addr) (cl : List (Str × Addr)) (fp : List Addr), PG (X.blk s H scope (compEnvC scope cl C X.env) fp) tg g) (ht : ∀ (s : Shared) (H : Hp) (C : Addr) (cl : List (Str × Addr)) (fp : List Addr), PTs (X.blk s H scope (compEnvC scope cl C X.env) fp) ifs tt)
    (he : ∀ (s : Shared) (H : Hp) (C : Addr) (cl : List (Str × Addr)) (fp : List Addr), PE (X.blk s H scope (compEnvC scope cl C X.env) fp) elt te) (hs : ∀ x, foldedSetIterable iter X.env x = pure x)
    (h : tLc wi g tt te (own.map (·.2)) σ H Q)
    (hRR : ∀ D C s' m H', Inv X pins σ H' s' → Q (.ref D) H' → s'.heap.Ns C m → FpOk X pins H' C → compPost (model X.prog X.w) X.A X.xe use Qf (.ref D) C (.ok .next) s') :
    wpAny (model X.prog X.w) X.A (comprehension (.ListComp elt [⟨tg, iter, ifs, 0⟩] scope pos) scope X.env pos' (newList []) false (eval iter X.env) use) Qf X.xe s := by
  have hfree : ∀ y ∈ scope.names, y.2 = .free → ∃ c, X.env.cells.lookup y.1 = some c := fun y hy e => by
    rcases ok.free y hy e with k | k
    · exact I.ok.has _ (.inl k)
    · exact I.ok.has _ (.inr k)
  refine wpAny_comprehension_free (use := use) rfl hs (closure_ok hfree) ok.kind (fun y hy e => by rw [ok.uniq y hy, e])
    (thn (hi pins s σ H _ I h) fun xv s1 hx => thn hx fun itv s2 h2 => ?_)
  obtain ⟨it, fp, tn, J, H2, e, I2, T, st2, f2, q⟩ := h2
  subst e
  refine wpAny_newObj_type (newEnv_comp ?_) (by show 0 ≤ sizeLine; decide)
  generalize hD : s2.heap.objs.size = D
  have hDn : H2 D = none := I2.hok.fresh (Nat.le_of_eq hD)
  obtain ⟨W, ⟨m0, w0⟩, turn⟩ := q D hDn
  -- the new list
  generalize hs3 : ({ s2 with heap := s2.heap.push { cls := .type "list", data := .seq ([] : List Value).toArray } } : Shared) = s3
  have I3 : Inv X pins σ (upd H2 D (.lst [])) s3 := by
    rw [← hs3]
    refine I2.laid (t' := s2.toks) (fun b o e => Heap.get?_push_of_some _ e) (Nat.le_of_eq hD) ⟨Nat.zero_le _, [], 0, .nil, ?_⟩
    rw [← hD]
    exact Heap.get?_push_size _ rfl
  have h3 : s3.heap = s2.heap.push { cls := .type "list", data := .seq ([] : List Value).toArray } := by rw [← hs3]
  have sz : ∀ b ∈ fp, b < s2.heap.objs.size := fun b hb => by
    obtain ⟨o, e, _⟩ := T.obj _ _ st2 b hb
    exact Heap.lt_size e
  have f3 : ∀ b ∈ fp, FpOk X pins (upd H2 D (.lst [])) b ∧ b < s3.heap.objs.size := fun b hb => by
    have hlt := sz b hb
    refine ⟨⟨?_, (f2 b hb).2⟩, by rw [h3, Heap.size_push]; exact Nat.lt_succ_of_lt hlt⟩
    rw [upd_ne (by rw [← hD]; exact Nat.ne_of_lt hlt)]
    exact (f2 b hb).1
  have st3 : tn 0 s3.heap := T.keep _ _ _ st2 fun b _ o e => by rw [h3]; exact Heap.get?_push_of_some _ e
  have I4 := block_start I3 ok hN f3
  have pg := hg s3 (upd H2 D (.lst [])) s3.heap.objs.size (cellsFrom (s3.heap.objs.size + 1) scope.names (cloFrom X.env.cells scope.names [])) fp
  have pt := ht s3 (upd H2 D (.lst [])) s3.heap.objs.size (cellsFrom (s3.heap.objs.size + 1) scope.names (cloFrom X.env.cells scope.names [])) fp
  have pe := he s3 (upd H2 D (.lst [])) s3.heap.objs.size (cellsFrom (s3.heap.objs.size + 1) scope.names (cloFrom X.env.cells scope.names [])) fp
  show codeAny _ _ (.compStart (.ListComp elt [⟨tg, iter, ifs, 0⟩] scope pos) 0 (.ref it) (.ref D) (compEnvC scope (cellsFrom (s3.heap.objs.size + 1) scope.names (cloFrom X.env.cells scope.names [])) s3.heap.objs.size X.env)) (compPost (model X.prog X.w) X.A X.xe use Qf (.ref D) s3.heap.objs.size) { s3 with heap := pushCells (s3.heap.push { cls := .type "dict", data := .dict #[] }) scope.names }
  have nfp : ∀ b ∈ fp, (upd H2 D (.lst [])) b = none := fun b hb => (f3 b hb).1.1
  generalize hce : compEnvC scope (cellsFrom (s3.heap.objs.size + 1) scope.names (cloFrom X.env.cells scope.names [])) s3.heap.objs.size X.env = ce at I4 pg pt pe ⊢
  have cL : ce.locals = s3.heap.objs.size := by subst hce; rfl
  generalize hH3 : upd H2 D (.lst []) = H3 at I3 I4 pg pt pe w0 nfp f3
  generalize hs4 : ({ s3 with heap := pushCells (s3.heap.push { cls := .type "dict", data := .dict #[] }) scope.names } : Shared) = s4 at I4 ⊢
  have st4 : tn 0 s4.heap := T.keep _ _ _ st3 fun b _ o e => by rw [← hs4]; exact pushCells_keeps _ _ _ _ (Heap.get?_push_of_some _ e)
  have stat : ∀ {σ' : St} {H' : Hp} {s' : Shared}, Inv (X.blk s3 H3 scope ce fp) [] σ' H' s' → (∀ b ∈ fp, H' b = none) → ∀ b ∈ fp, FpOk (X.blk s3 H3 scope ce fp) [] H' b := fun {σ' H' s'} I' hn b hb =>
    ⟨hn b hb, (I'.ok.exf b hb).1, I'.ok.exfs b hb, .inl hb, fun x c e => (I'.ok.exf b hb).2 x c e, fun p hp => absurd (show p ∈ ([] : List (Addr × Obj)) ++ [] from hp) (by simp)⟩
  have loop : codeAny (model X.prog X.w) X.A (.compLoop (.ListComp elt [⟨tg, iter, ifs, 0⟩] scope pos) 0 (.ref it) (.ref D) ce) (compPost (model X.prog X.w) X.A X.xe use Qf (.ref D) s3.heap.objs.size) s4 := by
    refine compLoop_any (fun n s' => ∃ i H', Inv (X.blk s3 H3 scope ce fp) [] (wipe σ (own.map (·.2))) H' s' ∧ tn i s'.heap ∧ (∀ b ∈ fp, H' b = none) ∧ W i n H') ?_ m0 ⟨0, H3, I4, st4, nfp, w0⟩
    rintro n s5 ⟨i, H5, I5, st5, n5, w5⟩
    rcases turn i n H5 w5 with ⟨stop, qq⟩ | ⟨go, Nx, hNx, step⟩
    · have td := T.done (X.blk s3 H3 scope ce fp) rfl rfl rfl hc i [] s5 _ H5 (fun _ _ => False) I5 (stat I5 n5) st5 stop
      refine thnF td fun r s6 ⟨hr, I6⟩ => ?_
      subst hr
      -- back in the def's context
      have I7 : Inv X pins σ H5 s6 := I3.call' (ch := fp) I6.os I6.base I6.hok I6.bare fun b hb => ⟨(f3 b hb).1.2.2.2.1, (f3 b hb).1.2.1, (f3 b hb).1.2.2.2.2.1, (f3 b hb).1.2.2.2.2.2⟩
      have nC : H5 s3.heap.objs.size = none := by
        have z : H5 ce.locals = none := I6.free
        rw [cL] at z
        exact z
      obtain ⟨m, hn, _⟩ := I6.loc
      have hn : s6.heap.Ns ce.locals m := hn
      rw [cL] at hn
      exact hRR D s3.heap.objs.size s6 m H5 I7 qq hn (I3.fpOk (Nat.le_refl _) nC)
    · have ti := T.item (X.blk s3 H3 scope ce fp) rfl rfl rfl hc i [] s5 _ H5 (fun _ _ => False) I5 (stat I5 n5) st5 go
      refine thnF ti fun r s6 ⟨u, hr, h6⟩ => ?_
      subst hr
      refine thnF h6 fun _ s7 ⟨x, H7, I7, r7, y7, st7, n7⟩ => ?_
      have I7' := I7.pinned (stat I7 n7) (T.obj _ _ st7)
      refine thnF (pg _ s7 _ H7 x u _ I7' r7 (step x H7 y7)) fun _ s8 ⟨σ8, H8, I8, hw8, q8⟩ => ?_
      refine thnF (pt _ s8 σ8 H8 _ I8 q8) fun b s9 ⟨H9, I9, q9⟩ => ?_
      -- the turn's end
      have fin : ∀ {s' : Shared} {H' : Hp}, Inv (X.blk s3 H3 scope ce fp) ([] ++ pinsAt fp s7.heap) σ8 H' s' → Nx H' → ∃ m, m < n ∧ ∃ i H', Inv (X.blk s3 H3 scope ce fp) [] (wipe σ (own.map (·.2))) H' s' ∧ tn i s'.heap ∧ (∀ b ∈ fp, H' b = none) ∧ W i m H' := fun {s' H'} I' nx => by
        obtain ⟨m', hm, w'⟩ := hNx H' nx
        have pin' : ∀ b ∈ fp, ∀ o, s7.heap.get? b = some o → s'.heap.get? b = some o ∧ H' b = none := fun b hb o e =>
          let z := I'.pin (b, o) (List.mem_append_right _ (List.mem_append_right _ (mem_pinsAt hb e)))
          ⟨z.1, z.2.1⟩
        have hl : (wipe σ (own.map (·.2))).length = σ8.length := by rw [← hw8, wipe_length]
        refine ⟨m', hm, i + 1, H', (I'.unpinned (pins := [])).weak hl (fun j v e => ?_), T.keep _ _ _ st7 fun b hb o e => (pin' b hb o e).1, fun b hb => ?_, w'⟩
        · rw [← hw8] at e
          exact (wipe_some e).1
        · obtain ⟨o, e, _⟩ := T.obj _ _ st7 b hb
          exact (pin' b hb o e).2
      cases b with
      | false =>
        simp only [Bool.false_eq_true, if_false] at q9 ⊢
        exact fin I9 q9
      | true =>
        simp only [if_true] at q9 ⊢
        refine thnF (pe _ s9 σ8 H9 _ I9 q9) fun z s10 ⟨yv, H10, I10, r10, acc, hD10, hz10, nx⟩ => ?_
        exact app_ok (X := X.blk s3 H3 scope ce fp) I10 hD10 hz10 r10 fun s11 I11 => fin I11 nx
  exact codeAny_compStart_list loop (T.self X.A 0 _ _ _ st4 loop)
/-- as a value -/
theorem pe_lc {elt tg iter : Expr} {ifs : List Expr} {scope : Scope} {own : List (Str × Nat)} {pos : Pos} {wi : TI} {g : TG} {tt : TT} {te : TE} (hc : X.calm = true) (hN : X.N.Nodup) (hi : PI X tg iter wi) (ok : BlkOk X.N X.env.scope scope own)
    (hg : ∀ (s : Shared) (H : Hp) (C : Addr) (cl : List (Str × Addr)) (fp : List Addr), PG (X.blk s H scope (compEnvC scope cl C X.env) fp) tg g) (ht : ∀ (s : Shared) (H : Hp) (C : Addr) (cl : List (Str × Addr)) (fp : List Addr), PTs (X.blk s H scope (compEnvC scope cl C X.env) fp) ifs tt)
    (he : ∀ (s : Shared) (H : Hp) (C : Addr) (cl : List (Str × Addr)) (fp : List Addr), PE (X.blk s H scope (compEnvC scope cl C X.env) fp) elt te) (hs : ∀ x, foldedSetIterable iter X.env x = pure x := by intro _; rfl) :
    PE X (.ListComp elt [⟨tg, iter, ifs, 0⟩] scope pos) (tLc wi g tt te (own.map (·.2))) := by
  intro pins s σ H Q I h
  rw [eval_ListComp]
  refine lc_core hc hN I hi ok hg ht he hs h fun D C s' m H' I' q hn f => ⟨m, hn, fun h'' sb => ?_⟩
  obtain ⟨f0, f1, f2, f3, f4, f5⟩ := f
  exact ⟨.ref D, H', I'.turned (t' := s'.toks) (fun b o hb e => (sb.2 b hb).trans e) f0 f1 f3 f4 f5, rfl, q⟩
/-- name = [..] on one line, the name a local -/
theorem ps_setLc {i : Nat} {y : Str} {py : Pos} {elt tg iter : Expr} {ifs : List Expr} {scope : Scope} {own : List (Str × Nat)} {pos spos : Pos} {wi : TI} {g : TG} {tt : TT} {te : TE} (hc : X.calm = true) (hN : X.N.Nodup) (hy : X.N[i]? = some y) (hyl : X.env.scope.names.lookup y = some .local)
    (hsw : swapsWith (.ListComp elt [⟨tg, iter, ifs, 0⟩] scope pos) (some (.Name y py)) spos.line X.env = pure true) (hi : PI X tg iter wi) (ok : BlkOk X.N X.env.scope scope own)
    (hg : ∀ (s : Shared) (H : Hp) (C : Addr) (cl : List (Str × Addr)) (fp : List Addr), PG (X.blk s H scope (compEnvC scope cl C X.env) fp) tg g) (ht : ∀ (s : Shared) (H : Hp) (C : Addr) (cl : List (Str × Addr)) (fp : List Addr), PTs (X.blk s H scope (compEnvC scope cl C X.env) fp) ifs tt)
    (he : ∀ (s : Shared) (H : Hp) (C : Addr) (cl : List (Str × Addr)) (fp : List Addr), PE (X.blk s H scope (compEnvC scope cl C X.env) fp) elt te) (hs : ∀ x, foldedSetIterable iter X.env x = pure x := by intro _; rfl) :
    PS X (.Assign [.Name y py] (.ListComp elt [⟨tg, iter, ifs, 0⟩] scope pos) spos) (tAsg (tLc wi g tt te (own.map (·.2))) (gName i)) := by
  intro pins s σ H D I h
  rw [exec_Assign_Name_used _ _ _ _ hsw]
  refine wpAny_bind (wpAny_standAt (wpAny_bind ?_))
  show wpAny _ X.A (do let _ ← comprehension (.ListComp elt [⟨tg, iter, ifs, 0⟩] scope pos) scope X.env (firstIterPos [⟨tg, iter, ifs, 0⟩] pos) (newList []) false (eval iter X.env) (some (assign (.Name y py) X.env))) _ _ s
  have h : tLc wi g tt te (own.map (·.2)) σ H (fun x H1 => gName i x σ H1 D.nx) := h
  refine wpAny_bind (thn (lc_core (Qf := fun _ s' => SP X pins D .next s') hc hN I hi ok hg ht he hs h fun L C s' m H' I' q hn f => ?_) fun _ s' hq => wpAny_pure (wpAny_pure hq))
  show wpAny _ _ (assign (.Name y py) X.env (.ref L)) _ _ _
  refine wpAny_assign_Name (store_ok2 (v := V.ref L) I' hN hy (.inl hyl) rfl (fun s2 I2 ⟨a, sb, ha⟩ => ?_) (.inr hyl))
  obtain ⟨f0, f1, f2, f3, f4, f5⟩ := f
  have haC : C ≠ a := by
    rcases ha with z | z
    · rw [z]; exact f1
    · exact fun e => f4 y a z e.symm
  refine ⟨m, hn.sameBut sb haC, fun h3 sb3 => ?_⟩
  exact ⟨_, H', I2.turned (t' := s2.toks) (fun b o hb e => (sb3.2 b hb).trans e) f0 f1 f3 f4 f5, q⟩
theorem sw_true {elt : Expr} {gs : List Comprehension} {scope : Scope} {pos py : Pos} {y : Str} {l : Nat} {env : Env} (hk : env.scope.kind = .function) (hy : env.scope.names.lookup y = some .local) (hl : (py.line == pos.line) = true)
    (ha : (scope.names.any fun (n, k) => n == y && (k == .local || k == .cell)) = false) : swapsWith (.ListComp elt gs scope pos) (some (.Name y py)) l env = pure true := by
  have ky : env.kindOf y = some .local := hy
  have hb : env.blockKind = .function := by unfold Env.blockKind; rw [hk]; rfl
  unfold swapsWith
  simp only [hb, ky, ha, Expr.pos, hl]
  rfl
end

/-! ### the forms one uses -/
/-- over a range: Pv by the turn and the heap (the new list at D within) -/
theorem lc_range {lo : Int} {n : Nat} {g : TG} {tt : TT} {te : TE} {vs : List Nat} {σ : St} {H1 : Hp} {D : Addr} {Qd : Hp → Prop} (Pv : Nat → Hp → Prop) (h0 : Pv 0 (upd H1 D (.lst [])))
    (hs : ∀ i H, i < n → Pv i H → g (.int (lo + i)) (wipe σ vs) H fun σ2 H2 => wipe σ2 vs = wipe σ vs ∧ tt σ2 H2 fun b H3 =>
      if b = true then te σ2 H3 fun y H4 => ∃ acc, H4 D = some (.lst acc) ∧ acc.length < sizeLine ∧ Pv (i + 1) (upd H4 D (.lst (acc ++ [y]))) else Pv (i + 1) H3) (hd : ∀ H, Pv n H → Qd H) :
    ∃ W : Nat → Nat → Hp → Prop, (∃ m, W 0 m (upd H1 D (.lst []))) ∧ ∀ i m H, W i m H →
      ((Itr lo n).stop i H ∧ Qd H) ∨ ((Itr lo n).go i H ∧ ∃ Nx : Hp → Prop, (∀ H', Nx H' → ∃ m', m' < m ∧ W (i + 1) m' H') ∧ ∀ x H', (Itr lo n).yld i H x H' → g x (wipe σ vs) H' fun σ2 H2 => wipe σ2 vs = wipe σ vs ∧ tt σ2 H2 fun b H3 =>
        if b = true then te σ2 H3 fun y H4 => ∃ acc, H4 D = some (.lst acc) ∧ acc.length < sizeLine ∧ Nx (upd H4 D (.lst (acc ++ [y]))) else Nx H3) := by
  refine ⟨fun i m H => m = n - i ∧ i ≤ n ∧ Pv i H, ⟨n, by simp, Nat.zero_le _, h0⟩, ?_⟩
  rintro i m H ⟨rfl, hi, p⟩
  by_cases hlt : i < n
  · refine .inr ⟨hlt, Pv (i + 1), fun H' p' => ⟨n - (i + 1), by omega, rfl, hlt, p'⟩, fun x H' y => ?_⟩
    obtain ⟨e, y⟩ := y
    subst e y
    exact hs i _ hlt p
  · have e : i = n := by omega
    subst e
    exact .inl ⟨Nat.le_refl _, hd H p⟩
/-- over a list that the block leaves as it is -/
theorem lc_list {K : PySem.W.Frag} {a : Addr} {xs : List V} {g : TG} {tt : TT} {te : TE} {vs : List Nat} {σ : St} {H1 : Hp} {D : Addr} {Qd : Hp → Prop} (Pv : Nat → Hp → Prop) (h0 : Pv 0 (upd H1 D (.lst []))) (hl : ∀ i H, i ≤ xs.length → Pv i H → SqL K H a xs)
    (hs : ∀ i x H, xs[i]? = some x → Pv i H → g x (wipe σ vs) H fun σ2 H2 => wipe σ2 vs = wipe σ vs ∧ tt σ2 H2 fun b H3 =>
      if b = true then te σ2 H3 fun y H4 => ∃ acc, H4 D = some (.lst acc) ∧ acc.length < sizeLine ∧ Pv (i + 1) (upd H4 D (.lst (acc ++ [y]))) else Pv (i + 1) H3) (hd : ∀ H, Pv xs.length H → Qd H) :
    ∃ W : Nat → Nat → Hp → Prop, (∃ m, W 0 m (upd H1 D (.lst []))) ∧ ∀ i m H, W i m H →
      ((Itl K a).stop i H ∧ Qd H) ∨ ((Itl K a).go i H ∧ ∃ Nx : Hp → Prop, (∀ H', Nx H' → ∃ m', m' < m ∧ W (i + 1) m' H') ∧ ∀ x H', (Itl K a).yld i H x H' → g x (wipe σ vs) H' fun σ2 H2 => wipe σ2 vs = wipe σ vs ∧ tt σ2 H2 fun b H3 =>
        if b = true then te σ2 H3 fun y H4 => ∃ acc, H4 D = some (.lst acc) ∧ acc.length < sizeLine ∧ Nx (upd H4 D (.lst (acc ++ [y]))) else Nx H3) := by
  refine ⟨fun i m H => m = xs.length - i ∧ i ≤ xs.length ∧ Pv i H, ⟨xs.length, by simp, Nat.zero_le _, h0⟩, ?_⟩
  rintro i m H ⟨rfl, hi, p⟩
  have q := hl i H hi p
  by_cases hlt : i < xs.length
  · refine .inr ⟨⟨xs, xs[i], q, by simp [hlt]⟩, Pv (i + 1), fun H' p' => ⟨xs.length - (i + 1), by omega, rfl, hlt, p'⟩, fun x H' y => ?_⟩
    obtain ⟨e, y⟩ := y
    subst e
    exact hs i x _ (y xs q) p
  · have e : i = xs.length := by omega
    subst e
    exact .inl ⟨⟨xs, q, Nat.le_refl _⟩, hd H p⟩
/-- over a tuple -/
theorem lc_tup {K : PySem.W.Frag} {a : Addr} {xs : List V} {g : TG} {tt : TT} {te : TE} {vs : List Nat} {σ : St} {H1 : Hp} {D : Addr} {Qd : Hp → Prop} (Pv : Nat → Hp → Prop) (h0 : Pv 0 (upd H1 D (.lst []))) (hl : ∀ i H, i ≤ xs.length → Pv i H → SqT K H a xs)
    (hs : ∀ i x H, xs[i]? = some x → Pv i H → g x (wipe σ vs) H fun σ2 H2 => wipe σ2 vs = wipe σ vs ∧ tt σ2 H2 fun b H3 =>
      if b = true then te σ2 H3 fun y H4 => ∃ acc, H4 D = some (.lst acc) ∧ acc.length < sizeLine ∧ Pv (i + 1) (upd H4 D (.lst (acc ++ [y]))) else Pv (i + 1) H3) (hd : ∀ H, Pv xs.length H → Qd H) :
    ∃ W : Nat → Nat → Hp → Prop, (∃ m, W 0 m (upd H1 D (.lst []))) ∧ ∀ i m H, W i m H →
      ((Itt K a).stop i H ∧ Qd H) ∨ ((Itt K a).go i H ∧ ∃ Nx : Hp → Prop, (∀ H', Nx H' → ∃ m', m' < m ∧ W (i + 1) m' H') ∧ ∀ x H', (Itt K a).yld i H x H' → g x (wipe σ vs) H' fun σ2 H2 => wipe σ2 vs = wipe σ vs ∧ tt σ2 H2 fun b H3 =>
        if b = true then te σ2 H3 fun y H4 => ∃ acc, H4 D = some (.lst acc) ∧ acc.length < sizeLine ∧ Nx (upd H4 D (.lst (acc ++ [y]))) else Nx H3) := by
  refine ⟨fun i m H => m = xs.length - i ∧ i ≤ xs.length ∧ Pv i H, ⟨xs.length, by simp, Nat.zero_le _, h0⟩, ?_⟩
  rintro i m H ⟨rfl, hi, p⟩
  have q := hl i H hi p
  by_cases hlt : i < xs.length
  · refine .inr ⟨⟨xs, xs[i], q, by simp [hlt]⟩, Pv (i + 1), fun H' p' => ⟨xs.length - (i + 1), by omega, rfl, hlt, p'⟩, fun x H' y => ?_⟩
    obtain ⟨e, y⟩ := y
    subst e
    exact hs i x _ (y xs q) p
  · have e : i = xs.length := by omega
    subst e
    exact .inl ⟨⟨xs, q, Nat.le_refl _⟩, hd H p⟩
def blkC (N : List Str) (sc scope : Scope) (own : List (Str × Nat)) : Bool :=
  (match scope.kind with | .function => true | _ => false) && (scope.names.all fun y => decide (scope.names.lookup y.1 = some y.2)) && (own.all fun p => decide (N[p.2]? = some p.1)) &&
    (scope.names.all fun y => match y.2 with
      | .free => (match sc.names.lookup y.1 with | some .cell => true | some .free => true | _ => false)
      | .local => decide (y.1 ∈ own.map (·.1)) || decide (y.1 ∉ N)
      | .cell => decide (y.1 ∈ own.map (·.1)) || decide (y.1 ∉ N)
      | _ => true)
theorem blkOk_by {N : List Str} {sc scope : Scope} {own : List (Str × Nat)} (h : blkC N sc scope own = true) : BlkOk N sc scope own := by
  unfold blkC at h
  simp only [Bool.and_eq_true, List.all_eq_true, decide_eq_true_eq] at h
  obtain ⟨⟨⟨h1, h2⟩, h3⟩, h4⟩ := h
  refine ⟨?_, h2, h3, fun y hy e => ?_, fun y hy e => ?_⟩
  · split at h1
    · assumption
    · cases h1
  · have q := h4 y hy
    simp only [e] at q
    split at q <;> first | exact .inl (by assumption) | exact .inr (by assumption) | cases q
  · have q := h4 y hy
    rcases e with e | e <;> (simp only [e, Bool.or_eq_true, decide_eq_true_eq] at q; exact q)
end L2

namespace L2
open PySem PySem.Spec PyProof.Rows

theorem compTurn2_out (elt t0 i0 t1 i1 : Expr) (ifs0 ifs1 : List Expr) (scope : Scope) (pos : Pos) (it acc : Value) (env : Env) :
    compTurn (.ListComp elt [⟨t0, i0, ifs0, 0⟩, ⟨t1, i1, ifs1, 0⟩] scope pos) 0 it acc env = (do
      standAt i0.pos
      match ← pyNext it with
      | none => pure (.done .next)
      | some v =>
        letOwnedTupleGo t0 it v
        assign t0 env v
        let mut ok := true
        for c in ifs0 do
          if ok then ok ← isTrue c env (eval c env)
        if ok then
          let x ← eval i1 env
          standAt i1.pos
          let x ← foldedSetIterable i1 env x
          let _ ← runOwn (.compStart (.ListComp elt [⟨t0, i0, ifs0, 0⟩, ⟨t1, i1, ifs1, 0⟩] scope pos) 1 (← holding [x] (pyIter x)) acc env) env
        again (.compLoop (.ListComp elt [⟨t0, i0, ifs0, 0⟩, ⟨t1, i1, ifs1, 0⟩] scope pos) 0 it acc env)) := by rfl
theorem compTurn2_in (elt t0 i0 t1 i1 : Expr) (ifs0 ifs1 : List Expr) (scope : Scope) (pos : Pos) (it acc : Value) (env : Env) :
    compTurn (.ListComp elt [⟨t0, i0, ifs0, 0⟩, ⟨t1, i1, ifs1, 0⟩] scope pos) 1 it acc env = (do
      standAt i1.pos
      match ← pyNext it with
      | none => pure (.done .next)
      | some v =>
        letOwnedTupleGo t1 it v
        assign t1 env v
        let mut ok := true
        for c in ifs1 do
          if ok then ok ← isTrue c env (eval c env)
        if ok then
          (do let _ ← call (.builtin "list.append") [acc, ← eval elt env])
        again (.compLoop (.ListComp elt [⟨t0, i0, ifs0, 0⟩, ⟨t1, i1, ifs1, 0⟩] scope pos) 1 it acc env)) := by rfl

section
variable {prog : Program} {w : World} {A : Around} {R : Result → Shared → Prop} {s : Shared} {elt t0 i0 t1 i1 : Expr} {ifs0 ifs1 : List Expr} {scope : Scope} {pos : Pos} {it acc : Value} {env : Env}
/-- the loop of the first clause -/
theorem compLoop2_out (hs : ∀ x, foldedSetIterable i1 env x = pure x) (I : Nat → Shared → Prop)
    (turn : ∀ n s, I n s → wpAny (model prog w) A (pyNext it) (fun r s₁ => match r with
      | none => R (.ok .next) s₁
      | some v => wpAny (model prog w) A (letOwnedTupleGo t0 it v) (fun _ s₁' => wpAny (model prog w) A (assign t0 env v) (fun _ s₂ =>
          wpAny (model prog w) A (forIn ifs0 true fun c r => if r = true then do let ok ← isTrue c env (eval c env); pure (ForInStep.yield ok) else pure (ForInStep.yield r)) (fun ok s₃ =>
            if ok = true then wpAny (model prog w) A (eval i1 env) (fun x s₄ => wpAny (model prog w) A (pyIter x) (fun it1 s₅ =>
              codeAny (model prog w) A (.compStart (.ListComp elt [⟨t0, i0, ifs0, 0⟩, ⟨t1, i1, ifs1, 0⟩] scope pos) 1 it1 acc env) (fun r s' => match r with
                | .ok _ => ∃ m, m < n ∧ I m s'
                | .error _ => False) s₅) (notedBy (model prog w) A env fun e s' => R (.error e) s') s₄) (notedBy (model prog w) A env fun e s' => R (.error e) s') s₃
            else ∃ m, m < n ∧ I m s₃) (notedBy (model prog w) A env fun e s' => R (.error e) s') s₂) (notedBy (model prog w) A env fun e s' => R (.error e) s') s₁') (notedBy (model prog w) A env fun e s' => R (.error e) s') s₁) (notedBy (model prog w) A env fun e s' => R (.error e) s') s)
    (n : Nat) (h : I n s) :
    codeAny (model prog w) A (.compLoop (.ListComp elt [⟨t0, i0, ifs0, 0⟩, ⟨t1, i1, ifs1, 0⟩] scope pos) 0 it acc env) R s := by
  refine codeAny_loop rfl I (fun n s hI => ?_) n h
  show wpAny _ A ((compTurn (.ListComp elt [⟨t0, i0, ifs0, 0⟩, ⟨t1, i1, ifs1, 0⟩] scope pos) 0 it acc env).onRaise (fun x => do noteFrame x env; theTreesLotGoes x)) _ _ s
  refine wpAny_noted ?_
  rw [compTurn2_out]
  refine wpAny_bind (wpAny_standAt (wpAny_bind (wpAny_mono (turn n s hI) (fun r s₁ h₁ => ?_) fun _ _ h' => h')))
  cases r with
  | none => exact wpAny_pure h₁
  | some v =>
    refine wpAny_bind (wpAny_mono h₁ (fun _ s₁' h₁' => ?_) fun _ _ h' => h')
    refine wpAny_bind (wpAny_mono h₁' (fun _ s₂ h₂ => wpAny_bind (wpAny_mono h₂ (fun ok s₃ h₃ => ?_) fun _ _ h' => h')) fun _ _ h' => h')
    cases ok with
    | false => exact wpAny_pure ⟨rfl, h₃⟩
    | true =>
      refine wpAny_bind (wpAny_mono h₃ (fun x s₄ h₄ => ?_) fun _ _ h' => h')
      refine wpAny_bind (wpAny_standAt (wpAny_bind (wpAny_of_eq (hs x) (wpAny_bind (wpAny_holding (wpAny_mono h₄ (fun it1 s₅ h₅ => ?_) fun _ _ h' => h'))))))
      refine wpAny_bind (wpAny_runOwn ?_)
      rw [Around.mark_none]
      refine codeAny_mono h₅ fun r s' hr => ?_
      cases r with
      | ok f =>
        first
          | exact wpAny_pure ⟨rfl, hr⟩
          | exact wpAny_bind (wpAny_pure (wpAny_pure ⟨rfl, hr⟩))
      | error e => exact hr.elim
/-- the loop of the second -/
theorem compLoop2_in (I : Nat → Shared → Prop)
    (turn : ∀ n s, I n s → wpAny (model prog w) A (pyNext it) (fun r s₁ => match r with
      | none => R (.ok .next) s₁
      | some v => wpAny (model prog w) A (letOwnedTupleGo t1 it v) (fun _ s₁' => wpAny (model prog w) A (assign t1 env v) (fun _ s₂ =>
          wpAny (model prog w) A (forIn ifs1 true fun c r => if r = true then do let ok ← isTrue c env (eval c env); pure (ForInStep.yield ok) else pure (ForInStep.yield r)) (fun ok s₃ =>
            if ok = true then wpAny (model prog w) A (eval elt env) (fun x s₄ =>
              wpAny (model prog w) A (call (.builtin "list.append") [acc, x]) (fun _ s₅ => ∃ m, m < n ∧ I m s₅) (notedBy (model prog w) A env fun e s' => R (.error e) s') s₄) (notedBy (model prog w) A env fun e s' => R (.error e) s') s₃
            else ∃ m, m < n ∧ I m s₃) (notedBy (model prog w) A env fun e s' => R (.error e) s') s₂) (notedBy (model prog w) A env fun e s' => R (.error e) s') s₁') (notedBy (model prog w) A env fun e s' => R (.error e) s') s₁) (notedBy (model prog w) A env fun e s' => R (.error e) s') s)
    (n : Nat) (h : I n s) :
    codeAny (model prog w) A (.compLoop (.ListComp elt [⟨t0, i0, ifs0, 0⟩, ⟨t1, i1, ifs1, 0⟩] scope pos) 1 it acc env) R s := by
  refine codeAny_loop rfl I (fun n s hI => ?_) n h
  show wpAny _ A ((compTurn (.ListComp elt [⟨t0, i0, ifs0, 0⟩, ⟨t1, i1, ifs1, 0⟩] scope pos) 1 it acc env).onRaise (fun x => do noteFrame x env; theTreesLotGoes x)) _ _ s
  refine wpAny_noted ?_
  rw [compTurn2_in]
  refine wpAny_bind (wpAny_standAt (wpAny_bind (wpAny_mono (turn n s hI) (fun r s₁ h₁ => ?_) fun _ _ h' => h')))
  cases r with
  | none => exact wpAny_pure h₁
  | some v =>
    refine wpAny_bind (wpAny_mono h₁ (fun _ s₁' h₁' => ?_) fun _ _ h' => h')
    refine wpAny_bind (wpAny_mono h₁' (fun _ s₂ h₂ => wpAny_bind (wpAny_mono h₂ (fun ok s₃ h₃ => ?_) fun _ _ h' => h')) fun _ _ h' => h')
    cases ok with
    | false => exact wpAny_pure ⟨rfl, h₃⟩
    | true =>
      exact wpAny_bind (wpAny_bind (wpAny_mono h₃ (fun x s₄ h₄ => wpAny_bind (wpAny_mono h₄ (fun _ s₅ h₅ => wpAny_pure (wpAny_pure ⟨rfl, h₅⟩)) fun _ _ h' => h')) fun _ _ h' => h'))
/-- the second clause's start -/
theorem compStart1_ok (h0 : codeAny (model prog w) A (.compLoop (.ListComp elt [⟨t0, i0, ifs0, 0⟩, ⟨t1, i1, ifs1, 0⟩] scope pos) 1 it acc env) R s)
    (h : wpAny (model prog w) A (pyIter it) (fun it' s' => codeAny (model prog w) A (.compLoop (.ListComp elt [⟨t0, i0, ifs0, 0⟩, ⟨t1, i1, ifs1, 0⟩] scope pos) 1 it' acc env) R s')
      (notedBy (model prog w) A env fun x s' => R (.error x) s') s) :
    codeAny (model prog w) A (.compStart (.ListComp elt [⟨t0, i0, ifs0, 0⟩, ⟨t1, i1, ifs1, 0⟩] scope pos) 1 it acc env) R s := by
  refine codeAny_of_tree ?_
  show wpAny _ _ ((compStart (.ListComp elt [⟨t0, i0, ifs0, 0⟩, ⟨t1, i1, ifs1, 0⟩] scope pos) 1 it acc env).onRaise (fun x => do noteFrame x env; standAt theWindowsPlace)) _ _ s
  refine wpAny_notedAt ?_
  unfold compStart
  show wpAny _ _ (ask >>= _) _ _ s
  refine wpAny_bind (wpAny_askSetting (wpAny_ite ?_))
  split
  · first
      | exact wpAny_bind (wpAny_pure (wpAny_pure (And.intro rfl h0)))
      | exact wpAny_pure (And.intro rfl h0)
  · first
      | exact wpAny_bind (wpAny_rule (wpAny_bind (wpAny_standAt (wpAny_bind (wpAny_mono h (fun it' s' h' => wpAny_pure (And.intro rfl h')) fun _ _ x => x)))))
      | (refine wpAny_bind (wpAny_rule ?_); show wpAny _ _ (standAt i1.pos >>= _) _ _ s; exact wpAny_bind (wpAny_standAt (wpAny_bind (wpAny_mono h (fun it' s' h' => wpAny_pure (And.intro rfl h')) fun _ _ x => x))))
end

theorem wipe_out {σ : St} {i : Nat} : ∀ {vs : List Nat}, i ∉ vs → (wipe σ vs)[i]? = σ[i]?
  | [], _ => rfl
  | v :: vs, h => by
    have h1 : v ≠ i := fun e => h (by rw [e]; exact List.mem_cons_self)
    have h2 : i ∉ vs := fun m => h (List.mem_cons_of_mem _ m)
    unfold wipe
    rw [List.getElem?_set_ne h1]
    exact wipe_out h2
section
variable {X : Cx}
/-- [elt for tg in iter if .. for tg1 in iter1 if ..]: behind the first clause's store and tests the second source's own loop, from which Nx is reached. vs: the block's names; vs1: those of the second target -/
def tLc2 (wi : TI) (g : TG) (tt : TT) (wi1 : TI) (g1 : TG) (tt1 : TT) (te : TE) (vs vs1 : List Nat) : TE := fun σ H Q => wi σ H fun J H1 => ∀ D, H1 D = none → ∃ W : Nat → Nat → Hp → Prop, (∃ m, W 0 m (upd H1 D (.lst []))) ∧ ∀ i m H, W i m H →
  (J.stop i H ∧ Q (.ref D) H) ∨ (J.go i H ∧ ∃ Nx : Hp → Prop, (∀ H', Nx H' → ∃ m', m' < m ∧ W (i + 1) m' H') ∧ ∀ x H', J.yld i H x H' → g x (wipe σ vs) H' fun σ2 H2 => wipe σ2 vs = wipe σ vs ∧ tt σ2 H2 fun b H3 =>
    if b = true then wi1 σ2 H3 fun J1 H4 => ∃ W1 : Nat → Nat → Hp → Prop, (∃ m, W1 0 m H4) ∧ ∀ j k H, W1 j k H →
      (J1.stop j H ∧ Nx H) ∨ (J1.go j H ∧ ∃ Nx1 : Hp → Prop, (∀ H', Nx1 H' → ∃ k', k' < k ∧ W1 (j + 1) k' H') ∧ ∀ x H', J1.yld j H x H' → g1 x (wipe σ2 vs1) H' fun σ3 H5 => wipe σ3 vs1 = wipe σ2 vs1 ∧ tt1 σ3 H5 fun b H6 =>
        if b = true then te σ3 H6 fun y H7 => ∃ acc, H7 D = some (.lst acc) ∧ acc.length < sizeLine ∧ Nx1 (upd H7 D (.lst (acc ++ [y]))) else Nx1 H6)
    else Nx H3)
theorem lc2_core {pins : List (Addr × Obj)} {s : Shared} {σ : St} {H : Hp} {Q : VK} {elt tg iter tg1 iter1 : Expr} {ifs ifs1 : List Expr} {scope : Scope} {own : List (Str × Nat)} {vs1 : List Nat} {pos pos' : Pos} {wi wi1 : TI} {g g1 : TG} {tt tt1 : TT} {te : TE} {use : Option (Value → Sem Unit)} {Qf : Value → Shared → Prop}
    (hc : X.calm = true) (hN : X.N.Nodup) (I : Inv X pins σ H s) (hi : PI X tg iter wi) (ok : BlkOk X.N X.env.scope scope own) (hv : ∀ i ∈ vs1, i ∈ own.map (·.2))
    (hg : ∀ (s : Shared) (H : Hp) (C : Addr) (cl : List (Str × Addr)) (fp : List Addr), PG (X.blk s H scope (compEnvC scope cl C X.env) fp) tg g) (ht : ∀ (s : Shared) (H : Hp) (C : Addr) (cl : List (Str × Addr)) (fp : List Addr), PTs (X.blk s H scope (compEnvC scope cl C X.env) fp) ifs tt)
    (he : ∀ (s : Shared) (H : Hp) (C : Addr) (cl : List (Str × Addr)) (fp : List Addr), PE (X.blk s H scope (compEnvC scope cl C X.env) fp) elt te) (hs : ∀ x, foldedSetIterable iter X.env x = pure x)
    (hi1 : ∀ (s : Shared) (H : Hp) (C : Addr) (cl : List (Str × Addr)) (fp : List Addr), PI (X.blk s H scope (compEnvC scope cl C X.env) fp) tg1 iter1 wi1)
    (hg1 : ∀ (s : Shared) (H : Hp) (C : Addr) (cl : List (Str × Addr)) (fp : List Addr), PG (X.blk s H scope (compEnvC scope cl C X.env) fp) tg1 g1)
    (ht1 : ∀ (s : Shared) (H : Hp) (C : Addr) (cl : List (Str × Addr)) (fp : List Addr), PTs (X.blk s H scope (compEnvC scope cl C X.env) fp) ifs1 tt1)
    (hs1 : ∀ env x, foldedSetIterable iter1 env x = pure x)
    (h : tLc2 wi g tt wi1 g1 tt1 te (own.map (·.2)) vs1 σ H Q)
    (hRR : ∀ D C s' m H', Inv X pins σ H' s' → Q (.ref D) H' → s'.heap.Ns C m → FpOk X pins H' C → compPost (model X.prog X.w) X.A X.xe use Qf (.ref D) C (.ok .next) s') :
    wpAny (model X.prog X.w) X.A (comprehension (.ListComp elt [⟨tg, iter, ifs, 0⟩, ⟨tg1, iter1, ifs1, 0⟩] scope pos) scope X.env pos' (newList []) false (eval iter X.env) use) Qf X.xe s := by
  have hfree : ∀ y ∈ scope.names, y.2 = .free → ∃ c, X.env.cells.lookup y.1 = some c := fun y hy e => by
    rcases ok.free y hy e with k | k
    · exact I.ok.has _ (.inl k)
    · exact I.ok.has _ (.inr k)
  refine wpAny_comprehension_free (use := use) rfl hs (closure_ok hfree) ok.kind (fun y hy e => by rw [ok.uniq y hy, e])
    (thn (hi pins s σ H _ I h) fun xv s1 hx => thn hx fun itv s2 h2 => ?_)
  obtain ⟨it, fp, tn, J, H2, e, I2, T, st2, f2, q⟩ := h2
  subst e
  refine wpAny_newObj_type (newEnv_comp ?_) (by show 0 ≤ sizeLine; decide)
  generalize hD : s2.heap.objs.size = D
  have hDn : H2 D = none := I2.hok.fresh (Nat.le_of_eq hD)
  obtain ⟨W, ⟨m0, w0⟩, turn⟩ := q D hDn
  -- the new list
  generalize hs3 : ({ s2 with heap := s2.heap.push { cls := .type "list", data := .seq ([] : List Value).toArray } } : Shared) = s3
  have I3 : Inv X pins σ (upd H2 D (.lst [])) s3 := by
    rw [← hs3]
    refine I2.laid (t' := s2.toks) (fun b o e => Heap.get?_push_of_some _ e) (Nat.le_of_eq hD) ⟨Nat.zero_le _, [], 0, .nil, ?_⟩
    rw [← hD]
    exact Heap.get?_push_size _ rfl
  have h3 : s3.heap = s2.heap.push { cls := .type "list", data := .seq ([] : List Value).toArray } := by rw [← hs3]
  have sz : ∀ b ∈ fp, b < s2.heap.objs.size := fun b hb => by
    obtain ⟨o, e, _⟩ := T.obj _ _ st2 b hb
    exact Heap.lt_size e
  have f3 : ∀ b ∈ fp, FpOk X pins (upd H2 D (.lst [])) b ∧ b < s3.heap.objs.size := fun b hb => by
    have hlt := sz b hb
    refine ⟨⟨?_, (f2 b hb).2⟩, by rw [h3, Heap.size_push]; exact Nat.lt_succ_of_lt hlt⟩
    rw [upd_ne (by rw [← hD]; exact Nat.ne_of_lt hlt)]
    exact (f2 b hb).1
  have st3 : tn 0 s3.heap := T.keep _ _ _ st2 fun b _ o e => by rw [h3]; exact Heap.get?_push_of_some _ e
  have I4 := block_start I3 ok hN f3
  have pg := hg s3 (upd H2 D (.lst [])) s3.heap.objs.size (cellsFrom (s3.heap.objs.size + 1) scope.names (cloFrom X.env.cells scope.names [])) fp
  have pt := ht s3 (upd H2 D (.lst [])) s3.heap.objs.size (cellsFrom (s3.heap.objs.size + 1) scope.names (cloFrom X.env.cells scope.names [])) fp
  have pe := he s3 (upd H2 D (.lst [])) s3.heap.objs.size (cellsFrom (s3.heap.objs.size + 1) scope.names (cloFrom X.env.cells scope.names [])) fp
  have pi1 := hi1 s3 (upd H2 D (.lst [])) s3.heap.objs.size (cellsFrom (s3.heap.objs.size + 1) scope.names (cloFrom X.env.cells scope.names [])) fp
  have pg1 := hg1 s3 (upd H2 D (.lst [])) s3.heap.objs.size (cellsFrom (s3.heap.objs.size + 1) scope.names (cloFrom X.env.cells scope.names [])) fp
  have pt1 := ht1 s3 (upd H2 D (.lst [])) s3.heap.objs.size (cellsFrom (s3.heap.objs.size + 1) scope.names (cloFrom X.env.cells scope.names [])) fp
  show codeAny _ _ (.compStart (.ListComp elt [⟨tg, iter, ifs, 0⟩, ⟨tg1, iter1, ifs1, 0⟩] scope pos) 0 (.ref it) (.ref D) (compEnvC scope (cellsFrom (s3.heap.objs.size + 1) scope.names (cloFrom X.env.cells scope.names [])) s3.heap.objs.size X.env)) (compPost (model X.prog X.w) X.A X.xe use Qf (.ref D) s3.heap.objs.size) { s3 with heap := pushCells (s3.heap.push { cls := .type "dict", data := .dict #[] }) scope.names }
  have nfp : ∀ b ∈ fp, (upd H2 D (.lst [])) b = none := fun b hb => (f3 b hb).1.1
  generalize hce : compEnvC scope (cellsFrom (s3.heap.objs.size + 1) scope.names (cloFrom X.env.cells scope.names [])) s3.heap.objs.size X.env = ce at I4 pg pt pe pi1 pg1 pt1 ⊢
  have cL : ce.locals = s3.heap.objs.size := by subst hce; rfl
  generalize hH3 : upd H2 D (.lst []) = H3 at I3 I4 pg pt pe pi1 pg1 pt1 w0 nfp f3
  generalize hs4 : ({ s3 with heap := pushCells (s3.heap.push { cls := .type "dict", data := .dict #[] }) scope.names } : Shared) = s4 at I4 ⊢
  have st4 : tn 0 s4.heap := T.keep _ _ _ st3 fun b _ o e => by rw [← hs4]; exact pushCells_keeps _ _ _ _ (Heap.get?_push_of_some _ e)
  have stat : ∀ {σ' : St} {H' : Hp} {s' : Shared}, Inv (X.blk s3 H3 scope ce fp) [] σ' H' s' → (∀ b ∈ fp, H' b = none) → ∀ b ∈ fp, FpOk (X.blk s3 H3 scope ce fp) [] H' b := fun {σ' H' s'} I' hn b hb =>
    ⟨hn b hb, (I'.ok.exf b hb).1, I'.ok.exfs b hb, .inl hb, fun x c e => (I'.ok.exf b hb).2 x c e, fun p hp => absurd (show p ∈ ([] : List (Addr × Obj)) ++ [] from hp) (by simp)⟩
  have loop : codeAny (model X.prog X.w) X.A (.compLoop (.ListComp elt [⟨tg, iter, ifs, 0⟩, ⟨tg1, iter1, ifs1, 0⟩] scope pos) 0 (.ref it) (.ref D) ce) (compPost (model X.prog X.w) X.A X.xe use Qf (.ref D) s3.heap.objs.size) s4 := by
    refine compLoop2_out (hs1 ce) (fun n s' => ∃ i H', Inv (X.blk s3 H3 scope ce fp) [] (wipe σ (own.map (·.2))) H' s' ∧ tn i s'.heap ∧ (∀ b ∈ fp, H' b = none) ∧ W i n H') ?_ m0 ⟨0, H3, I4, st4, nfp, w0⟩
    rintro n s5 ⟨i, H5, I5, st5, n5, w5⟩
    rcases turn i n H5 w5 with ⟨stop, qq⟩ | ⟨go, Nx, hNx, step⟩
    · have td := T.done (X.blk s3 H3 scope ce fp) rfl rfl rfl hc i [] s5 _ H5 (fun _ _ => False) I5 (stat I5 n5) st5 stop
      refine thnF td fun r s6 ⟨hr, I6⟩ => ?_
      subst hr
      -- back in the def's context
      have I7 : Inv X pins σ H5 s6 := I3.call' (ch := fp) I6.os I6.base I6.hok I6.bare fun b hb => ⟨(f3 b hb).1.2.2.2.1, (f3 b hb).1.2.1, (f3 b hb).1.2.2.2.2.1, (f3 b hb).1.2.2.2.2.2⟩
      have nC : H5 s3.heap.objs.size = none := by
        have z : H5 ce.locals = none := I6.free
        rw [cL] at z
        exact z
      obtain ⟨m, hn, _⟩ := I6.loc
      have hn : s6.heap.Ns ce.locals m := hn
      rw [cL] at hn
      exact hRR D s3.heap.objs.size s6 m H5 I7 qq hn (I3.fpOk (Nat.le_refl _) nC)
    · have ti := T.item (X.blk s3 H3 scope ce fp) rfl rfl rfl hc i [] s5 _ H5 (fun _ _ => False) I5 (stat I5 n5) st5 go
      refine thnF ti fun r s6 ⟨u, hr, h6⟩ => ?_
      subst hr
      refine thnF h6 fun _ s7 ⟨x, H7, I7, r7, y7, st7, n7⟩ => ?_
      have I7' := I7.pinned (stat I7 n7) (T.obj _ _ st7)
      refine thnF (pg _ s7 _ H7 x u _ I7' r7 (step x H7 y7)) fun _ s8 ⟨σ8, H8, I8, hw8, q8⟩ => ?_
      refine thnF (pt _ s8 σ8 H8 _ I8 q8) fun b s9 ⟨H9, I9, q9⟩ => ?_
      -- the turn's end, from any slots that know what the block knew at its start
      have fin : ∀ {σ9 : St} {s' : Shared} {H' : Hp}, Inv (X.blk s3 H3 scope ce fp) ([] ++ pinsAt fp s7.heap) σ9 H' s' → (wipe σ (own.map (·.2))).length = σ9.length → (∀ (j : Nat) v, (wipe σ (own.map (·.2)))[j]? = some (some v) → σ9[j]? = some (some v)) → Nx H' →
          ∃ m, m < n ∧ ∃ i H', Inv (X.blk s3 H3 scope ce fp) [] (wipe σ (own.map (·.2))) H' s' ∧ tn i s'.heap ∧ (∀ b ∈ fp, H' b = none) ∧ W i m H' := fun {σ9 s' H'} I' hl hk nx => by
        obtain ⟨m', hm, w'⟩ := hNx H' nx
        have pin' : ∀ b ∈ fp, ∀ o, s7.heap.get? b = some o → s'.heap.get? b = some o ∧ H' b = none := fun b hb o e =>
          let z := I'.pin (b, o) (List.mem_append_right _ (List.mem_append_right _ (mem_pinsAt hb e)))
          ⟨z.1, z.2.1⟩
        refine ⟨m', hm, i + 1, H', (I'.unpinned (pins := [])).weak hl hk, T.keep _ _ _ st7 fun b hb o e => (pin' b hb o e).1, fun b hb => ?_, w'⟩
        obtain ⟨o, e, _⟩ := T.obj _ _ st7 b hb
        exact (pin' b hb o e).2
      have hl8 : (wipe σ (own.map (·.2))).length = σ8.length := by rw [← hw8, wipe_length]
      have hk8 : ∀ (j : Nat) v, (wipe σ (own.map (·.2)))[j]? = some (some v) → σ8[j]? = some (some v) := fun j v e => by
        rw [← hw8] at e
        exact (wipe_some e).1
      have hk9 : ∀ (j : Nat) v, (wipe σ (own.map (·.2)))[j]? = some (some v) → (wipe σ8 vs1)[j]? = some (some v) := fun j v e => by
        rw [← hw8] at e
        obtain ⟨e1, e2⟩ := wipe_some e
        rw [wipe_out fun z => e2 (hv j z)]
        exact e1
      cases b with
      | false =>
        simp only [Bool.false_eq_true, if_false] at q9 ⊢
        exact fin I9 hl8 hk8 q9
      | true =>
        simp only [if_true] at q9 ⊢
        refine thnF (pi1 _ s9 σ8 H9 _ I9 q9) fun xv s10 hx => thnF hx fun itv s11 h11 => ?_
        obtain ⟨it1, fp1, tn1, J1, H11, e1, I11, T1, st11, f11, W1, ⟨m1, w1⟩, turn1⟩ := h11
        subst e1
        -- the inner loop
        have stat1 : ∀ {H' : Hp}, (∀ b ∈ fp1, H' b = none) → ∀ b ∈ fp1, FpOk (X.blk s3 H3 scope ce fp) ([] ++ pinsAt fp s7.heap) H' b := fun hn b hb => ⟨hn b hb, (f11 b hb).2⟩
        have loop1 : codeAny (model X.prog X.w) X.A (.compLoop (.ListComp elt [⟨tg, iter, ifs, 0⟩, ⟨tg1, iter1, ifs1, 0⟩] scope pos) 1 (.ref it1) (.ref D) ce)
            (fun r s' => match r with
              | .ok _ => ∃ m, m < n ∧ ∃ i H', Inv (X.blk s3 H3 scope ce fp) [] (wipe σ (own.map (·.2))) H' s' ∧ tn i s'.heap ∧ (∀ b ∈ fp, H' b = none) ∧ W i m H'
              | .error _ => False) s11 := by
          refine compLoop2_in (fun k s' => ∃ j H', Inv (X.blk s3 H3 scope ce fp) ([] ++ pinsAt fp s7.heap) (wipe σ8 vs1) H' s' ∧ tn1 j s'.heap ∧ (∀ b ∈ fp1, H' b = none) ∧ W1 j k H') ?_ m1 ⟨0, H11, I11.weak (wipe_length _ _) (fun j v e => (wipe_some e).1), st11, fun b hb => (f11 b hb).1, w1⟩
          rintro k s12 ⟨j, H12, I12, st12, n12, w12⟩
          rcases turn1 j k H12 w12 with ⟨stop1, nx1⟩ | ⟨go1, Nx1, hNx1, step1⟩
          · refine thnF (T1.done (X.blk s3 H3 scope ce fp) rfl rfl rfl hc j _ s12 (wipe σ8 vs1) H12 (fun _ _ => False) I12 (stat1 n12) st12 stop1) fun r s13 ⟨hr, I13⟩ => ?_
            subst hr
            exact fin I13 (hl8.trans (wipe_length σ8 vs1).symm) hk9 nx1
          · refine thnF (T1.item (X.blk s3 H3 scope ce fp) rfl rfl rfl hc j _ s12 (wipe σ8 vs1) H12 (fun _ _ => False) I12 (stat1 n12) st12 go1) fun r s13 ⟨u1, hr, h13⟩ => ?_
            subst hr
            refine thnF h13 fun _ s14 ⟨x1, H14, I14, r14, y14, st14, n14⟩ => ?_
            have I14' := I14.pinned (stat1 n14) (T1.obj _ _ st14)
            refine thnF (pg1 _ s14 (wipe σ8 vs1) H14 x1 u1 _ I14' r14 (step1 x1 H14 y14)) fun _ s15 ⟨σ15, H15, I15, hw15, q15⟩ => ?_
            refine thnF (pt1 _ s15 σ15 H15 _ I15 q15) fun b1 s16 ⟨H16, I16, q16⟩ => ?_
            have fin1 : ∀ {s' : Shared} {H' : Hp}, Inv (X.blk s3 H3 scope ce fp) (([] ++ pinsAt fp s7.heap) ++ pinsAt fp1 s14.heap) σ15 H' s' → Nx1 H' → ∃ m, m < k ∧ ∃ j H', Inv (X.blk s3 H3 scope ce fp) ([] ++ pinsAt fp s7.heap) (wipe σ8 vs1) H' s' ∧ tn1 j s'.heap ∧ (∀ b ∈ fp1, H' b = none) ∧ W1 j m H' := fun {s' H'} I' nx => by
              obtain ⟨m', hm, w'⟩ := hNx1 H' nx
              have pin' : ∀ b ∈ fp1, ∀ o, s14.heap.get? b = some o → s'.heap.get? b = some o ∧ H' b = none := fun b hb o e =>
                let z := I'.pin (b, o) (List.mem_append_right _ (List.mem_append_right _ (mem_pinsAt hb e)))
                ⟨z.1, z.2.1⟩
              refine ⟨m', hm, j + 1, H', I'.unpinned.weak (by rw [← hw15, wipe_length]) (fun j v e => by rw [← hw15] at e; exact (wipe_some e).1), T1.keep _ _ _ st14 fun b hb o e => (pin' b hb o e).1, fun b hb => ?_, w'⟩
              obtain ⟨o, e, _⟩ := T1.obj _ _ st14 b hb
              exact (pin' b hb o e).2
            cases b1 with
            | false =>
              simp only [Bool.false_eq_true, if_false] at q16 ⊢
              exact fin1 I16 q16
            | true =>
              simp only [if_true] at q16 ⊢
              refine thnF (pe _ s16 σ15 H16 _ I16 q16) fun z s17 ⟨yv, H17, I17, r17, acc, hD17, hz17, nx⟩ => ?_
              exact app_ok (X := X.blk s3 H3 scope ce fp) I17 hD17 hz17 r17 fun s18 I18 => fin1 I18 nx
        exact compStart1_ok loop1 (T1.self X.A 0 _ _ _ st11 loop1)
  exact codeAny_compStart_list loop (T.self X.A 0 _ _ _ st4 loop)
/-- as a value -/
theorem pe_lc2 {elt tg iter tg1 iter1 : Expr} {ifs ifs1 : List Expr} {scope : Scope} {own : List (Str × Nat)} {vs1 : List Nat} {pos : Pos} {wi wi1 : TI} {g g1 : TG} {tt tt1 : TT} {te : TE} (hc : X.calm = true) (hN : X.N.Nodup) (hi : PI X tg iter wi) (ok : BlkOk X.N X.env.scope scope own) (hv : ∀ i ∈ vs1, i ∈ own.map (·.2))
    (hg : ∀ (s : Shared) (H : Hp) (C : Addr) (cl : List (Str × Addr)) (fp : List Addr), PG (X.blk s H scope (compEnvC scope cl C X.env) fp) tg g) (ht : ∀ (s : Shared) (H : Hp) (C : Addr) (cl : List (Str × Addr)) (fp : List Addr), PTs (X.blk s H scope (compEnvC scope cl C X.env) fp) ifs tt)
    (hi1 : ∀ (s : Shared) (H : Hp) (C : Addr) (cl : List (Str × Addr)) (fp : List Addr), PI (X.blk s H scope (compEnvC scope cl C X.env) fp) tg1 iter1 wi1)
    (hg1 : ∀ (s : Shared) (H : Hp) (C : Addr) (cl : List (Str × Addr)) (fp : List Addr), PG (X.blk s H scope (compEnvC scope cl C X.env) fp) tg1 g1) (ht1 : ∀ (s : Shared) (H : Hp) (C : Addr) (cl : List (Str × Addr)) (fp : List Addr), PTs (X.blk s H scope (compEnvC scope cl C X.env) fp) ifs1 tt1)
    (he : ∀ (s : Shared) (H : Hp) (C : Addr) (cl : List (Str × Addr)) (fp : List Addr), PE (X.blk s H scope (compEnvC scope cl C X.env) fp) elt te) (hs : ∀ x, foldedSetIterable iter X.env x = pure x := by intro _; rfl) (hs1 : ∀ env x, foldedSetIterable iter1 env x = pure x := by intro _ _; rfl) :
    PE X (.ListComp elt [⟨tg, iter, ifs, 0⟩, ⟨tg1, iter1, ifs1, 0⟩] scope pos) (tLc2 wi g tt wi1 g1 tt1 te (own.map (·.2)) vs1) := by
  intro pins s σ H Q I h
  rw [eval_ListComp]
  refine lc2_core hc hN I hi ok hv hg ht he hs hi1 hg1 ht1 hs1 h fun D C s' m H' I' q hn f => ⟨m, hn, fun h'' sb => ?_⟩
  obtain ⟨f0, f1, f2, f3, f4, f5⟩ := f
  exact ⟨.ref D, H', I'.turned (t' := s'.toks) (fun b o hb e => (sb.2 b hb).trans e) f0 f1 f3 f4 f5, rfl, q⟩
end
end L2

namespace L2
open PySem PySem.Spec PyProof.Rows

/-! ### lists of pairs as tables -/
section
variable {κ : Type} [DecidableEq κ]
def valV (kvs : List (κ × V)) (k : κ) : Option V := (kvs.find? fun kv => decide (kv.1 = k)).map (·.2)
/-- in its place, or at the end -/
def putK (kvs : List (κ × V)) (k : κ) (v : V) : List (κ × V) :=
  if (kvs.any fun kv => decide (kv.1 = k)) = true then kvs.map (fun kv => if kv.1 = k then (kv.1, v) else kv) else kvs ++ [(k, v)]
def dropK (kvs : List (κ × V)) (k : κ) : List (κ × V) := kvs.filter fun kv => decide (kv.1 ≠ k)

theorem valV_pos {p : κ × V} {r : List (κ × V)} {k : κ} (e : p.1 = k) : valV (p :: r) k = some p.2 := by simp [valV, List.find?_cons, e]
theorem valV_neg {p : κ × V} {r : List (κ × V)} {k : κ} (e : ¬ p.1 = k) : valV (p :: r) k = valV r k := by simp [valV, List.find?_cons, e]
theorem valV_any (k : κ) : ∀ kvs : List (κ × V), (kvs.any fun kv => decide (kv.1 = k)) = (valV kvs k).isSome
  | [] => rfl
  | p :: r => by
    rw [List.any_cons]
    by_cases e : p.1 = k
    · simp only [valV_pos e, decide_eq_true e, Bool.true_or, Option.isSome_some]
    · rw [valV_neg e, decide_eq_false e, Bool.false_or]; exact valV_any k r
theorem valV_map (k j : κ) (y : V) : ∀ kvs : List (κ × V), valV (kvs.map fun kv => if kv.1 = k then (kv.1, y) else kv) j = (valV kvs j).map fun x => if j = k then y else x
  | [] => rfl
  | p :: r => by
    have ih := valV_map k j y r
    rw [List.map_cons]
    by_cases h : p.1 = k
    · rw [if_pos h]
      by_cases e : p.1 = j
      · rw [valV_pos (p := (p.1, y)) e, valV_pos e, Option.map_some, if_pos (e.symm.trans h)]
      · rw [valV_neg (p := (p.1, y)) e, valV_neg e, ih]
    · rw [if_neg h]
      by_cases e : p.1 = j
      · rw [valV_pos (p := p) e, valV_pos e, Option.map_some, if_neg (fun z => h (e.trans z))]
      · rw [valV_neg (p := p) e, valV_neg e, ih]
theorem valV_snoc (k j : κ) (y : V) : ∀ kvs : List (κ × V), valV kvs k = none → valV (kvs ++ [(k, y)]) j = if j = k then some y else valV kvs j
  | [], _ => by
    by_cases e : k = j
    · rw [if_pos e.symm]; exact valV_pos (p := (k, y)) e
    · rw [if_neg (fun z => e z.symm)]; exact valV_neg (p := (k, y)) e
  | p :: r, hn => by
    rw [List.cons_append]
    have hk : ¬ p.1 = k := fun z => by rw [valV_pos z] at hn; cases hn
    rw [valV_neg hk] at hn
    have ih := valV_snoc k j y r hn
    by_cases e : p.1 = j
    · rw [valV_pos e, valV_pos e, if_neg (fun z => hk (e.trans z))]
    · rw [valV_neg e, valV_neg e, ih]
theorem valV_put (kvs : List (κ × V)) (k j : κ) (y : V) : valV (putK kvs k y) j = if j = k then some y else valV kvs j := by
  unfold putK
  by_cases a : (kvs.any fun kv => decide (kv.1 = k)) = true
  · rw [if_pos a, valV_map]
    rw [valV_any] at a
    by_cases e : j = k
    · obtain ⟨x, hx⟩ := Option.isSome_iff_exists.mp a
      rw [if_pos e, e, hx, Option.map_some, if_pos rfl]
    · rw [if_neg e]
      cases valV kvs j with
      | none => rfl
      | some x => rw [Option.map_some, if_neg e]
  · rw [if_neg a]
    refine valV_snoc k j y kvs ?_
    rw [valV_any] at a
    cases q : valV kvs k with
    | none => rfl
    | some x => rw [q] at a; exact (a rfl).elim
theorem length_putK (kvs : List (κ × V)) (k : κ) (v : V) : (putK kvs k v).length ≤ kvs.length + 1 := by
  unfold putK
  split
  · rw [List.length_map]; omega
  · rw [List.length_append, List.length_cons, List.length_nil]; omega
theorem putK_new {kvs : List (κ × V)} {k : κ} (v : V) (h : valV kvs k = none) : putK kvs k v = kvs ++ [(k, v)] := by
  unfold putK
  rw [valV_any, h]
  exact if_neg (by decide)

theorem RelO.isSome_eq {o : Option V} {u : Option Value} (r : RelO o u) : o.isSome = u.isSome := by
  cases o with
  | none => cases u with
    | none => rfl
    | some _ => exact (show False from r).elim
  | some _ => cases u with
    | none => exact (show False from r).elim
    | some _ => rfl
theorem RelO.getD {o : Option V} {u : Option Value} {d : V} {d' : Value} (r : RelO o u) (rd : RelV d d') : RelV (o.getD d) (u.getD d') := by
  cases o with
  | none => cases u with
    | none => exact rd
    | some _ => exact (show False from r).elim
  | some _ => cases u with
    | none => exact (show False from r).elim
    | some _ => exact r

/-- raw tables of the same keys -/
theorem KV.val {kvs : List (κ × V)} {vs : List (κ × Value)} (r : KV kvs vs) (k : κ) : RelO (valV kvs k) (valueAt vs k) := by
  unfold KV at r
  induction r with
  | nil => exact True.intro
  | @cons p q ps qs h t ih =>
    obtain ⟨h1, h2⟩ := h
    by_cases e : p.1 = k
    · have e' : q.1 = k := h1.symm.trans e
      have b : valueAt (q :: qs) k = some q.2 := by simp [valueAt, List.find?_cons, e']
      rw [valV_pos e, b]; exact h2
    · have e' : ¬ q.1 = k := fun z => e (h1.trans z)
      have b : valueAt (q :: qs) k = valueAt qs k := by simp [valueAt, List.find?_cons, e']
      rw [valV_neg e, b]; exact ih
theorem KV.any {kvs : List (κ × V)} {vs : List (κ × Value)} (r : KV kvs vs) (k : κ) : (kvs.any fun kv => decide (kv.1 = k)) = vs.any fun kv => decide (kv.1 = k) := by
  unfold KV at r
  induction r with
  | nil => rfl
  | cons h t ih => rw [List.any_cons, List.any_cons, ih, h.1]
theorem KV.repl {kvs : List (κ × V)} {vs : List (κ × Value)} (r : KV kvs vs) (k : κ) {y : V} {u : Value} (ry : RelV y u) :
    KV (kvs.map fun kv => if kv.1 = k then (kv.1, y) else kv) (vs.map fun kv => if kv.1 = k then (kv.1, u) else kv) := by
  unfold KV at r ⊢
  induction r with
  | nil => exact .nil
  | @cons p q ps qs h t ih =>
    rw [List.map_cons, List.map_cons]
    refine .cons ?_ ih
    obtain ⟨h1, h2⟩ := h
    by_cases e : p.1 = k
    · rw [if_pos e, if_pos (h1.symm.trans e)]; exact ⟨h1, ry⟩
    · rw [if_neg e, if_neg (fun z => e (h1.trans z))]; exact ⟨h1, h2⟩
theorem KV.put {kvs : List (κ × V)} {vs : List (κ × Value)} (r : KV kvs vs) (k : κ) {y : V} {u : Value} (ry : RelV y u) : KV (putK kvs k y) (stored vs k u) := by
  unfold putK stored
  rw [r.any k]
  by_cases e : (vs.any fun kv => decide (kv.1 = k)) = true
  · rw [if_pos e, if_pos e]; exact r.repl k ry
  · rw [if_neg e, if_neg e]; exact Paired.snoc r ⟨rfl, ry⟩
theorem KV.drop {kvs : List (κ × V)} {vs : List (κ × Value)} (r : KV kvs vs) (k : κ) : KV (dropK kvs k) (without vs k) := by
  unfold KV at r ⊢
  unfold dropK without
  induction r with
  | nil => exact .nil
  | @cons p q ps qs h t ih =>
    obtain ⟨h1, h2⟩ := h
    rw [List.filter_cons, List.filter_cons]
    by_cases e : p.1 = k
    · have a : ¬ decide (p.1 ≠ k) = true := by simp [e]
      have b : ¬ decide (q.1 ≠ k) = true := by simp [h1.symm.trans e]
      rw [if_neg a, if_neg b]; exact ih
    · have e' : ¬ q.1 = k := fun z => e (h1.trans z)
      have a : decide (p.1 ≠ k) = true := by simp [e]
      have b : decide (q.1 ≠ k) = true := by simp [e']
      rw [if_pos a, if_pos b]; exact .cons ⟨h1, h2⟩ ih
theorem KV.keys {kvs : List (κ × V)} {vs : List (κ × Value)} (r : KV kvs vs) : kvs.map (·.1) = vs.map (·.1) := by
  unfold KV at r
  induction r with
  | nil => rfl
  | cons h t ih => rw [List.map_cons, List.map_cons, ih, h.1]
theorem KV.length {kvs : List (κ × V)} {vs : List (κ × Value)} (r : KV kvs vs) : kvs.length = vs.length := Paired.length r
end


/-! ### a tracked dict, its keys ints and texts or tuples of these -/
theorem kV_is {P : Program} {w : World} {k : Key} {u : Value} (r : RelV (kV k) u) : (mixKind P w).is k u = true := by
  cases k with
  | inl i => obtain ⟨t, e⟩ := (show ∃ t, u = Value.int i t from r); subst e; exact mixKind_int P w i t
  | inr x => obtain ⟨t, e⟩ := (show ∃ t, u = Value.str x t from r); subst e; exact mixKind_str P w x t
theorem items_are {P : Program} {w : World} : ∀ {ks : List Key} {us : List Value}, Vals (ks.map kV) us → ItemsAre (mixKind P w) ks us
  | [], _, r => by rw [List.map_nil] at r; cases r; exact .nil
  | k :: ks, _, r => by
    rw [List.map_cons] at r
    cases r with
    | cons h t => exact .cons (kV_is h) (items_are t)

/-- raw entries of a dict with tuple keys -/
abbrev KT (H : Hp) : List (List Key × V) → List (List Key × Addr × Value) → Prop := Paired fun p q => p.1 = q.1 ∧ H q.2.1 = some (.tup (p.1.map kV)) ∧ RelV p.2 q.2.2
theorem KT.val {H : Hp} {kvs : List (List Key × V)} {xs : List (List Key × Addr × Value)} (r : KT H kvs xs) (k : List Key) : RelO (valV kvs k) ((atKey xs k).map (·.2)) := by
  induction r with
  | nil => exact True.intro
  | @cons p q ps qs h t ih =>
    obtain ⟨h1, _, h2⟩ := h
    by_cases e : p.1 = k
    · have e' : q.1 = k := h1.symm.trans e
      have b : atKey (q :: qs) k = some q.2 := by simp [atKey, List.find?_cons, e']
      rw [valV_pos e, b]; exact h2
    · have e' : ¬ q.1 = k := fun z => e (h1.trans z)
      have b : atKey (q :: qs) k = atKey qs k := by simp [atKey, List.find?_cons, e']
      rw [valV_neg e, b]; exact ih
theorem KT.repl {H : Hp} {kvs : List (List Key × V)} {xs : List (List Key × Addr × Value)} (r : KT H kvs xs) (k : List Key) {y : V} {u : Value} (ry : RelV y u) :
    KT H (kvs.map fun kv => if kv.1 = k then (kv.1, y) else kv) (xs.map (putAt k u)) := by
  induction r with
  | nil => exact .nil
  | @cons p q ps qs h t ih =>
    rw [List.map_cons, List.map_cons]
    refine .cons ?_ ih
    obtain ⟨h1, h2, h3⟩ := h
    unfold putAt
    by_cases e : p.1 = k
    · rw [if_pos e, if_pos (h1.symm.trans e)]; exact ⟨h1, h2, ry⟩
    · rw [if_neg e, if_neg (fun z => e (h1.trans z))]; exact ⟨h1, h2, h3⟩
theorem KT.put {H : Hp} {kvs : List (List Key × V)} {xs : List (List Key × Addr × Value)} (r : KT H kvs xs) (k : List Key) {b : Addr} {y : V} {u : Value} (hb : H b = some (.tup (k.map kV))) (ry : RelV y u) :
    KT H (putK kvs k y) (storedH xs k b u) := by
  have e : (kvs.any fun kv => decide (kv.1 = k)) = (atKey xs k).isSome := by
    rw [valV_any, (r.val k).isSome_eq, Option.isSome_map]
  unfold putK storedH
  rw [e]
  by_cases q : (atKey xs k).isSome = true
  · rw [if_pos q, if_pos q]; exact r.repl k ry
  · rw [if_neg q, if_neg q]; exact Paired.snoc r ⟨rfl, hb, ry⟩
theorem KT.keeps {H H' : Hp} {kvs : List (List Key × V)} {xs : List (List Key × Addr × Value)} (r : KT H kvs xs) (ht : ∀ b ys, H b = some (.tup ys) → H' b = some (.tup ys)) : KT H' kvs xs :=
  Paired.mapP r fun _ _ z => ⟨z.1, ht _ _ z.2.1, z.2.2⟩

section
variable {P : Program} {w : World} {H : Hp} {h : Heap} {a : Addr}
theorem rd_of {u : HO} (ok : HOk P w H h) (e : Rd H a u) : ObjOk P w H h a u := e.ok ok
theorem dk_rd {kvs : List (Key × V)} (ok : HOk P w H h) (e : Rd H a (.dK kvs)) : kvs.length ≤ sizeLine ∧ (a == sysModules) = false ∧ ∃ vs, KV kvs vs ∧ h.DictOf (mixKind P w) a vs :=
  show ObjOk P w H h a (.dK kvs) from rd_of ok e
theorem dk_of {kvs : List (Key × V)} (ok : HOk P w H h) (e : H a = some (.dK kvs)) : kvs.length ≤ sizeLine ∧ (a == sysModules) = false ∧ ∃ vs, KV kvs vs ∧ h.DictOf (mixKind P w) a vs := dk_rd ok (.inl e)
/-- a tracked tuple of ints and texts is a key -/
theorem key_of {ks : List Key} (ok : HOk P w H h) (e : H a = some (.tup (ks.map kV))) : (tupleKind (mixKind P w)).is h ks a := by
  obtain ⟨_, its, r, o, h1, h2, n, h3⟩ := (show ObjOk P w H h a (.tup (ks.map kV)) from ok a _ e)
  exact ⟨o, its.toArray, n, h1, h2, h3, by simpa using items_are r⟩
theorem dt_rd {kvs : List (List Key × V)} (ok : HOk P w H h) (e : Rd H a (.dT kvs)) : kvs.length ≤ sizeLine ∧ (a == sysModules) = false ∧
    ∃ xs, KT H kvs xs ∧ h.DictOfH (tupleKind (mixKind P w)) a xs := by
  obtain ⟨z, y, xs, r, o, es, ep, h1, h2, h3, h4, h5⟩ := (show ObjOk P w H h a (.dT kvs) from rd_of ok e)
  refine ⟨z, y, xs, r, o, es, ep, h1, h2, h3, h4, fun x hx => ?_, h5⟩
  have all : ∀ {l : List (List Key × V)} {m : List (List Key × Addr × Value)}, KT H l m → ∀ x ∈ m, (tupleKind (mixKind P w)).is h x.1 x.2.1 := by
    intro l m q
    induction q with
    | nil => intro x hx; exact nomatch hx
    | @cons p q ps qs hq t ih =>
      intro x hx
      rcases List.mem_cons.mp hx with e | hx
      · subst e
        exact key_of ok (by rw [← hq.1]; exact hq.2.1)
      · exact ih x hx
  exact all r x hx
theorem dt_of {kvs : List (List Key × V)} (ok : HOk P w H h) (e : H a = some (.dT kvs)) : kvs.length ≤ sizeLine ∧ (a == sysModules) = false ∧
    ∃ xs, KT H kvs xs ∧ h.DictOfH (tupleKind (mixKind P w)) a xs := dt_rd ok (.inl e)
end

/-- what the dict at a holds at the key y -/
def DGet (H : Hp) (a : Addr) (y : V) (r : Option V) : Prop :=
  (∃ kvs k, Rd H a (.dK kvs) ∧ y = kV k ∧ r = valV kvs k) ∨ ∃ kvs k b, Rd H a (.dT kvs) ∧ y = .ref b ∧ H b = some (.tup (k.map kV)) ∧ r = valV kvs k
/-- the heap behind a[y] = v -/
def DPut (H : Hp) (a : Addr) (y v : V) (H' : Hp) : Prop :=
  (∃ kvs k, H a = some (.dK kvs) ∧ y = kV k ∧ kvs.length < sizeLine ∧ H' = upd H a (.dK (putK kvs k v))) ∨
  ∃ kvs k b, H a = some (.dT kvs) ∧ y = .ref b ∧ H b = some (.tup (k.map kV)) ∧ kvs.length < sizeLine ∧ H' = upd H a (.dT (putK kvs k v))
theorem DGet.k {H : Hp} {a : Addr} {kvs : List (Key × V)} {k : Key} (e : H a = some (.dK kvs)) : DGet H a (kV k) (valV kvs k) := .inl ⟨kvs, k, .inl e, rfl, rfl⟩
theorem DGet.t {H : Hp} {a b : Addr} {kvs : List (List Key × V)} {k : List Key} (e : H a = some (.dT kvs)) (eb : H b = some (.tup (k.map kV))) : DGet H a (.ref b) (valV kvs k) := .inr ⟨kvs, k, b, .inl e, rfl, eb, rfl⟩
theorem DPut.k {H : Hp} {a : Addr} {kvs : List (Key × V)} {k : Key} {v : V} (e : H a = some (.dK kvs)) (hl : kvs.length < sizeLine) : DPut H a (kV k) v (upd H a (.dK (putK kvs k v))) := .inl ⟨kvs, k, e, rfl, hl, rfl⟩
theorem DPut.t {H : Hp} {a b : Addr} {kvs : List (List Key × V)} {k : List Key} {v : V} (e : H a = some (.dT kvs)) (eb : H b = some (.tup (k.map kV))) (hl : kvs.length < sizeLine) :
    DPut H a (.ref b) v (upd H a (.dT (putK kvs k v))) := .inr ⟨kvs, k, b, e, rfl, eb, hl, rfl⟩


section
variable {X : Cx} {pins : List (Addr × Obj)} {σ : St} {H : Hp} {s : Shared} {a : Addr} {y v : V} {u r : Value} {o : Option V} {A : Around} {E : Value → Shared → Prop}

theorem Inv.big (I : Inv X pins σ H s) : sysModules < s.heap.objs.size := by
  have h : mainGlobals < s.heap.objs.size := (I.mod.glob.keeps I.bk).lt
  exact Nat.lt_trans (by decide) h

/-- d[y], there -/
theorem d_getItem {Q : Value → Shared → Prop} (hu : A.units + 1 < cLine) (I : Inv X pins σ H s) (g : DGet H a y (some v)) (ry : RelV y u) (h : ∀ w' s', Inv X pins σ H s' → RelV v w' → Q w' s') :
    wpAny (model X.prog X.w) A (getItem (.ref a) u) Q E s := by
  rcases g with ⟨kvs, k, e, ey, l⟩ | ⟨kvs, k, b, e, ey, eb, l⟩
  · subst ey
    obtain ⟨z, hd, vs, rel, dd⟩ := dk_rd I.hok e
    obtain ⟨w', hw, rw'⟩ := RelO.some_of (v := v) (o := valueAt vs k) (by rw [l]; exact rel.val k)
    exact wpAny_getItem_of (kV_is ry) dd.mapOf hw (h w' _ (I.tok _) rw')
  · subst ey
    cases (show u = Value.ref b from ry)
    obtain ⟨z, hd, xs, rel, dd⟩ := dt_rd I.hok e
    obtain ⟨w', hw, rw'⟩ := RelO.some_of (v := v) (o := (atKey xs k).map (·.2)) (by rw [l]; exact rel.val k)
    obtain ⟨p, hp, hp2⟩ := Option.map_eq_some_iff.mp hw
    refine wpAny_getItem_heap (tupleKind_room_in1 hu) (key_of I.hok eb) dd hp ?_
    rw [hp2]
    exact h w' _ (I.tok _) rw'
/-- y in d -/
theorem d_in {Q : Value → Shared → Prop} (hu : A.units + 1 < cLine) (I : Inv X pins σ H s) (g : DGet H a y o) (ry : RelV y u) (h : ∀ s', Inv X pins σ H s' → Q (.bool o.isSome) s') :
    wpAny (model X.prog X.w) A (compareOp .In u (.ref a)) Q E s := by
  rcases g with ⟨kvs, k, e, ey, l⟩ | ⟨kvs, k, b, e, ey, eb, l⟩
  · subst ey
    obtain ⟨z, hd, vs, rel, dd⟩ := dk_rd I.hok e
    refine wpAny_in_of (kV_is ry) hd dd.mapOf ?_
    rw [← (rel.val k).isSome_eq, ← l]
    exact h _ (I.tok _)
  · subst ey
    cases (show u = Value.ref b from ry)
    obtain ⟨z, hd, xs, rel, dd⟩ := dt_rd I.hok e
    refine wpAny_in_heap (tupleKind_room_in1 hu) (key_of I.hok eb) hd dd ?_
    have q := (rel.val k).isSome_eq
    rw [Option.isSome_map] at q
    rw [← q, ← l]
    exact h _ (I.tok _)
/-- a dict's object is replaced -/
theorem d_write {h' : Heap} {t' : Nat} {ob : HO} (I : Inv X pins σ H s) (mu : Mut (H a)) (hs : Heap.SameBut a s.heap h') (he : ∃ q, h'.get? a = some q) (new : ObjOk X.prog X.w (upd H a ob) h' a ob) :
    Inv X pins σ (upd H a ob) { s with heap := h', toks := t' } :=
  I.write (x := a) (e := a) mu (.inl rfl) (fun b q hb z => (hs.2 b hb).trans z) he new
theorem dk_new {P : Program} {w : World} {H' : Hp} {h' : Heap} {kvs : List (Key × V)} {vs : List (Key × Value)} (z : kvs.length ≤ sizeLine) (hd : (a == sysModules) = false) (rel : KV kvs vs) (dd : h'.DictOf (mixKind P w) a vs) :
    ObjOk P w H' h' a (.dK kvs) := ⟨z, hd, vs, rel, dd⟩
/-- d[y] = v -/
theorem d_setItem {H' : Hp} {Q : Unit → Shared → Prop} (hu : A.units + 1 < cLine) (I : Inv X pins σ H s) (g : DPut H a y v H') (ry : RelV y u) (rv : RelV v r) (h : ∀ s', Inv X pins σ H' s' → Q () s') :
    wpAny (model X.prog X.w) A (setItem (.ref a) u r) Q E s := by
  rcases g with ⟨kvs, k, e, ey, l, eH⟩ | ⟨kvs, k, b, e, ey, eb, l, eH⟩
  · subst ey eH
    obtain ⟨z, hd, vs, rel, dd⟩ := dk_of I.hok e
    have hz : vs.length ≤ sizeLine := by rw [← rel.length]; exact z
    have hl : (putK kvs k v).length ≤ sizeLine := by have := length_putK kvs k v; omega
    refine wpAny_setItem_pairs (hsz := hz) (kV_is ry) dd fun h' dd' hs => h _ ?_
    have he : ∃ q, h'.get? a = some q := let ⟨q, _, _, hq, _⟩ := dd'; ⟨q, hq⟩
    exact d_write I (by rw [e]; exact True.intro) hs he (dk_new hl hd (rel.put k rv) dd')
  · subst ey eH
    cases (show u = Value.ref b from ry)
    obtain ⟨z, hd, xs, rel, dd⟩ := dt_of I.hok e
    have hz : xs.length ≤ sizeLine := by rw [← Paired.length rel]; exact z
    have hl : (putK kvs k v).length ≤ sizeLine := by have := length_putK kvs k v; omega
    refine wpAny_setItem_heap (hsz := hz) (tupleKind_room_in1 hu) (key_of I.hok eb) dd fun h' dd' hs => h _ ?_
    obtain ⟨q, es, ep, hq, h2, h3, h4, _, h5⟩ := dd'
    refine d_write I (by rw [e]; exact True.intro) hs ⟨q, hq⟩ ⟨hl, hd, _, (rel.put k eb rv).keeps fun c ys ec => ?_, q, es, ep, hq, h2, h3, h4, h5⟩
    rw [upd_ne (ne_of ec e (fun z => nomatch z))]
    exact ec
end

section
variable {X : Cx} {pins : List (Addr × Obj)} {σ : St} {H : Hp} {s : Shared} {a : Addr} {kvs : List (Key × V)} {k : Key} {u : Value} {A : Around} {E : Value → Shared → Prop}
end


/-! ### readings and rules -/
/-- the element of a subscription, not a slice -/
def NoSl (i : Expr) : Prop := ∀ ov iv, subscripted i false ov iv = operate [ov, iv] (getItem ov iv)
theorem subD_of {prog : Program} {w : World} {A : Around} {E : Value → Shared → Prop} {s : Shared} {env : Env} {value slice : Expr} {pos : Pos} {T id : String} {Q : Value → Shared → Prop}
    (hl : typeLookup (.type T) "__getitem__" = pure (some (.builtin id))) (hs : NoSl slice)
    (h : wpAny (model prog w) A (eval value env) (fun o s₁ => wpAny (model prog w) A (eval slice env) (fun i s₂ => s₂.TypeIs o T ∧ wpAny (model prog w) A (getItem o i) Q E s₂) E s₁) E s) :
    wpAny (model prog w) A (eval (.Subscript value slice pos) env) Q E s := by
  refine Subscript_ (wpAny_mono h (fun o s₁ h₁ => wpAny_mono h₁ (fun i s₂ h₂ => ?_) fun _ _ x => x) fun _ _ x => x)
  obtain ⟨hT, h₂⟩ := h₂
  unfold subscriptTail
  refine wpAny_bind ?_
  rw [getitemInPython_of_ne hT.not_modules]
  refine wpAny_bind (wpAny_specialOf hT hl ?_)
  have fin : wpAny (model prog w) A (subscripted slice false o i) (fun r s₃ => wpAny (model prog w) A (letTemporaryGo value o r >>= fun _ => pure r) Q E s₃) E s₂ := by
    rw [hs o i]
    exact wpAny_operating (wpAny_mono h₂ (fun r s₃ h₃ => wpAny_bind (wpAny_letTemporaryGo (wpAny_pure h₃))) fun _ _ x => x)
  first
    | exact wpAny_pure (wpAny_bind fin)
    | exact wpAny_bind (wpAny_pure (wpAny_bind fin))
    | exact wpAny_bind fin

theorem dict_typeIs {X : Cx} {pins : List (Addr × Obj)} {σ : St} {H : Hp} {s : Shared} {a : Addr} {y : V} {o : Option V} (I : Inv X pins σ H s) (g : DGet H a y o) : s.TypeIs (.ref a) "dict" := by
  rcases g with ⟨kvs, k, e, _, _⟩ | ⟨kvs, k, b, e, _, _, _⟩
  · obtain ⟨_, _, vs, _, dd⟩ := dk_rd I.hok e
    exact dd.typeIs
  · obtain ⟨_, _, xs, _, dd⟩ := dt_rd I.hok e
    exact dd.typeIs
/-- d[y] -/
def tDGet (td ty : TE) : TE := fun σ H Q => td σ H fun x H1 => ty σ H1 fun y H2 => ∃ a v, x = .ref a ∧ DGet H2 a y (some v) ∧ Q v H2
/-- y in d, y not in d -/
def tDIn (ty td : TE) : TE := fun σ H Q => ty σ H fun y H1 => td σ H1 fun x H2 => ∃ a o, x = .ref a ∧ DGet H2 a y o ∧ Q (.bl o.isSome) H2
/-- d[y] = v -/
def sDPut (td ty tv : TE) : TS := fun D σ H => tv σ H fun v H1 => td σ H1 fun x H2 => ty σ H2 fun y H3 => ∃ a H4, x = .ref a ∧ DPut H3 a y v H4 ∧ D.nx σ H4
section
variable {X : Cx} {o i e value : Expr} {pos pos' tpos : Pos} {td ty tv : TE}
theorem pe_dget (hu : X.A.units + 1 < cLine) (ho : PE X o td) (hi : PE X i ty) (hs : NoSl i) : PE X (.Subscript o i pos) (tDGet td ty) := by
  intro pins s σ H Q I h
  refine subD_of PySem.F.slot_dict_getitem.lookup hs (thn (ho pins s σ H _ I h) fun u s1 ⟨x, H1, I1, rx, q1⟩ => thn (hi pins s1 σ H1 _ I1 q1) fun iv s2 ⟨y, H2, I2, ry, a, v, ex, g, q2⟩ => ?_)
  subst ex
  obtain rfl : u = Value.ref a := rx
  exact ⟨dict_typeIs I2 g, d_getItem hu I2 g ry fun w' s3 I3 rw' => ⟨v, H2, I3, rw', q2⟩⟩
theorem pc_din (hu : X.A.units + 1 < cLine) (hi : PE X i ty) (ho : PE X o td) : PC X .In i o (tDIn ty td) := by
  intro pins s σ H Q I h
  refine thn (hi pins s σ H _ I h) fun iv s1 ⟨y, H1, I1, ry, q1⟩ => thn (ho pins s1 σ H1 _ I1 q1) fun u s2 ⟨x, H2, I2, rx, a, ov, ex, g, q2⟩ => ?_
  subst ex
  obtain rfl : u = Value.ref a := rx
  exact d_in hu I2 g ry fun s3 I3 => ⟨.bl ov.isSome, H2, I3, rfl, q2⟩
theorem ps_dput (hu : X.A.units + 1 < cLine) (ho : PE X o td) (hi : PE X i ty) (hv : PE X value tv) (hs : swapsWith value (some (.Subscript o i pos')) pos.line X.env = pure false) :
    PS X (.Assign [.Subscript o i pos'] value pos) (sDPut td ty tv) := by
  intro pins s σ H D I h
  refine wpAny_Assign_Subscript (thn (hv pins s σ H _ I h) fun r s1 ⟨v, H1, I1, rv, q1⟩ => thn (ho pins s1 σ H1 _ I1 q1) fun u s2 ⟨x, H2, I2, rx, q2⟩ => thn (hi pins s2 σ H2 _ I2 q2) fun iv s3 ⟨y, H3, I3, ry, a, H4, ex, g, q3⟩ => ?_) hs
  subst ex
  obtain rfl : u = Value.ref a := rx
  exact d_setItem hu I3 g ry rv fun s4 I4 => ⟨σ, H4, I4, q3⟩
end


/-! ### displays -/
theorem dk_empty {P : Program} {w : World} {H : Hp} (h : Heap) (hb : sysModules < h.objs.size) : ObjOk P w H (h.push { cls := .type "dict", data := .dict #[] }) h.objs.size (.dK []) :=
  ⟨Nat.zero_le _, beq_eq_false_iff_ne.mpr (Ne.symm (Nat.ne_of_lt hb)), [], .nil, Heap.DictOf.new h⟩
theorem dt_empty {P : Program} {w : World} {H : Hp} (h : Heap) (hb : sysModules < h.objs.size) : ObjOk P w H (h.push { cls := .type "dict", data := .dict #[] }) h.objs.size (.dT []) :=
  ⟨Nat.zero_le _, beq_eq_false_iff_ne.mpr (Ne.symm (Nat.ne_of_lt hb)), [], .nil, _, #[], 0, Heap.get?_push_size _ rfl, ⟨rfl, rfl, rfl⟩, rfl, rfl, List.nodup_nil⟩
/-- {}, to be a dict of the kind that is wanted -/
def tDNewK : TE := fun _ H Q => ∀ p, H p = none → Q (.ref p) (upd H p (.dK []))
def tDNewT : TE := fun _ H Q => ∀ p, H p = none → Q (.ref p) (upd H p (.dT []))
section
variable {X : Cx} {pos : Pos}
theorem pe_dnewK : PE X (.Dict [] [] pos) tDNewK := fun pins s σ H Q I h =>
  wpAny_Dict_empty ⟨.ref s.heap.objs.size, _, I.laid (a := s.heap.objs.size) (o := .dK []) (t' := s.toks) (fun _ _ q => Heap.get?_push_of_some _ q) (Nat.le_refl _) (dk_empty s.heap I.big), rfl, h _ (I.hok.fresh (Nat.le_refl _))⟩
theorem pe_dnewT : PE X (.Dict [] [] pos) tDNewT := fun pins s σ H Q I h =>
  wpAny_Dict_empty ⟨.ref s.heap.objs.size, _, I.laid (a := s.heap.objs.size) (o := .dT []) (t' := s.toks) (fun _ _ q => Heap.get?_push_of_some _ q) (Nat.le_refl _) (dt_empty s.heap I.big), rfl, h _ (I.hok.fresh (Nat.le_refl _))⟩
end

/-- the pairs of a display, from the left -/
def tPairs : List (TE × TE) → St → Hp → (List (V × V) → Hp → Prop) → Prop
  | [], _, H, Q => Q [] H
  | (tk, tv) :: r, σ, H, Q => tk σ H fun x H1 => tv σ H1 fun y H2 => tPairs r σ H2 fun ps H3 => Q ((x, y) :: ps) H3
abbrev VV : List (V × V) → List (Value × Value) → Prop := Paired fun p q => RelV p.1 q.1 ∧ RelV p.2 q.2
def PPs (X : Cx) (pos : Pos) (keys : List (Option Expr)) (values : List Expr) (trs : List (TE × TE)) : Prop :=
  ∀ (pins : List (Addr × Obj)) (s : Shared) (σ : St) (H : Hp) (Q : List (V × V) → Hp → Prop), Inv X pins σ H s → tPairs trs σ H Q →
    wpAny (model X.prog X.w) X.A (evalPairs (pairTrees keys values X.env pos)) (fun vs s' => ∃ ps H', Inv X pins σ H' s' ∧ VV ps vs ∧ Q ps H') X.xe s
theorem pps_nil {X : Cx} {pos : Pos} : PPs X pos [] [] [] := fun pins s σ H Q I h => pairTrees_nil_walk ⟨[], H, I, .nil, h⟩
theorem pps_cons {X : Cx} {pos : Pos} {k v : Expr} {ks : List (Option Expr)} {vs : List Expr} {tk tv : TE} {trs : List (TE × TE)} (hk : PE X k tk) (hv : PE X v tv) (hr : PPs X pos ks vs trs) :
    PPs X pos (some k :: ks) (v :: vs) ((tk, tv) :: trs) := fun pins s σ H Q I h =>
  pairTrees_cons_walk (thn (hk pins s σ H _ I h) fun u s1 ⟨x, H1, I1, rx, q1⟩ => thn (hv pins s1 σ H1 _ I1 q1) fun w2 s2 ⟨y, H2, I2, ry, q2⟩ =>
    thn (hr pins s2 σ H2 _ I2 q2) fun ws s3 ⟨ps, H3, I3, rel, q3⟩ => ⟨(x, y) :: ps, H3, I3, .cons ⟨rx, ry⟩ rel, q3⟩)

def mergeK (kvs more : List (Key × V)) : List (Key × V) := more.foldl (fun acc kv => putK acc kv.1 kv.2) kvs
theorem KV.merge : ∀ {more : List (Key × V)} {rs : List (Key × Value)} {kvs : List (Key × V)} {vs : List (Key × Value)}, KV more rs → KV kvs vs → KV (mergeK kvs more) (merged vs rs) := by
  intro more rs kvs vs r
  unfold KV at r
  induction r generalizing kvs vs with
  | nil => intro q; exact q
  | @cons p q ps qs h t ih =>
    intro r0
    have e : KV (putK kvs p.1 p.2) (stored vs q.1 q.2) := by
      have := r0.put p.1 h.2
      rw [← h.1]; exact this
    exact ih e
theorem length_mergeK : ∀ (more kvs : List (Key × V)), (mergeK kvs more).length ≤ kvs.length + more.length
  | [], kvs => by show kvs.length ≤ kvs.length + 0; omega
  | p :: r, kvs => by
    have h1 := length_mergeK r (putK kvs p.1 p.2)
    have h2 := length_putK kvs p.1 p.2
    show (mergeK (putK kvs p.1 p.2) r).length ≤ _
    rw [List.length_cons]; omega
theorem carries_of {P : Program} {w : World} : ∀ {kvs : List (Key × V)} {ws : List (Value × Value)}, VV (kvs.map fun kv => (kV kv.1, kv.2)) ws → ∃ rs, Carries (mixKind P w) ws rs ∧ KV kvs rs
  | [], _, r => by rw [List.map_nil] at r; cases r; exact ⟨[], True.intro, .nil⟩
  | p :: kvs, _, r => by
    rw [List.map_cons] at r
    cases r with
    | @cons a b as bs h t =>
      obtain ⟨rs, c, q⟩ := carries_of (P := P) (w := w) t
      obtain ⟨b1, b2⟩ := b
      exact ⟨(p.1, b2) :: rs, ⟨kV_is h.1, rfl, c⟩, .cons ⟨rfl, h.2⟩ q⟩
/-- {k: v, ..} with keys ints and texts; the new dict stands empty while the pairs are made -/
def tDisp (trs : List (TE × TE)) : TE := fun σ H Q => ∀ p, H p = none → tPairs trs σ (upd H p (.dK [])) fun ps H2 => H2 p = some (.dK []) ∧ ∃ kvs : List (Key × V), ps = kvs.map (fun kv => (kV kv.1, kv.2)) ∧ kvs.length ≤ 15 ∧ Q (.ref p) (upd H2 p (.dK (mergeK [] kvs)))
theorem pe_disp {X : Cx} {pos : Pos} {keys : List (Option Expr)} {values : List Expr} {trs : List (TE × TE)} (h : PPs X pos keys values trs) (hall : keys.all (·.isSome) = true) (hl : keys.length = values.length) (h0 : keys ≠ [])
    (h15 : keys.length ≤ 15) : PE X (.Dict keys values pos) (tDisp trs) := by
  intro pins s σ H Q I q
  have hn := I.hok.fresh (Nat.le_refl s.heap.objs.size)
  have I1 := I.laid (a := s.heap.objs.size) (o := .dK []) (h' := s.heap.push { cls := .type "dict", data := .dict #[] }) (t' := s.toks) (fun _ _ q => Heap.get?_push_of_some _ q) (Nat.le_refl _) (dk_empty s.heap I.big)
  refine wpAny_Dict_walk (knd := mixKind X.prog X.w) hall hl h0 h15 (thn (h pins _ σ _ _ I1 (q _ hn)) fun ws s2 ⟨ps, H2, I2, rel, e, kvs, ep, lk, q2⟩ => ?_)
  subst ep
  obtain ⟨rs, c, rk⟩ := carries_of (P := X.prog) (w := X.w) rel
  obtain ⟨z, hd, vs0, r0, dd⟩ := dk_of I2.hok e
  cases r0
  refine ⟨rs, c, dd, fun h' dd' hs => ⟨.ref s.heap.objs.size, _, ?_, rfl, q2⟩⟩
  have hz : (mergeK [] kvs).length ≤ sizeLine := by
    have h1 := length_mergeK kvs []
    rw [List.length_nil] at h1
    rw [sizeLine_eq]; omega
  have he : ∃ q, h'.get? s.heap.objs.size = some q := let ⟨q, _, _, hq, _⟩ := dd'; ⟨q, hq⟩
  exact d_write I2 (by rw [e]; exact True.intro) hs he (dk_new hz hd (rk.merge .nil) dd')


/-! ### methods -/
/-- a method call o.m(e) of a built-in, with one argument: what must be seen of the text -/
structure M1 (X : Cx) (o : Expr) (m : Str) (apos : Pos) (e : Expr) (cpos : Pos) : Prop where
  base : attributeBase o m X.env (eval o X.env) = eval o X.env
  few : ((backTo cpos (starEach [e] X.env)).all (fun x => !x.1) && (backToKw cpos (keywordEach [] X.env)).all (fun x => x.1.isSome)
    && decide (([e] : List Expr).length + ([] : List Keyword).length + (if ([] : List Keyword).isEmpty then 0 else 1) < 30)) = true
  line : (apos.endLine == cpos.line) = true
  trees : backTo cpos (starEach [e] X.env) = [(false, eval e X.env)]
structure M2 (X : Cx) (o : Expr) (m : Str) (apos : Pos) (e f : Expr) (cpos : Pos) : Prop where
  base : attributeBase o m X.env (eval o X.env) = eval o X.env
  few : ((backTo cpos (starEach [e, f] X.env)).all (fun x => !x.1) && (backToKw cpos (keywordEach [] X.env)).all (fun x => x.1.isSome)
    && decide (([e, f] : List Expr).length + ([] : List Keyword).length + (if ([] : List Keyword).isEmpty then 0 else 1) < 30)) = true
  line : (apos.endLine == cpos.line) = true
  trees : backTo cpos (starEach [e, f] X.env) = [(false, eval e X.env), (false, eval f X.env)]

/-- a is a dict, whatever its keys -/
def IsD (H : Hp) (a : Addr) : Prop := (∃ kvs, Rd H a (.dK kvs)) ∨ ∃ kvs, Rd H a (.dT kvs)
theorem isD_at {X : Cx} {pins : List (Addr × Obj)} {σ : St} {H : Hp} {s : Shared} {a : Addr} (I : Inv X pins σ H s) (d : IsD H a) :
    s.TypeIs (.ref a) "dict" ∧ (∀ b, Value.ref a = .ref b → ∃ ob, s.heap.get? b = some ob ∧ ob.dict = none) ∧ (a == sysModules) = false := by
  rcases d with ⟨kvs, e⟩ | ⟨kvs, e⟩
  · obtain ⟨_, hd, vs, _, dd⟩ := dk_rd I.hok e
    refine ⟨dd.typeIs, fun b q => ?_, hd⟩
    cases q
    obtain ⟨ob, _, _, h1, h2, _⟩ := dd
    exact ⟨ob, h1, h2.2.1⟩
  · obtain ⟨_, hd, xs, _, dd⟩ := dt_rd I.hok e
    refine ⟨dd.typeIs, fun b q => ?_, hd⟩
    cases q
    obtain ⟨ob, _, _, h1, h2, _⟩ := dd
    exact ⟨ob, h1, h2.2.1⟩

section
variable {X : Cx} {pins : List (Addr × Obj)} {σ : St} {H : Hp} {s : Shared} {a : Addr} {y d : V} {u r : Value} {o : Option V} {A : Around} {E : Value → Shared → Prop}
/-- d.get(y) -/
theorem d_get1 {Q : Value → Shared → Prop} (hu : A.units + 1 < cLine) (I : Inv X pins σ H s) (g : DGet H a y o) (ry : RelV y u) (h : ∀ w' s', Inv X pins σ H s' → RelV (o.getD .non) w' → Q w' s') :
    wpAny (model X.prog X.w) A (call (.builtin "dict.get") [.ref a, u]) Q E s := by
  rcases g with ⟨kvs, k, e, ey, l⟩ | ⟨kvs, k, b, e, ey, eb, l⟩
  · subst ey
    obtain ⟨z, hd, vs, rel, dd⟩ := dk_rd I.hok e
    refine call_meetsIn PySem.F.slot_dict_get dd.typeIs PySem.F.entry_dict_get (PySem.F.args_dict_get_2 _ _) (meets_dict_get (mixKind X.prog X.w) a (kV_is ry) hd) ⟨_, dd.mapOf, h _ _ (I.tok _) ?_⟩
    rw [l]
    exact (rel.val k).getD rfl
  · subst ey
    cases (show u = Value.ref b from ry)
    obtain ⟨z, hd, xs, rel, dd⟩ := dt_rd I.hok e
    refine call_meetsIn PySem.F.slot_dict_get dd.typeIs PySem.F.entry_dict_get (PySem.F.args_dict_get_2 _ _) (meetsH_dict_get (tupleKind (mixKind X.prog X.w)) a b hd) ⟨tupleKind_room_in1 hu, k, xs, key_of I.hok eb, dd, h _ _ (I.tok _) ?_⟩
    rw [l]
    exact (rel.val k).getD rfl
/-- d.get(y, x) -/
theorem d_get2 {Q : Value → Shared → Prop} (hu : A.units + 1 < cLine) (I : Inv X pins σ H s) (g : DGet H a y o) (ry : RelV y u) (rd : RelV d r) (h : ∀ w' s', Inv X pins σ H s' → RelV (o.getD d) w' → Q w' s') :
    wpAny (model X.prog X.w) A (call (.builtin "dict.get") [.ref a, u, r]) Q E s := by
  rcases g with ⟨kvs, k, e, ey, l⟩ | ⟨kvs, k, b, e, ey, eb, l⟩
  · subst ey
    obtain ⟨z, hd, vs, rel, dd⟩ := dk_rd I.hok e
    refine call_meetsIn PySem.F.slot_dict_get dd.typeIs PySem.F.entry_dict_get (PySem.F.args_dict_get_3 _ _ _) (meets_dict_get_default (mixKind X.prog X.w) a (kV_is ry) hd r) ⟨_, dd.mapOf, h _ _ (I.tok _) ?_⟩
    rw [l]
    exact (rel.val k).getD rd
  · subst ey
    cases (show u = Value.ref b from ry)
    obtain ⟨z, hd, xs, rel, dd⟩ := dt_rd I.hok e
    refine call_meetsIn PySem.F.slot_dict_get dd.typeIs PySem.F.entry_dict_get (PySem.F.args_dict_get_3 _ _ _) (meetsH_dict_get_default (tupleKind (mixKind X.prog X.w)) a b hd r) ⟨tupleKind_room_in1 hu, k, xs, key_of I.hok eb, dd, h _ _ (I.tok _) ?_⟩
    rw [l]
    exact (rel.val k).getD rd
end

def tDGet1 (td ty : TE) : TE := fun σ H Q => td σ H fun x H1 => ∃ a, x = .ref a ∧ IsD H1 a ∧ ty σ H1 fun y H2 => ∃ o, DGet H2 a y o ∧ Q (o.getD .non) H2
def tDGet2 (td ty tx : TE) : TE := fun σ H Q => td σ H fun x H1 => ∃ a, x = .ref a ∧ IsD H1 a ∧ ty σ H1 fun y H2 => tx σ H2 fun z H3 => ∃ o, DGet H3 a y o ∧ Q (o.getD z) H3
section
variable {X : Cx} {o e f : Expr} {apos cpos : Pos} {td ty tx : TE}
theorem pe_dget1 (hu : X.A.units + 1 < cLine) (ho : PE X o td) (he : PE X e ty) (m : M1 X o "get" apos e cpos) : PE X (.Call (.Attribute o "get" apos) [e] [] cpos) (tDGet1 td ty) := by
  intro pins s σ H Q I h
  refine wpAny_Call_method m.base m.few m.line PySem.F.plainAttrs_dict PySem.F.slot_dict_get PySem.F.type_dict_get (thn (ho pins s σ H _ I h) fun u s1 ⟨x, H1, I1, rx, a, ex, d, q1⟩ => ?_)
  subst ex
  obtain rfl : u = Value.ref a := rx
  obtain ⟨t1, t2, _⟩ := isD_at I1 d
  refine ⟨t1, t2, ?_⟩
  rw [m.trees]
  refine Calls.callWith_builtin rfl (Calls.evalArgs_plain (Calls.spliced_cons (thn (he pins s1 σ H1 _ I1 q1) fun iv s2 ⟨y, H2, I2, ry, ov, g, q2⟩ => Calls.spliced_nil ?_)))
  exact d_get1 hu I2 g ry fun w' s3 I3 rw' => ⟨_, H2, I3, rw', q2⟩
theorem pe_dget2 (hu : X.A.units + 1 < cLine) (ho : PE X o td) (he : PE X e ty) (hf : PE X f tx) (m : M2 X o "get" apos e f cpos) : PE X (.Call (.Attribute o "get" apos) [e, f] [] cpos) (tDGet2 td ty tx) := by
  intro pins s σ H Q I h
  refine wpAny_Call_method m.base m.few m.line PySem.F.plainAttrs_dict PySem.F.slot_dict_get PySem.F.type_dict_get (thn (ho pins s σ H _ I h) fun u s1 ⟨x, H1, I1, rx, a, ex, d, q1⟩ => ?_)
  subst ex
  obtain rfl : u = Value.ref a := rx
  obtain ⟨t1, t2, _⟩ := isD_at I1 d
  refine ⟨t1, t2, ?_⟩
  rw [m.trees]
  refine Calls.callWith_builtin rfl (Calls.evalArgs_plain (Calls.spliced_cons (thn (he pins s1 σ H1 _ I1 q1) fun iv s2 ⟨y, H2, I2, ry, q2⟩ =>
    Calls.spliced_cons (thn (hf pins s2 σ H2 _ I2 q2) fun fv s3 ⟨z, H3, I3, rz, ov, g, q3⟩ => Calls.spliced_nil ?_))))
  exact d_get2 hu I3 g ry rz fun w' s4 I4 rw' => ⟨_, H3, I4, rw', q3⟩
end

/-! ### dict(d): a copy -/
section
variable {X : Cx} {pins : List (Addr × Obj)} {σ : St} {H : Hp} {s : Shared} {a : Addr} {kvs : List (Key × V)} {A : Around} {E : Value → Shared → Prop}
end


section
variable {X : Cx} {pins : List (Addr × Obj)} {σ : St} {H : Hp} {s : Shared} {a : Addr} {y : V} {u : Value} {A : Around} {E : Value → Shared → Prop}
end
end L2

namespace L2
open PySem PySem.Spec PyProof.Rows

section
variable {prog : Program} {w : World} {A : Around} {E : Value → Shared → Prop}
end

section
variable {X : Cx}
end
end L2

namespace L2
open PySem PySem.Spec PyProof.Rows

theorem boot_reversed5 : bootBuiltins "reversed" = some (.type "reversed") := by decide +kernel

section
variable {X : Cx} {pins : List (Addr × Obj)} {σ : St} {H : Hp} {s : Shared} {h' : Heap}
/-- .. and one new object is laid -/
theorem Inv.turnedNew {t' : Nat} {ch : List Addr} {T : Addr} {ob : HO} (I : Inv X pins σ H s) (k : ∀ b o, b ∉ ch → s.heap.get? b = some o → h'.get? b = some o) (hf : ∀ b ∈ ch, FpOk X pins H b) (hT : s.heap.objs.size ≤ T)
    (new : ObjOk X.prog X.w (upd H T ob) h' T ob) : Inv X pins σ (upd H T ob) { s with heap := h', toks := t' } := by
  have hn : H T = none := I.hok.fresh hT
  have nit : ∀ b u, H b = some u → b ∉ ch := fun b u e z => by
    have q := (hf b z).1
    rw [q] at e; cases e
  refine I.step (g' := s.gens) (d' := s.drawn) (ch := ch) (fun b hb => ⟨(hf b hb).2.2.2.1, (hf b hb).2.1, (hf b hb).2.2.2.2.1, (hf b hb).2.2.2.2.2⟩) (fun b o _ _ hc e _ => k b o hc e) (fun b o _ _ hc e _ => ⟨o.slots, k b o hc e⟩)
    (fun b o _ e n => ?_) (fun b o hc e => ⟨o, k b o hc e⟩) (fun b xs e => ?_) (fun b o u e => ?_) (fun b ps e => ⟨#[], ?_⟩) (fun m hm => ?_) (fun b u e => ?_) I.bare
  · rw [upd_ne (Nat.ne_of_lt (Nat.lt_of_lt_of_le (Heap.lt_size e) hT))]; exact n
  · rw [upd_ne (ne_of_none e hn)]; exact e
  · rw [upd_ne (ne_of_none e hn)]; exact e
  · rw [upd_ne (ne_of_none e hn), e]; simp
  · obtain ⟨o, es, ep, ho, r⟩ := hm
    exact ⟨o, es, ep, k _ o (fun z => (hf _ z).2.1 rfl) ho, r⟩
  · by_cases hb : b = T
    · subst hb
      rw [upd_same] at e
      cases e
      exact new
    · rw [upd_ne hb] at e
      refine (I.hok b u e).stay (fun c v hc q => k c v ?_ q) (fun c q => by rw [upd_ne (ne_of_none q hn)]; exact q) fun c xs q => by rw [upd_ne (ne_of_none q hn)]; exact q
      rcases hc with z | z
      · rw [z]; exact nit b u e
      · exact nit c _ z

/-! ### locking a thing while a statement runs -/
end
section
variable {X : Cx}
/-! ### one iterator just laid -/
theorem pi_one {tg : Expr} {pins : List (Addr × Obj)} {σ : St} {H : Hp} {s : Shared} {R : It → Hp → Prop} {J : It} {tn : Nat → Heap → Prop} {tk : Nat} (I : Inv X pins σ H s) (o : Obj)
    (T : Turn X.prog X.w X.K tg J [s.heap.objs.size] s.heap.objs.size tn) (st : tn 0 (s.heap.push o)) (q : R J H) : PIE X pins σ tg R (.ref s.heap.objs.size) { s with heap := s.heap.push o, toks := tk } := by
  refine ⟨s.heap.objs.size, [s.heap.objs.size], tn, J, H, rfl, I.kept fun b ob e => Heap.get?_push_of_some _ e, T, st, fun b hb => ?_, q⟩
  have e : b = s.heap.objs.size := by simpa using hb
  subst e
  exact I.fpOk (Nat.le_refl _) (I.hok.fresh (Nat.le_refl _))
end

/-! ### range with a step -/
/-- range(i, j, c): small bounds, n items -/
def RgC (i j c : Int) (n : Nat) : Prop := c ≠ 0 ∧ c.natAbs < 1073741824 ∧ Builtin.Range.small i j c = true ∧ Builtin.Range.rangeSize i j c = n
theorem RgC.neg {i j : Int} (ha : -(2 ^ 62) ≤ i) (ha' : i < 2 ^ 62) (hb : -(2 ^ 62) ≤ j) (hb' : j < 2 ^ 62) : RgC i j (-1) (i - j).toNat :=
  ⟨by decide, by decide, PySem.W.small_down ha ha' hb hb', PySem.W.rangeSize_downNat i j⟩
section
variable {X : Cx} {tg : Expr}
end
/-! ### reversed(list) -/
/-- the list at a (n items at the start, which the loop leaves there), from its end -/
def Itv (K : PySem.W.Frag) (a : Addr) (n : Nat) : It :=
  ⟨fun i H => i < n ∧ ∃ (xs : List V) (x : V), SqL K H a xs ∧ xs[n - 1 - i]? = some x, fun i H x H' => H' = H ∧ ∀ xs, SqL K H a xs → xs[n - 1 - i]? = some x, fun i _ => n ≤ i⟩
theorem turn_rev {P : Program} {w : World} {K : PySem.W.Frag} {tg : Expr} (a it : Addr) (n : Nat) : Turn P w K tg (Itv K a n) [it] it (fun i h => i ≤ n ∧ h.IsRevIter it a ((n : Int) - 1 - (i : Nat))) where
  mem := by simp
  obj := fun i h st b hb => by
    have e : b = it := by simpa using hb
    subst e
    obtain ⟨_, o, e, c, d⟩ := st
    exact ⟨o, e, fun v z => by rw [d] at z; cases z⟩
  keep := fun i h h' st k => ⟨st.1, st.2.at fun o e => k it (by simp) o e⟩
  item := by
    intro X hP hw hK hc i pins s σ H E I hf st hg
    subst hP hw hK
    obtain ⟨hin, xs, x, hq, hx⟩ := hg
    obtain ⟨its, rv, p, hz⟩ := I.list hq
    obtain ⟨u, hu, ru⟩ := rv.get hx
    obtain ⟨f0, f1, f2, f3, f4, f5⟩ := hf it (by simp)
    obtain ⟨_, hit⟩ := st
    have e1 : (n : Int) - 1 - ((i : Nat) : Int) = ((n - 1 - i : Nat) : Int) := by omega
    rw [e1] at hit
    refine wpAny_pyNext_rev_item hit p.isList (x := u) (by simpa using hu) fun h' st' sb => ?_
    have e2 : ((n - 1 - i : Nat) : Int) - 1 = (n : Int) - 1 - ((i + 1 : Nat) : Int) := by omega
    rw [e2] at st'
    have I1 : Inv X pins σ H { s with heap := h' } := I.turned (t' := s.toks) (fun b o hb e => (sb.2 b hb).trans e) f0 f1 f3 f4 f5
    obtain ⟨o, e, c, d⟩ := id st'
    exact ⟨u, rfl, go_of (s := { s with heap := h' }) e c d (by decide) ⟨x, H, I1, ru, ⟨rfl, fun ys hy => by rw [I.list_inj hy hq]; exact hx⟩, ⟨hin, st'⟩, fun b hb => (hf b hb).1⟩⟩
  done := by
    intro X hP hw hK hc i pins s σ H E I hf st hg
    subst hP hw hK
    obtain ⟨f0, f1, f2, f3, f4, f5⟩ := hf it (by simp)
    obtain ⟨hin, hit⟩ := st
    have hge : n ≤ i := hg
    have e1 : (n : Int) - 1 - ((i : Nat) : Int) = -1 := by omega
    rw [e1] at hit
    exact wpAny_pyNext_rev_end (I.ok.hd hc) hit fun h' eb => ⟨rfl, I.turned (t' := s.toks) (fun b o hb e => eb b o hb e) f0 f1 f3 f4 f5⟩
  self := fun A i s Q E st h => wpAny_pyIter_revIter st.2 h
def iRev (K : PySem.W.Frag) (ta : TA) : TI := fun σ H R => ta σ H fun vs H1 => ∃ (a : Addr) (xs : List V), vs = [.ref a] ∧ SqL K H1 a xs ∧ R (Itv K a xs.length) H1
section
variable {X : Cx} {tg : Expr}
theorem pi_reversed {e : Expr} {ta : TA} {p pos : Pos} (hg : Gl X "reversed") (hm : X.mg "reversed" = none) (ha : PA X [e] ta) (hs : starEach [e] X.env = [(false, eval e X.env)] := by rfl) : PI X tg (.Call (.Name "reversed" p) [e] [] pos) (iRev X.K ta) := by
  intro pins s σ H R I h
  refine Call_ (ld_blt I hg hm boot_reversed5 (PyProof.Rows.callWith_type1 (thn (ha pos pins s σ H _ I h) fun us s1 ⟨vs, H1, I1, r1, q1⟩ => ?_) hs rfl))
  obtain ⟨a, xs, e, hq, q⟩ := q1
  subst e
  cases r1 with
  | cons r rr =>
    cases rr
    cases r
    obtain ⟨its, rv, p', hz⟩ := I1.list hq
    have hl := rv.length
    have e1 : ((its.toArray.size : Nat) : Int) - 1 = (xs.length : Int) - 1 - ((0 : Nat) : Int) := by simp only [List.size_toArray]; omega
    refine call_reversed_list p'.isList (wpAny_pyIter_revIter (l := a) (i := ((its.toArray.size : Nat) : Int) - 1) ⟨_, Heap.get?_push_size _ rfl, rfl, rfl⟩ ?_)
    refine pi_one (tk := s1.toks) I1 _ (turn_rev a _ xs.length) ⟨Nat.zero_le _, ?_⟩ q
    rw [← e1]
    exact ⟨_, Heap.get?_push_size _ rfl, rfl, rfl⟩
end

/-! ### a str -/
/-! ### a dict's keys: any dict's entries -/
section
variable {prog : Program} {w : World} {A : Around} {E : Value → Shared → Prop} {s : Shared}
theorem iter_keys {d : Addr} {o : Obj} {es : Array DictEntry} {ep : Nat} {Q : Value → Shared → Prop} (hd : (d == sysModules) = false) (ho : s.heap.get? d = some o) (hc : o.ExactDict) (hdat : o.data = .dict es ep)
    (hQ : Q (.ref s.heap.objs.size) { s with heap := s.heap.push { cls := .type "dict_keyiterator", data := .fields #[.ref d, .int 0 0, .int es.size 0, .int ep 0] } }) :
    wpAny (model prog w) A (pyIter (.ref d)) Q E s := by
  have hT : s.TypeIs (.ref d) "dict" := ⟨o, ho, hc.1⟩
  refine wpAny_pyIter_slot hT F.slot_dict_iter (wpAny_call_entry F.slot_dict_iter hT F.entry_dict_iter ?_ (F.args_dict_iter_1 _))
  unfold Builtin.«dict.__iter__»
  refine wpAny_bind ?_
  unfold Builtin.Dict.dictSlotNone
  refine wpAny_bind (wpAny_notOrdered_dict hT ?_)
  show wpAny _ _ (pure (Value.ref d)) _ _ s
  refine wpAny_pure ?_
  show wpAny _ _ (Builtin.Dict.showsAll d >>= _) _ _ s
  unfold Builtin.Dict.showsAll
  rw [if_neg (by rw [hd]; exact Bool.false_ne_true)]
  refine wpAny_bind (wpAny_pure ?_)
  refine wpAny_bind (wpAny_dictEntries ho hdat ?_)
  refine wpAny_bind (wpAny_dictEpoch ho hdat ?_)
  refine wpAny_bind (wpAny_newObj_type (wpAny_pure ⟨_, rfl, "dict_keyiterator", _, ⟨_, Heap.get?_push_size _ rfl, rfl⟩, F.slot_dict_keyiterator_next.lookup, ?_⟩))
  simpa [rawInt] using hQ
theorem next_key_item {it d : Addr} {i n ep : Nat} {od : Obj} {es : Array DictEntry} {en : DictEntry} {Q : Option Value → Shared → Prop} (hit : s.heap.IsKeyIter it d i n ep) (hod : s.heap.get? d = some od) (hdd : od.data = .dict es ep)
    (hsz : es.size = n) (hx : es[i]? = some en) (hQ : ∀ h', h'.IsKeyIter it d (i + 1) n ep → Heap.SameBut it s.heap h' → Q (some en.key) { s with heap := h' }) : wpAny (model prog w) A (pyNext (.ref it)) Q E s := by
  obtain ⟨o, ho, hc, hd⟩ := id hit
  unfold pyNext
  refine wpAny_bind (wpAny_attempt (wpAny_callSpecial?_slot (name := Str.ofString "__next__") hit.typeIs F.slot_dict_keyiterator_next
    (wpAny_call_entry F.slot_dict_keyiterator_next hit.typeIs F.entry_dict_keyiterator_next ?_ (F.args_dict_keyiterator_next_1 _))))
  refine wpAny_bind (wpAny_pure ?_)
  refine wpAny_bind ?_
  refine wpAny_bind ?_
  first | refine wpAny_bind (wpAny_typeNameOfWhole_keyiter hit.typeIs (wpAny_pure ?_)) | refine wpAny_bind (wpAny_typeNameOf_keyiter hit.typeIs (wpAny_pure ?_))
  refine wpAny_bind (wpAny_fieldsOf ho hd ?_)
  have hown : Builtin.Dict_items.ownsTuple "dict_keyiterator" = false := by decide
  simp only [hown, Bool.false_eq_true, if_false]
  show wpAny _ _ (if (Value.ref d == Value.none) = true then _ else _) _ _ s
  rw [if_neg (show ¬ ((Value.ref d == Value.none) = true) from Bool.false_ne_true)]
  refine wpAny_bind (wpAny_pure ?_)
  refine wpAny_bind (wpAny_dictEntries hod hdd ?_)
  rw [if_neg (by rw [hsz]; simp)]
  refine wpAny_bind (wpAny_pure ?_)
  refine wpAny_bind (wpAny_dictEpoch hod hdd ?_)
  rw [if_neg (by simp)]
  refine wpAny_pure ?_
  obtain ⟨hlt', hen⟩ := Array.getElem?_eq_some_iff.mp hx
  simp only [show ¬ ((i : Int) < 0) from by omega, if_false, Int.toNat_natCast, Array.getElem?_eq_getElem hlt']
  refine wpAny_bind ?_
  first | refine wpAny_bind (wpAny_typeNameOfWhole_keyiter hit.typeIs (wpAny_pure ?_)) | refine wpAny_bind (wpAny_typeNameOf_keyiter hit.typeIs (wpAny_pure ?_))
  refine wpAny_bind (wpAny_isOneOf_keyiter hit.typeIs ?_)
  show wpAny _ _ (setField (.ref it) 1 (rawInt ((i : Int) + 1)) >>= _) _ _ s
  refine wpAny_bind (wpAny_setField ho hd (by simp) ?_)
  have hit' : (s.heap.update it (Obj.mapFields (·.setIfInBounds 1 (rawInt ((i : Int) + 1))))).IsKeyIter it d (i + 1) n ep :=
    ⟨_, Heap.get?_update_self _ ho (Obj.isFreed_of_fields (Obj.data_mapFields hd _)), (Obj.cls_mapFields ..).trans hc, by rw [Obj.data_mapFields hd]; simp [rawInt]⟩
  refine wpAny_bind (wpAny_holding ?_)
  refine wpAny_bind (wpAny_isOneOf_keyiter (s := { s with heap := s.heap.update it (Obj.mapFields (·.setIfInBounds 1 (rawInt ((i : Int) + 1)))) }) hit'.typeIs ?_)
  show wpAny _ _ (pure es[i].key) _ _ _
  rw [hen]
  exact wpAny_pure (wpAny_pure ⟨_, rfl, wpAny_pure (hQ _ hit' (Heap.SameBut.update ..))⟩)
theorem next_key_end {it d : Addr} {i n ep : Nat} {od : Obj} {es : Array DictEntry} {Q : Option Value → Shared → Prop} (hh : A.handled = none) (hit : s.heap.IsKeyIter it d i n ep) (hod : s.heap.get? d = some od) (hdd : od.data = .dict es ep)
    (hsz : es.size = n) (hge : n ≤ i) (hQ : ∀ h', Heap.ExtBut it s.heap h' → Q none { s with heap := h' }) : wpAny (model prog w) A (pyNext (.ref it)) Q E s := by
  obtain ⟨o, ho, hc, hd⟩ := id hit
  unfold pyNext
  refine wpAny_bind (wpAny_attempt (wpAny_callSpecial?_slot (name := Str.ofString "__next__") hit.typeIs F.slot_dict_keyiterator_next
    (wpAny_call_entry F.slot_dict_keyiterator_next hit.typeIs F.entry_dict_keyiterator_next ?_ (F.args_dict_keyiterator_next_1 _))))
  refine wpAny_bind (wpAny_pure ?_)
  refine wpAny_bind ?_
  refine wpAny_bind ?_
  first | refine wpAny_bind (wpAny_typeNameOfWhole_keyiter hit.typeIs (wpAny_pure ?_)) | refine wpAny_bind (wpAny_typeNameOf_keyiter hit.typeIs (wpAny_pure ?_))
  refine wpAny_bind (wpAny_fieldsOf ho hd ?_)
  have hown : Builtin.Dict_items.ownsTuple "dict_keyiterator" = false := by decide
  simp only [hown, Bool.false_eq_true, if_false]
  show wpAny _ _ (if (Value.ref d == Value.none) = true then _ else _) _ _ s
  rw [if_neg (show ¬ ((Value.ref d == Value.none) = true) from Bool.false_ne_true)]
  refine wpAny_bind (wpAny_pure ?_)
  refine wpAny_bind (wpAny_dictEntries hod hdd ?_)
  rw [if_neg (by rw [hsz]; simp)]
  refine wpAny_bind (wpAny_pure ?_)
  refine wpAny_bind (wpAny_dictEpoch hod hdd ?_)
  rw [if_neg (by simp)]
  refine wpAny_pure ?_
  have hge' : es.size ≤ i := by rw [hsz]; exact hge
  simp only [show ¬ ((i : Int) < 0) from by omega, if_false, Int.toNat_natCast, Array.getElem?_eq_none hge']
  refine wpAny_bind ?_
  first | refine wpAny_bind (wpAny_typeNameOfWhole_keyiter hit.typeIs (wpAny_pure ?_)) | refine wpAny_bind (wpAny_typeNameOf_keyiter hit.typeIs (wpAny_pure ?_))
  show wpAny _ _ (setField (.ref it) 0 .none >>= _) _ _ s
  refine wpAny_bind (wpAny_setField ho hd (by simp) ?_)
  show wpAny _ _ (newExc (.type "StopIteration") [] >>= _) _ _ _
  refine wpAny_bind ?_
  simp only [newExc, newTuple]
  refine wpAny_bind (wpAny_newObj_type ?_ (by size_fits))
  refine wpAny_bind (m := firstArgMember _ _) (wpAny_of_eq (a := Value.none) (by first | rfl | (simp only [firstArgMember]; rfl)) ?_)
  refine wpAny_newObj_type ?_ (by size_fits)
  simp only [raiseNew]
  refine wpAny_bind (wpAny_handled ?_)
  rw [show A.in1.handled = none from hh]
  refine wpAny_bind (wpAny_pure (wpAny_throw ?_))
  refine wpAny_bind (wpAny_isInstance (T := "StopIteration") (b := true) ⟨_, Heap.get?_push_size _ rfl, rfl⟩ isSubtype_stop ?_)
  exact wpAny_pure (hQ _ (((Heap.SameBut.update ..).extBut.push _).push _))
end

/-! ### a locked dict -/
theorem paired_get {α β : Type} {G : α → β → Prop} {l₁ : List α} {l₂ : List β} (h : Paired G l₁ l₂) : ∀ {i : Nat} {a : α}, l₁[i]? = some a → ∃ b, l₂[i]? = some b ∧ G a b := by
  induction h with
  | nil => intro i a e; simp at e
  | @cons a b l₁ l₂ r t ih =>
    intro i a' e
    cases i with
    | zero =>
      simp only [List.getElem?_cons_zero, Option.some.injEq] at e
      subst e
      exact ⟨b, rfl, r⟩
    | succ j =>
      simp only [List.getElem?_cons_succ] at e ⊢
      exact ih e
section
variable {X : Cx} {pins : List (Addr × Obj)} {σ : St} {H : Hp} {s : Shared} {d : Addr} {o : Obj}
end

section
variable {P : Program} {w : World} {K : PySem.W.Frag} {tg : Expr} {d : Addr} {o : Obj} {es : Array DictEntry} {ep : Nat}
end

/-! ### for k in d, d.keys(), d.values(), d.items() -/
section
variable {X : Cx} {tg e : Expr} {td : TE} {apos cpos : Pos}
end

/-! ### enumerate(list) -/
/-! ### zip(list, list) -/
end L2

section 
namespace Bits
open PySem PyProof.Rows

end Bits
end 

section 
namespace TL
open PySem PySem.Builtin PySem.Builtin.Str PySem.StrLaws

abbrev tl (x : Str) : List Nat := x.cps.toList
/-! ### the list functions -/
/-- S stands at the head of l -/
def pre (S l : List Nat) : Bool := l.take S.length == S
/-- l cut at each S from the left; k signs are still to be passed over -/
def spl (S : List Nat) : Nat → List Nat → List Nat → List (List Nat)
  | _, acc, [] => [acc]
  | 0, acc, c :: r => if pre S (c :: r) = true then acc :: spl S (S.length - 1) [] r else spl S 0 (acc ++ [c]) r
  | k + 1, acc, _ :: r => spl S k acc r
/-- what stands before the first S, and behind it -/
def par (S : List Nat) : List Nat → List Nat → Option (List Nat × List Nat)
  | _, [] => none
  | acc, c :: r => if pre S (c :: r) = true then some (acc, (c :: r).drop S.length) else par S (acc ++ [c]) r

theorem pre_of_head {s c : Nat} (S r : List Nat) (h : c ≠ s) : pre (s :: S) (c :: r) = false := by
  cases hp : pre (s :: S) (c :: r) with
  | false => rfl
  | true =>
    have e : (c :: r).take (s :: S).length = s :: S := eq_of_beq hp
    rw [List.length_cons, List.take_succ_cons] at e
    injection e with e1 e2
    exact absurd e1 h
/-! ### the model's split and partition are these -/
/-! ### computing spl and par -/
/-- the separator's first sign is not in the part -/
theorem free_of {s : Nat} {S p q : List Nat} (h : s ∉ p) : ∀ i, i < p.length → pre (s :: S) ((p ++ q).drop i) = false := fun i hi => by
  have hlt : i < (p ++ q).length := by rw [List.length_append]; omega
  have e : (p ++ q).drop i = (p ++ q)[i] :: (p ++ q).drop (i + 1) := List.drop_eq_getElem_cons hlt
  rw [e]
  refine pre_of_head _ _ fun z => h ?_
  have e1 : (p ++ q)[i] = p[i] := List.getElem_append_left hi
  rw [← z, e1]
  exact List.getElem_mem hi
/-! ### digits -/
/-! ### words: x.split() -/
end TL
end 

namespace L2
open PySem PySem.Spec PyProof.Rows

section
variable {X : Cx} {pins : List (Addr × Obj)} {σ : St} {H : Hp} {s : Shared} {Q : VK}
end

section
variable {X : Cx}

/-! ### of a text alone -/
/-! ### of a text and a text -/
end

section
variable {X : Cx} {o e : Expr} {to te : TE}
end
end L2

namespace L2
open PySem PySem.Spec PyProof.Rows

section
variable {X : Cx}
end

/-! ### slices of a text -/
theorem IsPart.raw {v : Value} {o : Option Int} (p : IsPart v o) : ∃ l : Option (Int × Tok), v = partValue l ∧ l.map (·.1) = o := by
  cases p with
  | none => exact ⟨none, rfl, rfl⟩
  | int i t => exact ⟨some (i, t), rfl, rfl⟩

end L2

namespace Att
open PySem PySem.W PySem.Calls PyProof.Rows

/-! ### the script -/
theorem ints_of_wellAll {P : Params} {h : Heap} : ∀ (ns : List Int) (vs : List Value), WellAll P h vs (ns.map WData.int) → IntsAre vs ns := by
  intro ns
  induction ns with
  | nil =>
    intro vs w
    rw [List.map_nil] at w
    cases w
    exact .nil
  | cons n ns ih =>
    intro vs w
    rw [List.map_cons] at w
    cases w with
    | cons a b =>
      cases a
      exact .cons _ _ (ih _ b)

theorem script_of {l : OpenLaw} {n : Nat} (hn : l.most = some n) {P : Params} {h : Heap} {args : List WData} {vals : List Value}
    (hpre : l.row.toRowW.claim.pre args = true) (hwl : WellAll P h vals args) :
    ∃ a vs ns, vals = [Value.ref a] ∧ args = [WData.list (ns.map WData.int)] ∧ h.get? a = some { cls := .type "list", data := .seq vs.toArray } ∧ IntsAre vs ns ∧ ns.length ≤ n := by
  have hsh : WShape.hasAll [] args [.list .int] = true := (pre_splitW hpre).1
  have hc : l.pre.holds [] { args := args } = true := (pre_splitW hpre).2
  obtain ⟨d, r, rfl, h1, h2⟩ := hasAllW_cons hsh
  obtain rfl := hasAllW_nil h2
  obtain ⟨xs, rfl, h3⟩ := hasW_list h1
  obtain ⟨ns, rfl⟩ := items_int h3
  have hlen : ns.length ≤ n := by
    unfold OpenLaw.pre at hc
    have h4 : (WTm.not (.lt (.lit (.int (n : Int))) (.len (.arg 0)))).holds [] { args := [.list (ns.map .int)] } = true := by
      have h4 := (holds_andW hc).1
      rw [hn] at h4
      exact h4
    have h5 := condW_of h4 (w_not (w_lt w_lit (w_len_list (w_arg rfl))))
    rw [List.length_map] at h5
    refine Nat.le_of_not_lt fun q => ?_
    have q' : (n : Int) < ((ns.length : Nat) : Int) := by omega
    first
      | (rw [decide_eq_true q'] at h5; exact absurd h5 (by decide))
      | (simp at h5; omega)
  cases hwl with
  | cons w1 w2 =>
    cases w2
    cases w1 with
    | list ho hall => exact ⟨_, _, ns, rfl, rfl, ho, ints_of_wellAll ns _ hall, hlen⟩

theorem post_true (l : OpenLaw) (args : List WData) : l.row.toRowW.claim.post args (.bool true) args = true :=
  postW_of (r := l.row.toRowW) (X := (true == true))
    (show WShape.has [] (.bool true) .bool = true by first | rfl | decide | simp [WShape.has, WShape.arms, WShape.armsAll])
    (show (WTm.eq .res (.lit (.bool true))).value [] { args := args, res := some (.bool true), after := args } = some (.bool (true == true)) from w_eq_bool (w_res rfl) w_lit) rfl

/-! ### the attachment: holds_open's last premise (the goal 'hc' behind k_head) from a wpAny of the law's body -/
/-- the same from a codeAny of the CALL (for a layer whose function contracts speak of calls) -/
theorem attach_call {l : OpenLaw} {n : Nat} {q : Program} {loose : List Str} {XP : (Str → Option Value) → Heap → Prop} {YP : World → Heap → Prop} {d : DefRec}
    (hn : l.most = some n) (hdf : d.params.defaults = [])
    (call : ∀ (w : World) (s₀ s₁ : Shared) (mg mb : Str → Option Value) (fa : Addr) (o : Obj) (pm cd doc : Value) (a : Addr) (vs : List Value) (ns : List Int),
      Ground q loose [] XP w s₀ mg mb s₁.heap → YP w s₁.heap →
      s₁.heap.get? fa = some o → o.data = .func (docDef d.name d.params d.body d.scope pm cd doc) → s₁.heap.CodeRec cd d.name → mg d.name = some (.ref fa) →
      s₁.heap.get? a = some { cls := .type "list", data := .seq vs.toArray } → IntsAre vs ns → ns.length ≤ n → s₁.gens = #[] →
      codeAny (model l.prog w) callerA (.call (.ref fa) ⟨[.ref a], []⟩) (fun r s' => r = .ok (.ret (.bool true)) ∧ OldK s₁.heap s'.heap ∧ s'.os = s₁.os ∧ AllBare s'.gens) s₁) :
    WalkO q loose XP YP l.row.toRowW d [] (fun f vs => PySem.call f vs) := by
  intro w s₀ s₁ mg mb G Y fa o pm cd doc dV kV ho hd hcd hD hmg hg args vals as hpre hlay hrd hwl hlo
  obtain rfl : dV = .none := Dflts.none hD hdf
  obtain rfl : kV = .none := Dflts.noKw hD
  obtain ⟨a, vs, ns, rfl, rfl, hobj, hints, hlen⟩ := script_of hn hpre hwl
  refine enter_call (codeAny_mono (call w s₀ s₁ mg mb fa o pm cd doc a vs ns G Y ho (fd_plain hd) hcd hmg hobj hints hlen hg) fun r s' hq => ?_)
  obtain ⟨rfl, h2, h3, h4⟩ := hq
  exact ⟨.inl ⟨.bool true, .bool true, [], rfl, fun _ => rfl, .bool true, post_true l _, fun _ => ⟨List.Pairwise.nil, fun _ hm => (nomatch hm)⟩⟩, h2, h3, h4⟩

/-! ### rules over ANY heap (no ledger) from facts about the written part K: the library's own take a ledger (News) for what they write -/
section
variable {prog : Program} {w : World} {A : Around} {E : Value → Shared → Prop} {s : Shared} {K : Frag}

/-! the whole heap as the ledger: makes every rule that writes through a ledger a rule over any heap -/
def ledger (h : Heap) (L d : Addr) : List (Addr × Obj) := (List.range h.objs.size).filterMap fun a => if a = L ∨ a = d then none else (h.get? a).map fun o => (a, o)
end
end Att

namespace L2
open PySem PySem.Spec PyProof.Rows

theorem vals_ints : ∀ {vs : List Value} {ns : List Int}, IntsAre vs ns → Vals (ns.map V.int) vs
  | _, _, .nil => .nil
  | _, _, .cons n t h => .cons ⟨t, rfl⟩ (vals_ints h)

end L2

namespace L2
open PySem PySem.Spec PyProof.Rows

end L2

/-! SHORT WORDS over the layer: a def of the text, its body, what a loop and a test want. -/
namespace L2
open PySem PySem.Spec PyProof.Rows

/-! ### the text by places -/
/-- the j-th statement of a class's body -/
def inClass (s : Stmt) (j : Nat) : Stmt := match s with
  | .ClassDef _ _ _ body _ _ _ _ _ _ _ => body.getD j (.Pass ⟨0, 0, 0, 0⟩)
  | _ => .Pass ⟨0, 0, 0, 0⟩
def defArgs (s : Stmt) : Arguments := match s with
  | .FunctionDef _ a _ _ _ _ _ _ _ _ => a
  | _ => { posonlyargs := [], args := [], vararg := none, kwonlyargs := [], kw_defaults := [], kwarg := none, defaults := [] }
def defBody (s : Stmt) : List Stmt := match s with
  | .FunctionDef _ _ b _ _ _ _ _ _ _ => b
  | _ => []
def defScope (s : Stmt) : Scope := match s with
  | .FunctionDef _ _ _ _ _ _ sc _ _ _ => sc
  | _ => { kind := .function, names := [], isGenerator := false, isCoroutine := false }

/-! ### no exception leaves a def -/
abbrev CX0 : CXT := fun _ _ _ _ _ _ => False
abbrev E0 : XK := fun _ _ _ => False
/-! ### a def (or method) of the text as it stands behind the top -/
structure Fun (K : PySem.W.Frag) (x qual : Str) (st : Stmt) (f : Addr) (fd : FuncData) : Prop where
  ex : ∃ (oc : Value) (od : Option Addr) (kV doc pm : Value) (an : Option Addr) (cdv ct : Value) (osl : Array (Option Value)),
    fd = PySem.W.fnOf x qual (defArgs st) (defBody st) (defScope st) .none kV doc pm an cdv ct ∧ K.lookup f = some ⟨oc, od, .func fd, osl⟩ ∧ PySem.W.codeIn K cdv qual = true
  kp : PySem.W.keepIn K (.ref f) = true
section
variable {P : Program} {w : World} {K : PySem.W.Frag} {mg : Str → Option Value} {base : Heap}
/-- THE RULE for a def: its body as a term of rules, and the reading of that term -/
theorem Fun.ok {x qual : Str} {st : Stmt} {f : Addr} {fd : FuncData} {N ps : List Str} {k : Nat} {sp : Sp} (F : Fun K x qual st f fd) (S : FnScope N ps (defScope st)) (len : ∀ vs H Q E, sp vs H Q E → vs.length = ps.length)
    (hbody : ∀ (cdv : Value) (A : Around) (outer : List Env) (s : Shared) (H : Hp) (vs : List V) (Q : VK) (E : XK), Room k (A.deeper (envOfC qual (defScope st) s.heap.objs.size f cdv)) → sp vs H Q E →
      ∃ t, PSs (cxOf CX0 P w K mg base N qual (defScope st) f cdv A outer s H E).nox (defBody st) t ∧ t { nx := fun _ H' => Q .non H', rt := Q } (start N vs) H) : FnOk P w K mg base CX0 (k + 1) f fd ps sp := by
  obtain ⟨oc, od, kV, doc, pm, an, cdv, ct, osl, rfl, lk, hcd⟩ := F.ex
  refine fn_of lk hcd S len fun A outer s H vs Q E hr hsp => ?_
  obtain ⟨t, h, q⟩ := hbody cdv A outer s H vs Q E hr hsp
  exact ⟨t, h.nox, q⟩
/-- how its arguments bind (no defaults): h is «fun _ _ _ _ _ _ us hl => match us, hl with | [_, _], _ => rfl», one _ a parameter -/
theorem Fun.binds {x qual : Str} {st : Stmt} {f : Addr} {fd : FuncData} {ps : List Str} (F : Fun K x qual st f fd)
    (h : ∀ (kV doc pm : Value) (an : Option Addr) (cdv ct : Value) (us : List Value), us.length = ps.length → bindArgs (PySem.W.fnOf x qual (defArgs st) (defBody st) (defScope st) .none kV doc pm an cdv ct) ⟨us, []⟩ = pure (ps.zip us)) : Binds K fd ps [] := by
  obtain ⟨oc, od, kV, doc, pm, an, cdv, ct, osl, rfl, lk, hcd⟩ := F.ex
  exact .all (h kV doc pm an cdv ct)
theorem fun_mk {x qual : Str} {st : Stmt} {f : Addr} {oc : Value} {od an : Option Addr} {osl : Array (Option Value)} {kV doc pm cdv ct : Value} (l : K.lookup f = some ⟨oc, od, .func (PySem.W.fnOf x qual (defArgs st) (defBody st) (defScope st) .none kV doc pm an cdv ct), osl⟩)
    (c : PySem.W.codeIn K cdv qual = true) (k : PySem.W.keepIn K (.ref f) = true) : Fun K x qual st f (PySem.W.fnOf x qual (defArgs st) (defBody st) (defScope st) .none kV doc pm an cdv ct) := ⟨⟨oc, od, kV, doc, pm, an, cdv, ct, osl, rfl, l, c⟩, k⟩
end
theorem hu_of {A : Around} {k : Nat} (hr : Room k A) : A.units + 1 < cLine := Nat.lt_of_le_of_lt (Nat.add_le_add_left (by decide : 1 ≤ 64) _) hr.units
theorem small1000 {n : Nat} (h : n ≤ 1000) : n < sizeLine := Nat.lt_of_le_of_lt h (by decide)

/-! ### expressions in short: the name that stands in the i-th slot -/
section
variable {X : Cx}
theorem pv (i : Nat) {x : Str} {pos : Pos} (hN : X.N[i]? = some x := by rfl) (hv : Vis X.env.scope x := by first | exact Or.inl rfl | exact Or.inr (Or.inl rfl) | exact Or.inr (Or.inr rfl)) (hd : (x == ("__debug__" : Str)) = false := by decide)
    (hcd : (x == ("__classdict__" : Str)) = false := by decide) : PE X (.Name x pos) (tVar i) := pe_var hN hv hd hcd
end

/-! ### tests -/
theorem iteF {A B : Prop} (h : B) : if false = true then A else B := by
  rw [if_neg Bool.false_ne_true]
  exact h
theorem iteT {A B : Prop} (h : A) : if true = true then A else B := by
  rw [if_pos rfl]
  exact h
theorem ite2 {c A B : Prop} [Decidable c] (h1 : c → A) (h2 : ¬ c → B) : if c then A else B := by
  by_cases h : c
  · rw [if_pos h]
    exact h1 h
  · rw [if_neg h]
    exact h2 h
/-! ### heaps -/
/-- all that was tracked is as it was -/
def Same (H H' : Hp) : Prop := ∀ b o, H b = some o → H' b = some o
theorem Same.refl (H : Hp) : Same H H := fun _ _ h => h
theorem Same.trans {H H1 H2 : Hp} (a : Same H H1) (b : Same H1 H2) : Same H H2 := fun c o h => b c o (a c o h)
theorem Same.free {H H' : Hp} (e : Same H H') {l : Addr} (h : H' l = Option.none) : H l = Option.none := by
  cases q : H l with
  | none => rfl
  | some o =>
    rw [e l o q] at h
    cases h
theorem Same.seq {K : PySem.W.Frag} {H H' : Hp} {a : Addr} {xs : List V} (e : Same H H') (h : SqL K H a xs) : SqL K H' a xs := by
  rcases h with (h | ⟨o, h⟩) | h
  · exact .inl (.inl (e _ _ h))
  · exact .inl (.inr ⟨o, e _ _ h⟩)
  · exact .inr h

/-! ### a dict's pairs: keys that differ -/
section
variable {κ : Type} [DecidableEq κ]
theorem valV_not {kvs : List (κ × V)} {k : κ} (h : valV kvs k = none) : ¬ k ∈ kvs.map (·.1) := by
  intro m
  obtain ⟨p, hp, e⟩ := List.mem_map.mp m
  have q : (kvs.any fun kv => decide (kv.1 = k)) = true := List.any_eq_true.mpr ⟨p, hp, decide_eq_true e⟩
  rw [valV_any, h] at q
  exact absurd q (by simp)
theorem valV_in {kvs : List (κ × V)} {k : κ} {v : V} (h : valV kvs k = some v) : k ∈ kvs.map (·.1) := by
  have q : (kvs.any fun kv => decide (kv.1 = k)) = true := by
    rw [valV_any, h]
    all_goals rfl
  obtain ⟨p, hp, e⟩ := List.any_eq_true.mp q
  exact List.mem_map.mpr ⟨p, hp, of_decide_eq_true e⟩
end
/-! ### lists -/
theorem at_of {xs : List V} {z : Int} {j : Nat} {v : V} (e : z = (j : Int)) (h : xs[j]? = some v) : atI xs z = some v := by
  rw [e]
  exact atI_nat h
/-- a new instance and its __init__ leave all that was tracked as it was -/
theorem Same.made {H H1 : Hp} {x dx C : Addr} (nx : H x = Option.none) (nd : H dx = Option.none) (k : ∀ b o, (upd (upd H dx (.own x)) x (.ins C dx [])) b = some o → b ≠ x → H1 b = some o) : Same H H1 := fun b o e =>
  k b o (by rw [upd_ne (ne_of_none e nx), upd_ne (ne_of_none e nd)]; exact e) (ne_of_none e nx)
end L2
set_option Elab.async false
set_option linter.all false
set_option maxRecDepth 100000
set_option maxHeartbeats 4000000
namespace L2
open PySem PySem.Spec PyProof.Rows

/-! ### an exception that flies -/
structure Fly (P : Program) (w : World) (l : List Env) (H : Hp) (s : Shared) (H' : Hp) (e C : Addr) (s' : Shared) : Prop where
  os : s'.os = s.os
  bare : AllBare s'.gens
  un : Un (frs l) [] H H' s.heap s'.heap
  hok : HOk P w H' s'.heap
  fly : ∃ (B : Heap) (a0 : Value), Heap.FlyingW B l e (.ref C) a0 s'.heap ∧ (∀ b o, s.heap.get? b = some o → H b = none → b ∉ frs l → B.get? b = some o) ∧
    (∀ b o u, H' b = some o → s'.heap.get? b = some u → B.get? b = some u) ∧ (∀ b u, s.heap.get? b = some u → b ∉ frs l → ∃ u', B.get? b = some u')
theorem ObjOk.get {P : Program} {w : World} {H : Hp} {h : Heap} {a : Addr} {o : HO} (x : ObjOk P w H h a o) : ∃ u, h.get? a = some u := by
  cases o with
  | lst xs => obtain ⟨_, _, _, _, e⟩ := x; exact ⟨_, e⟩
  | tup xs => obtain ⟨_, _, _, ⟨_, e, _⟩⟩ := x; exact ⟨_, e⟩
  | dK kvs => obtain ⟨_, _, _, _, o, _, _, e, _⟩ := x; exact ⟨_, e⟩
  | dT kvs => obtain ⟨_, _, _, _, o, _, _, e, _⟩ := x; exact ⟨_, e⟩
  | set S n => obtain ⟨o, _, _, _, e, _⟩ := x; exact ⟨_, e⟩
  | ins C dx fs => obtain ⟨_, _, _, e, _⟩ := x; exact ⟨_, e⟩
  | own y => exact x
  | xd fs => obtain ⟨_, ⟨_, _, _, e, _⟩, _⟩ := x; exact ⟨_, e⟩
  | rng lo hi => obtain ⟨_, _, _, e⟩ := x; exact ⟨_, e⟩
  | frz ob u => obtain ⟨e, _⟩ := x; exact ⟨_, e⟩
  | tbl ps => exact ⟨_, (show h.get? a = some _ from x)⟩
  | met f y => exact ⟨_, (show h.get? a = some _ from x)⟩
  | ext φ => exact x.2.1
theorem Fly.en {P : Program} {w : World} {l : List Env} {H H' : Hp} {s s' : Shared} {e C : Addr} (x : Fly P w l H s H' e C s') : H' e = none := by
  obtain ⟨B, a0, f, _, k, _⟩ := x.fly
  cases q : H' e with
  | none => rfl
  | some o =>
    obtain ⟨oe, he, _⟩ := f.there
    have := k e o oe q he
    rw [f.2.1] at this
    cases this
/-- how an exception lies behind a call -/
def CXe (P : Program) (w : World) : CXT := fun l H s E e s' => ∃ a C H', e = Value.ref a ∧ Fly P w l H s H' a C s' ∧ E (.ref C) (some a) H'
theorem passN {P : Program} {w : World} {X : Cx} : Passes (CXe P w) X E0 := fun _ _ _ _ _ _ _ ⟨_, _, _, _, _, h⟩ => h.elim

/-- up to slots, tracked objects and the base kept: what an exception's passing leaves -/
theorem hok_fly {P : Program} {w : World} {H : Hp} {h h' B : Heap} (k : HOk P w H h) (st : B.StaysIn h') (t : ∀ b o u, H b = some o → h.get? b = some u → B.get? b = some u) : HOk P w H h' := fun a o e =>
  (k a o e).stay (fun b u hb q => by
    rcases hb with rfl | hb
    · exact st _ _ (t _ _ _ e q)
    · exact st _ _ (t _ _ _ hb q)) (fun _ q => q) fun _ _ q => q

section
variable {CX : CXT} {P : Program} {w : World} {K : PySem.W.Frag} {mg : Str → Option Value} {base : Heap} {N : List Str} {qual : Str} {scope : Scope} {f : Addr} {cd : Value} {A : Around} {outer : List Env} {s : Shared} {H : Hp} {E : XK}

end
end L2
set_option Elab.async false
set_option linter.all false
set_option maxRecDepth 100000
set_option maxHeartbeats 4000000
namespace L2
open PySem PySem.Spec PyProof.Rows

/-! ### raise -/
def FreshOk (X : Cx) (E : XK) : Prop := ∀ (pins : List (Addr × Obj)) (σ : St) (H : Hp) (s : Shared) (h' : Heap) (e C : Addr) (vs : List Value), Inv X pins σ H s → Heap.MadeExcOf s.heap h' e (.ref C) vs → E (.ref C) (some e) H → X.xe (.ref e) { s with heap := h' }
section
variable {P : Program} {w : World} {K : PySem.W.Frag} {mg : Str → Option Value} {base : Heap} {N : List Str} {qual : Str} {scope : Scope} {f : Addr} {cd : Value} {A : Around} {outer : List Env} {s : Shared} {H : Hp} {E : XK}
theorem freshUp : FreshOk (cxOf (CXe P w) P w K mg base N qual scope f cd A outer s H E) E := by
  intro pins σ H1 s1 h' e C vs I hx hq
  have hin : ∀ env ∈ (envOfC qual scope s.heap.objs.size f cd :: outer), ∀ b, env.frame = some b → b ∈ frs (envOfC qual scope s.heap.objs.size f cd :: outer) := fun env he b hb => List.mem_filterMap.mpr ⟨env, he, hb⟩
  have hfr : s1.heap.FunFrames base (envOfC qual scope s.heap.objs.size f cd :: outer) := I.stack
  have inst : ∀ b, b ∈ frs (envOfC qual scope s.heap.objs.size f cd :: outer) → b = s.heap.objs.size ∨ b ∈ frs outer := fun b hb => by
    unfold frs at hb
    rw [List.filterMap_cons] at hb
    exact List.mem_cons.mp hb
  refine wpAny_leaves_madeW (base := PySem.W.hideAll s1.heap (frs (envOfC qual scope s.heap.objs.size f cd :: outer))) (h := s1.heap) (L := s.heap.objs.size) I.ok.frames rfl (fun b o q => PySem.W.of_hideAll _ q) (PySem.W.funFrames_hide hfr hin) hx fun h2 t fl _ _ up => ?_
  have toB : ∀ b o, s1.heap.get? b = some o → b ∉ frs (envOfC qual scope s.heap.objs.size f cd :: outer) → (PySem.W.hideAll s1.heap (frs (envOfC qual scope s.heap.objs.size f cd :: outer))).get? b = some o := fun b o e hb => PySem.W.hideAll_get _ e hb
  have kt : ∀ b o u, H1 b = some o → s1.heap.get? b = some u → (PySem.W.hideAll s1.heap (frs (envOfC qual scope s.heap.objs.size f cd :: outer))).get? b = some u := fun b o u hb e => toB b u e fun z => by
    have := I.stkFree b z
    rw [hb] at this; cases this
  have u1 := I.base
  have neL : ∀ b o, s.heap.get? b = some o → b ≠ s.heap.objs.size := fun b o e => Nat.ne_of_lt (Heap.lt_size e)
  have nst : ∀ b o, s.heap.get? b = some o → b ∉ frs outer → b ∉ frs (envOfC qual scope s.heap.objs.size f cd :: outer) := fun b o e hb z => (inst b z).elim (neL b o e) hb
  have fr : ∀ b o, s.heap.get? b = some o → b ∈ frs outer → ∃ sl, h2.get? b = some { o with slots := sl } := fun b o e hb => by
    obtain ⟨_, ob, ho, hd⟩ := I.ok.funs.mem hb
    rw [show (cxOf (CXe P w) P w K mg base N qual scope f cd A outer s H E).s_0 = s from rfl, e] at ho
    cases ho
    obtain ⟨sl, e1⟩ := u1.any e (I.ok.frf b hb) (by simp [cxOf])
    obtain ⟨sl2, e2⟩ := up b _ (hx.keeps _ _ e1) hd
    exact ⟨sl2, e2⟩
  refine ⟨e, C, H1, rfl, ⟨I.os, I.bare, ⟨fun b o e n hb hx => ?_, fun b o e n hb hx => fr b o e hb, fun b o e n hx => u1.free b o e n (by simp [cxOf]), fun b o e hx => ?_, u1.tups, u1.frzs, u1.tbls⟩, hok_fly I.hok fl.1 kt, _, _, fl, fun b o e n hb => ?_, fun b o u hb e => ?_, fun b o e hb => ?_⟩, hq⟩
  · exact fl.1 _ _ (toB b o (u1.keep b o e n hb (by simp [cxOf])) (nst b o e hb))
  · by_cases hb : b ∈ frs outer
    · obtain ⟨sl, q⟩ := fr b o e hb
      exact ⟨_, q⟩
    · obtain ⟨o1, e1⟩ := u1.there b o e (by simp [cxOf])
      exact ⟨_, fl.1 _ _ (toB b o1 e1 (nst b o e hb))⟩
  · exact toB b o (u1.keep b o e n hb (by simp [cxOf])) (nst b o e hb)
  · obtain ⟨u', e'⟩ := (I.hok b o hb).get
    have q := kt b o u' hb e'
    have e2 := fl.1 _ _ q
    have e3 : h2.get? b = some u := e
    rw [e2] at e3
    cases e3
    exact q
  · obtain ⟨o1, e1⟩ := u1.there b o e (by simp [cxOf])
    exact ⟨_, toB b o1 e1 (nst b o e hb)⟩
end

/-- an own class of errors, as the top has made it -/
structure Exc (K : PySem.W.Frag) (mg : Str → Option Value) (x : Str) (C : Addr) (bmB : List Value) (newId : String) : Prop where
  mgx : mg x = some (.ref C)
  ok : PySem.W.excIn K C bmB newId = true
theorem Exc.own {K : PySem.W.Frag} {mg : Str → Option Value} {x : Str} {C : Addr} {bmB : List Value} {newId : String} {h : Heap} (O : Exc K mg x C bmB newId) (X : K.In h) : OwnCls x C bmB newId mg h := by
  refine ⟨O.mgx, ?_⟩
  have q := O.ok
  unfold PySem.W.excIn at q
  split at q
  · rename_i dd cd sl ho
    split at q
    · rename_i C' bm k0 k1 k2 k3 n k5 hm hs
      simp only [Bool.and_eq_true, beq_iff_eq, Bool.not_eq_true'] at q
      obtain ⟨⟨⟨⟨⟨rfl, rfl⟩, hdel⟩, ht⟩, hok⟩, hni⟩ := q
      obtain ⟨nm, bs, mro, ns, qn, hd, sn, sub, ab, col, del⟩ := cd
      dsimp only at hm hdel hok hni
      subst hm hdel
      have hsl : sl = #[k0, k1, k2, k3, some (.builtin n), k5] := by
        obtain ⟨l⟩ := sl
        simp only at hs
        rw [hs]
      subst hsl
      exact ⟨bm, ns, nm, qn, bs, hd, sn, sub, ab, col, dd, k0, k1, k2, k3, k5, _, X _ _ ho, .of_isNs (PySem.W.isNs_of_in X hok), PySem.W.nsMap_none_of_in X hok hni, PySem.W.tail_of_in X ht⟩
    · cases q
  · cases q

section
variable {X : Cx} {x : Str} {C : Addr} {np cpos pos : Pos} {e : Expr} {es : List Expr} {t : TA} {E : XK}
/-- raise C(e, ..) -/
def tRaise (C : Addr) (E : XK) (t : TA) : TS := fun _ σ H => t σ H fun vs H1 => vs.length ≤ sizeLine ∧ ∀ a, H1 a = none → E (.ref C) (some a) H1
theorem ps_raise {bm : List Value} {B newId initId : String} (O : Exc X.K X.mg x C bm newId) (FB : ExcBaseFacts B newId initId bm) (hF : FreshOk X E) (hc : X.calm = true) (hg : Gl X x) (ha : PA X (e :: es) t)
    (hdb : (x == ("__debug__" : Str)) = false := by decide) (he : starEach (e :: es) X.env = (false, eval e X.env) :: starEach es X.env := by rfl) (hpl : (backTo cpos (starEach es X.env)).any (·.1) = false := by rfl) :
    PS X (.Raise (some (.Call (.Name x np) (e :: es) [] cpos)) none pos) (tRaise C E t) := by
  intro pins s σ H D I h
  obtain ⟨tl, N, nm, q, bs, hdct, sn, sub, ab, col, dd, k0, k1, k2, k3, k5, mN, hC, hN, hni, T⟩ := (O.own I.mod.kin).obj
  refine wpAny_Raise_call_subT (C := C) (nm := nm) (q := q) (N := N) (bs := bs) (bm := tl) (hdct := hdct) (sn := sn) (sub := sub) (ab := ab) (col := col) (dd := dd) (k0 := k0) (k1 := k1) (k2 := k2) (k3 := k3) (k5 := k5)
    FB (mN := mN) (T.hasType FB.hasBase) (I.ok.hd hc) (by rw [he]; show (false || (backTo cpos (starEach es X.env)).any (·.1)) = false; rw [hpl]; rfl) hni (ld_glob I hg O.mgx ⟨rfl, ?_⟩ hdb)
  have ha' := ha cpos pins s σ H _ I h
  rw [he] at ha' ⊢
  refine Calls.evalArgs_plain (wpAny_mono ha' (fun vs s₂ h₂ => ?_) fun _ _ y => y)
  obtain ⟨us, H1, I1, r, hz, hq⟩ := h₂
  refine ⟨rfl, by rw [← r.length]; exact hz, I1.bk _ _ hC, hN.keeps I1.bk, T.keeps I1.bk, fun h' e hm => ?_⟩
  refine hF pins σ H1 s₂ h' e C vs I1 hm (hq e ?_)
  cases q : H1 e with
  | none => rfl
  | some o =>
    obtain ⟨u, hu⟩ := (I1.hok e o q).get
    rw [hm.new] at hu; cases hu
end
end L2
set_option Elab.async false
set_option linter.all false
set_option maxRecDepth 100000
set_option maxHeartbeats 4000000
namespace L2
open PySem PySem.Spec PyProof.Rows PySem.W PySem.Builtin.ObjectAttr PySem.Builtin.Getset_descriptor

theorem looks_findData {K : Frag} {M : Model} {h : Heap} {x C : Addr} {name : Str} {a g : Value} (X : K.In h) (ha : findIn K (.ref C) name = some (some a)) (hn : specialIn K a "__get__" = some (some g)) (ht : takesIn K a = some true) :
    Looks M h (find (.ref x) (.ref C) name) (.bind g a) := by
  have L1 := looks_findIn (M := M) X ha
  have L2 : Looks M h (getOf (some a)) (some g) := looks_specialIn X hn
  have L3 := looks_takesIn (M := M) X ht
  refine L1.andThen (L2.andThen ?_)
  exact (L3.andThen (b := some (g, a)) (by first | exact .now | exact Looks.now)).andThen (Looks.tag .now)

section
variable {prog : Program} {w : World} {A : Around} {E : Value → Shared → Prop} {s : Shared} {K : Frag} {x C : Addr}
theorem class_getE {R : Result → Shared → Prop} {tp : Value} {ob : Obj} (X : K.In s.heap) (hx : s.heap.get? x = some ob) (hc : ob.cls = .ref C) (hm : mroIn K C (.type "object") = some true)
    (h : R (.ok (.ret (.ref C))) s) : codeAny (model prog w) A (.call (.builtin "getset_descriptor.__get__") ⟨[.builtin "object.__class__", .ref x, tp], []⟩) R s := by
  obtain ⟨hh, g, dr, t, os⟩ := s
  have L0 : Looks (model prog w) hh (typeOf (.ref x)) (.ref C) := hc ▸ (Looks.ld hx).andThen .now
  have L1 := looks_mroIn (M := model prog w) X hm
  refine codeAny_call_builtin KF.slot_gs.plain KF.entry_gs (KF.slot_gs.check _ _ _ _ _ _ _ _ KF.type_class (KF.args_gs _ _ _) ?_)
  unfold Builtin.«getset_descriptor.__get__» descrGet
  rw [dga_obj]
  refine wpAny_bind (wpAny_pure ?_)
  unfold descrGetter descrCheckInstance descrNameAndClass isInstance
  simp only [KF.owner_class]
  repeat lk
  refine ⟨Code.quiet_builtin _ (by decide +kernel), codeAny_builtin KF.entry_class ?_⟩
  unfold Builtin.«object.__class__» shownTypeOf
  repeat lk
  exact h

structure ExcGet (K : Frag) (C : Addr) : Prop where
  ga : findIn K (.ref C) "__getattribute__" = some (some (.builtin "BaseException.__getattribute__"))
  no : findIn K (.ref C) "__getattr__" = some none
  cls : findIn K (.ref C) "__class__" = some (some (.builtin "object.__class__"))
  gs : specialIn K (.builtin "object.__class__") "__get__" = some (some (.builtin "getset_descriptor.__get__"))
  tk : takesIn K (.builtin "object.__class__") = some true
  ob : mroIn K C (.type "object") = some true
  be : mroIn K C (.type "BaseException") = some true
  ic : (clsIn K C).isSome = true

theorem exc_class {Q : Option Value → Shared → Prop} {ob : Obj} (X : K.In s.heap) (G : ExcGet K C) (hx : s.heap.get? x = some ob) (hc : ob.cls = .ref C) (h : Q (some (.ref C)) { s with toks := s.toks + 1 }) :
    wpAny (model prog w) A (getAttr? (.ref x) "__class__") Q E s := by
  obtain ⟨hh, g, d, t, os⟩ := s
  have L0 : Looks (model prog w) hh (typeOf (.ref x)) (.ref C) := hc ▸ (Looks.ld hx).andThen .now
  have L1 := looks_findIn (M := model prog w) X G.ga
  have L2 := looks_findIn (M := model prog w) X G.no
  have L3 := looks_mroIn (M := model prog w) X G.be
  have L4 := looks_findData (M := model prog w) (x := x) X G.cls G.gs G.tk
  have fb := PySem.F.attr_ValueError.ga.bind (.ref x)
  unfold getAttr? getAttrBy? getAttrBy
  refine wpAny_bind (wpAny_mkText (wpAny_bind (wpAny_attempt (wpAny_holding (wpAny_bind (L0.at (wpAny_bind (L1.at ?_))))))))
  dsimp only
  rw [if_neg (show ¬ ((onTheHeap (Value.ref C) && Value.builtin "BaseException.__getattribute__" == Value.builtin "object.__getattribute__") = true) from by rw [show (Value.builtin "BaseException.__getattribute__" == Value.builtin "object.__getattribute__") = false from by decide +kernel, Bool.and_false]; decide)]
  unfold getAttrByItsOwn hookBefore
  simp only [onTheHeap, if_true]
  refine wpAny_bind (L2.at ?_)
  refine wpAny_bind (wpAny_attempt (wpAny_holding ?_))
  unfold callGetattribute boundAndCalled
  simp only [Bool.false_and, Bool.false_eq_true, if_false]
  refine wpAny_bind (wpAny_of_eq fb ?_)
  refine wpAny_call (codeAny_call_builtin PySem.F.attr_ValueError.ga.plain F.entry_bexc_ga ?_)
  have hk : builtinKind "BaseException.__getattribute__" = some .slot := by decide +kernel
  have hsplit : splitId "BaseException.__getattribute__" = some ("BaseException", "__getattribute__") := by decide +kernel
  have ha := F.args_bexc_ga (.ref x) (.str "__class__" t)
  simp only [checkBuiltinCall, hk, hsplit]
  have LI : Looks (model prog w) hh (isInstance (.ref x) (.type "BaseException")) true := L0.andThen L3
  refine wpAny_bind (LI.at ?_)
  simp only [Bool.not_true, Bool.false_eq_true, if_false]
  have ha' : (match Manifest.signature? "BaseException.__getattribute__" with
          | some sig => Bind.checkArgs "BaseException.__getattribute__" sig { pos := [Value.ref x] ++ [Value.str (Str.ofString "__class__") t] }
          | x => pure ()) = pure () := ha
  refine wpAny_of_eq ha' ?_
  unfold Builtin.«object.__getattribute__»
  repeat lk
  refine wpAny_run (h := none) (class_getE (s := ⟨hh, g, d, t + 1, os⟩) X hx hc G.ob ?_)
  refine wpAny_pure (wpAny_pure ?_)
  exact wpAny_pure (wpAny_pure h)
theorem kitx_exc (G : ExcGet K C) : KitX K (.ref x) (.ref C) (fun h => ∃ ob, h.get? x = some ob ∧ ob.cls = .ref C) where
  ty := fun _ _ _ ⟨ob, hx, hc⟩ => hc ▸ (Looks.ld hx).andThen .now
  it := fun M h X _ => by
    have e := G.ic
    unfold PySem.W.clsIn at e
    split at e
    · rename_i c' d' cd' sl' ho
      intro A' Q' E' s' k q
      unfold isType loadHead
      exact wpAny_bind (wpAny_loadPart (k _ _ (X _ _ ho)) (wpAny_pure q))
    · cases e
  ne := fun h tp dd its n sl X htp => by
    have e := G.ic
    refine Bool.eq_false_iff.mpr fun q => ?_
    have e' : C = tp := Value.ref.inj (beq_iff_eq.mp q)
    subst e'
    unfold PySem.W.clsIn at e
    split at e
    · rename_i c' d' cd' sl' ho
      have z := (X _ _ ho).symm.trans htp
      cases z
    · cases e
  ca := fun X ⟨ob, hx, hc⟩ k => exc_class X G hx hc k
end
end L2
set_option Elab.async false
set_option linter.all false
set_option maxRecDepth 100000
set_option maxHeartbeats 4000000
namespace L2
open PySem PySem.Spec PyProof.Rows

/-! ### try whose body never raises -/
section
variable {X : Cx} {body : List Stmt} {h0 : ExceptHandler} {hs : List ExceptHandler} {pos : Pos} {tb : TS}
end

/-! ### an expression that may raise -/
abbrev TX := St → Hp → VK → XK → Prop
/-- the exception lies as it lay, but for the marks that it writes -/
theorem Fly.step {P : Program} {w : World} {l : List Env} {H H' : Hp} {s s' : Shared} {e C : Addr} {base : Heap} (x : Fly P w l H s H' e C s') (fr : s.heap.FunFrames base l) (hf : ∀ b ∈ frs l, H b = none) :
    ∃ B a0, Heap.FlyingW B l e (.ref C) a0 s'.heap ∧ ∀ h', Heap.FlyingW B l e (.ref C) a0 h' → s'.heap.UpToSlots h' → Fly P w l H s H' e C { s' with heap := h' } := by
  obtain ⟨B, a0, f, kb, kt, kx⟩ := x.fly
  refine ⟨B, a0, f, fun h' f' up => ?_⟩
  refine ⟨x.os, x.bare, ⟨fun b o e n hb hx => f'.1 _ _ (kb b o e n hb), fun b o e n hb hx => ?_, x.un.free, fun b o e hx => ?_, x.un.tups, x.un.frzs, x.un.tbls⟩, hok_fly x.hok f'.1 kt, B, a0, f', kb, fun b o u hb e => ?_, kx⟩
  · obtain ⟨_, ob, ho, hd⟩ := fr.mem hb
    rw [e] at ho; cases ho
    obtain ⟨sl, e1⟩ := x.un.slot b o e n hb (by simp)
    obtain ⟨sl2, e2⟩ := up b _ e1 hd
    exact ⟨sl2, e2⟩
  · by_cases hb : b ∈ frs l
    · obtain ⟨_, ob, ho, hd⟩ := fr.mem hb
      rw [e] at ho; cases ho
      obtain ⟨sl, e1⟩ := x.un.slot b o e (hf b hb) hb (by simp)
      obtain ⟨sl2, e2⟩ := up b _ e1 hd
      exact ⟨_, e2⟩
    · obtain ⟨u', e2⟩ := kx b o e hb
      exact ⟨_, f'.1 _ _ e2⟩
  · obtain ⟨u', e'⟩ := (x.hok b o hb).get
    have q := kt b o u' hb e'
    have e2 := f'.1 _ _ q
    have e3 : h'.get? b = some u := e
    rw [e2] at e3
    cases e3
    exact q
/-- the exception object that a handler has in hand -/
def excO (a C : Addr) : HO := .ext fun h => ∃ ob, h.get? a = some ob ∧ ob.cls = .ref C
/-- within an except suite -/
abbrev Cx.hnd (X : Cx) (a : Addr) : Cx := { X with A := X.A.mark (some (.ref a)), calm := false, xe := fun _ _ => False }
theorem Inv.hnd {X : Cx} {pins : List (Addr × Obj)} {σ : St} {H : Hp} {s : Shared} (I : Inv X pins σ H s) (a : Addr) : Inv (X.hnd a) pins σ H s :=
  ⟨⟨I.ok.mod, I.ok.kind, I.ok.glob, I.ok.blt, I.ok.above, I.ok.inj, I.ok.has, I.ok.cab, (fun z => nomatch z), I.ok.frames, I.ok.stk, I.ok.exf, I.ok.bs, I.ok.bsz, I.ok.noex, I.ok.exfs, I.ok.funs, I.ok.frf⟩, I.os, I.bare, I.base, I.loc, I.cell, I.free, I.freeC, I.pin, I.hok, I.len⟩
/-- what an except clause by an own class asks -/
structure Cat (K : PySem.W.Frag) (mg : Str → Option Value) (x : Str) (D : Addr) : Prop where
  mgx : mg x = some (.ref D)
  cls : (PySem.W.clsIn K D).isSome = true
  nt : PySem.W.instIn K (.ref D) (.type "tuple") = some false
  ex : PySem.W.mroIn K D (.type "BaseException") = some true
/-- an object that came later than I0 is tracked from now on -/
theorem Inv.track {X : Cx} {pins : List (Addr × Obj)} {σ σ0 : St} {H H0 : Hp} {s s0 : Shared} {a : Addr} {o : HO} (I : Inv X pins σ H s) (I0 : Inv X pins σ0 H0 s0) (hex : X.ex = []) (ha : s0.heap.get? a = none) (hn : H a = none) (new : ObjOk X.prog X.w (upd H a o) s.heap a o) :
    Inv X pins σ (upd H a o) s := by
  have old : ∀ b u, X.s_0.heap.get? b = some u → b ≠ a := fun b u e z => by
    obtain ⟨u', e'⟩ := I0.base.there b u e (by rw [hex]; simp)
    rw [z, ha] at e'; cases e'
  refine ⟨I.ok, I.os, I.bare, ⟨I.base.keep, I.base.slot, fun b u e n hx => by rw [upd_ne (old b u e)]; exact I.base.free b u e n hx, I.base.there, fun b xs e => ?_, fun b ob xs e => ?_, fun b ps e => ?_⟩, I.loc, I.cell, ?_, fun x c e => ?_, fun p hp => ?_, fun b u e => ?_, I.len⟩
  · have q := I.base.tups b xs e
    rw [upd_ne (ne_of_none q hn)]; exact q
  · have q := I.base.frzs b ob xs e
    rw [upd_ne (ne_of_none q hn)]; exact q
  · obtain ⟨m, q⟩ := I.base.tbls b ps e
    exact ⟨m, by rw [upd_ne (ne_of_none q hn)]; exact q⟩
  · obtain ⟨m, ⟨ob, _, _, ho, _⟩, _⟩ := I0.loc
    rw [upd_ne (fun z => by rw [z, ha] at ho; cases ho)]; exact I.free
  · obtain ⟨v, ob, ho, _⟩ := I0.cell x c e
    rw [upd_ne (fun z => by rw [z, ha] at ho; cases ho)]; exact I.freeC x c e
  · obtain ⟨e, n, r⟩ := I.pin p hp
    have e0 := (I0.pin p hp).1
    exact ⟨e, by rw [upd_ne (fun z => by rw [z, ha] at e0; cases e0)]; exact n, r⟩
  · by_cases hb : b = a
    · subst hb; rw [upd_same] at e; cases e; exact new
    · rw [upd_ne hb] at e
      exact (I.hok b u e).stay (fun c v _ q => q) (fun c q => by rw [upd_ne (ne_of_none q hn)]; exact q) fun c xs q => by rw [upd_ne (ne_of_none q hn)]; exact q

section
variable {X : Cx} {e : Expr} {b0 : Stmt} {suite : List Stmt} {x n : Str} {i : Nat} {D0 : Addr} {p1 np hpos pos : Pos} {te : TX} {ts : TS}
end
end L2
set_option Elab.async false
set_option linter.all false
set_option maxRecDepth 100000
set_option maxHeartbeats 4000000
namespace L2
open PySem PySem.Spec PyProof.Rows

/-! ### a thing that stands as it is -/
def frzO (o : Obj) : HO := .frz o (.ext fun _ => True)
def Frz (cs : List Addr) (H : Hp) : Prop := ∀ c ∈ cs, ∃ o, H c = some (frzO o)
section
variable {P : Program} {w : World} {cs fs : List Addr} {H H1 : Hp} {h h1 : Heap}
end

/-! ### an exception leaves any def's frame -/
end L2
set_option Elab.async false
set_option linter.all false
set_option maxRecDepth 100000
set_option maxHeartbeats 4000000
namespace L2
open PySem PySem.Spec PyProof.Rows

/-- a lambda's own scope: every name is captured -/
structure LamScope (N : List Str) (sc : Scope) : Prop where
  kind : sc.kind = .function
  co : sc.isCoroutine = false
  gen : sc.isGenerator = false
  nd : N.Nodup
  nocell : ∀ x ∈ sc.names, x.2 ≠ .cell
  fre : ∀ y ∈ N, sc.names.lookup y = some .free
  fre2 : ∀ y ∈ sc.names, y.2 = .free → y.1 ∈ N
/-- the captured cells, by the values that they hold -/
def Caps (H : Hp) : List (Str × Addr) → List V → Prop := Paired fun (p : Str × Addr) (v : V) => ∃ o u, H p.2 = some (frzO o) ∧ o.data = .cell (some u) ∧ RelV v u
theorem Caps.frz {H : Hp} : ∀ {cl : List (Str × Addr)} {vs : List V}, Caps H cl vs → Frz (cl.map (·.2)) H
  | _, _, .nil => fun c hc => absurd hc (by simp)
  | (x, a) :: r, _, .cons ⟨o, u, e, _⟩ t => fun c hc => by
    rcases List.mem_cons.mp (show c ∈ a :: r.map (·.2) from hc) with rfl | hc
    · exact ⟨o, e⟩
    · exact Caps.frz t c hc
theorem Caps.get {H : Hp} : ∀ {cl : List (Str × Addr)} {vs : List V} {i : Nat} {v : V}, Caps H cl vs → vs[i]? = some v → ∃ p o u, cl[i]? = some p ∧ H p.2 = some (frzO o) ∧ o.data = .cell (some u) ∧ RelV v u
  | _, _, _, _, .nil, e => by simp at e
  | p :: _, _, 0, _, .cons ⟨o, u, e1, e2, e3⟩ _, e => by
    simp at e; subst e
    exact ⟨p, o, u, rfl, e1, e2, e3⟩
  | _ :: _, _ :: _, i + 1, v, .cons _ t, e => by
    obtain ⟨p, o, u, h1, h2⟩ := Caps.get (i := i) (v := v) t (by simpa using e)
    exact ⟨p, o, u, by simpa using h1, h2⟩
theorem Caps.len {H : Hp} {cl : List (Str × Addr)} {vs : List V} (h : Caps H cl vs) : cl.length = vs.length := Paired.length h
/-- what stands of a closure: its function object, its code object, its cells -/
structure Clos (H : Hp) (f c : Addr) (qual : Str) (params : Arguments) (body : Expr) (scope : Scope) (cl : List (Str × Addr)) (pm ct : Value) (vs : List V) : Prop where
  fn : H f = some (frzO (PySem.W.kla_obj "<lambda>" qual params body scope cl pm c ct))
  code : ∃ oc ws t, H c = some (frzO oc) ∧ oc.data = .fields ws ∧ ws[1]? = some (.str qual t)
  caps : Caps H cl vs
  ap : (cl.map (·.2)).Nodup
  fne : f ∉ cl.map (·.2)
  cne : c ∉ cl.map (·.2)

section
variable {P : Program} {w : World} {K : PySem.W.Frag} {mg : Str → Option Value} {base : Heap} {k : Nat} {f c : Addr} {qual : Str} {params : Arguments} {body : Expr} {scope : Scope} {cl : List (Str × Addr)} {pm ct : Value} {N : List Str}
end

/-! ### a closure that stands in a local name, called -/
section
variable {X : Cx} {i : Nat} {x : Str} {p pos : Pos} {k : Nat}
end
end L2
set_option Elab.async false
set_option linter.all false
set_option maxRecDepth 100000
set_option maxHeartbeats 4000000
namespace L2
open PySem PySem.Spec PyProof.Rows

/-! ### making a lambda -/
def CodeO (oc : Obj) (qual : Str) : Prop := ∃ ws t, oc.data = .fields ws ∧ ws[1]? = some (.str qual t)
/-- the table of code objects of a def: what it holds is known -/
def TabOk (H : Hp) (P : Addr) (qual : Str) : Prop := ∃ ps, H P = some (.tbl ps) ∧ TriplesOk ps.toList ∧ ∀ pos cv, codeAmong pos ps.toList = some cv → ∃ c oc, cv = Value.ref c ∧ H c = some (frzO oc) ∧ CodeO oc qual
theorem TabOk.same {H H' : Hp} {P : Addr} {qual : Str} (h : TabOk H P qual) (s : Same H H') : TabOk H' P qual := by
  obtain ⟨ps, e, t, k⟩ := h
  refine ⟨ps, s _ _ e, t, fun pos cv q => ?_⟩
  obtain ⟨c, oc, e1, e2, e3⟩ := k pos cv q
  exact ⟨c, oc, e1, s _ _ e2, e3⟩
/-- what the top has written of a def whose body makes lambdas: its code object c0 with the table at P -/
structure LamTop (base : Heap) (mg : Str → Option Value) (c0 P : Addr) : Prop where
  hd : PySem.W.CodeHd base c0 P
  bt : base.BuiltinsAt mg P
  gp : mainGlobals ≠ P
section
variable {X : Cx} {pins : List (Addr × Obj)} {σ : St} {H : Hp} {s : Shared} {params : Arguments} {body : Expr} {scope : Scope} {pos : Pos} {c0 P : Addr} {clos : List (Str × Addr)} {Q : Value → Shared → Prop}
end
end L2
set_option Elab.async false
set_option linter.all false
set_option maxRecDepth 100000
set_option maxHeartbeats 4000000
namespace L2
open PySem PySem.Spec PyProof.Rows

/-! ### f(lambda: ..) where the lambda captures one cell of this frame: the cell is lent to the callee -/
section
variable {X : Cx} {x n : Str} {i k : Nat} {fw : Addr} {fdw : FuncData} {ps : List Str} {sp : Sp} {p pos lpos : Pos} {params : Arguments} {body : Expr} {scope : Scope} {c0 P ce : Addr}
end
end L2
set_option Elab.async false
set_option linter.all false
set_option maxRecDepth 100000
set_option maxHeartbeats 4000000
namespace L2
open PySem PySem.Spec PyProof.Rows

/-! ### the keys of any exact dict, collected -/
section
variable {prog : Program} {w : World} {A : Around} {E : Value → Shared → Prop} {s : Shared} {d : Addr} {o : Obj} {es : Array DictEntry} {ep : Nat}
def DRaw (d : Addr) (o : Obj) (es : Array DictEntry) (ep : Nat) (h : Heap) : Prop := h.get? d = some o ∧ o.ExactDict ∧ o.data = .dict es ep
theorem dwalks (hh : A.handled = none) (I : Addr) (hne : d ≠ I) : Walks prog w A I [I, d] [I] es.size (fun i v => ∃ en, es[i]? = some en ∧ v = en.key) (fun i h => h.IsKeyIter I d i es.size ep ∧ DRaw d o es ep h) where
  sub := fun b hb => by simp at hb; simp [hb]
  frame := fun _ _ _ st hk => ⟨st.1.at fun o e => hk I (by simp) o e, hk d (by simp) _ st.2.1, st.2.2⟩
  item := fun i s Q E hi st hQ => by
    obtain ⟨en, hx⟩ : ∃ p, es[i]? = some p := ⟨es[i], by simp [hi]⟩
    refine next_key_item st.1 st.2.1 st.2.2.2 rfl hx fun h' hit' hs' => ?_
    exact hQ en.key h' s.toks ⟨en, hx, rfl⟩ ⟨hit', (hs'.2 d hne).trans st.2.1, st.2.2⟩ fun b o hb e => hs'.extBut b o (fun h => hb (by simp [h])) e
  done := fun s Q E st hQ => next_key_end hh st.1 st.2.1 st.2.2.2 rfl (Nat.le_refl _) fun h' he' => hQ h' s.toks fun b o hb e => he' b o (fun h => hb (by simp [h])) e
  self := fun _ _ _ _ st hQ => wpAny_pyIter_keyiter st.1 hQ
theorem dsrc (lo : (d == sysModules) = false) : PySem.W.KdlSrc prog w "dict" d d es.size (fun i v => ∃ en, es[i]? = some en ∧ v = en.key) (DRaw d o es ep) where
  type := fun _ hm => ⟨_, hm.1, hm.2.1.1⟩
  there := fun _ hm => ⟨Heap.lt_size hm.1, Heap.lt_size hm.1⟩
  keep := fun _ _ hm hk => ⟨hk d (.inl rfl) _ hm.1, hm.2⟩
  notList := by decide
  notTuple := by decide
  hint := fun _ _ _ _ hm hq => PySem.W.kdl_hint_dict ⟨_, hm.1, hm.2.1.1⟩ hq
  iter := fun _ _ hh hm => ⟨_, _, (fun _ _ hq => iter_keys lo hm.1 hm.2.1 hm.2.2 hq), dwalks (o := o) hh _ (Nat.ne_of_lt (Heap.lt_size hm.1)), ⟨⟨_, Heap.get?_push_size _ rfl, rfl, rfl⟩, Heap.get?_push_of_some _ hm.1, hm.2⟩⟩

/-- sorted(d): the keys are collected, then sorted as a list at B -/
theorem sorted_raw (hh : A.handled = none) (lo : (d == sysModules) = false) (hm : DRaw d o es ep s.heap) (hn : es.size ≤ sizeLine) {Q : Value → Shared → Prop}
    (h : ∀ (h' : Heap) (tk : Nat) (vs : List Value), (∀ b o, s.heap.get? b = some o → h'.get? b = some o) → vs.length = es.size → (∀ (j : Nat) (v : Value), vs[j]? = some v → ∃ en, es[j]? = some en ∧ v = en.key) →
      wpAny (model prog w) A.in1 (call (.builtin "list.sort") [.ref h'.objs.size]) (fun _ s' => Q (.ref h'.objs.size) s') E { s with heap := h'.push { cls := .type "list", data := .seq vs.toArray }, toks := tk }) :
    wpAny (model prog w) A (call (.builtin "sorted") [.ref d]) Q E s := by
  refine PySem.Calls.call_function_entry kind_sorted plain_sorted entry_sorted (args_sorted1 _) ?_
  unfold Builtin.«sorted»
  refine wpAny_bind (m := checkCount "sorted" 1 1 _) (wpAny_pure ?_)
  refine wpAny_bind (PySem.W.kdu_collect (A := A.in1) (dsrc (o := o) (es := es) (ep := ep) lo) hh hm hn fun h' tk acc hk hacc => ?_)
  have hl : acc.toList.length = es.size := by rw [Array.length_toList]; exact hacc.1
  refine wpAny_bind (wpAny_newList ?_ (by rw [hl]; exact hn))
  have hg := h h' tk acc.toList hk hl (fun j v e => hacc.2 j v (by rw [← Array.getElem?_toList]; exact e))
  refine wpAny_bind (wpAny_holding (wpAny_mono hg (fun _ s' x => ?_) fun _ _ e => e))
  exact wpAny_pure ⟨_, rfl, x⟩
end

theorem Inv.gone {X : Cx} {pins : List (Addr × Obj)} {σ : St} {H : Hp} {s : Shared} (I : Inv X pins σ H s) {a : Addr} (h : s.heap.get? a = none) : H a = none := by
  cases q : H a with
  | none => rfl
  | some o => obtain ⟨u, hu⟩ := (I.hok a o q).get; rw [h] at hu; cases hu
theorem new_of {h h' : Heap} (k : ∀ b o, h.get? b = some o → h'.get? b = some o) : h.get? h'.objs.size = none := by
  cases q : h.get? h'.objs.size with
  | none => rfl
  | some o => exact absurd (Heap.lt_size (k _ o q)) (Nat.lt_irrefl _)
theorem paired_get' {α β : Type} {F : α → β → Prop} : ∀ {l₁ : List α} {l₂ : List β} {j : Nat} {b : β}, Paired F l₁ l₂ → l₂[j]? = some b → ∃ a, l₁[j]? = some a ∧ F a b
  | _, _, _, _, .nil, e => by simp at e
  | _, _, 0, _, .cons r _, e => by simp at e; subst e; exact ⟨_, rfl, r⟩
  | _, _, j + 1, b, .cons _ t, e => by
    obtain ⟨a, h1, h2⟩ := paired_get' (j := j) t (by simpa using e)
    exact ⟨a, by simpa using h1, h2⟩
section
variable {X : Cx}
/-! sorted(d), d's keys all pairs of whole numbers -/
def lexLe (p q : Int × Int) : Prop := p.1 < q.1 ∨ (p.1 = q.1 ∧ p.2 ≤ q.2)
def keyP (p : Int × Int) : List Key := [Sum.inl p.1, Sum.inl p.2]
def tupP (p : Int × Int) : HO := .tup [.int p.1, .int p.2]
def rSortedT : List V → Hp → VK → Prop := fun vs H Q => ∃ (a : Addr) (kvs : List (List Key × V)) (ps : List (Int × Int)), vs = [V.ref a] ∧ H a = some (.dT kvs) ∧ kvs.map (·.1) = ps.map keyP ∧
  ∀ (ps' : List (Int × Int)) (qs : List Addr) (p : Addr), ps'.Perm ps → ps'.Pairwise lexLe → Paired (fun (q : Addr) (x : Int × Int) => H q = some (tupP x)) qs ps' → H p = none → Q (.ref p) (upd H p (.lst (qs.map V.ref)))
def decP (H : Hp) : Value → Int × Int
  | .ref q => match H q with
    | some (.tup [.int a, .int b]) => (a, b)
    | _ => (0, 0)
  | _ => (0, 0)
def unref : Value → Addr
  | .ref q => q
  | _ => 0
theorem decP_of {H : Hp} {q : Addr} {x : Int × Int} (h : H q = some (tupP x)) : decP H (.ref q) = x := by
  show (match H q with | some (.tup [.int a, .int b]) => (a, b) | _ => ((0, 0) : Int × Int)) = x
  rw [h]
  rfl
theorem tupKey_at {H : Hp} {h h2 : Heap} {P : Program} {w : World} {q : Addr} {x : Int × Int} (k : HOk P w H h) (hk : ∀ b o, h.get? b = some o → h2.get? b = some o) (e : H q = some (tupP x)) :
    PyProof.Rows.G.tupKeyC h2 (fun _ => false) (.ref q) = some [Sum.inl x.1, Sum.inl x.2] ∧ ∃ t, PyProof.Rows.TupOf h2 (fun _ => false) (.ref q) (.int x.1 t) := by
  obtain ⟨_, its, rv, o, ho, hc, n, hd⟩ := (show ObjOk P w H h q (.tup [.int x.1, .int x.2]) from k q _ e)
  obtain ⟨u1, u2, e1, r1, r2⟩ := Vals.two rv
  obtain ⟨t1, rfl⟩ := r1
  obtain ⟨t2, rfl⟩ := r2
  subst e1
  have ho2 := hk _ _ ho
  refine ⟨?_, t1, q, o, _, n, rfl, ho2, hc, hd, rfl, fun _ => ⟨_, _, rfl⟩, fun z => by cases z⟩
  unfold PyProof.Rows.G.tupKeyC
  rw [if_pos (by simp [PyProof.Rows.G.isTupObj, ho2, hc])]
  simp only [PyProof.Rows.tupKey, ho2, hd]
  rfl
theorem tupsOf_by {h : Heap} {sh : Nat → Bool} : ∀ {vs : List Value}, (∀ v ∈ vs, ∃ f, PyProof.Rows.TupOf h sh v f) → ∃ fs, PyProof.Rows.TupsOf h sh vs fs
  | [], _ => ⟨[], .nil⟩
  | v :: vs, k => by
    obtain ⟨f, hf⟩ := k v List.mem_cons_self
    obtain ⟨fs, hfs⟩ := tupsOf_by (vs := vs) fun u hu => k u (List.mem_cons_of_mem _ hu)
    exact ⟨f :: fs, .cons hf hfs⟩
theorem paired_map {α β γ : Type} {F : β → γ → Prop} {f : α → β} {g : α → γ} : ∀ {L : List α}, (∀ v ∈ L, F (f v) (g v)) → Paired F (L.map f) (L.map g)
  | [], _ => .nil
  | v :: L, k => .cons (k v List.mem_cons_self) (paired_map fun u hu => k u (List.mem_cons_of_mem _ hu))
theorem lexLe_of {a b c d : Int} (h : PyProof.Rows.lexLt PyProof.Rows.itemOrd [Sum.inl c, Sum.inl d] [Sum.inl a, Sum.inl b] = false) : lexLe (a, b) (c, d) := by
  obtain ⟨h1, h2⟩ := PyProof.Rows.lex_false.mp h
  have h1 : decide (c < a) = false := h1
  have h1 : ¬ c < a := of_decide_eq_false h1
  rcases h2 with h2 | h2
  · have h2 : decide (a < c) = true := h2
    exact .inl (of_decide_eq_true h2)
  · obtain ⟨h3, _⟩ := PyProof.Rows.lex_false.mp h2
    have h3 : decide (d < b) = false := h3
    have h3 : ¬ d < b := of_decide_eq_false h3
    rcases Int.lt_or_eq_of_le (Int.not_lt.mp h1) with h4 | h4
    · exact .inl h4
    · exact .inr ⟨h4, Int.not_lt.mp h3⟩
theorem cr_sortedT (hc : X.calm = true) (hex : X.ex = []) : CallR X (.builtin "sorted") rSortedT := by
  intro pins s σ H vs us Q I r h
  obtain ⟨a, kvs, ps, rfl, ha, hk, q⟩ := h
  rw [Vals.ref1 r]
  obtain ⟨z, lo, xs, pr, o, es, ep, ho, hx, hdt, hee, _⟩ := (show ObjOk X.prog X.w H s.heap a (.dT kvs) from I.hok a _ ha)
  have l1 : es.size = xs.length := size_of_entries hee
  have l2 : kvs.length = xs.length := Paired.length pr
  have lp : ps.length = es.size := by
    have := congrArg List.length hk
    rw [List.length_map, List.length_map] at this
    omega
  refine sorted_raw (I.ok.hd hc) lo ⟨ho, hx, hdt⟩ (by omega) fun h' tk vs hkp hvl hvs => ?_
  have hV : ∀ (j : Nat) (v : Value), vs[j]? = some v → ∃ qa x, v = Value.ref qa ∧ ps[j]? = some x ∧ H qa = some (tupP x) := fun j v e => by
    obtain ⟨en, e1, rfl⟩ := hvs j v e
    have q1 := entry_at hee j
    rw [e1] at q1
    cases ex : xs[j]? with
    | none => rw [ex] at q1; cases q1
    | some b =>
      rw [ex] at q1
      obtain ⟨p, hp, e2, e3, _⟩ := paired_get' pr ex
      have : (kvs.map (·.1))[j]? = some p.1 := by rw [List.getElem?_map, hp]; rfl
      rw [hk, List.getElem?_map] at this
      cases e4 : ps[j]? with
      | none => rw [e4] at this; cases this
      | some x =>
        rw [e4] at this
        have e5 : keyP x = p.1 := Option.some.inj this
        refine ⟨b.2.1, x, ?_, rfl, ?_⟩
        · rw [Option.some.inj q1]; rfl
        · rw [e3, ← e5]; rfl
  have hM : ∀ v ∈ vs, ∃ qa x, v = Value.ref qa ∧ H qa = some (tupP x) := fun v hv => by
    obtain ⟨j, hj⟩ := List.getElem?_of_mem hv
    obtain ⟨qa, x, e1, _, e3⟩ := hV j v hj
    exact ⟨qa, x, e1, e3⟩
  have hob : (h'.push { cls := .type "list", data := .seq vs.toArray }).get? h'.objs.size = some (seqObj "list" vs.toArray 0) := Heap.get?_push_size _ rfl
  have kp0 : ∀ b u, s.heap.get? b = some u → (h'.push { cls := .type "list", data := .seq vs.toArray }).get? b = some u := fun b u e => Heap.get?_push_of_some _ (hkp _ _ e)
  obtain ⟨fs, hts⟩ := tupsOf_by (h := h'.push { cls := .type "list", data := .seq vs.toArray }) (sh := fun _ => false) (vs := vs) fun v hv => by
    obtain ⟨qa, x, rfl, e⟩ := hM v hv
    obtain ⟨t, ht⟩ := (tupKey_at I.hok kp0 e).2
    exact ⟨_, ht⟩
  refine wpAny_call_entry PyProof.Rows.slot_list_sort ⟨_, hob, rfl⟩ PyProof.Rows.entry_list_sort
    (PyProof.Rows.G.list_sort_tups (s := { s with heap := h'.push { cls := .type "list", data := .seq vs.toArray }, toks := tk }) hob hts (fun v hv => ?_) (by omega) fun st' hp hs _ => ⟨.none, rfl, ?_⟩) (PyProof.Rows.args_list_sort _)
  · obtain ⟨qa, x, rfl, e⟩ := hM v hv
    exact ⟨_, (tupKey_at I.hok kp0 e).1⟩
  generalize harr : arrOf st' = arr at hp hs ⊢
  have hpl : arr.toList.Perm (vs.zip vs) := by
    have := hp.toList
    rwa [pairsOf_toList] at this
  have zs : ∀ p ∈ vs.zip vs, p.1 = p.2 ∧ p.1 ∈ vs := fun p hp => by
    obtain ⟨e, hm⟩ := mem_zip_self hp
    exact ⟨e, hm⟩
  have hL : (arr.map (·.2)).toList = arr.toList.map (·.2) := by simp
  have hLp : (arr.toList.map (·.2)).Perm vs := by
    have := hpl.map (·.2)
    rwa [show (vs.zip vs).map (·.2) = vs from by rw [List.map_snd_zip (Nat.le_refl _)]] at this
  have hLm : ∀ v ∈ arr.toList.map (·.2), ∃ qa x, v = Value.ref qa ∧ H qa = some (tupP x) := fun v hv => hM v (hLp.mem_iff.mp hv)
  have eps : ps = vs.map (decP H) := by
    apply List.ext_getElem?
    intro j
    rw [List.getElem?_map]
    cases e : vs[j]? with
    | none =>
      have : vs.length ≤ j := List.getElem?_eq_none_iff.mp e
      exact List.getElem?_eq_none_iff.mpr (by omega)
    | some v =>
      obtain ⟨qa, x, rfl, e2, e3⟩ := hV j v e
      rw [e2]
      show some x = some (decP H (.ref qa))
      rw [decP_of e3]
  have fnew : s.heap.get? h'.objs.size = none := new_of hkp
  have kp : ∀ b u, s.heap.get? b = some u → (sortedHeap (h'.push { cls := .type "list", data := .seq vs.toArray }) h'.objs.size vs (arr.map (·.2))).get? b = some u := fun b u e => by
    rw [PyProof.Rows.sortedHeap_old (Nat.ne_of_lt (Heap.lt_size (hkp _ _ e))) (Nat.lt_of_lt_of_le (Heap.lt_size (hkp _ _ e)) (by rw [Heap.size_push]; omega))]
    exact Heap.get?_push_of_some _ (hkp _ _ e)
  have I1 := I.kept (t' := tk) kp
  obtain ⟨ep', he'⟩ := PyProof.Rows.sortedHeap_at (vs := vs) (out := arr.map (·.2)) hob
  have hlen : (arr.toList.map (·.2)).length = vs.length := hLp.length_eq
  refine ⟨.ref _, upd H h'.objs.size (.lst (((arr.toList.map (·.2)).map unref).map V.ref)), I1.track I hex fnew (I.gone fnew) ⟨?_, (arr.map (·.2)).toList, ep', ?_, he'⟩, rfl, q ((arr.toList.map (·.2)).map (decP H)) _ _ ?_ ?_ ?_ (I.gone fnew)⟩
  · rw [List.length_map, List.length_map, hlen]; omega
  · rw [hL]
    have : ∀ L : List Value, (∀ v ∈ L, ∃ qa x, v = Value.ref qa ∧ H qa = some (tupP x)) → Vals ((L.map unref).map V.ref) L := by
      intro L
      induction L with
      | nil => intro _; exact .nil
      | cons v L ih =>
        intro k
        obtain ⟨qa, x, e, _⟩ := k v List.mem_cons_self
        exact .cons (by rw [e]; rfl) (ih fun u hu => k u (List.mem_cons_of_mem _ hu))
    exact this _ hLm
  · rw [eps]; exact hLp.map _
  · rw [List.map_map, List.pairwise_map]
    rw [List.pairwise_iff_getElem]
    intro i j hi hj hij
    have hi' : i < arr.size := by simpa using hi
    have hj' : j < arr.size := by simpa using hj
    have k := hs i j (Nat.le_of_lt hij) (by rw [← hp.size_eq]; exact hj')
    have at_ : ∀ m (hm : m < arr.size), ∃ qa x, arr[m] = (Value.ref qa, Value.ref qa) ∧ H qa = some (tupP x) ∧ KK (PyProof.Rows.G.tupKindC (h'.push { cls := .type "list", data := .seq vs.toArray }) fun _ => false) arr m = [Sum.inl x.1, Sum.inl x.2] := fun m hm => by
      have hmem : arr[m] ∈ vs.zip vs := hpl.mem_iff.mp (by simp)
      obtain ⟨z1, z2⟩ := zs _ hmem
      obtain ⟨qa, x, e1, e2⟩ := hM _ z2
      refine ⟨qa, x, Prod.ext e1 (z1 ▸ e1), e2, ?_⟩
      unfold KK
      rw [Array.getElem?_eq_getElem hm]
      show (PyProof.Rows.G.tupKeyC _ _ (arr[m]).1).getD [] = _
      rw [e1, (tupKey_at I.hok kp0 e2).1]
      rfl
    obtain ⟨qa, x, e1, e2, e3⟩ := at_ i hi'
    obtain ⟨qb, y, f1, f2, f3⟩ := at_ j hj'
    rw [e3, f3] at k
    show lexLe (decP H (arr.toList[i]).2) (decP H (arr.toList[j]).2)
    rw [Array.getElem_toList, Array.getElem_toList, e1, f1]
    show lexLe (decP H (.ref qa)) (decP H (.ref qb))
    rw [decP_of e2, decP_of f2]
    exact lexLe_of k
  · exact paired_map fun v hv => by
      obtain ⟨qa, x, rfl, e⟩ := hLm v hv
      show H qa = some (tupP (decP H (.ref qa)))
      rw [decP_of e]; exact e
end
end L2
set_option Elab.async false
set_option linter.all false
set_option maxRecDepth 100000
set_option maxHeartbeats 4000000
namespace L2
open PySem PySem.Spec PyProof.Rows
section
variable {X : Cx}
/-! ### range(..) as a value, in range(..) -/
theorem call_rng2 : CallR X (.type "range") (fun xs H Q => ∃ i j : Int, xs = [.int i, .int j] ∧ ∀ p, H p = none → Q (.ref p) (upd H p (.rng i j))) := by
  intro pins s σ H xs us Q I r h
  obtain ⟨i, j, rfl, q⟩ := h
  obtain ⟨u, u', rfl, ⟨t, rfl⟩, t', rfl⟩ := vals2 r
  exact call_range_2 ⟨.ref _, _, I.laid (o := .rng i j) (fun b o e => Heap.get?_push_of_some _ e) (Nat.le_refl _) ⟨_, _, _, Heap.get?_push_size _ rfl⟩, rfl, q _ (I.hok.fresh (Nat.le_refl _))⟩
/-! ### isinstance -/
def TyE (K : PySem.W.Frag) (H : Hp) (x : V) (t : Value) : Prop := TyOf K H x t ∨ ∃ a C, x = .ref a ∧ t = .ref C ∧ H a = some (excO a C) ∧ ExcGet K C
theorem call_isi : CallR X (.builtin "isinstance") (fun xs H Q => ∃ x c t b, xs = [x, c] ∧ TyE X.K H x t ∧ (∀ u, RelV c u → PySem.W.kitOne X.K t u = some b) ∧ Q (.bl b) H) := by
  intro pins s σ H xs us Q I r h
  obtain ⟨x, c, t, b, rfl, ty, hk, q⟩ := h
  obtain ⟨u, u', rfl, rx, rc⟩ := vals2 r
  rcases ty with ty | ⟨a, C, rfl, rfl, ha, G⟩
  · exact isinst_ok I rx ty (hk _ rc) fun tk => ⟨.bl b, H, I.tok tk, rfl, q⟩
  · cases rx
    obtain ⟨hp, _⟩ := (show ObjOk X.prog X.w H s.heap a (excO a C) from I.hok a _ ha)
    exact PySem.W.kia_one (kitx_exc G) I.kIn hp (hk _ rc) (fun z => nomatch z) fun tk => ⟨.bl b, H, I.tok tk, rfl, q⟩

/-! ### insert, count -/
def rInsert : V → List V → Hp → VK → Prop := fun x vs H Q => ∃ (l : Addr) (z : Int) (k : Nat) (xs : List V) (y : V), x = .ref l ∧ vs = [.int z, y] ∧ z = (k : Int) ∧ H l = some (.lst xs) ∧ k ≤ xs.length ∧ xs.length < sizeLine ∧ Q .non (upd H l (.lst (xs.take k ++ y :: xs.drop k)))
theorem mt_insert : MtM X "list.insert" rInsert := by
  intro pins s σ H x vs v us Q I rx rv h
  obtain ⟨l, x, k, xs, y, rfl, rfl, hx, hH, hk, hz, q⟩ := h
  cases rx
  obtain ⟨ui, u, rfl, ⟨t, rfl⟩, ru⟩ := rv.two
  obtain ⟨z, its, n, r, hl, e⟩ := I.lstM hH
  have hfit : ¬ (!Builtin.List.listFitsIndex x) = true := by
    have h1 : x < 2 ^ 63 := by have := line63; omega
    have h2 : -2 ^ 63 ≤ x := by omega
    unfold Builtin.List.listFitsIndex
    rw [decide_eq_true h1, decide_eq_true h2]
    decide
  have hsz : its.toArray.size ≤ sizeLine := by rw [List.size_toArray]; omega
  have M := PySem.AutoListH.list_insert_list_int_val_1 l its.toArray n x t u hfit hsz
  refine call_meets F.slot_list_insert ⟨_, e, rfl⟩ F.entry_list_insert (F.args_list_insert_3 _ _ _) M ⟨e, ?_⟩
  refine ⟨.non, _, I.lset (its' := its.take k ++ u :: its.drop k) hH e ?_ ((r.take k).append (.cons ru (r.drop k))) ?_, rfl, q⟩
  · have h0 : ¬ (x < 0) := by omega
    have h1 : min x.toNat its.length = k := by omega
    simp [h0, h1]
    exact List.take_of_length_le (by rw [List.length_drop]; omega)
  · rw [List.length_append, List.length_cons, List.length_take, List.length_drop]
    omega
/-! ### f-strings: only that a text comes out -/
abbrev TJ := St → Hp → (Hp → Prop) → Prop
def PJ (X : Cx) (es : List Expr) (m : Nat) (t : TJ) : Prop := ∀ (pins : List (Addr × Obj)) (s : Shared) (σ : St) (H : Hp) (R : Hp → Prop) (acc : Str), Inv X pins σ H s → t σ H R → acc.length + m ≤ sizeLine →
  Joins (model X.prog X.w) X.A X.xe (evalEach es X.env) acc (fun out s1 => out.length ≤ sizeLine ∧ ∃ H1, Inv X pins σ H1 s1 ∧ R H1) s
theorem joins_mono {M : Model} {A : Around} {E : Value → Shared → Prop} : ∀ {l : List (Sem Value)} {acc : Str} {Q Q' : Str → Shared → Prop} {s : Shared}, Joins M A E l acc Q s → (∀ out s1, Q out s1 → Q' out s1) → Joins M A E l acc Q' s
  | [], _, _, _, _, h, k => k _ _ h
  | x :: rest, acc, Q, Q', s, h, k => thn (show wpAny M A x _ E s from h) fun v s1 ⟨y, t, e, hz, hr⟩ => ⟨y, t, e, hz, joins_mono hr k⟩
theorem pj_nil : PJ X [] 0 (fun _ H R => R H) := fun pins s σ H R acc I h hz => ⟨by omega, H, I, h⟩
theorem pj_str {x : Str} {j : Nat} {pos : Pos} {es : List Expr} {m : Nat} {t : TJ} (k : PJ X es m t) (he : evalEach (.Constant (.str x) j pos :: es) X.env = eval (.Constant (.str x) j pos) X.env :: evalEach es X.env := by rfl) : PJ X (.Constant (.str x) j pos :: es) (x.length + m) t := by
  intro pins s σ H R acc I h hz
  rw [he]
  exact PySem.Calls.Constant_str ⟨x, _, rfl, by rw [strLen_append]; omega, k pins _ σ H R _ (I.tok _) h (by rw [strLen_append]; omega)⟩
/-- {e}, e a whole number -/
theorem pj_int {e : Expr} {te : TE} {pos : Pos} {es : List Expr} {m : Nat} {t : TJ} (hp : PE X e te) (k : PJ X es m t) (he : evalEach (.FormattedValue e (-1) none pos :: es) X.env = eval (.FormattedValue e (-1) none pos) X.env :: evalEach es X.env := by rfl) :
    PJ X (.FormattedValue e (-1) none pos :: es) (1921 + m) (fun σ H R => te σ H fun v H1 => (∃ i : Int, v = .int i ∧ i.natAbs.log2 < 1920) ∧ t σ H1 R) := by
  intro pins s σ H R acc I h hz
  rw [he]
  refine FormattedValue_plain (thn (hp pins s σ H _ I h) fun u s1 ⟨v, H1, I1, r, ⟨i, e1, hi⟩, q⟩ => ?_)
  subst e1
  obtain ⟨tk, rfl⟩ := r
  refine formatField_int_small hi ⟨_, _, rfl, ?_, k pins _ σ H1 R _ (I1.tok _) q ?_⟩
  · have := int_text_len_1921 hi
    rw [strLen_append]; omega
  · have := int_text_len_1921 hi
    rw [strLen_append]; omega
/-- {e!r}, e a text -/
theorem pj_repr {e : Expr} {te : TE} {pos : Pos} {es : List Expr} {m b : Nat} {t : TJ} (hp : PE X e te) (k : PJ X es m t) (he : evalEach (.FormattedValue e 114 none pos :: es) X.env = eval (.FormattedValue e 114 none pos) X.env :: evalEach es X.env := by rfl) :
    PJ X (.FormattedValue e 114 none pos :: es) (b + m) (fun σ H R => te σ H fun v H1 => (∃ z : Str, v = .str z ∧ (reprText z).length ≤ b) ∧ t σ H1 R) := by
  intro pins s σ H R acc I h hz
  rw [he]
  refine wpAny_FormattedValue_repr (thn (hp pins s σ H _ I h) fun u s1 ⟨v, H1, I1, r, ⟨z, e1, hi⟩, q⟩ => ?_)
  subst e1
  obtain ⟨tk, rfl⟩ := r
  have hzz : (reprText z).length ≤ sizeLine := by omega
  refine wpAny_pyReprObj_gives (typeIs_str _ _ _) PySem.F.slot_str_repr PySem.F.entry_str_repr (PySem.F.args_str_repr_1 _) (gives_str_repr z tk) ?_ rfl hzz
  refine formatField_str (fun t' tk' => ⟨_, _, rfl, ?_, k pins _ σ H1 R _ (I1.tok _) q ?_⟩) hzz
  · rw [strLen_append]; omega
  · rw [strLen_append]; omega
theorem pe_fstr {e1 e2 : Expr} {es : List Expr} {pos : Pos} {m : Nat} {t : TJ} (k : PJ X (e1 :: e2 :: es) m t) (hm : m ≤ sizeLine) : PE X (.JoinedStr (e1 :: e2 :: es) pos) (fun σ H Q => t σ H fun H1 => ∀ z : Str, Q (.str z) H1) := by
  intro pins s σ H Q I h
  refine wpAny_JoinedStr ?_
  have hj := k pins s σ H _ Str.empty I h (by show Str.empty.length + m ≤ _; rw [show Str.empty.length = 0 from rfl]; omega)
  exact joins_mono hj fun out s1 ⟨hz, H1, I1, q⟩ => ⟨hz, .str out, H1, I1.tok _, ⟨_, rfl⟩, q out⟩
end
end L2
set_option Elab.async false
set_option linter.all false
set_option maxRecDepth 100000
set_option maxHeartbeats 4000000
namespace L2
open PySem PySem.Spec PyProof.Rows
section
variable {X : Cx}
/-- isinstance(x, (A, B)): x a list or a tuple -/
theorem call_isiT : CallR X (.builtin "isinstance") (fun xs H Q => ∃ a p cs t b, xs = [.ref a, .ref p] ∧ ((∃ ys, H a = some (.lst ys) ∧ t = Value.type "list") ∨ ∃ ys, H a = some (.tup ys) ∧ t = Value.type "tuple") ∧ H p = some (.tup cs) ∧
    (∀ us, Vals cs us → PySem.W.kitAny X.K t us = some b) ∧ Q (.bl b) H) := by
  intro pins s σ H xs us Q I r h
  obtain ⟨a, p, cs, t, b, rfl, ty, hp, hk, q⟩ := h
  obtain ⟨u, u', rfl, rx, rc⟩ := vals2 r
  cases rx
  cases rc
  obtain ⟨_, its, rv, ⟨cls, dd, data, sl⟩, ho, hc, n, hd⟩ := (show ObjOk X.prog X.w H s.heap p (.tup cs) from I.hok p _ hp)
  simp only at hc hd
  subst hc hd
  rcases ty with ⟨ys, ha, rfl⟩ | ⟨ys, ha, rfl⟩
  · obtain ⟨_, its2, n2, _, h1⟩ := (show ObjOk X.prog X.w H s.heap a (.lst ys) from I.hok a _ ha)
    exact PySem.W.kia_tup PySem.W.kitx_list I.kIn ⟨_, h1, rfl⟩ ho (hk _ rv) (fun z => nomatch z) fun tk => ⟨.bl b, H, I.tok tk, rfl, q⟩
  · obtain ⟨_, its2, _, o2, h1, h2, _⟩ := (show ObjOk X.prog X.w H s.heap a (.tup ys) from I.hok a _ ha)
    exact PySem.W.kia_tup PySem.W.kitx_tuple I.kIn ⟨_, h1, h2⟩ ho (hk _ rv) (fun z => nomatch z) fun tk => ⟨.bl b, H, I.tok tk, rfl, q⟩
end

/-! ### the head, where defs make lambdas: the tables of their code objects are tracked -/
def OnlyT (tabs : List (Addr × Addr)) (H : Hp) : Prop := (∀ b, H b = none ∨ (∃ o xs, H b = some (.frz o (.lst xs))) ∨ (b ∈ tabs.map (·.2) ∧ H b = some (.tbl #[]))) ∧ ∀ t ∈ tabs, H t.2 = some (.tbl #[])
theorem OnlyT.tab {tabs : List (Addr × Addr)} {H : Hp} (h : OnlyT tabs H) {t : Addr × Addr} (ht : t ∈ tabs) (q : Str) : TabOk H t.2 q := ⟨#[], h.2 t ht, trivial, fun pos cv z => by cases z⟩
theorem law_callT {P : Program} {w : World} {K : PySem.W.Frag} {mg mb : Str → Option Value} {CX : CXT} {k : Nat} {fa a : Addr} {fd : FuncData} {x : Str} {sp : Sp} {s₁ : Shared} {vs : List Value} {ns : List Int} {tabs : List (Addr × Addr)}
    (KX : K.In s₁.heap) (hns : s₁.heap.Ns mainGlobals mg) (hb : s₁.heap.Ns builtinsNs mb) (hbb : ∀ x : Str, x ≠ "__name__" → mb x = bootBuiltins x) (hlim : s₁.heap.NoLimit) (hg : s₁.gens = #[])
    (ha : s₁.heap.get? a = some { cls := .type "list", data := .seq vs.toArray }) (hi : IntsAre vs ns) (hl : ns.length ≤ sizeLine) (hr : Room k callerA)
    (hT : PySem.W.TabsAt tabs s₁.heap) (hK : PySem.W.noTabs K = true) (hbm : ∃ bm ob, mg "__builtins__" = some (.ref bm) ∧ bm ≠ builtinsNs ∧ s₁.heap.get? bm = some ob ∧ ob.cls = .type "module" ∧ ob.dict = some builtinsNs ∧ ob.data = .plain)
    (F : ∀ base : Heap, K.In base → base.Ns mainGlobals mg → (∀ t ∈ tabs, LamTop base mg t.1 t.2) → FnOk P w K mg base CX k fa fd [x] sp) (hbind : ∀ (s : Shared) (u : Value), BindsTo s fd ⟨[u], []⟩ [(x, u)])
    (hsp : ∀ H : Hp, OnlyT tabs H → SqL K H a (ns.map V.int) → sp [.ref a] H (fun v _ => v = .bl true) fun _ _ _ => False)
    (hCX : ∀ H e s', CX [] H s₁ (fun _ _ _ => False) e s' → False) :
    codeAny (model P w) callerA (.call (.ref fa) ⟨[.ref a], []⟩) (fun r s' => r = .ok (.ret (.bool true)) ∧ OldK s₁.heap s'.heap ∧ s'.os = s₁.os ∧ AllBare s'.gens) s₁ := by
  have rv := vals_ints hi
  have lenV := hi.length
  have aT : a ∉ tabs.map (·.2) := fun hm => by
    obtain ⟨t, ht, e⟩ := List.mem_map.mp hm
    have := (hT t ht).2
    rw [e, ha] at this; cases this
  have core : ∀ H : Hp, OnlyT tabs H → SqL K H a (ns.map V.int) → HOk P w H s₁.heap → (∀ b, H b ≠ none → b = a ∨ b ∈ tabs.map (·.2)) → (H a ≠ none → K.lookup a = none) →
      codeAny (model P w) callerA (.call (.ref fa) ⟨[.ref a], []⟩) (fun r s' => r = .ok (.ret (.bool true)) ∧ OldK s₁.heap s'.heap ∧ s'.os = s₁.os ∧ AllBare s'.gens) s₁ := by
    intro H hO hS hok hA hKa
    have base_of : ∀ {b : Addr} {o : Obj}, s₁.heap.get? b = some o → H b = none → (hidT s₁.heap H).get? b = some o := fun e n => hidT_get e n
    have tabObj_at : ∀ b, b ∈ tabs.map (·.2) → s₁.heap.get? b = some (PySem.W.tabObj #[]) := fun b hm => by
      obtain ⟨t, ht, e⟩ := List.mem_map.mp hm
      rw [← e]; exact (hT t ht).2
    have free_of : ∀ {b : Addr} {o : Obj}, s₁.heap.get? b = some o → o ≠ PySem.W.tabObj #[] → b ≠ a → H b = none := fun {b o} e n1 n2 => by
      cases q : H b with
      | none => rfl
      | some u =>
        rcases hA b (by rw [q]; simp) with z | z
        · exact (n2 z).elim
        · have := tabObj_at b z
          rw [e] at this
          exact (n1 (Option.some.inj this)).elim
    have noA : ∀ {b : Addr} {o : Obj} {es : Array DictEntry} {ep : Nat}, s₁.heap.get? b = some o → o.data = .dict es ep → H b = none := fun {b o es ep} e d =>
      free_of e (fun z => by rw [z] at d; cases d) fun z => by
        rw [z, ha] at e; cases e
        have d' : Data.seq vs.toArray _ = Data.dict es ep := d
        cases d'
    have nsK : ∀ {b : Addr} {m : Str → Option Value}, s₁.heap.Ns b m → (hidT s₁.heap H).Ns b m := fun {b m} ⟨o, es, ep, e, d, r⟩ => ⟨o, es, ep, base_of e (noA e d), d, r⟩
    have hKb : K.In (hidT s₁.heap H) := fun b o e => base_of (KX b o e) (by
      cases q : H b with
      | none => rfl
      | some u =>
        rcases hA b (by rw [q]; simp) with z | z
        · subst z
          rw [hKa (by rw [q]; simp)] at e; cases e
        · have e1 := KX b o e
          rw [tabObj_at b z] at e1
          have h2 := List.all_eq_true.mp hK (b, o) (PySem.W.mem_of_lookupK e)
          have e2 := Option.some.inj e1
          subst e2
          exact absurd (show false = true from h2) Bool.false_ne_true)
    have hM : Mod K mg (hidT s₁.heap H) := ⟨hKb, nsK hns, ⟨mb, nsK hb, hbb⟩, let ⟨mc, h1, h2⟩ := hlim; ⟨mc, nsK h1, h2⟩⟩
    have e0 : Env0 P w K mg (hidT s₁.heap H) callerA [] s₁ H := ⟨rfl, hM, fun b o e => of_hidT e, Nat.le_of_eq (hidT_size _ _), trivial, fun b hb => absurd (show b ∈ ([] : List Addr) from hb) (by simp), hok, .of_eq hg⟩
    have LT : ∀ t ∈ tabs, LamTop (hidT s₁.heap H) mg t.1 t.2 := fun t ht => by
      obtain ⟨⟨oc, ws, file, tf, flags, tg, inF, text, tt, c1, c2, c3⟩, hPt⟩ := hT t ht
      have nc : H t.1 = none := free_of c1 (fun z => by rw [z] at c2; cases c2) (fun z => by rw [z, ha] at c1; cases c1; injection (show Value.type "list" = Value.type "code" from c2) with z1; exact absurd z1 (by decide))
      obtain ⟨bm, ob, b1, b2, b3, b4, b5, b6⟩ := hbm
      have nb : H bm = none := free_of b3 (fun z => by rw [z] at b4; cases b4) (fun z => by rw [z, ha] at b3; cases b3; injection (show Value.type "list" = Value.type "module" from b4) with z1; exact absurd z1 (by decide))
      obtain ⟨og, eg, epg, g1, g2, _⟩ := id hns
      refine ⟨⟨oc, ws, file, tf, flags, tg, inF, text, tt, base_of c1 nc, c2, c3⟩, ⟨bm, ob, b1, b2, ?_, ?_, base_of b3 nb, b4, b5, b6⟩, ?_⟩
      · intro z; rw [z, g1] at b3; cases b3; rw [g2] at b6; cases b6
      · intro z; rw [z, hPt] at b3; cases b3; cases b4
      · intro z; rw [z, hPt] at g1; cases g1; cases g2
    refine codeAny_mono ((F _ hKb (nsK hns) LT).run callerA [] s₁ H ⟨[.ref a], []⟩ [.ref a] [.ref a] _ _ hr e0 (hbind s₁ (.ref a)) (.cons rfl .nil) (hsp H hO hS)) fun r s' h => ?_
    cases r with
    | error e => exact (hCX H e s' h).elim
    | ok fl =>
      cases fl with
      | next => exact False.elim h
      | brk => exact False.elim h
      | cont => exact False.elim h
      | ret u =>
        obtain ⟨v, H', os, bare, un, hok', r', q⟩ := h
        have q' : v = .bl true := q
        subst q'
        obtain rfl : u = Value.bool true := r'
        have main : ∀ b o, s₁.heap.get? b = some o → asItWas s₁.heap s'.heap b o := fun b o e => by
          rcases hO.1 b with z | ⟨ob, xs, z⟩ | ⟨hm, z⟩
          · exact .inl (un.keep b o e z (by intro z; exact absurd (show b ∈ ([] : List Addr) from z) (by simp)) (by simp))
          · have z2 := un.frzs b ob _ z
            obtain ⟨e1, _⟩ := hok b _ z
            obtain ⟨e2, _⟩ := hok' b _ z2
            rw [e] at e1; cases e1
            exact .inl e2
          · obtain ⟨more, z2⟩ := un.tbls b _ z
            have e2 : s'.heap.get? b = some (PySem.W.tabObj (#[] ++ more)) := hok' b _ z2
            have e3 := tabObj_at b hm
            rw [e] at e3; cases e3
            obtain ⟨t, ht, et⟩ := List.mem_map.mp hm
            have hc : isCodeTable s₁.heap b := by rw [← et]; exact ((hT t ht).1.tab (hT t ht).2).isCodeTable
            exact .inr (.inl ⟨hc, rfl, #[], more, rfl, e2⟩)
        exact ⟨rfl, ⟨main, fun b o e => un.there b o e (by simp)⟩, os, bare⟩
  have scr : ∀ H : Hp, (∀ b, H b = none ∨ ∃ o xs, H b = some (.frz o (.lst xs))) → SqL K H a (ns.map V.int) → HOk P w H s₁.heap → (∀ b, H b ≠ none → b = a) → (H a ≠ none → K.lookup a = none) →
      codeAny (model P w) callerA (.call (.ref fa) ⟨[.ref a], []⟩) (fun r s' => r = .ok (.ret (.bool true)) ∧ OldK s₁.heap s'.heap ∧ s'.os = s₁.os ∧ AllBare s'.gens) s₁ := by
    intro H hO hS hok hA hKa
    have inn : ∀ b, b ∈ tabs.map (·.2) → H b = none := fun b hm => by
      cases q : H b with
      | none => rfl
      | some u => exact absurd (hA b (by rw [q]; simp) ▸ hm) aT
    refine core (fun b => if b ∈ tabs.map (·.2) then some (.tbl #[]) else H b) ⟨fun b => ?_, fun t ht => if_pos (List.mem_map.mpr ⟨t, ht, rfl⟩)⟩ ?_ (fun b u z => ?_) (fun b z => ?_) fun z => ?_
    · by_cases hm : b ∈ tabs.map (·.2)
      · exact .inr (.inr ⟨hm, if_pos hm⟩)
      · rcases hO b with z | z
        · exact .inl ((if_neg hm).trans z)
        · obtain ⟨o, xs, z⟩ := z
          exact .inr (.inl ⟨o, xs, (if_neg hm).trans z⟩)
    · rcases hS with (hS | ⟨o, hS⟩) | hS
      · exact .inl (.inl ((if_neg aT).trans hS))
      · exact .inl (.inr ⟨o, (if_neg aT).trans hS⟩)
      · exact .inr hS
    · by_cases hm : b ∈ tabs.map (·.2)
      · have z' := (if_pos hm).symm.trans z
        cases z'
        obtain ⟨t, ht, e⟩ := List.mem_map.mp hm
        show s₁.heap.get? b = some _
        rw [← e]; exact (hT t ht).2
      · have z' := (if_neg hm).symm.trans z
        refine (hok b u z').stay (fun _ _ _ q => q) (fun c q => ?_) fun c xs q => ?_
        · by_cases hc : c ∈ tabs.map (·.2)
          · rw [inn c hc] at q; cases q
          · exact (if_neg hc).trans q
        · by_cases hc : c ∈ tabs.map (·.2)
          · rw [inn c hc] at q; cases q
          · exact (if_neg hc).trans q
    · by_cases hm : b ∈ tabs.map (·.2)
      · exact .inr hm
      · exact .inl (hA b fun n => z ((if_neg hm).trans n))
    · exact hKa fun n => z ((if_neg aT).trans n)
  cases hk : K.lookup a with
  | some o =>
    have e := KX a o hk
    rw [ha] at e
    cases e
    refine scr (fun _ => none) (fun _ => .inl rfl) (.inr ⟨_, vs.toArray, _, hk, rfl, rfl, rfl, by rw [List.size_toArray, lenV]; exact hl, by simpa using rv⟩) (fun b u z => by have z' : (none : Option HO) = some u := z; cases z') (fun b z => absurd rfl z) fun z => absurd rfl z
  | none =>
    refine scr (fun b => if b = a then some (.frz { cls := .type "list", data := .seq vs.toArray } (.lst (ns.map V.int))) else none) (fun b => ?_) (.inl (.inr ⟨{ cls := .type "list", data := .seq vs.toArray }, if_pos rfl⟩)) (fun b u z => ?_) (fun b z => ?_) fun _ => hk
    · by_cases hb : b = a
      · exact .inr ⟨_, _, if_pos hb⟩
      · exact .inl (if_neg hb)
    · by_cases hb : b = a
      · have z' := (if_pos hb).symm.trans z
        cases z'
        subst hb
        exact ⟨ha, by rw [List.length_map]; exact hl, vs, _, rv, ha⟩
      · have z' := (if_neg hb).symm.trans z
        cases z'
    · by_cases hb : b = a
      · exact hb
      · exact absurd (if_neg hb) z
theorem tab_mk {K : PySem.W.Frag} {x : Str} {f c P : Addr} {oc kc : Value} {od kd : Option Addr} {fd : FuncData} {sl ks : Array (Option Value)} {vs : Array Value} (h1 : PySem.W.nsIn K mainGlobals x = some (some (.ref f))) (h2 : K.lookup f = some ⟨oc, od, .func fd, sl⟩) (h3 : fd.code = .ref c)
    (h4 : K.lookup c = some ⟨kc, kd, .fields vs, ks⟩) (h5 : (vs[11]? : Option Value) = some (.ref P)) : PySem.W.tabIn K x = some (c, P) := by
  unfold PySem.W.tabIn
  rw [h1]
  simp only [h2, h3, h4, h5]
/-- the goal that k_head leaves, where the defs of the list ts (name, code, table) make lambdas -/
theorem walk_ofT {l : PySem.W.OpenLaw} {n k : Nat} {q : Program} {loose : List Str} {XP : (Str → Option Value) → Heap → Prop} {YP : World → Heap → Prop} {d : DefRec} {K : Params → PySem.W.Frag} {CX : World → CXT} {sp : World → List (Addr × Addr) → Sp} {x : Str}
    (hn : l.most = some n) (hn2 : n ≤ sizeLine) (hdf : d.params.defaults = []) (hr : Room k callerA)
    (hY : ∀ (w : World) (h : Heap), YP w h → (K w.params).In h) (hK : ∀ w : World, PySem.W.noTabs (K w.params) = true)
    (F : ∀ (w : World) (mg : Str → Option Value) (fa : Addr) (h : Heap), (K w.params).In h → h.Ns mainGlobals mg → mg d.name = some (.ref fa) →
      ∃ (fd : FuncData) (ts : List (Str × Addr × Addr)), (∀ t ∈ ts, PySem.W.tabIn (K w.params) t.1 = some t.2 ∧ ∃ e, (recsOf q).find? (fun e => e.name == t.1) = some e) ∧ (∀ (s : Shared) (u : Value), BindsTo s fd ⟨[u], []⟩ [(x, u)]) ∧
        ∀ base : Heap, (K w.params).In base → base.Ns mainGlobals mg → (∀ t ∈ ts.map (·.2), LamTop base mg t.1 t.2) → FnOk l.prog w (K w.params) mg base (CX w) k fa fd [x] (sp w (ts.map (·.2))))
    (hsp : ∀ (w : World) (H : Hp) (a : Addr) (ns : List Int) (ts : List (Addr × Addr)), ns.length ≤ n → OnlyT ts H → SqL (K w.params) H a (ns.map V.int) → sp w ts [.ref a] H (fun v _ => v = .bl true) fun _ _ _ => False)
    (hCX : ∀ (w : World) (H : Hp) (s : Shared) (e : Value) (s' : Shared), CX w [] H s (fun _ _ _ => False) e s' → False) :
    PySem.W.WalkO q loose XP YP l.row.toRowW d [] (fun f vs => PySem.call f vs) := by
  refine Att.attach_call hn hdf fun w s₀ s₁ mg mb fa o pm cd doc a vs ns G Y ho hd hcd hmg hobj hints hlen hg => ?_
  have KX := hY w _ Y
  obtain ⟨fd, ts, hts, hb, hF⟩ := F w mg fa _ KX G.T.g hmg
  have hT : PySem.W.TabsAt (ts.map (·.2)) s₁.heap := fun t ht => by
    obtain ⟨t0, ht0, rfl⟩ := List.mem_map.mp ht
    obtain ⟨h1, e, h2⟩ := hts t0 ht0
    exact PySem.W.tab_of G.T KX h2 h1
  obtain ⟨bm, ob, b1, b2, b3, b4, b5, b6⟩ := G.T.bmain
  exact law_callT KX G.T.g G.T.b G.T.builtins G.T.nolimit hg hobj hints (Nat.le_trans hlen hn2) hr hT (hK w) ⟨bm, ob, b1, b2, b3, b4, b5, b6⟩ hF hb (fun H hO hS => hsp w H a ns _ hlen hO hS) fun H e s' => hCX w H s₁ e s'
end L2
set_option Elab.async false
set_option linter.all false
set_option maxRecDepth 100000
set_option maxHeartbeats 4000000
namespace L2
open PySem PySem.Spec PyProof.Rows
/-! ### a def of the text, with its promise, its name and its binding in one -/
structure Fn (P : Program) (w : World) (K : PySem.W.Frag) (mg : Str → Option Value) (base : Heap) (k : Nat) (x : Str) (ps : List Str) (sp : Sp) : Prop where
  ok : ∃ f fd, FnOk P w K mg base (CXe P w) k f fd ps sp ∧ Binds K fd ps [] ∧ mg x = some (.ref f) ∧ PySem.W.keepIn K (.ref f) = true
structure Mt (P : Program) (w : World) (K : PySem.W.Frag) (mg : Str → Option Value) (base : Heap) (k : Nat) (C : Addr) (m : Str) (ps : List Str) (sp : Sp) : Prop where
  ok : ∃ f fd, FnOk P w K mg base (CXe P w) k f fd ps sp ∧ Binds K fd ps [] ∧ Meth K C m f
theorem Fn.mono {P : Program} {w : World} {K : PySem.W.Frag} {mg : Str → Option Value} {base : Heap} {j k : Nat} {x : Str} {ps : List Str} {sp : Sp} (F : Fn P w K mg base j x ps sp) (h : j ≤ k) : Fn P w K mg base k x ps sp := by
  obtain ⟨f, fd, F1, r⟩ := F.ok
  exact ⟨f, fd, F1.mono h, r⟩
theorem Mt.mono {P : Program} {w : World} {K : PySem.W.Frag} {mg : Str → Option Value} {base : Heap} {j k : Nat} {C : Addr} {x : Str} {ps : List Str} {sp : Sp} (F : Mt P w K mg base j C x ps sp) (h : j ≤ k) : Mt P w K mg base k C x ps sp := by
  obtain ⟨f, fd, F1, r⟩ := F.ok
  exact ⟨f, fd, F1.mono h, r⟩
section
variable {X : Cx} {k : Nat} {x m : Str} {C : Addr} {ps : List Str} {sp : Sp} {E : XK} {p pos apos : Pos} {e o : Expr} {es : List Expr} {t : TA} {ta : TE}
theorem pcall (F : Fn X.prog X.w X.K X.mg X.base k x ps sp) (hr : Room k X.A) (hg : Gl X x) (hx : Passes (CXe X.prog X.w) X E)
    (ha : PA X (e :: es) t) (hdb : (x == ("__debug__" : Str)) = false := by decide) (he : starEach (e :: es) X.env = (false, eval e X.env) :: starEach es X.env := by rfl) (hpl : (backTo pos (starEach es X.env)).any (·.1) = false := by rfl) :
    PE X (.Call (.Name x p) (e :: es) [] pos) (tCall sp [] E t) := by
  obtain ⟨f, fd, F1, b, hm, hk⟩ := F.ok
  exact pe_call F1 hr hg hm hk b .nil hx ha hdb he hpl
theorem pmeth {pl : Sem Bool} (he : PE X o ta) (c : Cls X.K C) (F : Mt X.prog X.w X.K X.mg X.base k C m ps sp) (hr : Room k X.A) (hx : Passes (CXe X.prog X.w) X E) (ha : PA X (e :: es) t)
    (hst : starEach (e :: es) X.env = (false, eval e X.env) :: starEach es X.env := by rfl) (hpl : (backTo pos (starEach es X.env)).any (·.1) = false := by rfl)
    (ht : eval (.Call (.Attribute o m apos) (e :: es) [] pos) X.env = (do
      let ov ← eval o X.env
      standAt apos.atName
      let (f, first) ← holding [ov] (getMethod ov m pl)
      callWith pos f first (backTo pos (starEach (e :: es) X.env)) (backToKw pos (keywordEach [] X.env))) := by rfl) :
    PE X (.Call (.Attribute o m apos) (e :: es) [] pos) (tMeth C m sp [] E ta t) := by
  obtain ⟨f, fd, F1, b, hm⟩ := F.ok
  exact pe_meth (pl := pl) he c hm F1 hr b .nil hx ha hst hpl ht
theorem pmeth0 {pl : Sem Bool} (he : PE X o ta) (c : Cls X.K C) (F : Mt X.prog X.w X.K X.mg X.base k C m ps sp) (hr : Room k X.A) (hx : Passes (CXe X.prog X.w) X E)
    (ht : eval (.Call (.Attribute o m apos) [] [] pos) X.env = (do
      let ov ← eval o X.env
      standAt apos.atName
      let (f, first) ← holding [ov] (getMethod ov m pl)
      callWith pos f first (backTo pos (starEach [] X.env)) (backToKw pos (keywordEach [] X.env))) := by rfl) :
    PE X (.Call (.Attribute o m apos) [] [] pos) (tMeth C m sp [] E ta tNil) := by
  obtain ⟨f, fd, F1, b, hm⟩ := F.ok
  exact pe_meth0 (pl := pl) he c hm F1 hr b .nil hx ht
end
/-- what the top has written of a def: its object, its code, how it binds -/
structure Top1 (K : PySem.W.Frag) (x qual : Str) (st : Stmt) (f : Addr) (ps : List Str) : Prop where
  ok : ∃ fd, Fun K x qual st f fd ∧ Binds K fd ps []
section
variable {P : Program} {w : World} {K : PySem.W.Frag} {mg : Str → Option Value} {base : Heap}
theorem Top1.okE {x qual : Str} {st : Stmt} {f : Addr} {N ps : List Str} {k : Nat} {sp : Sp} (F : Top1 K x qual st f ps) (S : FnScope N ps (defScope st)) (len : ∀ vs H Q E, sp vs H Q E → vs.length = ps.length)
    (hbody : ∀ (cdv : Value) (A : Around) (outer : List Env) (s : Shared) (H : Hp) (vs : List V) (Q : VK) (E : XK), Room k (A.deeper (envOfC qual (defScope st) s.heap.objs.size f cdv)) → sp vs H Q E →
      ∃ t, PSs (cxOf (CXe P w) P w K mg base N qual (defScope st) f cdv A outer s H E) (defBody st) t ∧ t { nx := fun _ H' => Q .non H', rt := Q } (start N vs) H) : ∃ fd, FnOk P w K mg base (CXe P w) (k + 1) f fd ps sp ∧ Binds K fd ps [] := by
  obtain ⟨fd, F1, b⟩ := F.ok
  obtain ⟨oc, od, kV, doc, pm, an, cdv, ct, osl, rfl, lk, hcd⟩ := F1.ex
  exact ⟨_, fn_of lk hcd S len fun A outer s H vs Q E hr hsp => hbody cdv A outer s H vs Q E hr hsp, b⟩
theorem Top1.okN {x qual : Str} {st : Stmt} {f : Addr} {N ps : List Str} {k : Nat} {sp : Sp} (F : Top1 K x qual st f ps) (S : FnScope N ps (defScope st)) (len : ∀ vs H Q E, sp vs H Q E → vs.length = ps.length)
    (hbody : ∀ (cdv : Value) (A : Around) (outer : List Env) (s : Shared) (H : Hp) (vs : List V) (Q : VK) (E : XK), Room k (A.deeper (envOfC qual (defScope st) s.heap.objs.size f cdv)) → sp vs H Q E →
      ∃ t, PSs (cxOf (CXe P w) P w K mg base N qual (defScope st) f cdv A outer s H E).nox (defBody st) t ∧ t { nx := fun _ H' => Q .non H', rt := Q } (start N vs) H) : ∃ fd, FnOk P w K mg base (CXe P w) (k + 1) f fd ps sp ∧ Binds K fd ps [] :=
  F.okE S len fun cdv A outer s H vs Q E hr hsp => by
    obtain ⟨t, h, q⟩ := hbody cdv A outer s H vs Q E hr hsp
    exact ⟨t, h.nox, q⟩
end
/-- tracked things outside S stand as they stood -/
def Ext (S : List Addr) (H H' : Hp) : Prop := ∀ b o, H b = some o → b ∉ S → H' b = some o
theorem Ext.refl (S : List Addr) (H : Hp) : Ext S H H := fun _ _ h _ => h
theorem Ext.trans {S S' : List Addr} {H H1 H2 : Hp} (a : Ext S H H1) (b : Ext S' H1 H2) : Ext (S ++ S') H H2 := fun c o h hc => b c o (a c o h fun z => hc (List.mem_append_left _ z)) fun z => hc (List.mem_append_right _ z)
theorem Ext.tr {S : List Addr} {H H1 H2 : Hp} (a : Ext S H H1) (b : Ext S H1 H2) : Ext S H H2 := fun c o h hc => b c o (a c o h hc) hc
theorem Ext.mono {S S' : List Addr} {H H1 : Hp} (a : Ext S H H1) (h : ∀ b ∈ S, b ∈ S') : Ext S' H H1 := fun c o e hc => a c o e fun z => hc (h c z)
theorem Ext.new {S : List Addr} {H : Hp} {p : Addr} {o : HO} (h : H p = none) : Ext S H (upd H p o) := fun b u e _ => by rw [upd_ne (ne_of_none e h)]; exact e
theorem Ext.put {S : List Addr} {H : Hp} {p : Addr} {o : HO} (h : p ∈ S) : Ext S H (upd H p o) := fun b u e hb => by rw [upd_ne (show b ≠ p from fun z => hb (by rw [z]; exact h))]; exact e
theorem Ext.same {H H' : Hp} (h : Ext [] H H') : Same H H' := fun b o e => h b o e (by simp)
theorem Same.ext {H H' : Hp} (h : Same H H') (S : List Addr) : Ext S H H' := fun b o e _ => h b o e
theorem Ext.at {S : List Addr} {H H' : Hp} (h : Ext S H H') {b : Addr} {o : HO} (e : H b = some o) (hb : b ∉ S) : H' b = some o := h b o e hb
theorem Ext.seq {S : List Addr} {K : PySem.W.Frag} {H H' : Hp} {a : Addr} {xs : List V} (e : Ext S H H') (h : SqL K H a xs) (ha : a ∉ S) : SqL K H' a xs := by
  rcases h with (h | ⟨o, h⟩) | h
  · exact .inl (.inl (e _ _ h ha))
  · exact .inl (.inr ⟨o, e _ _ h ha⟩)
  · exact .inr h
theorem Ext.none {S : List Addr} {H H' : Hp} (h : Ext S H H') {p : Addr} (hp : H' p = Option.none) : H p = Option.none ∨ p ∈ S := by
  by_cases hs : p ∈ S
  · exact .inr hs
  · cases q : H p with
    | none => exact .inl rfl
    | some o => rw [h p o q hs] at hp; cases hp
end L2
namespace Ho
open PySem L2
def top (i : Nat) : Stmt := PySem.Challenge.pw_insidecount_k05_whole_two_worlds.main.body.getD i (.Pass ⟨0, 0, 0, 0⟩)
abbrev s_wants : Stmt := top 9
abbrev s_fault : Stmt := top 10
abbrev s_stand : Stmt := top 11
abbrev s_wwants : Stmt := top 14
abbrev s_wsound : Stmt := top 15
abbrev s_inside : Stmt := top 16
abbrev s_two : Stmt := top 17
abbrev s_check_badge : Stmt := top 18
abbrev s_check_moment : Stmt := top 19
abbrev s_check_sound : Stmt := top 20
abbrev s_stories_through : Stmt := top 21
abbrev s_price_left : Stmt := top 22
abbrev s_steps_of : Stmt := top 23
abbrev s_steps_in : Stmt := top 24
abbrev s_steps_through : Stmt := top 25
abbrev s_rests_of : Stmt := top 26
abbrev s_rest_from : Stmt := top 27
abbrev s_first_stories : Stmt := top 28
abbrev s_longer_ones : Stmt := top 29
abbrev s_init : Stmt := inClass (top 36) 0
abbrev s_come : Stmt := inClass (top 36) 1
abbrev s_tick : Stmt := inClass (top 36) 2
abbrev s_time : Stmt := inClass (top 36) 3
abbrev s_rows : Stmt := inClass (top 36) 4
abbrev s_tf : Stmt := inClass (top 36) 6
abbrev s_rf : Stmt := inClass (top 36) 7
abbrev s_mo : Stmt := inClass (top 36) 8
abbrev s_taken : Stmt := top 38
abbrev s_alike : Stmt := top 39
abbrev s_deeds : Stmt := top 40
abbrev s_fresh : Stmt := top 41
abbrev s_do : Stmt := top 42
abbrev s_lwants : Stmt := top 43
abbrev s_lsound : Stmt := top 44
abbrev s_built : Stmt := top 45
abbrev s_price : Stmt := top 46
abbrev s_l_least : Stmt := top 47
abbrev s_l_is_story : Stmt := top 48
abbrev s_law : Stmt := top 49
/-- the names of built-ins that the text does not bind -/
structure Bl (mg : Str → Option Value) : Prop where
  b_len : mg "len" = none
  b_range : mg "range" = none
  b_sorted : mg "sorted" = none
  b_isinstance : mg "isinstance" = none
  b_int : mg "int" = none
  b_str : mg "str" = none
  b_bool : mg "bool" = none
  b_list : mg "list" = none
  b_tuple : mg "tuple" = none
  b_max : mg "max" = none
  b_min : mg "min" = none
end Ho
set_option Elab.async false
set_option linter.all false
set_option maxRecDepth 100000
set_option maxHeartbeats 4000000
namespace Ho
open PySem L2
/-- the drawing row at r over the script at a -/
def RowSt (a : Addr) (H : Hp) (r : Addr) : Prop := ∃ i x y : Int, H r = some (.lst [.ref a, .int i, .int x, .int y]) ∧ 0 ≤ i ∧ 0 ≤ x ∧ x < 2147483647 ∧ 0 ≤ y
/-- the script at a, whatever else changes -/
def Scr (K : PySem.W.Frag) (H : Hp) (a : Addr) (xs : List V) : Prop := (∀ H', SqL K H' a xs) ∨ H a = some (.lst xs) ∨ ∃ o, H a = some (.frz o (.lst xs))
theorem Scr.seq {K : PySem.W.Frag} {H : Hp} {a : Addr} {xs : List V} (h : Scr K H a xs) : SqL K H a xs := by
  rcases h with h | h | ⟨o, h⟩
  · exact h H
  · exact .inl (.inl h)
  · exact .inl (.inr ⟨o, h⟩)
theorem Scr.of {K : PySem.W.Frag} {H : Hp} {a : Addr} {xs : List V} (h : SqL K H a xs) : Scr K H a xs := by
  rcases h with (h | ⟨o, h⟩) | h
  · exact .inr (.inl h)
  · exact .inr (.inr ⟨o, h⟩)
  · exact .inl fun _ => .inr h
theorem Scr.ext {S : List Addr} {K : PySem.W.Frag} {H H' : Hp} {a : Addr} {xs : List V} (h : Scr K H a xs) (e : Ext S H H') (n : ∀ o, H a = some o → (o = .lst xs ∨ ∃ u, o = .frz u (.lst xs)) → a ∉ S) : Scr K H' a xs := by
  rcases h with h | h | ⟨o, h⟩
  · exact .inl h
  · exact .inr (.inl (e _ _ h (n _ h (.inl rfl))))
  · exact .inr (.inr ⟨o, e _ _ h (n _ h (.inr ⟨_, rfl⟩))⟩)
/-- the drawing row and its script -/
theorem Scr.same {K : PySem.W.Frag} {H H' : Hp} {a : Addr} {xs : List V} (h : Scr K H a xs) (e : Same H H') : Scr K H' a xs := h.ext (S := []) (e.ext _) (fun _ _ _ => by simp)
structure Rw (K : PySem.W.Frag) (a : Addr) (ns : List Int) (H : Hp) (r : Addr) : Prop where
  st : RowSt a H r
  sc : Scr K H a (ns.map V.int)
  ln : ns.length ≤ 1000
theorem Rw.ne {a r : Addr} {ns : List Int} {H : Hp} (h : RowSt a H r) {o : HO} (e : H a = some o) (q : o = .lst (ns.map V.int) ∨ ∃ u, o = .frz u (.lst (ns.map V.int))) : a ≠ r := fun z => by
  obtain ⟨i, x, y, h1, _⟩ := h
  rw [← z, e] at h1
  rcases q with rfl | ⟨u, rfl⟩
  · injection h1 with h1
    injection h1 with h1
    cases ns with
    | nil => cases h1
    | cons n ns => injection h1 with h1; cases h1
  · cases h1
theorem RowSt.ext {S : List Addr} {a r : Addr} {H H' : Hp} (h : RowSt a H r) (e : Ext S H H') (n : r ∉ S) : RowSt a H' r := by
  obtain ⟨i, x, y, h1, h2⟩ := h
  exact ⟨i, x, y, e _ _ h1 n, h2⟩
theorem Rw.same {K : PySem.W.Frag} {a r : Addr} {ns : List Int} {H H' : Hp} (h : Rw K a ns H r) (e : Same H H') : Rw K a ns H' r := ⟨h.st.ext (e.ext []) (by simp), h.sc.same e, h.ln⟩
theorem Rw.ext {S : List Addr} {K : PySem.W.Frag} {a r : Addr} {ns : List Int} {H H' : Hp} (h : Rw K a ns H r) (e : Ext S H H') (n : r ∉ S) (n2 : ∀ o, H a = some o → (o = .lst (ns.map V.int) ∨ ∃ u, o = .frz u (.lst (ns.map V.int))) → a ∉ S) : Rw K a ns H' r := ⟨h.st.ext e n, h.sc.ext e n2, h.ln⟩
def sp_taken (K : PySem.W.Frag) (a : Addr) (ns : List Int) : Sp := fun vs H Q _ => ∃ (r : Addr) (m : Int), vs = [.ref r, .int m] ∧ Rw K a ns H r ∧ 1 ≤ m ∧ m ≤ 1000000 ∧
  ∀ (v : Int) (H' : Hp), 0 ≤ v → v < m → Rw K a ns H' r → Ext [r] H H' → Q (.int v) H'
theorem Rw.go {K : PySem.W.Frag} {a r : Addr} {ns : List Int} {H : Hp} (R : Rw K a ns H r) {m : Int} (h1 : 1 ≤ m) (h2 : m ≤ 1000000) {Q : VK} {E : XK} (k : ∀ (v : Int) (H' : Hp), 0 ≤ v → v < m → Rw K a ns H' r → Ext [r] H H' → Q (.int v) H') :
    sp_taken K a ns [.ref r, .int m] H Q E := ⟨r, m, rfl, R, h1, h2, k⟩
section
variable {P : Program} {w : World} {K : PySem.W.Frag} {mg : Str → Option Value} {base : Heap}
theorem sc_taken : FnScope ["_law_row", "_law_many", "_law_found", "_law_cell"] ["_law_row", "_law_many"] (defScope s_taken) := ⟨rfl, rfl, rfl, by decide +kernel, rfl, by decide +kernel, by decide +kernel⟩
theorem ok_taken {k : Nat} {f : Addr} {a : Addr} {ns : List Int} (F : Top1 K "_law_taken" "_law_taken" s_taken f ["_law_row", "_law_many"]) (T : Bl mg) :
    ∃ fd, FnOk P w K mg base (CXe P w) (k + 1) f fd ["_law_row", "_law_many"] (sp_taken K a ns) ∧ Binds K fd ["_law_row", "_law_many"] [] := by
  refine F.okN sc_taken (fun vs H Q E h => ?_) (fun cdv A outer s H vs Q E hr h => ?_)
  · obtain ⟨r, m, rfl, _⟩ := h
    rfl
  · obtain ⟨r, m, rfl, ⟨⟨i, x, y, hr0, hi, hx0, hx1, hy⟩, hSc, hn⟩, hm1, hm2, kk0⟩ := h
    have kk : ∀ (v : Int) (H' : Hp), 0 ≤ v → v < m → RowSt a H' r → Ext [r] H H' → Q (.int v) H' := fun v H' g1 g2 g3 g4 => kk0 v H' g1 g2 ⟨g3, hSc.ext g4 (fun o e q => by simpa using Rw.ne ⟨i, x, y, hr0, hi, hx0, hx1, hy⟩ e q), hn⟩ g4
    have hu := hu_of hr
    have nd := sc_taken.nd
    refine ⟨_, (pss_cons (ps_if (pt_cmpR op_gt (pe_ix ix_list (pv 0) pe_int (fun _ _ => rfl)) pe_int (nomark _)) (pss_cons (ps_set (i := 2) nd rfl (Or.inl rfl) (pe_op op_mod (pe_ix ix_list (pv 0) pe_int (fun _ _ => rfl)) (pv 1)))
        (pss_cons (ps_asg (pe_op op_fdiv (pe_ix ix_list (pv 0) pe_int (fun _ _ => rfl)) (pv 1)) (pg_sub (pv 0) pe_int set_list))
        (pss_one (ps_ret (pv 2))))) pss_nil)
      (pss_cons (ps_asg (pe_op op_add (pe_ix ix_list (pv 0) pe_int (fun _ _ => rfl)) pe_int) (pg_sub (pv 0) pe_int set_list))
      (pss_cons (ps_if (pt_cmpR op_gt (pe_ix ix_list (pv 0) pe_int (fun _ _ => rfl)) (pe_callB call_len_seq (by rfl) T.b_len PySem.boot_len (pa_cons (pe_ix ix_list (pv 0) pe_int (fun _ _ => rfl)) pa_nil)) (nomark _)) (pss_cons (ps_asg (pe_op op_mod (pe_op op_add (pe_op op_mul (pe_ix ix_list (pv 0) pe_int (fun _ _ => rfl)) pe_int) pe_int) pe_int) (pg_sub (pv 0) pe_int set_list))
        (pss_one (ps_ret (pe_op op_mod (pe_op op_fdiv (pe_ix ix_list (pv 0) pe_int (fun _ _ => rfl)) pe_int) (pv 1))))) pss_nil)
      (pss_cons (ps_set (i := 3) nd rfl (Or.inl rfl) (pe_ix ix_list (pe_ix ix_list (pv 0) pe_int (fun _ _ => rfl)) (pe_op op_sub (pe_ix ix_list (pv 0) pe_int (fun _ _ => rfl)) pe_int) (fun _ _ => rfl)))
      (pss_cons (ps_asg (pe_op op_mod (pe_op op_add (pe_op op_add (pe_op op_mul (pe_ix ix_list (pv 0) pe_int (fun _ _ => rfl)) pe_int) (pv 3)) pe_int) pe_int) (pg_sub (pv 0) pe_int set_list))
      (pss_cons (ps_if (pt_cmpR op_ge (pv 3) (pe_op op_pow pe_int pe_int) (nomark _)) (pss_one (ps_asg (pe_op op_fdiv (pv 3) (pv 1)) (pg_sub (pv 0) pe_int set_list))) pss_nil)
      (pss_one (ps_ret (pe_op op_mod (pv 3) (pv 1)))))))))), ?_⟩
    -- if row[3] > 0
    refine ⟨_, rfl, r, _, 3, _, rfl, rfl, SqL.of hr0, rfl, _, _, rfl, rfl, _, rfl, ?_⟩
    refine ite2 (fun h1 => ?_) (fun h1 => ?_)
    · refine ⟨_, rfl, r, _, 3, _, rfl, rfl, SqL.of hr0, rfl, _, rfl, _, _, rfl, rfl, (by show 0 < m; omega), ?_⟩
      refine ⟨_, rfl, r, _, 3, _, rfl, rfl, SqL.of hr0, rfl, _, rfl, _, _, rfl, rfl, (show CDiv y m from ⟨by omega, by omega⟩), _, rfl, r, _, 3, 3, rfl, rfl, hr0, rfl, ?_⟩
      refine ⟨_, rfl, ?_⟩
      refine kk _ _ (Int.emod_nonneg _ (by omega)) (Int.emod_lt_of_pos _ (by omega)) ⟨i, x, y / m, upd_same, hi, hx0, hx1, Int.ediv_nonneg hy (by omega)⟩ (Ext.put (by simp))
    · -- row[1] = row[1] + 1
      refine ⟨_, rfl, r, _, 1, _, rfl, rfl, SqL.of hr0, rfl, _, _, rfl, rfl, _, rfl, r, _, 1, 1, rfl, rfl, hr0, rfl, ?_⟩
      generalize hH1 : upd H r _ = H1
      have e1 : H1 r = some (.lst [.ref a, .int (i + 1), .int x, .int y]) := by rw [← hH1]; exact upd_same
      have x1 : Ext [r] H H1 := by rw [← hH1]; exact Ext.put (by simp)
      have hS1 := (hSc.ext x1 (fun o e q => by simpa using Rw.ne ⟨i, x, y, hr0, hi, hx0, hx1, hy⟩ e q)).seq
      refine ⟨_, rfl, r, _, 1, _, rfl, rfl, SqL.of e1, rfl, _, rfl, r, _, 0, _, rfl, rfl, SqL.of e1, rfl, a, _, rfl, .inl hS1, _, _, rfl, rfl, _, rfl, ?_⟩
      rw [List.length_map]
      refine ite2 (fun h2 => ?_) (fun h2 => ?_)
      · -- row[2] = (row[2] * 48271 + 11) % 2147483647; return row[2] // 7 % many
        refine ⟨_, rfl, r, _, 2, _, rfl, rfl, SqL.of e1, rfl, _, _, rfl, rfl, .inl ⟨by omega, by omega⟩, _, _, rfl, rfl, _, _, rfl, rfl, (by show (0 : Int) < 2147483647; decide), _, rfl, r, _, 2, 2, rfl, rfl, e1, rfl, ?_⟩
        generalize hH2 : upd H1 r _ = H2
        have e2 : H2 r = some (.lst [.ref a, .int (i + 1), .int ((x * 48271 + 11) % 2147483647), .int y]) := by rw [← hH2]; exact upd_same
        have x2 : Ext [r] H1 H2 := by rw [← hH2]; exact Ext.put (by simp)
        refine ⟨_, rfl, r, _, 2, _, rfl, rfl, SqL.of e2, rfl, _, _, rfl, rfl, ⟨by decide, by decide⟩, _, rfl, _, _, rfl, rfl, (by show 0 < m; omega), ?_⟩
        exact kk _ _ (Int.emod_nonneg _ (by omega)) (Int.emod_lt_of_pos _ (by omega)) ⟨_, _, _, e2, by omega, Int.emod_nonneg _ (by decide), Int.emod_lt_of_pos _ (by decide), hy⟩ (x1.tr x2)
      · have hlt : i.toNat < ns.length := by
          have h2' : ¬ decide ((ns.length : Int) < i + 1) = true := h2
          have := of_decide_eq_false (by simpa using h2' : decide ((ns.length : Int) < i + 1) = false)
          omega
        obtain ⟨c, hc⟩ : ∃ c, ns[i.toNat]? = some c := ⟨_, List.getElem?_eq_getElem hlt⟩
        refine ⟨_, rfl, r, _, 0, _, rfl, rfl, SqL.of e1, rfl, _, rfl, r, _, 1, _, rfl, rfl, SqL.of e1, rfl, _, _, rfl, rfl, a, _, _, .int c, rfl, rfl, hS1, at_of (j := i.toNat) (by omega) (by rw [List.getElem?_map, hc]; rfl), ?_⟩
        -- row[2] = (row[2] * 48271 + cell + 11) % 2147483647
        refine ⟨_, rfl, r, _, 2, _, rfl, rfl, SqL.of e1, rfl, _, _, rfl, rfl, .inl ⟨by omega, by omega⟩, _, rfl, _, _, rfl, rfl, _, _, rfl, rfl, _, _, rfl, rfl, (by show (0 : Int) < 2147483647; decide), _, rfl, r, _, 2, 2, rfl, rfl, e1, rfl, ?_⟩
        generalize hH2 : upd H1 r _ = H2
        have e2 : H2 r = some (.lst [.ref a, .int (i + 1), .int ((x * 48271 + c + 11) % 2147483647), .int y]) := by rw [← hH2]; exact upd_same
        have x2 : Ext [r] H1 H2 := by rw [← hH2]; exact Ext.put (by simp)
        have g0 : 0 ≤ (x * 48271 + c + 11) % 2147483647 := Int.emod_nonneg _ (by decide)
        have g1 : (x * 48271 + c + 11) % 2147483647 < 2147483647 := Int.emod_lt_of_pos _ (by decide)
        generalize (x * 48271 + c + 11) % 2147483647 = z at e2 g0 g1
        -- if cell >= 10 ** 18: row[3] = cell // many; return cell % many
        refine ⟨_, rfl, _, _, rfl, rfl, ⟨by decide, by decide, by decide⟩, _, _, rfl, rfl, _, rfl, ?_⟩
        refine ite2 (fun h3 => ?_) (fun h3 => ?_)
        · have h3' : (10 : Int) ^ (18 : Int).toNat ≤ c := of_decide_eq_true h3
          have hc0 : 0 ≤ c := Int.le_trans (by decide) h3'
          refine ⟨_, rfl, _, rfl, _, _, rfl, rfl, (show CDiv c m from ⟨by omega, by omega⟩), _, rfl, r, _, 3, 3, rfl, rfl, e2, rfl, ?_⟩
          generalize hH3 : upd H2 r _ = H3
          have e3 : H3 r = some (.lst [.ref a, .int (i + 1), .int z, .int (c / m)]) := by rw [← hH3]; exact upd_same
          have x3 : Ext [r] H2 H3 := by rw [← hH3]; exact Ext.put (by simp)
          refine ⟨_, rfl, _, rfl, _, _, rfl, rfl, (by show 0 < m; omega), ?_⟩
          exact kk _ _ (Int.emod_nonneg _ (by omega)) (Int.emod_lt_of_pos _ (by omega)) ⟨_, _, _, e3, by omega, g0, g1, Int.ediv_nonneg hc0 (by omega)⟩ ((x1.tr x2).tr x3)
        · refine ⟨_, rfl, _, rfl, _, _, rfl, rfl, (by show 0 < m; omega), ?_⟩
          exact kk _ _ (Int.emod_nonneg _ (by omega)) (Int.emod_lt_of_pos _ (by omega)) ⟨_, _, _, e2, by omega, g0, g1, hy⟩ (x1.tr x2)
end
end Ho
set_option Elab.async false
set_option linter.all false
set_option maxRecDepth 100000
set_option maxHeartbeats 4000000
namespace L2
open PySem PySem.Spec PyProof.Rows
theorem pe_gint {X : Cx} {x : Str} {i : Int} {pos : Pos} (hg : Gl X x) (hm : ∃ t, X.mg x = some (.int i t)) (hd : (x == ("__debug__" : Str)) = false := by decide) : PE X (.Name x pos) (tC (.int i)) := by
  obtain ⟨t, h⟩ := hm
  exact pe_glob hg h ⟨t, rfl⟩ hd
end L2
namespace Ho
open PySem L2
/-- House and the constants of its module, as the top has made them -/
structure HouseT (K : PySem.W.Frag) (mg : Str → Option Value) (C aW cBH cBR cBT : Addr) : Prop extends Bl mg where
  cl : Cls K C
  n_badges : NoAttr K C "badges"
  n_late : NoAttr K C "late"
  n_lost : NoAttr K C "lost"
  n_now : NoAttr K C "now"
  n_words : NoAttr K C "words"
  n_taken : NoAttr K C "taken"
  n_fb : NoAttr K C "first_break"
  m_MB : ∃ t, mg "MOST_BADGES" = some (.int 6 t)
  m_ML : ∃ t, mg "MOST_LATE" = some (.int 9 t)
  m_MO : ∃ t, mg "MOST_LOST" = some (.int 6 t)
  m_LT : ∃ t, mg "LAST_TIME" = some (.int 60 t)
  m_WORDS : mg "WORDS" = some (.ref aW)
  q_WORDS : ∀ H, SqT K H aW [.str "in", .str "out"]
  x_BadHouse : Exc K mg "BadHouse" cBH [.type "ValueError", .type "Exception", .type "BaseException", .type "object"] "ValueError.__new__"
  x_BadRow : Exc K mg "BadRow" cBR [.type "ValueError", .type "Exception", .type "BaseException", .type "object"] "ValueError.__new__"
  x_BadTime : Exc K mg "BadTime" cBT [.type "ValueError", .type "Exception", .type "BaseException", .type "object"] "ValueError.__new__"

abbrev RowT := (Int × Int) × Str
def flds (b l o t : Int) (d : Addr) (n : Int) (fb : V) : List (Str × V) := [("badges", .int b), ("late", .int l), ("lost", .int o), ("now", .int t), ("words", .ref d), ("taken", .int n), ("first_break", fb)]
section
variable (b l o t : Int) (d : Addr) (n : Int) (fb : V)
theorem f_badges : (flds b l o t d n fb).lookup ("badges" : Str) = some (.int b) := by rfl
theorem f_late : (flds b l o t d n fb).lookup ("late" : Str) = some (.int l) := by rfl
theorem f_lost : (flds b l o t d n fb).lookup ("lost" : Str) = some (.int o) := by rfl
theorem f_now : (flds b l o t d n fb).lookup ("now" : Str) = some (.int t) := by rfl
theorem f_words : (flds b l o t d n fb).lookup ("words" : Str) = some (.ref d) := by rfl
theorem f_taken : (flds b l o t d n fb).lookup ("taken" : Str) = some (.int n) := by rfl
theorem f_fb : (flds b l o t d n fb).lookup ("first_break" : Str) = some fb := by rfl
theorem p_now (x : Int) : putF "now" (.int x) (flds b l o t d n fb) = flds b l o x d n fb := by rfl
theorem p_taken (x : Int) : putF "taken" (.int x) (flds b l o t d n fb) = flds b l o t d x fb := by rfl
theorem p_fb (x : V) : putF "first_break" x (flds b l o t d n fb) = flds b l o t d n x := by rfl
end
def kvsOf (rs : List RowT) : List (List Key × V) := rs.map fun r => (keyP r.1, V.str r.2)
/-- a house at p, its rows' dict at d -/
structure HouseAt (C : Addr) (H : Hp) (p d : Addr) (b l o t : Int) (rs : List RowT) : Prop where
  ob : ∃ dx n fb, H p = some (.ins C dx (flds b l o t d n fb)) ∧ (fb = .non ∨ ∃ i, fb = .int i)
  dc : H d = some (.dT (kvsOf rs))
  nd : (rs.map (·.1)).Nodup
  sz : rs.length ≤ 1000
  bb : 1 ≤ b ∧ b ≤ 6
  lb : 0 ≤ l ∧ l ≤ 9
  ob2 : 0 ≤ o ∧ o ≤ 6
  tb : 0 ≤ t ∧ t ≤ 60
def Sm (x : Int) : Prop := x.natAbs.log2 < 1920
theorem sm_of {x : Int} (h1 : -1000000000 ≤ x) (h2 : x ≤ 1000000000) : Sm x := by
  have h : x.natAbs < 2 ^ 30 := by omega
  unfold Sm
  by_cases h0 : x.natAbs = 0
  · rw [h0]; decide
  · have := (Nat.log2_lt h0).mpr h
    omega
/-! ### fault_between -/
def faultB (a b l t : Int) : Option Str := if b - 1 = a then some "twice" else if b - 1 + l < t then some "lost" else none
def optS : Option Str → V
  | none => .non
  | some z => .str z
def sp_fault : Sp := fun vs H Q _ => ∃ a b c e : Int, vs = [.int a, .int b, .int c, .int e] ∧ Q (optS (faultB a b c e)) H
def sp_time (C : Addr) : Sp := fun vs H Q _ => ∃ p d b l o t rs, vs = [.ref p] ∧ HouseAt C H p d b l o t rs ∧ Q (.int t) H
def sp_tf (C : Addr) : Sp := fun vs H Q _ => ∃ p d b l o t rs x, vs = [.ref p, .int x] ∧ HouseAt C H p d b l o t rs ∧ Sm x ∧ (t ≤ x → x ≤ 60 → Q .non H) ∧ (¬ (t ≤ x ∧ x ≤ 60) → ∀ z, Q (.str z) H)
section
variable {P : Program} {w : World} {K : PySem.W.Frag} {mg : Str → Option Value} {base : Heap} {k : Nat} {f C aW cBH cBR cBT : Addr}
theorem sc_fault : FnScope ["start", "end", "late", "time", "last_between"] ["start", "end", "late", "time"] (defScope s_fault) := ⟨rfl, rfl, rfl, by decide +kernel, rfl, by decide +kernel, by decide +kernel⟩
theorem ok_fault (F : Top1 K "fault_between" "fault_between" s_fault f ["start", "end", "late", "time"]) :
    ∃ fd, FnOk P w K mg base (CXe P w) (k + 1) f fd ["start", "end", "late", "time"] sp_fault ∧ Binds K fd ["start", "end", "late", "time"] [] := by
  refine F.okN sc_fault (fun vs H Q E h => ?_) (fun cdv A outer s H vs Q E hr h => ?_)
  · obtain ⟨_, _, _, _, rfl, _⟩ := h
    rfl
  · obtain ⟨a, b, c, e, rfl, kk⟩ := h
    unfold faultB at kk
    have nd := sc_fault.nd
    refine ⟨_, (pss_cons (ps_set (i := 4) nd rfl (Or.inl rfl) (pe_op op_sub (pv 1) pe_int))
      (pss_cons (ps_if (pt_cmpR op_eq (pv 4) (pv 0) (nomark _)) (pss_one (ps_ret pe_str)) pss_nil)
      (pss_cons (ps_if (pt_cmpR op_lt (pe_op op_add (pv 4) (pv 2)) (pv 3) (nomark _)) (pss_one (ps_ret pe_str)) pss_nil)
      (pss_one (ps_ret pe_non))))), ?_⟩
    refine ⟨_, rfl, _, _, rfl, rfl, ?_⟩
    refine ⟨_, rfl, _, rfl, rfl, _, rfl, ?_⟩
    refine ite2 (fun g => ?_) (fun g => ?_)
    · rw [if_pos (V.int.inj (show V.int (b - 1) = V.int a from of_decide_eq_true g))] at kk; exact kk
    have g' : ¬ (b - 1 = a) := fun z => g (decide_eq_true (show V.int (b - 1) = V.int a by rw [z]))
    rw [if_neg g'] at kk
    refine ⟨_, rfl, _, rfl, _, _, rfl, rfl, _, rfl, _, _, rfl, rfl, _, rfl, ?_⟩
    refine ite2 (fun g2 => ?_) (fun g2 => ?_)
    · rw [if_pos (show b - 1 + c < e from of_decide_eq_true g2)] at kk; exact kk
    · rw [if_neg (fun z : b - 1 + c < e => g2 (decide_eq_true z))] at kk; exact kk
theorem sc_time : FnScope ["self"] ["self"] (defScope s_time) := ⟨rfl, rfl, rfl, by decide +kernel, rfl, by decide +kernel, by decide +kernel⟩
theorem ok_time (F : Top1 K "time" "House.time" s_time f ["self"]) (T : HouseT K mg C aW cBH cBR cBT) :
    ∃ fd, FnOk P w K mg base (CXe P w) (k + 1) f fd ["self"] (sp_time C) ∧ Binds K fd ["self"] [] := by
  refine F.okN sc_time (fun vs H Q E h => ?_) (fun cdv A outer s H vs Q E hr h => ?_)
  · obtain ⟨_, _, _, _, _, _, _, rfl, _⟩ := h
    rfl
  · obtain ⟨p, d, b, l, o, t, rs, rfl, S, k1⟩ := h
    obtain ⟨dx, n, fb, h1, _⟩ := S.ob
    refine ⟨_, (pss_one (ps_ret (pe_fld (pv 0) rfl))), ?_⟩
    exact ⟨_, rfl, p, C, dx, _, _, rfl, h1, T.cl, T.n_now, f_now .., k1⟩
theorem sc_tf : FnScope ["self", "time"] ["self", "time"] (defScope s_tf) := ⟨rfl, rfl, rfl, by decide +kernel, rfl, by decide +kernel, by decide +kernel⟩
theorem ok_tf (F : Top1 K "time_fault" "House.time_fault" s_tf f ["self", "time"]) (T : HouseT K mg C aW cBH cBR cBT) :
    ∃ fd, FnOk P w K mg base (CXe P w) (k + 1) f fd ["self", "time"] (sp_tf C) ∧ Binds K fd ["self", "time"] [] := by
  refine F.okN sc_tf (fun vs H Q E h => ?_) (fun cdv A outer s H vs Q E hr h => ?_)
  · obtain ⟨_, _, _, _, _, _, _, _, rfl, _⟩ := h
    rfl
  · obtain ⟨p, d, b, l, o, t, rs, x, rfl, S, hx, k1, k2⟩ := h
    obtain ⟨dx, n, fb, h1, _⟩ := S.ob
    refine ⟨_, (pss_cons (ps_if (pt_not (pt_chain op_le op_le (pe_fld (pv 0) rfl) (pv 1) (pe_gint (by rfl) T.m_LT))) (pss_one (ps_ret (pe_fstr (pj_str (pj_int (pe_fld (pv 0) rfl) (pj_str (pj_int (pe_gint (by rfl) T.m_LT) (pj_str (pj_int (pv 1) pj_nil)))))) (by decide +kernel)))) pss_nil)
      (pss_one (ps_ret pe_non))), ?_⟩
    refine ⟨_, rfl, p, C, dx, _, _, rfl, h1, T.cl, T.n_now, f_now .., _, rfl, _, _, rfl, rfl, _, rfl, ?_⟩
    by_cases h2 : t ≤ x
    · rw [decide_eq_true h2]
      refine iteT ⟨_, _, rfl, rfl, _, rfl, ?_⟩
      by_cases h3 : x ≤ 60
      · rw [decide_eq_true h3]
        exact iteF (k1 h2 h3)
      · rw [decide_eq_false h3]
        refine iteT ?_
        exact ⟨_, rfl, p, C, dx, _, _, rfl, h1, T.cl, T.n_now, f_now .., ⟨t, rfl, sm_of (by have := S.tb; omega) (by have := S.tb; omega)⟩, ⟨60, rfl, sm_of (by decide) (by decide)⟩, _, rfl, ⟨x, rfl, hx⟩, k2 fun z => h3 z.2⟩
    · rw [decide_eq_false h2]
      refine iteF ⟨_, rfl, ?_⟩
      refine iteT ?_
      exact ⟨_, rfl, p, C, dx, _, _, rfl, h1, T.cl, T.n_now, f_now .., ⟨t, rfl, sm_of (by have := S.tb; omega) (by have := S.tb; omega)⟩, ⟨60, rfl, sm_of (by decide) (by decide)⟩, _, rfl, ⟨x, rfl, hx⟩, k2 fun z => h2 z.1⟩
end
end Ho
set_option Elab.async false
set_option linter.all false
set_option maxRecDepth 100000
set_option maxHeartbeats 4000000
namespace Ho
open PySem L2
def CanRow (b l t : Int) (rs : List RowT) (x bd mo : Int) (wd : Str) : Prop := (0 ≤ bd ∧ bd < b) ∧ 1 ≤ mo ∧ (wd = "in" ∨ wd = "out") ∧ (mo ≤ x ∧ x ≤ mo + l) ∧ (bd, mo) ∉ rs.map (·.1) ∧ (t ≤ x ∧ x ≤ 60)
theorem HouseAt.same {C : Addr} {H H' : Hp} {p d : Addr} {b l o t : Int} {rs : List RowT} (h : HouseAt C H p d b l o t rs) (s : Same H H') : HouseAt C H' p d b l o t rs := by
  obtain ⟨dx, n, fb, h1, h2⟩ := h.ob
  exact ⟨⟨dx, n, fb, s _ _ h1, h2⟩, s _ _ h.dc, h.nd, h.sz, h.bb, h.lb, h.ob2, h.tb⟩
theorem keyP_inj {p q : Int × Int} (h : keyP p = keyP q) : p = q := by
  unfold keyP at h
  injection h with h1 h2
  injection h2 with h2 _
  exact Prod.ext (Sum.inl.inj h1) (Sum.inl.inj h2)
theorem kvs_keys (rs : List RowT) : (kvsOf rs).map (·.1) = (rs.map (·.1)).map keyP := by
  unfold kvsOf
  rw [List.map_map, List.map_map]
  rfl
theorem val_none {rs : List RowT} {q : Int × Int} (h : valV (kvsOf rs) (keyP q) = none) : q ∉ rs.map (·.1) := fun m => by
  refine valV_not h ?_
  rw [kvs_keys]
  exact List.mem_map_of_mem m
theorem val_some {rs : List RowT} {q : Int × Int} {v : V} (h : valV (kvsOf rs) (keyP q) = some v) : q ∈ rs.map (·.1) := by
  have m := valV_in h
  rw [kvs_keys] at m
  obtain ⟨p, hp, e⟩ := List.mem_map.mp m
  exact keyP_inj e ▸ hp
theorem inV_words (wd : Str) : inV (.str wd) [.str "in", .str "out"] = decide (wd = "in" ∨ wd = "out") := by
  have e : ∀ a b : Str, eqV (.str a) (.str b) = decide (b = a) := fun a b => by
    show (a == b) = decide (b = a)
    by_cases h : b = a
    · subst h; simp
    · rw [decide_eq_false h]
      exact beq_eq_false_iff_ne.mpr fun z => h z.symm
  unfold inV
  simp only [List.any_cons, List.any_nil, e, Bool.or_false]
  by_cases h1 : wd = "in" <;> by_cases h2 : wd = "out" <;> simp [h1, h2]
def sp_rf (C : Addr) : Sp := fun vs H Q _ => ∃ p d b l o t rs x bd mo wd, vs = [.ref p, .int x, .int bd, .int mo, .str wd] ∧ HouseAt C H p d b l o t rs ∧ Sm x ∧ Sm bd ∧ Sm mo ∧ (reprText wd).length ≤ 40 ∧
  ∀ H', Same H H' → (CanRow b l t rs x bd mo wd → Q .non H') ∧ (¬ CanRow b l t rs x bd mo wd → ∀ z, Q (.str z) H')
section
variable {P : Program} {w : World} {K : PySem.W.Frag} {mg : Str → Option Value} {base : Heap} {k : Nat} {f C aW cBH cBR cBT : Addr}
theorem sc_rf : FnScope ["self", "time", "badge", "moment", "word"] ["self", "time", "badge", "moment", "word"] (defScope s_rf) := ⟨rfl, rfl, rfl, by decide +kernel, rfl, by decide +kernel, by decide +kernel⟩
theorem ok_rf (F : Top1 K "row_fault" "House.row_fault" s_rf f ["self", "time", "badge", "moment", "word"]) (T : HouseT K mg C aW cBH cBR cBT) (M_tf : Mt P w K mg base k C "time_fault" ["self", "time"] (sp_tf C)) :
    ∃ fd, FnOk P w K mg base (CXe P w) (k + 1) f fd ["self", "time", "badge", "moment", "word"] (sp_rf C) ∧ Binds K fd ["self", "time", "badge", "moment", "word"] [] := by
  refine F.okN sc_rf (fun vs H Q E h => ?_) (fun cdv A outer s H vs Q E hr h => ?_)
  · obtain ⟨_, _, _, _, _, _, _, _, _, _, _, rfl, _⟩ := h
    rfl
  · obtain ⟨p, d, b, l, o, t, rs, x, bd, mo, wd, rfl, S, hx, hb, hm, hw, kk⟩ := h
    have hu := hu_of hr
    obtain ⟨dx, n, fb, h1, _⟩ := S.ob
    obtain ⟨k1, k2⟩ := kk H (Same.refl H)
    refine ⟨_, (pss_cons (ps_if (pt_not (pt_chain op_le op_lt pe_int (pv 2) (pe_fld (pv 0) rfl))) (pss_one (ps_ret (pe_fstr (pj_str (pj_int (pv 2) pj_nil)) (by decide +kernel)))) pss_nil)
      (pss_cons (ps_if (pt_cmpR op_lt (pv 3) pe_int (nomark _)) (pss_one (ps_ret (pe_fstr (pj_str (pj_int (pv 3) pj_nil)) (by decide +kernel)))) pss_nil)
      (pss_cons (ps_if (pt_cmpR op_notIn_seq (pv 4) (pe_glob (v := .ref aW) (by rfl) T.m_WORDS rfl) (by rfl)) (pss_one (ps_ret (pe_fstr (pj_str (pj_repr (b := 40) (pv 4) pj_nil)) (by decide +kernel)))) pss_nil)
      (pss_cons (ps_if (pt_not (pt_chain op_le op_le (pv 3) (pv 1) (pe_op op_add (pv 3) (pe_fld (pv 0) rfl)))) (pss_one (ps_ret (pe_fstr (pj_str (pj_int (pv 3) (pj_str (pj_int (pv 1) pj_nil)))) (by decide +kernel)))) pss_nil)
      (pss_cons (ps_if (pt_cmp (pc_din hu (pe_tup (pa_cons (pv 2) (pa_cons (pv 3) pa_nil))) (pe_fld (pv 0) rfl)) (by rfl)) (pss_one (ps_ret (pe_fstr (pj_str (pj_int (pv 2) (pj_str (pj_int (pv 3) (pj_str pj_nil))))) (by decide +kernel)))) pss_nil)
      (pss_one (ps_ret (pmeth (pv 0) T.cl M_tf hr passN (pa_cons (pv 1) pa_nil))))))))), ?_⟩
    -- not 0 <= badge < self.badges
    refine ⟨_, rfl, _, _, rfl, rfl, _, rfl, ?_⟩
    by_cases g1 : 0 ≤ bd
    · rw [decide_eq_true g1]
      refine iteT ⟨_, rfl, p, C, dx, _, _, rfl, h1, T.cl, T.n_badges, f_badges .., _, _, rfl, rfl, _, rfl, ?_⟩
      by_cases g2 : bd < b
      · rw [decide_eq_true g2]
        refine iteF ?_
        -- moment < 1
        refine ⟨_, rfl, _, _, rfl, rfl, _, rfl, ?_⟩
        refine ite2 (fun g3 => ?_) (fun g3 => ?_)
        · have g3 : mo < 1 := of_decide_eq_true g3
          exact ⟨_, rfl, ⟨mo, rfl, hm⟩, k2 fun c => by have := c.2.1; omega⟩
        · have g3 : ¬ mo < 1 := fun z => g3 (decide_eq_true z)
          -- word not in WORDS
          refine ⟨_, rfl, aW, _, rfl, .inr (T.q_WORDS H), rfl, rfl, _, rfl, ?_⟩
          rw [inV_words]
          by_cases g4 : wd = "in" ∨ wd = "out"
          · rw [decide_eq_true g4]
            refine iteF ?_
            -- not moment <= time <= moment + self.late
            refine ⟨_, rfl, _, rfl, _, _, rfl, rfl, _, rfl, ?_⟩
            by_cases g5 : mo ≤ x
            · rw [decide_eq_true g5]
              refine iteT ⟨_, rfl, _, rfl, p, C, dx, _, _, rfl, h1, T.cl, T.n_late, f_late .., _, _, rfl, rfl, _, _, rfl, rfl, _, rfl, ?_⟩
              by_cases g6 : x ≤ mo + l
              · rw [decide_eq_true g6]
                refine iteF ?_
                -- (badge, moment) in self.words
                refine ⟨_, rfl, _, rfl, (by show 2 ≤ sizeLine; decide), fun q hq => ?_⟩
                have s1 : Same H (upd H q (.tup [.int bd, .int mo])) := (Ext.new (S := []) hq).same
                have S1 := S.same s1
                obtain ⟨dx1, n1, fb1, h1', _⟩ := S1.ob
                refine ⟨_, rfl, p, C, dx1, _, _, rfl, h1', T.cl, T.n_words, f_words .., d, _, rfl, DGet.t (k := keyP (bd, mo)) S1.dc upd_same, _, rfl, ?_⟩
                obtain ⟨k3, k4⟩ := kk _ s1
                cases e : valV (kvsOf rs) (keyP (bd, mo)) with
                | some v =>
                  refine iteT ?_
                  exact ⟨_, rfl, ⟨bd, rfl, hb⟩, _, rfl, ⟨mo, rfl, hm⟩, k4 fun c => c.2.2.2.2.1 (val_some e)⟩
                | none =>
                  refine iteF ?_
                  have g7 := val_none e
                  refine ⟨_, rfl, p, dx1, _, rfl, h1', rfl, _, rfl, p, d, b, l, o, t, rs, x, rfl, S1, hx, fun h8 h9 => k3 ⟨⟨g1, g2⟩, by omega, g4, ⟨g5, g6⟩, g7, h8, h9⟩, fun h8 => k4 fun c => h8 c.2.2.2.2.2⟩
              · rw [decide_eq_false g6]
                refine iteT ?_
                exact ⟨_, rfl, ⟨mo, rfl, hm⟩, _, rfl, ⟨x, rfl, hx⟩, k2 fun c => g6 c.2.2.2.1.2⟩
            · rw [decide_eq_false g5]
              refine iteF ⟨_, rfl, ?_⟩
              refine iteT ?_
              exact ⟨_, rfl, ⟨mo, rfl, hm⟩, _, rfl, ⟨x, rfl, hx⟩, k2 fun c => g5 c.2.2.2.1.1⟩
          · rw [decide_eq_false g4]
            refine iteT ?_
            exact ⟨_, rfl, ⟨wd, rfl, hw⟩, k2 fun c => g4 c.2.2.1⟩
      · rw [decide_eq_false g2]
        refine iteT ?_
        exact ⟨_, rfl, ⟨bd, rfl, hb⟩, k2 fun c => g2 c.1.2⟩
    · rw [decide_eq_false g1]
      refine iteF ⟨_, rfl, ?_⟩
      refine iteT ?_
      exact ⟨_, rfl, ⟨bd, rfl, hb⟩, k2 fun c => g1 c.1.1⟩
end
end Ho
set_option Elab.async false
set_option linter.all false
set_option maxRecDepth 100000
set_option maxHeartbeats 4000000
namespace Ho
open PySem L2
theorem yes {σ : St} {H : Hp} {Q : Hp → Prop} {R : Hp → Prop} (h : Q H) : tYes σ H (fun b H3 => if b = true then Q H3 else R H3) := by
  show if true = true then Q H else R H
  rw [if_pos rfl]; exact h
def rowO (r : RowT) : HO := .tup [.int r.1.1, .int r.1.2, .str r.2]
/-- a list of rows at q -/
def RowsAt (H : Hp) (q : Addr) (rs : List RowT) : Prop := ∃ qs : List Addr, H q = some (.lst (qs.map V.ref)) ∧ Paired (fun a r => H a = some (rowO r)) qs rs
theorem paired_imp {α β : Type} {F G : α → β → Prop} (f : ∀ a b, F a b → G a b) {l : List α} {m : List β} (h : Paired F l m) : Paired G l m := Paired.imp' f h
theorem paired_snoc {α β : Type} {F : α → β → Prop} : ∀ {l : List α} {m : List β} {a : α} {b : β}, Paired F l m → F a b → Paired F (l ++ [a]) (m ++ [b])
  | _, _, _, _, .nil, h => .cons h .nil
  | _, _, _, _, .cons r t, h => .cons r (paired_snoc t h)
theorem paired_at {α β : Type} {F : α → β → Prop} : ∀ {l : List α} {m : List β} {i : Nat} {a : α}, Paired F l m → l[i]? = some a → ∃ b, m[i]? = some b ∧ F a b
  | _, _, _, _, .nil, e => by simp at e
  | _, _, 0, _, .cons r _, e => by simp at e; subst e; exact ⟨_, rfl, r⟩
  | _, _, i + 1, a, .cons _ t, e => by
    obtain ⟨b, h1, h2⟩ := paired_at (i := i) t (by simpa using e)
    exact ⟨b, by simpa using h1, h2⟩
def wordOf (rs : List RowT) (q : Int × Int) : Str := ((rs.find? fun r => decide (r.1 = q)).map (·.2)).getD ""
theorem val_word {rs : List RowT} {q : Int × Int} (h : q ∈ rs.map (·.1)) : valV (kvsOf rs) (keyP q) = some (.str (wordOf rs q)) := by
  induction rs with
  | nil => simp at h
  | cons r rs ih =>
    by_cases e : r.1 = q
    · have e1 : kvsOf (r :: rs) = (keyP r.1, V.str r.2) :: kvsOf rs := rfl
      rw [e1, valV_pos (by rw [e])]
      simp [wordOf, List.find?_cons, e]
    · have e1 : kvsOf (r :: rs) = (keyP r.1, V.str r.2) :: kvsOf rs := rfl
      rw [e1, valV_neg (fun z => e (keyP_inj z)), ih]
      · simp [wordOf, List.find?_cons, e]
      · rcases List.mem_cons.mp (show q ∈ r.1 :: rs.map (·.1) from h) with z | z
        · exact (e z.symm).elim
        · exact z
theorem words_self : ∀ {rs : List RowT}, (rs.map (·.1)).Nodup → rs.map (fun r => (r.1, wordOf rs r.1)) = rs := by
  intro rs nd
  suffices h : ∀ r ∈ rs, wordOf rs r.1 = r.2 by
    conv => rhs; rw [← List.map_id rs]
    exact List.map_congr_left fun r hr => by rw [h r hr]; rfl
  induction rs with
  | nil => intro r hr; simp at hr
  | cons a rs ih =>
    have nd' : (a.1 :: rs.map (·.1)).Nodup := nd
    obtain ⟨h1, h2⟩ := List.nodup_cons.mp nd'
    intro r hr
    rcases List.mem_cons.mp hr with rfl | hr
    · simp [wordOf, List.find?_cons]
    · have ne : ¬ a.1 = r.1 := fun z => h1 (by rw [z]; exact List.mem_map_of_mem hr)
      have := ih h2 r hr
      simp only [wordOf, List.find?_cons, decide_eq_false ne] at this ⊢
      exact this
def sp_rows (C : Addr) : Sp := fun vs H Q _ => ∃ p d b l o t rs, vs = [.ref p] ∧ HouseAt C H p d b l o t rs ∧
  ∀ (H' : Hp) (q : Addr) (rs' : List RowT), Same H H' → H q = none → RowsAt H' q rs' → rs'.Perm rs → (rs'.map (·.1)).Pairwise lexLe → Q (.ref q) H'
section
variable {P : Program} {w : World} {K : PySem.W.Frag} {mg : Str → Option Value} {base : Heap} {k : Nat} {f C aW cBH cBR cBT : Addr}
theorem sc_rows : FnScope ["self", "badge", "moment"] ["self"] (defScope s_rows) := ⟨rfl, rfl, rfl, by decide +kernel, rfl, by decide +kernel, by decide +kernel⟩
theorem ok_rows (F : Top1 K "rows" "House.rows" s_rows f ["self"]) (T : HouseT K mg C aW cBH cBR cBT) :
    ∃ fd, FnOk P w K mg base (CXe P w) (k + 1) f fd ["self"] (sp_rows C) ∧ Binds K fd ["self"] [] := by
  refine F.okN sc_rows (fun vs H Q E h => ?_) (fun cdv A outer s H vs Q E hr h => ?_)
  · obtain ⟨_, _, _, _, _, _, _, rfl, _⟩ := h
    rfl
  · obtain ⟨p, d, b, l, o, t, rs, rfl, S, kk⟩ := h
    have hu := hu_of hr
    have nd := sc_rows.nd
    obtain ⟨dx, n, fb, h1, _⟩ := S.ob
    refine ⟨_, (pss_one (ps_ret (pe_lc (own := [("badge", 1), ("moment", 2)]) (g := gTup K 2 (gCons (gName 1) (gCons (gName 2) gNil))) (tt := tYes) (te := tTup (tCons (tVar 1) (tCons (tVar 2) (tCons (tDGet (tFld K (tVar 0) "words") (tTup (tCons (tVar 1) (tCons (tVar 2) tNil)))) tNil)))) rfl nd
      (pi_list (pe_callB (cr_sortedT rfl rfl) (by rfl) T.b_sorted (by decide +kernel) (pa_cons (pe_fld (pv 0) rfl) pa_nil))) (blkOk_by (own := [("badge", 1), ("moment", 2)]) (N := ["self", "badge", "moment"]) (sc := defScope s_rows) (by decide +kernel))
      (fun _ _ _ _ _ => (pg_tup rfl (pgs_cons (pg_name (i := 1) nd rfl (Or.inl rfl)) (pgs_cons (pg_name (i := 2) nd rfl (Or.inl rfl)) pgs_nil)))) (fun _ _ _ _ _ => pts_nil)
      (fun _ _ _ _ _ => (pe_tup (pa_cons (pv 1) (pa_cons (pv 2) (pa_cons (pe_dget hu (pe_fld (pv 0) rfl) (pe_tup (pa_cons (pv 1) (pa_cons (pv 2) pa_nil))) (fun _ _ => rfl)) pa_nil)))))))), ?_⟩
    refine ⟨_, rfl, p, C, dx, _, _, rfl, h1, T.cl, T.n_words, f_words .., d, _, rs.map (·.1), rfl, S.dc, kvs_keys rs, fun ps' qs q0 pm so pr hq0 => ?_⟩
    generalize hH1 : upd H q0 _ = H1
    have s1 : Same H H1 := by rw [← hH1]; exact (Ext.new (S := []) hq0).same
    have e0 : H1 q0 = some (.lst (qs.map V.ref)) := by rw [← hH1]; exact upd_same
    have pr1 : Paired (fun (q : Addr) (x : Int × Int) => H1 q = some (tupP x)) qs ps' := paired_imp (fun _ _ z => s1 _ _ z) pr
    have hlq : qs.length = ps'.length := Paired.length pr
    have hlp : ps'.length = rs.length := by rw [pm.length_eq, List.length_map]
    refine ⟨q0, rfl, ⟨_, SqL.of e0⟩, fun D hD => ?_⟩
    have hmem : ∀ x ∈ ps', x ∈ rs.map (·.1) := fun x hx => pm.mem_iff.mp hx
    refine lc_list (K := K) (a := q0) (xs := qs.map V.ref) (fun i H2 => Same H1 H2 ∧ ∃ as : List Addr, H2 D = some (.lst (as.map V.ref)) ∧ Paired (fun a r => H2 a = some (rowO r)) as ((ps'.take i).map fun x => (x, wordOf rs x)))
      ⟨(Ext.new (S := []) hD).same, [], upd_same, .nil⟩ (fun i H2 _ h => SqL.of (h.1 _ _ e0)) ?_ ?_
    · rintro i y H2 hi ⟨s2, as, hD2, pa⟩
      rw [List.getElem?_map] at hi
      cases eq : qs[i]? with
      | none => rw [eq] at hi; cases hi
      | some qa =>
        rw [eq] at hi
        cases hi
        obtain ⟨x, hx, hqa⟩ := paired_at pr1 eq
        have hlt : i < ps'.length := (List.getElem?_eq_some_iff.mp hx).1
        have S2 := S.same (s1.trans s2)
        obtain ⟨dx2, n2, fb2, h2, _⟩ := S2.ob
        refine ⟨qa, _, rfl, SqT.of (s2 _ _ hqa), rfl, _, _, rfl, _, _, rfl, rfl, rfl, ?_⟩
        refine yes ?_
        refine ⟨_, rfl, _, rfl, _, rfl, p, C, dx2, _, _, rfl, h2, T.cl, T.n_words, f_words .., _, rfl, _, rfl, (by show 2 ≤ sizeLine; decide), fun q2 hq2 => ?_⟩
        generalize hH3 : upd H2 q2 _ = H3
        have s3 : Same H2 H3 := by rw [← hH3]; exact (Ext.new (S := []) hq2).same
        have e3 : H3 q2 = some (.tup ((keyP x).map kV)) := by rw [← hH3]; exact upd_same
        refine ⟨d, _, rfl, (by have := DGet.t (k := keyP x) (s3 _ _ S2.dc) e3; rw [val_word (hmem x (List.mem_of_getElem? hx))] at this; exact this), (by show 3 ≤ sizeLine; decide), fun q3 hq3 => ?_⟩
        generalize hH4 : upd H3 q3 _ = H4
        have s4 : Same H3 H4 := by rw [← hH4]; exact (Ext.new (S := []) hq3).same
        have e4 : H4 q3 = some (rowO (x, wordOf rs x)) := by rw [← hH4]; exact upd_same
        have hD4 := s4 _ _ (s3 _ _ hD2)
        have nq : q3 ≠ D := fun z => by rw [z] at hq3; rw [s3 _ _ hD2] at hq3; cases hq3
        have hln : as.length ≤ i := by
          have := Paired.length pa
          rw [List.length_map, List.length_take] at this
          omega
        refine ⟨_, hD4, (by rw [List.length_map]; exact small1000 (by have := S.sz; omega)), fun c oc hc => ?_, as ++ [q3], ?_, ?_⟩
        · have nc : c ≠ D := fun z => by rw [z, hD] at hc; cases hc
          rw [upd_ne nc]; exact s4 _ _ (s3 _ _ (s2 _ _ hc))
        · rw [upd_same, List.map_append]; rfl
        · have et : ps'.take (i + 1) = ps'.take i ++ [x] := by rw [List.take_succ, hx]; rfl
          rw [et, List.map_append]
          refine paired_snoc (paired_imp (fun c r hc => ?_) pa) ?_
          · have nc : c ≠ D := fun z => by rw [z, hD2] at hc; cases hc
            rw [upd_ne nc]; exact s4 _ _ (s3 _ _ hc)
          · rw [upd_ne nq]; exact e4
    · rintro H2 ⟨s2, as, hD2, pa⟩
      have hfull : ps'.take (qs.map V.ref).length = ps' := List.take_of_length_le (by rw [List.length_map]; omega)
      rw [hfull] at pa
      refine kk H2 D _ (s1.trans s2) (s1.free hD) ⟨as, hD2, pa⟩ ?_ ?_
      · have := pm.map (fun x => (x, wordOf rs x))
        rw [List.map_map] at this
        exact this.trans (List.Perm.of_eq (words_self S.nd))
      · rw [List.map_map]
        have : (Prod.fst ∘ fun x => (x, wordOf rs x)) = (id : Int × Int → Int × Int) := rfl
        show List.Pairwise lexLe (List.map (Prod.fst ∘ fun x => (x, wordOf rs x)) ps')
        rw [this, List.map_id]; exact so
end
end Ho
set_option Elab.async false
set_option linter.all false
set_option maxRecDepth 100000
set_option maxHeartbeats 4000000
namespace Ho
open PySem L2
def lexLt (p q : Int × Int) : Prop := p.1 < q.1 ∨ (p.1 = q.1 ∧ p.2 < q.2)
def rowLt (p q : RowT) : Prop := lexLt p.1 q.1
theorem eq_of_sorted : ∀ {l1 l2 : List RowT}, l1.Pairwise rowLt → l2.Pairwise rowLt → (∀ x, x ∈ l1 ↔ x ∈ l2) → l1 = l2
  | [], [], _, _, _ => rfl
  | [], b :: l, _, _, h => by have := (h b).mpr (List.mem_cons_self ..); cases this
  | a :: l, [], _, _, h => by have := (h a).mp (List.mem_cons_self ..); cases this
  | a :: l1, b :: l2, p1, p2, h => by
    have as : ∀ x y : RowT, rowLt x y → rowLt y x → False := fun x y h1 h2 => by
      unfold rowLt lexLt at h1 h2
      omega
    obtain ⟨q1, r1⟩ := List.pairwise_cons.mp p1
    obtain ⟨q2, r2⟩ := List.pairwise_cons.mp p2
    have e : a = b := by
      rcases List.mem_cons.mp ((h a).mp (List.mem_cons_self ..)) with e | e
      · exact e
      · rcases List.mem_cons.mp ((h b).mpr (List.mem_cons_self ..)) with e' | e'
        · exact e'.symm
        · exact (as a b (q1 b e') (q2 a e)).elim
    subst e
    have := eq_of_sorted r1 r2 fun x => by
      constructor
      · intro hx
        rcases List.mem_cons.mp ((h x).mp (List.mem_cons_of_mem _ hx)) with e | e
        · exact (as a a (by rw [← e]; exact e ▸ q1 x hx) (by rw [← e]; exact e ▸ q1 x hx)).elim
        · exact e
      · intro hx
        rcases List.mem_cons.mp ((h x).mpr (List.mem_cons_of_mem _ hx)) with e | e
        · exact (as a a (by rw [← e]; exact e ▸ q2 x hx) (by rw [← e]; exact e ▸ q2 x hx)).elim
        · exact e
    rw [this]
theorem sorted_of {rs rs' : List RowT} (nd : (rs.map (·.1)).Nodup) (p : rs'.Perm rs) (so : (rs'.map (·.1)).Pairwise lexLe) : rs'.Pairwise rowLt := by
  have nd' : (rs'.map (·.1)).Nodup := (p.map (·.1)).nodup_iff.mpr nd
  have : (rs'.map (·.1)).Pairwise lexLt := (so.and nd').imp fun {a b} h => by
    obtain ⟨h1, h2⟩ := h
    unfold lexLe at h1
    unfold lexLt
    rcases h1 with h1 | ⟨h1, h3⟩
    · exact .inl h1
    · refine .inr ⟨h1, ?_⟩
      rcases Int.lt_or_eq_of_le h3 with h3 | h3
      · exact h3
      · exact (h2 (Prod.ext h1 h3)).elim
  have h := List.pairwise_map.mp this
  exact h
theorem uniq_row {rs : List RowT} (nd : (rs.map (·.1)).Nodup) {q : Int × Int} {w1 w2 : Str} (h1 : (q, w1) ∈ rs) (h2 : (q, w2) ∈ rs) : w1 = w2 := by
  induction rs with
  | nil => cases h1
  | cons a rs ih =>
    obtain ⟨n1, n2⟩ := List.nodup_cons.mp (show (a.1 :: rs.map (·.1)).Nodup from nd)
    rcases List.mem_cons.mp h1 with e1 | e1 <;> rcases List.mem_cons.mp h2 with e2 | e2
    · rw [← e1] at e2; exact (Prod.mk.inj e2).2.symm
    · exact (n1 (by rw [← e1]; exact List.mem_map.mpr ⟨_, e2, rfl⟩)).elim
    · exact (n1 (by rw [← e2]; exact List.mem_map.mpr ⟨_, e1, rfl⟩)).elim
    · exact ih n2 e1 e2
theorem len_sub {α : Type} [DecidableEq α] : ∀ {l1 l2 : List α}, l1.Nodup → (∀ r, r ∈ l1 → r ∈ l2) → l1.length ≤ l2.length
  | [], _, _, _ => Nat.zero_le _
  | a :: l1, l2, nd, h => by
    obtain ⟨n1, n2⟩ := List.nodup_cons.mp nd
    have ha := h a (List.mem_cons_self ..)
    have := len_sub (l2 := l2.erase a) n2 fun r hr => (List.mem_erase_of_ne (fun z : r = a => n1 (z ▸ hr))).mpr (h r (List.mem_cons_of_mem _ hr))
    rw [List.length_erase_of_mem ha] at this
    have hp : 0 < l2.length := List.length_pos_of_mem ha
    show l1.length + 1 ≤ l2.length
    omega
theorem len_le {rs rs' : List RowT} (h : rs'.Pairwise rowLt) (hm : ∀ r, r ∈ rs' → r ∈ rs) : rs'.length ≤ rs.length := by
  have nd : rs'.Nodup := h.imp fun {a b} h1 h2 => by
    subst h2
    unfold rowLt lexLt at h1
    omega
  exact len_sub nd hm
theorem paired_append {α β : Type} {F : α → β → Prop} : ∀ {l l' : List α} {m m' : List β}, Paired F l m → Paired F l' m' → Paired F (l ++ l') (m ++ m')
  | _, _, _, _, .nil, h => h
  | _, _, _, _, .cons r t, h => .cons r (paired_append t h)

theorem snoc_ind {α : Type} {P : List α → Prop} (h0 : P []) (h : ∀ l a, P l → P (l ++ [a])) (l : List α) : P l := by
  have h1 : ∀ l : List α, P l.reverse := fun l => by
    induction l with
    | nil => exact h0
    | cons a l ih => rw [List.reverse_cons]; exact h _ _ ih
  have h2 := h1 l.reverse
  rwa [List.reverse_reverse] at h2
/-! ### what rows want between them -/
abbrev Want := (Int × Int × Int) × Str
def stepW (l t : Int) (la : Int × Str) (r : RowT) : List Want := if r.2 = la.2 then (match faultB la.1 r.1.2 l t with | some z => [((r.1.1, la.1, r.1.2), z)] | none => []) else []
def stepS (l t : Int) (S : List Want × (Int → Int × Str)) (r : RowT) : List Want × (Int → Int × Str) := (S.1 ++ stepW l t (S.2 r.1.1) r, fun i => if i = r.1.1 then (r.1.2, r.2) else S.2 i)
def runP (l t : Int) (rs : List RowT) : List Want × (Int → Int × Str) := rs.foldl (stepS l t) ([], fun _ => (0, "out"))
theorem run_snoc {l t : Int} {rs : List RowT} {r : RowT} : runP l t (rs ++ [r]) = stepS l t (runP l t rs) r := by
  unfold runP
  rw [List.foldl_append]; rfl
def Srt (rs' rs : List RowT) : Prop := rs'.Pairwise rowLt ∧ ∀ r, r ∈ rs' ↔ r ∈ rs
def Ms (rs : List RowT) : Prop := ∀ r ∈ rs, 1 ≤ r.1.2
theorem Srt.uniq {a b rs : List RowT} (h : Srt a rs) (g : Srt b rs) : a = b := eq_of_sorted h.1 g.1 fun x => (h.2 x).trans (g.2 x).symm
theorem keys_nd {rs : List RowT} (h : rs.Pairwise rowLt) : (rs.map (·.1)).Nodup := by
  refine List.pairwise_map.mpr (h.imp fun {a b} h1 h2 => ?_)
  unfold rowLt lexLt at h1
  rw [h2] at h1
  omega
theorem pw_snoc {rs : List RowT} {r : RowT} (h : (rs ++ [r]).Pairwise rowLt) : rs.Pairwise rowLt ∧ ∀ x ∈ rs, rowLt x r := by
  obtain ⟨h1, _, h3⟩ := List.pairwise_append.mp h
  exact ⟨h1, fun x hx => h3 x hx r (List.mem_singleton.mpr rfl)⟩
theorem rowLt_m {x r : RowT} (h : rowLt x r) (e : x.1.1 = r.1.1) : x.1.2 < r.1.2 := by
  unfold rowLt lexLt at h
  omega
theorem run_last {l t bd : Int} (rs : List RowT) : rs.Pairwise rowLt → Ms rs → (∀ r ∈ rs, r.1.1 = bd → r.1.2 ≤ ((runP l t rs).2 bd).1) ∧ ((((runP l t rs).2 bd).1 = 0 ∧ ((runP l t rs).2 bd).2 = "out") ∨ ((bd, ((runP l t rs).2 bd).1), ((runP l t rs).2 bd).2) ∈ rs) := by
  refine snoc_ind (P := fun rs => rs.Pairwise rowLt → Ms rs → (∀ r ∈ rs, r.1.1 = bd → r.1.2 ≤ ((runP l t rs).2 bd).1) ∧ ((((runP l t rs).2 bd).1 = 0 ∧ ((runP l t rs).2 bd).2 = "out") ∨ ((bd, ((runP l t rs).2 bd).1), ((runP l t rs).2 bd).2) ∈ rs)) ?_ ?_ rs
  · intro _ _
    exact ⟨fun r hr => (by cases hr), .inl ⟨rfl, rfl⟩⟩
  · intro rs r ih pw ms
    obtain ⟨p1, p2⟩ := pw_snoc pw
    obtain ⟨i1, i2⟩ := ih p1 fun x hx => ms x (List.mem_append_left _ hx)
    rw [run_snoc]
    by_cases hb : bd = r.1.1
    · have e : (stepS l t (runP l t rs) r).2 bd = (r.1.2, r.2) := by show (if bd = r.1.1 then _ else _) = _; rw [if_pos hb]
      rw [e]
      refine ⟨fun x hx hxb => ?_, .inr ?_⟩
      · rcases List.mem_append.mp hx with hx | hx
        · exact Int.le_of_lt (rowLt_m (p2 x hx) (by rw [hxb, hb]))
        · rw [List.mem_singleton.mp hx]; exact Int.le_refl _
      · rw [hb]; exact List.mem_append_right _ (List.mem_singleton.mpr rfl)
    · have e : (stepS l t (runP l t rs) r).2 bd = (runP l t rs).2 bd := by show (if bd = r.1.1 then _ else _) = _; rw [if_neg hb]
      rw [e]
      refine ⟨fun x hx hxb => ?_, ?_⟩
      · rcases List.mem_append.mp hx with hx | hx
        · exact i1 x hx hxb
        · rw [List.mem_singleton.mp hx] at hxb; exact (hb hxb.symm).elim
      · rcases i2 with i2 | i2
        · exact .inl i2
        · exact .inr (List.mem_append_left _ i2)
theorem run_keys {l t : Int} (rs : List RowT) : ((runP l t rs).1.map fun w => (w.1.1, w.1.2.2)).Sublist (rs.map (·.1)) := by
  refine snoc_ind (P := fun rs => ((runP l t rs).1.map fun w => (w.1.1, w.1.2.2)).Sublist (rs.map (·.1))) (List.Sublist.refl _) ?_ rs
  intro rs r ih
  rw [run_snoc]
  show (((runP l t rs).1 ++ stepW l t ((runP l t rs).2 r.1.1) r).map _).Sublist _
  rw [List.map_append, List.map_append]
  refine ih.append ?_
  unfold stepW
  split
  · split
    · exact List.Sublist.refl _
    · exact List.nil_sublist _
  · exact List.nil_sublist _
theorem run_len {l t : Int} (rs : List RowT) : (runP l t rs).1.length ≤ rs.length := by
  have := (run_keys (l := l) (t := t) rs).length_le
  rwa [List.length_map, List.length_map] at this
/-- whether a house stands with these wants -/
def soundW (o : Int) (ws : List Want) : Bool := (!decide (("twice" : Str) ∈ ws.map (·.2))) && decide ((ws.length : Int) ≤ o)
/-- the first break behind one more deed -/
def nextB (sd : Bool) (n : Int) : V → V
  | .non => if sd then .non else .int n
  | v => v
end Ho
set_option Elab.async false
set_option linter.all false
set_option maxRecDepth 100000
set_option maxHeartbeats 4000000
namespace Ho
open PySem L2
def wantO (w : Want) : HO := .tup [.int w.1.1, .int w.1.2.1, .int w.1.2.2, .str w.2]
/-- a list of wants at q -/
def WantsAt (H : Hp) (q : Addr) (ws : List Want) : Prop := ∃ qs : List Addr, H q = some (.lst (qs.map V.ref)) ∧ Paired (fun a w => H a = some (wantO w)) qs ws
def AheadAt (H : Hp) (q : Addr) (n : Nat) (A : Int → Int × Str) : Prop := ∃ kvs : List (Key × V), H q = some (.dK kvs) ∧ kvs.length ≤ n ∧ ∀ bd : Int, (valV kvs (Sum.inl bd : Key) = none ∧ A bd = ((0 : Int), ("out" : Str))) ∨ ∃ a, valV kvs (Sum.inl bd : Key) = some (.ref a) ∧ H a = some (.tup [.int (A bd).1, .str (A bd).2])
theorem WantsAt.same {H H' : Hp} {q : Addr} {ws : List Want} (h : WantsAt H q ws) (s : Same H H') : WantsAt H' q ws := by
  obtain ⟨xs, h1, p1⟩ := h
  exact ⟨xs, s _ _ h1, paired_imp (fun _ _ z => s _ _ z) p1⟩
def sp_wants : Sp := fun vs H Q _ => ∃ (q : Addr) (l x : Int) (rs : List RowT), vs = [.ref q, .int l, .int x] ∧ RowsAt H q rs ∧ rs.length ≤ 900 ∧ ∀ (H' : Hp) (wq : Addr), Same H H' → H wq = none → WantsAt H' wq (runP l x rs).1 → Q (.ref wq) H'
def sp_stand : Sp := fun vs H Q _ => ∃ (q : Addr) (o : Int) (ws : List Want), vs = [.ref q, .int o] ∧ WantsAt H q ws ∧ ws.length ≤ 1000 ∧ ∀ (H' : Hp), Same H H' → Q (.bl (soundW o ws)) H'
theorem inV_strs (z : Str) (ws : List Str) : inV (.str z) (ws.map V.str) = decide (z ∈ ws) := by
  induction ws with
  | nil => rfl
  | cons a ws ih =>
    have e : inV (.str z) ((a :: ws).map V.str) = ((a == z) || inV (.str z) (ws.map V.str)) := rfl
    rw [e, ih]
    by_cases h : a = z
    · subst h; simp
    · have h' : ¬ z = a := fun y => h y.symm
      simp [h, h']
theorem putK_le {κ : Type} [DecidableEq κ] (kvs : List (κ × V)) (k : κ) (v : V) : (putK kvs k v).length ≤ kvs.length + 1 := by
  unfold putK
  split
  · rw [List.length_map]; omega
  · rw [List.length_append]; exact Nat.le_refl _
section
variable {P : Program} {w : World} {K : PySem.W.Frag} {mg : Str → Option Value} {base : Heap} {k : Nat} {f : Addr}
theorem sc_stand : FnScope ["wants", "lost", "words", "badge", "start", "end", "word"] ["wants", "lost"] (defScope s_stand) := ⟨rfl, rfl, rfl, by decide +kernel, rfl, by decide +kernel, by decide +kernel⟩
theorem ok_stand (F : Top1 K "can_stand" "can_stand" s_stand f ["wants", "lost"]) (T : Bl mg) :
    ∃ fd, FnOk P w K mg base (CXe P w) (k + 1) f fd ["wants", "lost"] sp_stand ∧ Binds K fd ["wants", "lost"] [] := by
  refine F.okN sc_stand (fun vs H Q E h => ?_) (fun cdv A outer s H vs Q E hr h => ?_)
  · obtain ⟨_, _, _, rfl, _⟩ := h
    rfl
  · obtain ⟨q, o, ws, rfl, ⟨qs, hq, pq⟩, hl0, kk⟩ := h
    have hlq : qs.length = ws.length := Paired.length pq
    have hl : qs.length ≤ 1000 := by omega
    have hu := hu_of hr
    have nd := sc_stand.nd
    refine ⟨_, (pss_cons (ps_setLc (i := 2) (own := [("badge", 3), ("start", 4), ("end", 5), ("word", 6)]) (g := gTup K 4 (gCons (gName 3) (gCons (gName 4) (gCons (gName 5) (gCons (gName 6) gNil))))) (tt := tYes) (te := tVar 6) rfl nd rfl rfl (sw_true rfl rfl rfl (by decide +kernel)) (pi_list (pv 0))
        (blkOk_by (own := [("badge", 3), ("start", 4), ("end", 5), ("word", 6)]) (N := ["wants", "lost", "words", "badge", "start", "end", "word"]) (sc := defScope s_stand) (by decide +kernel))
        (fun _ _ _ _ _ => (pg_tup rfl (pgs_cons (pg_name (i := 3) nd rfl (Or.inl rfl)) (pgs_cons (pg_name (i := 4) nd rfl (Or.inl rfl)) (pgs_cons (pg_name (i := 5) nd rfl (Or.inl rfl)) (pgs_cons (pg_name (i := 6) nd rfl (Or.inl rfl)) pgs_nil)))))) (fun _ _ _ _ _ => pts_nil) (fun _ _ _ _ _ => (pv 6)))
      (pss_one (ps_ret (pe_and (pe_cmpR op_notIn_seq pe_str (pv 2) (by rfl)) (pe_one (pe_cmpR op_le (pe_callB call_len_seq (by rfl) T.b_len PySem.boot_len (pa_cons (pv 2) pa_nil)) (pv 1) (nomark _))))))), ?_⟩
    refine ⟨_, rfl, q, rfl, ⟨_, SqL.of hq⟩, fun D hD => ?_⟩
    refine lc_list (K := K) (a := q) (xs := qs.map V.ref) (fun i H2 => Same H H2 ∧ H2 D = some (.lst (((ws.take i).map (·.2)).map V.str))) ⟨(Ext.new (S := []) hD).same, upd_same⟩ (fun i H2 _ h => SqL.of (h.1 _ _ hq)) ?_ ?_
    · rintro i y H2 hi ⟨s2, hD2⟩
      rw [List.getElem?_map] at hi
      cases eq : qs[i]? with
      | none => rw [eq] at hi; cases hi
      | some qa =>
        rw [eq] at hi
        cases hi
        have hlt : i < qs.length := (List.getElem?_eq_some_iff.mp eq).1
        obtain ⟨wn, hwn, hqa⟩ := paired_at pq eq
        have et : ws.take (i + 1) = ws.take i ++ [wn] := by rw [List.take_succ, hwn]; rfl
        refine ⟨qa, _, rfl, SqT.of (s2 _ _ hqa), rfl, _, _, rfl, _, _, rfl, _, _, rfl, _, _, rfl, rfl, rfl, ?_⟩
        refine yes ?_
        refine ⟨_, rfl, _, hD2, (by rw [List.length_map, List.length_map, List.length_take]; exact small1000 (by omega)), fun c oc hc => ?_, ?_⟩
        · have nc : c ≠ D := fun z => by rw [z, hD] at hc; cases hc
          rw [upd_ne nc]; exact s2 _ _ hc
        · rw [upd_same, et, List.map_append, List.map_append]; rfl
    · rintro H2 ⟨s2, hD2⟩
      rw [List.take_of_length_le (by rw [List.length_map]; omega)] at hD2
      have fl : ((ws.map (·.2)).map V.str).all flatV = true := by
        rw [List.all_eq_true]
        intro v hv
        obtain ⟨z, _, rfl⟩ := List.mem_map.mp hv
        rfl
      have hin := inV_strs "twice" (ws.map (·.2))
      have kk := kk H2 s2
      refine ⟨_, rfl, D, _, rfl, .inl (SqL.of hD2), rfl, fl, _, rfl, ?_⟩
      rw [hin]
      unfold soundW at kk
      by_cases ht : ("twice" : Str) ∈ ws.map (·.2)
      · rw [decide_eq_true ht] at kk ⊢
        exact iteF kk
      · rw [decide_eq_false ht] at kk ⊢
        refine iteT ⟨_, rfl, D, _, rfl, .inl (SqL.of hD2), _, rfl, _, _, rfl, rfl, ?_⟩
        rw [List.length_map, List.length_map]
        exact kk
theorem sc_wants : FnScope ["rows", "late", "time", "wants", "ahead", "badge", "moment", "word", "last_moment", "last_word", "fault"] ["rows", "late", "time"] (defScope s_wants) := ⟨rfl, rfl, rfl, by decide +kernel, rfl, by decide +kernel, by decide +kernel⟩
theorem ok_wants (F : Top1 K "wants_among" "wants_among" s_wants f ["rows", "late", "time"]) (G_fault : Fn P w K mg base k "fault_between" ["start", "end", "late", "time"] sp_fault) :
    ∃ fd, FnOk P w K mg base (CXe P w) (k + 1) f fd ["rows", "late", "time"] sp_wants ∧ Binds K fd ["rows", "late", "time"] [] := by
  refine F.okN sc_wants (fun vs H Q E h => ?_) (fun cdv A outer s H vs Q E hr h => ?_)
  · obtain ⟨_, _, _, _, rfl, _⟩ := h
    rfl
  · obtain ⟨q, l, x, rs, rfl, ⟨qs, hq, pr⟩, hl, kk⟩ := h
    have hu := hu_of hr
    have nd := sc_wants.nd
    have hlq : qs.length = rs.length := Paired.length pr
    refine ⟨_, (pss_cons (ps_set (i := 3) nd rfl (Or.inl rfl) (pe_lst (pa_nil)))
      (pss_cons (ps_set (i := 4) nd rfl (Or.inl rfl) pe_dnewK)
      (pss_cons (ps_for PassesOwn.never rfl (pi_list (pv 0)) (pg_tup rfl (pgs_cons (pg_name (i := 5) nd rfl (Or.inl rfl)) (pgs_cons (pg_name (i := 6) nd rfl (Or.inl rfl)) (pgs_cons (pg_name (i := 7) nd rfl (Or.inl rfl)) pgs_nil))))
        (pss_cons (ps_asg (pe_dget2 hu (pv 4) (pv 5) (pe_tup (pa_cons pe_int (pa_cons pe_str pa_nil))) ⟨rfl, rfl, rfl, rfl⟩) (pg_tup rfl (pgs_cons (pg_name (i := 8) nd rfl (Or.inl rfl)) (pgs_cons (pg_name (i := 9) nd rfl (Or.inl rfl)) pgs_nil))))
        (pss_cons (ps_set (i := 10) nd rfl (Or.inl rfl) (pcall G_fault hr (by rfl) passN (pa_cons (pv 8) (pa_cons (pv 6) (pa_cons (pv 1) (pa_cons (pv 2) pa_nil))))))
        (pss_cons (ps_if (PW.pt (pw_and (pt_cmpR op_eq (pv 7) (pv 9) (nomark _)) (pw_and1 (pt_cmp (pc_notN (pv 10)))))) (pss_one (ps_expr (pe_bm PySem.F.plainAttrs_list PySem.F.slot_list_append PySem.F.type_list_append mt_append (pv 3) (pa_cons (pe_tup (pa_cons (pv 5) (pa_cons (pv 8) (pa_cons (pv 6) (pa_cons (pv 10) pa_nil))))) pa_nil)))) pss_nil)
        (pss_one (ps_dput hu (pv 4) (pv 5) (pe_tup (pa_cons (pv 6) (pa_cons (pv 7) pa_nil))) rfl))))))
      (pss_one (ps_ret (pv 3)))))), ?_⟩
    refine ⟨Nat.zero_le _, fun wq hwq => ?_⟩
    generalize hH1 : upd H wq _ = H1
    have s1 : Same H H1 := by rw [← hH1]; exact (Ext.new (S := []) hwq).same
    have e1 : H1 wq = some (.lst []) := by rw [← hH1]; exact upd_same
    intro aq haq
    generalize hH2 : upd H1 aq _ = H2
    have s2 : Same H1 H2 := by rw [← hH2]; exact (Ext.new (S := []) haq).same
    have e2 : H2 aq = some (.dK []) := by rw [← hH2]; exact upd_same
    have nwa : wq ≠ aq := ne_of_none e1 haq
    have hw0 : H wq = none := hwq
    have ha0 : H aq = none := s1.free haq
    refine ⟨_, rfl, q, rfl, ⟨_, SqL.of (s2 _ _ (s1 _ _ hq))⟩, for_list (K := K) (a := q) (xs := qs.map V.ref) (fun i σ H3 => ∃ v5 v6 v7 v8 v9 v10, σ = [some (.ref q), some (.int l), some (.int x), some (.ref wq), some (.ref aq), v5, v6, v7, v8, v9, v10] ∧ Same H H3 ∧ WantsAt H3 wq (runP l x (rs.take i)).1 ∧ AheadAt H3 aq i (runP l x (rs.take i)).2)
      ⟨none, none, none, none, none, none, rfl, s1.trans s2, ⟨[], s2 _ _ e1, .nil⟩, ⟨[], e2, Nat.le_refl _, fun bd => .inl ⟨rfl, rfl⟩⟩⟩ (fun i σ H3 _ h => ?_) ?_ ?_⟩
    · obtain ⟨_, _, _, _, _, _, _, s3, _⟩ := h
      exact SqL.of (s3 _ _ hq)
    · rintro i y σ H3 hi ⟨v5, v6, v7, v8, v9, v10, rfl, s3, ⟨ws, hw, pw⟩, kvs, hk, hkl, hkv⟩
      rw [List.getElem?_map] at hi
      cases eq : qs[i]? with
      | none => rw [eq] at hi; cases hi
      | some qa =>
        rw [eq] at hi
        cases hi
        have hlt : i < qs.length := (List.getElem?_eq_some_iff.mp eq).1
        obtain ⟨r, hr1, hqa⟩ := paired_at pr eq
        have et : rs.take (i + 1) = rs.take i ++ [r] := by rw [List.take_succ, hr1]; rfl
        rw [et, run_snoc]
        have hwl : ws.length ≤ i := by
          have e1 := Paired.length pw
          have e2 := run_len (l := l) (t := x) (rs.take i)
          rw [List.length_take] at e2
          omega
        generalize runP l x (rs.take i) = R at pw hkv
        refine ⟨qa, _, rfl, SqT.of (s3 _ _ hqa), rfl, _, _, rfl, _, _, rfl, _, _, rfl, rfl, ?_⟩
        -- last_moment, last_word = ahead.get(badge, (0, "out"))
        refine ⟨_, rfl, aq, rfl, .inl ⟨kvs, .inl hk⟩, _, rfl, (by show 2 ≤ sizeLine; decide), fun q2 hq2 => ?_⟩
        generalize hH4 : upd H3 q2 _ = H4
        have s4 : Same H3 H4 := by rw [← hH4]; exact (Ext.new (S := []) hq2).same
        have e4 : H4 q2 = some (.tup [.int 0, .str "out"]) := by rw [← hH4]; exact upd_same
        refine ⟨_, DGet.k (k := Sum.inl r.1.1) (s4 _ _ hk), ?_⟩
        obtain ⟨la, el, hla⟩ : ∃ (la : Addr), (valV kvs (Sum.inl r.1.1 : Key)).getD (.ref q2) = .ref la ∧ H4 la = some (.tup [.int (R.2 r.1.1).1, .str (R.2 r.1.1).2]) := by
          rcases hkv r.1.1 with ⟨g1, g2⟩ | ⟨a, g1, g2⟩
          · rw [g1, g2]; exact ⟨q2, rfl, e4⟩
          · rw [g1]; exact ⟨a, rfl, s4 _ _ g2⟩
        rw [el]
        refine ⟨la, _, rfl, SqT.of hla, rfl, _, _, rfl, _, _, rfl, rfl, ?_⟩
        -- fault = fault_between(..)
        refine ⟨_, rfl, _, rfl, _, rfl, _, rfl, (R.2 r.1.1).1, r.1.2, l, x, rfl, ?_⟩
        have after : ∀ (H5 : Hp), Same H H5 → WantsAt H5 wq (stepS l x R r).1 → H5 aq = some (.dK kvs) → (∀ b ob, H4 b = some ob → b ≠ wq → H5 b = some ob) → ∀ q5, H5 q5 = none →
            Same H (upd (upd H5 q5 (.tup [.int r.1.2, .str r.2])) aq (.dK (putK kvs (Sum.inl r.1.1) (.ref q5)))) ∧ WantsAt (upd (upd H5 q5 (.tup [.int r.1.2, .str r.2])) aq (.dK (putK kvs (Sum.inl r.1.1) (.ref q5)))) wq (stepS l x R r).1 ∧ AheadAt (upd (upd H5 q5 (.tup [.int r.1.2, .str r.2])) aq (.dK (putK kvs (Sum.inl r.1.1) (.ref q5)))) aq (i + 1) (stepS l x R r).2 := by
          intro H5 s5 ⟨ws5, hw5, pw5⟩ hk5 hkv5 q5 hq5
          have nqa : aq ≠ q5 := ne_of_none hk5 hq5
          have keep : ∀ b ob, H5 b = some ob → b ≠ aq → (upd (upd H5 q5 (.tup [.int r.1.2, .str r.2])) aq (.dK (putK kvs (Sum.inl r.1.1) (.ref q5)))) b = some ob := fun b ob hb nb => by
            rw [upd_ne nb, upd_ne (ne_of_none hb hq5)]; exact hb
          refine ⟨fun b ob hb => keep b ob (s5 _ _ hb) (ne_of_none hb ha0), ⟨ws5, keep _ _ hw5 nwa, paired_imp (fun a w h => keep _ _ h (fun z => by rw [z, hk5] at h; cases h)) pw5⟩, ⟨_, upd_same, by have := putK_le kvs (Sum.inl r.1.1 : Key) (.ref q5); omega, fun bd => ?_⟩⟩
          rw [valV_put]
          by_cases hb : bd = r.1.1
          · have e : (stepS l x R r).2 bd = (r.1.2, r.2) := by show (if bd = r.1.1 then _ else _) = _; rw [if_pos hb]
            rw [e, if_pos (by rw [hb])]
            exact .inr ⟨q5, rfl, by rw [upd_ne nqa.symm]; exact upd_same⟩
          · have e : (stepS l x R r).2 bd = R.2 bd := by show (if bd = r.1.1 then _ else _) = _; rw [if_neg hb]
            rw [e, if_neg (fun z => hb (Sum.inl.inj z))]
            rcases hkv bd with ⟨g1, g2⟩ | ⟨a, g1, g2⟩
            · exact .inl ⟨g1, g2⟩
            · have na : a ≠ wq := fun z => by rw [z, hw] at g2; cases g2
              have g3 := hkv5 _ _ (s4 _ _ g2) na
              exact .inr ⟨a, g1, keep _ _ g3 (fun z => by rw [z, hk5] at g3; cases g3)⟩
        refine ⟨_, rfl, _, rfl, rfl, _, rfl, ?_⟩
        have sA : Same H H4 := s3.trans s4
        have hkl' : kvs.length < sizeLine := small1000 (by omega)
        have pw4 : Paired (fun a w => H4 a = some (wantO w)) ws R.1 := paired_imp (fun _ _ z => s4 _ _ z) pw
        have skip : (stepW l x (R.2 r.1.1) r = []) → WantsAt H4 wq (stepS l x R r).1 := fun e => by
          show WantsAt H4 wq (R.1 ++ stepW l x (R.2 r.1.1) r)
          rw [e, List.append_nil]
          exact ⟨ws, s4 _ _ hw, pw4⟩
        refine ite2 (fun hwd => ?_) (fun hwd => ?_)
        · have hwd : r.2 = (R.2 r.1.1).2 := V.str.inj (of_decide_eq_true hwd)
          refine ⟨_, rfl, _, rfl, ?_⟩
          cases hf : faultB (R.2 r.1.1).1 r.1.2 l x with
          | none =>
            refine iteF ?_
            refine ⟨_, rfl, _, rfl, (by show 2 ≤ sizeLine; decide), fun q5 hq5 => ?_⟩
            refine ⟨_, rfl, _, rfl, aq, _, rfl, DPut.k (k := Sum.inl r.1.1) (by rw [upd_ne (ne_of_none (s4 _ _ hk) hq5)]; exact s4 _ _ hk) hkl', ?_⟩
            exact ⟨_, _, _, _, _, _, rfl, after H4 sA (skip (by unfold stepW; rw [if_pos hwd, hf])) (s4 _ _ hk) (fun _ _ z _ => z) q5 hq5⟩
          | some z =>
            refine iteT ?_
            refine ⟨_, rfl, (.inl ⟨rfl, _, SqL.of (s4 _ _ hw)⟩), _, rfl, _, rfl, _, rfl, _, rfl, (by show 4 ≤ sizeLine; decide), fun q4 hq4 => ?_⟩
            generalize hH5 : upd H4 q4 _ = H5
            have s5 : Same H4 H5 := by rw [← hH5]; exact (Ext.new (S := []) hq4).same
            have e5 : H5 q4 = some (wantO ((r.1.1, (R.2 r.1.1).1, r.1.2), z)) := by rw [← hH5]; exact upd_same
            refine ⟨wq, _, _, rfl, rfl, s5 _ _ (s4 _ _ hw), (by rw [List.length_map]; exact small1000 (by omega)), ?_⟩
            generalize hH6 : upd H5 wq _ = H6
            have x6 : Ext [wq] H5 H6 := by rw [← hH6]; exact Ext.put (by simp)
            have e6 : H6 wq = some (.lst ((ws ++ [q4]).map V.ref)) := by rw [← hH6, List.map_append]; exact upd_same
            have nqw : q4 ≠ wq := fun z => by rw [z, s4 _ _ hw] at hq4; cases hq4
            refine ⟨_, rfl, _, rfl, (by show 2 ≤ sizeLine; decide), fun q5 hq5 => ?_⟩
            have hk6 : H6 aq = some (.dK kvs) := x6 _ _ (s5 _ _ (s4 _ _ hk)) (by simpa using nwa.symm)
            refine ⟨_, rfl, _, rfl, aq, _, rfl, DPut.k (k := Sum.inl r.1.1) (by rw [upd_ne (ne_of_none hk6 hq5)]; exact hk6) hkl', ?_⟩
            refine ⟨_, _, _, _, _, _, rfl, after H6 (fun b ob hb => x6 _ _ (s5 _ _ (sA _ _ hb)) (by simpa using ne_of_none hb hw0)) ?_ hk6 (fun b ob hb nb => x6 _ _ (s5 _ _ hb) (by simpa using nb)) q5 hq5⟩
            show WantsAt H6 wq (R.1 ++ stepW l x (R.2 r.1.1) r)
            have est : stepW l x (R.2 r.1.1) r = [((r.1.1, (R.2 r.1.1).1, r.1.2), z)] := by unfold stepW; rw [if_pos hwd, hf]
            rw [est]
            refine ⟨ws ++ [q4], e6, paired_snoc (paired_imp (fun c w hc => x6 _ _ (s5 _ _ hc) (fun y => by rw [List.mem_singleton.mp y, s4 _ _ hw] at hc; cases hc)) pw4) (x6 _ _ e5 (by simpa using nqw))⟩
        · have hwd : ¬ r.2 = (R.2 r.1.1).2 := fun z => hwd (decide_eq_true (by rw [z]))
          refine ⟨_, rfl, _, rfl, (by show 2 ≤ sizeLine; decide), fun q5 hq5 => ?_⟩
          refine ⟨_, rfl, _, rfl, aq, _, rfl, DPut.k (k := Sum.inl r.1.1) (by rw [upd_ne (ne_of_none (s4 _ _ hk) hq5)]; exact s4 _ _ hk) hkl', ?_⟩
          exact ⟨_, _, _, _, _, _, rfl, after H4 sA (skip (by unfold stepW; rw [if_neg hwd])) (s4 _ _ hk) (fun _ _ z _ => z) q5 hq5⟩
    · rintro σ H3 ⟨v5, v6, v7, v8, v9, v10, rfl, s3, hws, _⟩
      rw [List.take_of_length_le (by rw [List.length_map]; omega)] at hws
      exact ⟨_, rfl, kk H3 wq s3 hw0 hws⟩
end
end Ho
set_option Elab.async false
set_option linter.all false
set_option maxRecDepth 100000
set_option maxHeartbeats 4000000
namespace Ho
open PySem L2
theorem HouseAt.ne {C : Addr} {H : Hp} {p d : Addr} {b l o t : Int} {rs : List RowT} (S : HouseAt C H p d b l o t rs) : d ≠ p := fun z => by
  obtain ⟨dx, n, fb, h1, _⟩ := S.ob
  have := S.dc
  rw [z, h1] at this; cases this
theorem HouseAt.set {C : Addr} {H H' : Hp} {p d : Addr} {b l o t t' : Int} {rs : List RowT} (S : HouseAt C H p d b l o t rs) (e : Ext [p] H H') {dx : Addr} {n : Int} {fb : V} (h : H' p = some (.ins C dx (flds b l o t' d n fb))) (hfb : fb = .non ∨ ∃ i, fb = .int i) (ht : 0 ≤ t' ∧ t' ≤ 60) :
    HouseAt C H' p d b l o t' rs := ⟨⟨dx, n, fb, h, hfb⟩, e _ _ S.dc (by simpa using S.ne), S.nd, S.sz, S.bb, S.lb, S.ob2, ht⟩
/-- how many deeds a house has taken, and where it broke -/
def Brk (H : Hp) (p : Addr) (n : Int) (fb : V) : Prop := ∃ C dx b l o t d, H p = some (.ins C dx (flds b l o t d n fb))
theorem Brk.same {H H' : Hp} {p : Addr} {n : Int} {fb : V} (h : Brk H p n fb) (s : Same H H') : Brk H' p n fb := by
  obtain ⟨C, dx, b, l, o, t, d, h⟩ := h
  exact ⟨C, dx, b, l, o, t, d, s _ _ h⟩
theorem Brk.ext {S : List Addr} {H H' : Hp} {p : Addr} {n : Int} {fb : V} (h : Brk H p n fb) (e : Ext S H H') (hp : p ∉ S) : Brk H' p n fb := by
  obtain ⟨C, dx, b, l, o, t, d, h⟩ := h
  exact ⟨C, dx, b, l, o, t, d, e _ _ h hp⟩
theorem Brk.eq {H : Hp} {p : Addr} {n n' : Int} {fb fb' : V} {C dx : Addr} {b l o t : Int} {d : Addr} (h : Brk H p n fb) (e : H p = some (.ins C dx (flds b l o t d n' fb'))) : n = n' ∧ fb = fb' := by
  obtain ⟨C, dx, b, l, o, t, d, h⟩ := h
  rw [h] at e
  injection e with e
  injection e with _ _ e
  unfold flds at e
  simp only [List.cons.injEq, Prod.mk.injEq, V.int.injEq] at e
  exact ⟨e.2.2.2.2.2.1.2, e.2.2.2.2.2.2.1.2⟩
def Moves (H H' : Hp) (p : Addr) (o l x : Int) (rs : List RowT) : Prop := ∀ (n : Int) (fb : V) (rs' : List RowT), Brk H p n fb → Srt rs' rs → Brk H' p (n + 1) (nextB (soundW o (runP l x rs').1) n fb)
def sp_mo (C : Addr) : Sp := fun vs H Q _ => ∃ p d b l o t rs x, vs = [.ref p, .int x] ∧ HouseAt C H p d b l o t rs ∧ t ≤ x ∧ x ≤ 60 ∧ rs.length ≤ 900 ∧ ∀ H', Ext [p] H H' → HouseAt C H' p d b l o x rs → Moves H H' p o l x rs → Q .non H'
def sp_tick (C cBT : Addr) : Sp := fun vs H Q E => ∃ p d b l o t rs x, vs = [.ref p, .int x] ∧ HouseAt C H p d b l o t rs ∧ Sm x ∧ rs.length ≤ 900 ∧
  (t ≤ x → x ≤ 60 → ∀ H', Ext [p] H H' → HouseAt C H' p d b l o x rs → Moves H H' p o l x rs → Q .non H') ∧ (¬ (t ≤ x ∧ x ≤ 60) → ∀ H' a, Same H H' → H' a = none → E (.ref cBT) (some a) H')
def sp_come (C cBR : Addr) : Sp := fun vs H Q E => ∃ p d b l o t rs x bd mo wd, vs = [.ref p, .int x, .int bd, .int mo, .str wd] ∧ HouseAt C H p d b l o t rs ∧ Sm x ∧ Sm bd ∧ Sm mo ∧ (reprText wd).length ≤ 40 ∧ rs.length ≤ 800 ∧
  (CanRow b l t rs x bd mo wd → ∀ H', Ext [p, d] H H' → HouseAt C H' p d b l o x (rs ++ [((bd, mo), wd)]) → Moves H H' p o l x (rs ++ [((bd, mo), wd)]) → Q .non H') ∧ (¬ CanRow b l t rs x bd mo wd → ∀ H' a, Same H H' → H' a = none → E (.ref cBR) (some a) H')
def sp_init (C cBH : Addr) : Sp := fun vs H Q E => ∃ p dx b l o, vs = [.ref p, .int b, .int l, .int o] ∧ H p = some (.ins C dx []) ∧ Sm b ∧ Sm l ∧ Sm o ∧
  ((1 ≤ b ∧ b ≤ 6) ∧ (0 ≤ l ∧ l ≤ 9) ∧ (0 ≤ o ∧ o ≤ 6) → ∀ H' d, Ext [p] H H' → H d = none → HouseAt C H' p d b l o 0 [] → Brk H' p 0 .non → Q .non H') ∧
  (¬ ((1 ≤ b ∧ b ≤ 6) ∧ (0 ≤ l ∧ l ≤ 9) ∧ (0 ≤ o ∧ o ≤ 6)) → ∀ H' a, Same H H' → H' a = none → E (.ref cBH) (some a) H')
section
variable {P : Program} {w : World} {K : PySem.W.Frag} {mg : Str → Option Value} {base : Heap} {k : Nat} {f C aW cBH cBR cBT : Addr}
theorem sc_mo : FnScope ["self", "time"] ["self", "time"] (defScope s_mo) := ⟨rfl, rfl, rfl, by decide +kernel, rfl, by decide +kernel, by decide +kernel⟩
theorem ok_mo (F : Top1 K "move_on" "House.move_on" s_mo f ["self", "time"]) (T : HouseT K mg C aW cBH cBR cBT) (M_rows : Mt P w K mg base k C "rows" ["self"] (sp_rows C)) (G_wants : Fn P w K mg base k "wants_among" ["rows", "late", "time"] sp_wants) (G_stand : Fn P w K mg base k "can_stand" ["wants", "lost"] sp_stand) :
    ∃ fd, FnOk P w K mg base (CXe P w) (k + 1) f fd ["self", "time"] (sp_mo C) ∧ Binds K fd ["self", "time"] [] := by
  refine F.okN sc_mo (fun vs H Q E h => ?_) (fun cdv A outer s H vs Q E hr h => ?_)
  · obtain ⟨_, _, _, _, _, _, _, _, rfl, _⟩ := h
    rfl
  · obtain ⟨p, d, b, l, o, t, rs, x, rfl, S, hx1, hx2, hsz, kk⟩ := h
    have hu := hu_of hr
    have nd := sc_mo.nd
    obtain ⟨dx, n, fb, h1, hfb⟩ := S.ob
    refine ⟨_, (pss_cons (ps_fld (pv 0) (pv 1) rfl)
      (pss_cons (ps_if (PW.pt (pw_and (pt_cmp (pc_isN (pe_fld (pv 0) rfl))) (pw_and1 (pt_not (pt_val (pcall G_stand hr (by rfl) passN (pa_cons (pcall G_wants hr (by rfl) passN (pa_cons (pmeth0 (pv 0) T.cl M_rows hr passN) (pa_cons (pe_fld (pv 0) rfl) (pa_cons (pv 1) pa_nil)))) (pa_cons (pe_fld (pv 0) rfl) pa_nil)))))))) (pss_one (ps_fld (pv 0) (pe_fld (pv 0) rfl) rfl)) pss_nil)
      (pss_one (ps_fldaug (pv 0) pe_int in_add)))), ?_⟩
    have hl7 : ∀ t n fb, (flds b l o t d n fb).length < 1000 := fun _ _ _ => by show 7 < 1000; decide
    refine ⟨_, rfl, _, rfl, p, C, dx, _, rfl, h1, T.cl, T.n_now, hl7 .., ?_⟩
    rw [p_now]
    generalize hH1 : upd H p _ = H1
    have e1 : H1 p = some (.ins C dx (flds b l o x d n fb)) := by rw [← hH1]; exact upd_same
    have x1 : Ext [p] H H1 := by rw [← hH1]; exact Ext.put (by simp)
    have tb := S.tb
    have S1 := S.set x1 e1 hfb ⟨by omega, hx2⟩
    refine ⟨_, rfl, p, C, dx, _, _, rfl, e1, T.cl, T.n_fb, f_fb .., _, rfl, ?_⟩
    have fin : ∀ (H3 : Hp) (dx3 : Addr) (fb3 : V), Ext [p] H H3 → H3 p = some (.ins C dx3 (flds b l o x d n fb3)) → (fb3 = .non ∨ ∃ i, fb3 = .int i) → (∀ rs', Srt rs' rs → fb3 = nextB (soundW o (runP l x rs').1) n fb) → Q .non (upd H3 p (.ins C dx3 (flds b l o x d (n + 1) fb3))) := fun H3 dx3 fb3 x3 e3 hf3 hnx => by
      have x4 : Ext [p] H (upd H3 p (.ins C dx3 (flds b l o x d (n + 1) fb3))) := x3.tr (Ext.put (by simp))
      refine kk _ x4 (S.set x4 upd_same hf3 ⟨by omega, hx2⟩) fun n' fb' rs' hB hS => ?_
      obtain ⟨rfl, rfl⟩ := hB.eq h1
      rw [← hnx rs' hS]
      exact ⟨_, _, _, _, _, _, _, upd_same⟩
    refine ite2 (fun hnon => ?_) (fun hnon => ?_)
    · refine ⟨_, rfl, p, dx, _, rfl, e1, rfl, p, d, b, l, o, x, rs, rfl, S1, fun H2 q rs' s2 _ hq2 pm so => ?_⟩
      have e2 := s2 _ _ e1
      refine ⟨_, rfl, p, C, dx, _, _, rfl, e2, T.cl, T.n_late, f_late .., _, rfl, q, l, x, rs', rfl, hq2, (by rw [pm.length_eq]; exact hsz), fun H3 wq s3 _ hw => ?_⟩
      have e3 := s3 _ _ e2
      have hS' : Srt rs' rs := ⟨sorted_of S.nd pm so, fun r => pm.mem_iff⟩
      have hfn : fb = .non := by
        rcases hfb with h | ⟨i, rfl⟩
        · exact h
        · cases hnon
      have hrl := run_len (l := l) (t := x) rs'
      rw [pm.length_eq] at hrl
      refine ⟨_, rfl, p, C, dx, _, _, rfl, e3, T.cl, T.n_lost, f_lost .., wq, o, _, rfl, hw, by omega, fun H4 s4 => ?_⟩
      have e4 := s4 _ _ e3
      have x4 : Ext [p] H H4 := x1.tr ((s2.trans (s3.trans s4)).ext _)
      refine ⟨_, rfl, ?_⟩
      refine ite2 (fun hs => ?_) (fun hs => ?_)
      · refine ⟨_, rfl, p, C, dx, _, _, rfl, e4, T.cl, T.n_taken, f_taken .., _, rfl, p, C, dx, _, rfl, e4, T.cl, T.n_fb, hl7 .., ?_⟩
        rw [p_fb]
        generalize hH5 : upd H4 p _ = H5
        have e5 : H5 p = some (.ins C dx (flds b l o x d n (.int n))) := by rw [← hH5]; exact upd_same
        have x5 : Ext [p] H4 H5 := by rw [← hH5]; exact Ext.put (by simp)
        refine ⟨_, rfl, p, C, dx, _, _, rfl, e5, T.cl, T.n_taken, f_taken .., _, _, rfl, rfl, dx, _, e5, hl7 .., ?_⟩
        rw [p_taken]
        refine fin H5 dx (.int n) (x4.tr x5) e5 (.inr ⟨_, rfl⟩) fun rs2 h2 => ?_
        rw [h2.uniq hS', hfn]
        have hs : soundW o (runP l x rs').1 = false := by simpa using hs
        rw [hs]; rfl
      · refine ⟨_, rfl, p, C, dx, _, _, rfl, e4, T.cl, T.n_taken, f_taken .., _, _, rfl, rfl, dx, _, e4, hl7 .., ?_⟩
        rw [p_taken]
        refine fin H4 dx fb x4 e4 hfb fun rs2 h2 => ?_
        rw [h2.uniq hS', hfn]
        have hs : soundW o (runP l x rs').1 = true := by simpa using hs
        rw [hs]; rfl
    · refine ⟨_, rfl, p, C, dx, _, _, rfl, e1, T.cl, T.n_taken, f_taken .., _, _, rfl, rfl, dx, _, e1, hl7 .., ?_⟩
      rw [p_taken]
      refine fin H1 dx fb x1 e1 hfb fun rs2 h2 => ?_
      rcases hfb with rfl | ⟨i, rfl⟩
      · exact (hnon rfl).elim
      · rfl
theorem sc_tick : FnScope ["self", "time", "fault"] ["self", "time"] (defScope s_tick) := ⟨rfl, rfl, rfl, by decide +kernel, rfl, by decide +kernel, by decide +kernel⟩
theorem ok_tick (F : Top1 K "tick" "House.tick" s_tick f ["self", "time"]) (T : HouseT K mg C aW cBH cBR cBT) (M_tf : Mt P w K mg base k C "time_fault" ["self", "time"] (sp_tf C)) (M_mo : Mt P w K mg base k C "move_on" ["self", "time"] (sp_mo C)) :
    ∃ fd, FnOk P w K mg base (CXe P w) (k + 1) f fd ["self", "time"] (sp_tick C cBT) ∧ Binds K fd ["self", "time"] [] := by
  refine F.okE sc_tick (fun vs H Q E h => ?_) (fun cdv A outer s H vs Q E hr h => ?_)
  · obtain ⟨_, _, _, _, _, _, _, _, rfl, _⟩ := h
    rfl
  · obtain ⟨p, d, b, l, o, t, rs, x, rfl, S, hx, hsz, k1, k2⟩ := h
    have hu := hu_of hr
    have nd := sc_tick.nd
    obtain ⟨dx, n, fb, h1, hfb⟩ := S.ob
    refine ⟨_, (pss_cons (ps_set (i := 2) nd rfl (Or.inl rfl) (pmeth (pv 0) T.cl M_tf hr passN (pa_cons (pv 1) pa_nil)))
      (pss_cons (ps_if (pt_cmp (pc_notN (pv 2))) (pss_one (ps_raise T.x_BadTime PySem.F.excBase_ValueError freshUp rfl (by rfl) (pa_cons (pv 2) pa_nil))) pss_nil)
      (pss_one (ps_expr (pmeth (pv 0) T.cl M_mo hr passN (pa_cons (pv 1) pa_nil)))))), ?_⟩
    refine ⟨_, rfl, p, dx, _, rfl, h1, rfl, _, rfl, p, d, b, l, o, t, rs, x, rfl, S, hx, fun g1 g2 => ?_, fun g z => ?_⟩
    · refine ⟨_, rfl, _, rfl, ?_⟩
      refine iteF ?_
      exact ⟨_, rfl, p, dx, _, rfl, h1, rfl, _, rfl, p, d, b, l, o, t, rs, x, rfl, S, g1, g2, hsz, fun H' x' S' m' => k1 g1 g2 H' x' S' m'⟩
    · refine ⟨_, rfl, _, rfl, ?_⟩
      refine iteT ?_
      exact ⟨_, rfl, (by show 1 ≤ sizeLine; decide), fun a ha => k2 g _ a (Same.refl _) ha⟩
theorem kvs_snoc (rs : List RowT) (q : Int × Int) (wd : Str) (h : q ∉ rs.map (·.1)) : putK (kvsOf rs) (keyP q) (.str wd) = kvsOf (rs ++ [(q, wd)]) := by
  unfold putK
  rw [if_neg]
  · unfold kvsOf
    rw [List.map_append]; rfl
  · intro ha
    obtain ⟨kv, hm, e⟩ := List.any_eq_true.mp ha
    unfold kvsOf at hm
    obtain ⟨r, hr, rfl⟩ := List.mem_map.mp hm
    have e' : keyP r.1 = keyP q := of_decide_eq_true e
    exact h (keyP_inj e' ▸ List.mem_map_of_mem hr)
theorem sc_come : FnScope ["self", "time", "badge", "moment", "word", "fault"] ["self", "time", "badge", "moment", "word"] (defScope s_come) := ⟨rfl, rfl, rfl, by decide +kernel, rfl, by decide +kernel, by decide +kernel⟩
theorem ok_come (F : Top1 K "come" "House.come" s_come f ["self", "time", "badge", "moment", "word"]) (T : HouseT K mg C aW cBH cBR cBT) (M_rf : Mt P w K mg base k C "row_fault" ["self", "time", "badge", "moment", "word"] (sp_rf C)) (M_mo : Mt P w K mg base k C "move_on" ["self", "time"] (sp_mo C)) :
    ∃ fd, FnOk P w K mg base (CXe P w) (k + 1) f fd ["self", "time", "badge", "moment", "word"] (sp_come C cBR) ∧ Binds K fd ["self", "time", "badge", "moment", "word"] [] := by
  refine F.okE sc_come (fun vs H Q E h => ?_) (fun cdv A outer s H vs Q E hr h => ?_)
  · obtain ⟨_, _, _, _, _, _, _, _, _, _, _, rfl, _⟩ := h
    rfl
  · obtain ⟨p, d, b, l, o, t, rs, x, bd, mo, wd, rfl, S, hx, hb, hm, hw, hsz, k1, k2⟩ := h
    have hu := hu_of hr
    have nd := sc_come.nd
    obtain ⟨dx, n, fb, h1, hfb⟩ := S.ob
    refine ⟨_, (pss_cons (ps_set (i := 5) nd rfl (Or.inl rfl) (pmeth (pv 0) T.cl M_rf hr passN (pa_cons (pv 1) (pa_cons (pv 2) (pa_cons (pv 3) (pa_cons (pv 4) pa_nil))))))
      (pss_cons (ps_if (pt_cmp (pc_notN (pv 5))) (pss_one (ps_raise T.x_BadRow PySem.F.excBase_ValueError freshUp rfl (by rfl) (pa_cons (pv 5) pa_nil))) pss_nil)
      (pss_cons (ps_dput hu (pe_fld (pv 0) rfl) (pe_tup (pa_cons (pv 2) (pa_cons (pv 3) pa_nil))) (pv 4) rfl)
      (pss_one (ps_expr (pmeth (pv 0) T.cl M_mo hr passN (pa_cons (pv 1) pa_nil))))))), ?_⟩
    refine ⟨_, rfl, p, dx, _, rfl, h1, rfl, _, rfl, _, rfl, _, rfl, _, rfl, p, d, b, l, o, t, rs, x, bd, mo, wd, rfl, S, hx, hb, hm, hw, fun H1 s1 => ⟨fun g => ?_, fun g z => ?_⟩⟩
    · have e1 := s1 _ _ h1
      refine ⟨_, rfl, _, rfl, ?_⟩
      refine iteF ?_
      refine ⟨_, rfl, _, rfl, p, C, dx, _, _, rfl, e1, T.cl, T.n_words, f_words .., _, rfl, _, rfl, (by show 2 ≤ sizeLine; decide), fun q hq => ?_⟩
      generalize hH2 : upd H1 q _ = H2
      have s2 : Same H1 H2 := by rw [← hH2]; exact (Ext.new (S := []) hq).same
      have e2 : H2 q = some (.tup ((keyP (bd, mo)).map kV)) := by rw [← hH2]; exact upd_same
      have S2 := S.same (s1.trans s2)
      refine ⟨d, _, rfl, DPut.t (k := keyP (bd, mo)) S2.dc e2 (by unfold kvsOf; rw [List.length_map]; exact small1000 (by omega)), ?_⟩
      rw [kvs_snoc rs (bd, mo) wd g.2.2.2.2.1]
      generalize hH3 : upd H2 d _ = H3
      have x3 : Ext [d] H2 H3 := by rw [← hH3]; exact Ext.put (by simp)
      have e3 : H3 d = some (.dT (kvsOf (rs ++ [((bd, mo), wd)]))) := by rw [← hH3]; exact upd_same
      have ep := x3 _ _ (s2 _ _ e1) (by simpa using S.ne.symm)
      have S3 : HouseAt C H3 p d b l o t (rs ++ [((bd, mo), wd)]) := ⟨⟨dx, n, fb, ep, hfb⟩, e3, by
        rw [List.map_append]
        refine List.nodup_append.mpr ⟨S.nd, by simp, ?_⟩
        intro a ha c hc
        rw [List.mem_singleton.mp hc]
        exact fun z => g.2.2.2.2.1 (by have z' : a = (bd, mo) := z; exact z' ▸ ha), by rw [List.length_append]; show rs.length + 1 ≤ 1000; omega, S.bb, S.lb, S.ob2, S.tb⟩
      refine ⟨_, rfl, p, dx, _, rfl, ep, rfl, _, rfl, p, d, b, l, o, t, _, x, rfl, S3, g.2.2.2.2.2.1, g.2.2.2.2.2.2, (by rw [List.length_append]; show rs.length + 1 ≤ 900; omega), fun H4 x4 S4 m4 => ?_⟩
      refine k1 g H4 (fun c oc hc hn => ?_) S4 (fun n' fb' rs2 hB hS => m4 n' fb' rs2 ((hB.same (s1.trans s2)).ext x3 (by simpa using S.ne.symm)) hS)
      exact x4 _ _ (x3 _ _ (s2 _ _ (s1 _ _ hc)) (by simp at hn; simpa using hn.2)) (by simp at hn; simpa using hn.1)
    · refine ⟨_, rfl, _, rfl, ?_⟩
      refine iteT ?_
      exact ⟨_, rfl, (by show 1 ≤ sizeLine; decide), fun a ha => k2 g _ a s1 ha⟩
theorem sc_init : FnScope ["self", "badges", "late", "lost"] ["self", "badges", "late", "lost"] (defScope s_init) := ⟨rfl, rfl, rfl, by decide +kernel, rfl, by decide +kernel, by decide +kernel⟩
theorem ok_init (F : Top1 K "__init__" "House.__init__" s_init f ["self", "badges", "late", "lost"]) (T : HouseT K mg C aW cBH cBR cBT) :
    ∃ fd, FnOk P w K mg base (CXe P w) (k + 1) f fd ["self", "badges", "late", "lost"] (sp_init C cBH) ∧ Binds K fd ["self", "badges", "late", "lost"] [] := by
  refine F.okE sc_init (fun vs H Q E h => ?_) (fun cdv A outer s H vs Q E hr h => ?_)
  · obtain ⟨_, _, _, _, _, rfl, _⟩ := h
    rfl
  · obtain ⟨p, dx, b, l, o, rfl, h1, hb, hl, ho, k1, k2⟩ := h
    have hu := hu_of hr
    have nd := sc_init.nd
    refine ⟨_, (pss_cons (ps_if (pt_not (pt_chain op_le op_le pe_int (pv 1) (pe_gint (by rfl) T.m_MB))) (pss_one (ps_raise T.x_BadHouse PySem.F.excBase_ValueError freshUp rfl (by rfl) (pa_cons (pe_fstr (pj_str (pj_int (pe_gint (by rfl) T.m_MB) (pj_str (pj_int (pv 1) pj_nil)))) (by decide +kernel)) pa_nil))) pss_nil)
      (pss_cons (ps_if (pt_not (pt_chain op_le op_le pe_int (pv 2) (pe_gint (by rfl) T.m_ML))) (pss_one (ps_raise T.x_BadHouse PySem.F.excBase_ValueError freshUp rfl (by rfl) (pa_cons (pe_fstr (pj_str (pj_int (pe_gint (by rfl) T.m_ML) (pj_str (pj_int (pv 2) pj_nil)))) (by decide +kernel)) pa_nil))) pss_nil)
      (pss_cons (ps_if (pt_not (pt_chain op_le op_le pe_int (pv 3) (pe_gint (by rfl) T.m_MO))) (pss_one (ps_raise T.x_BadHouse PySem.F.excBase_ValueError freshUp rfl (by rfl) (pa_cons (pe_fstr (pj_str (pj_int (pe_gint (by rfl) T.m_MO) (pj_str (pj_int (pv 3) pj_nil)))) (by decide +kernel)) pa_nil))) pss_nil)
      (pss_cons (ps_fld (pv 0) (pv 1) rfl)
      (pss_cons (ps_fld (pv 0) (pv 2) rfl)
      (pss_cons (ps_fld (pv 0) (pv 3) rfl)
      (pss_cons (ps_fld (pv 0) pe_int rfl)
      (pss_cons (ps_fld (pv 0) pe_dnewT rfl)
      (pss_cons (ps_fld (pv 0) pe_int rfl)
      (pss_one (ps_fld (pv 0) pe_non rfl))))))))))), ?_⟩
    have one : (1 : Nat) ≤ sizeLine := by decide
    refine ⟨_, rfl, _, _, rfl, rfl, _, rfl, ?_⟩
    by_cases g1 : 1 ≤ b
    · rw [decide_eq_true g1]
      refine iteT ⟨_, _, rfl, rfl, _, rfl, ?_⟩
      by_cases g2 : b ≤ 6
      · rw [decide_eq_true g2]
        refine iteF ?_
        refine ⟨_, rfl, _, _, rfl, rfl, _, rfl, ?_⟩
        by_cases g3 : 0 ≤ l
        · rw [decide_eq_true g3]
          refine iteT ⟨_, _, rfl, rfl, _, rfl, ?_⟩
          by_cases g4 : l ≤ 9
          · rw [decide_eq_true g4]
            refine iteF ?_
            refine ⟨_, rfl, _, _, rfl, rfl, _, rfl, ?_⟩
            by_cases g5 : 0 ≤ o
            · rw [decide_eq_true g5]
              refine iteT ⟨_, _, rfl, rfl, _, rfl, ?_⟩
              by_cases g6 : o ≤ 6
              · rw [decide_eq_true g6]
                refine iteF ?_
                refine ⟨_, rfl, _, rfl, p, C, dx, _, rfl, h1, T.cl, T.n_badges, (by show 0 < 1000; decide), ?_⟩
                refine ⟨_, rfl, _, rfl, p, C, dx, _, rfl, upd_same, T.cl, T.n_late, (by show 1 < 1000; decide), ?_⟩
                refine ⟨_, rfl, _, rfl, p, C, dx, _, rfl, upd_same, T.cl, T.n_lost, (by show 2 < 1000; decide), ?_⟩
                refine ⟨_, rfl, p, C, dx, _, rfl, upd_same, T.cl, T.n_now, (by show 3 < 1000; decide), ?_⟩
                generalize hH1 : upd _ p _ = H1
                have e1 : H1 p = some (.ins C dx [("badges", .int b), ("late", .int l), ("lost", .int o), ("now", .int 0)]) := by rw [← hH1]; exact upd_same
                have x1 : Ext [p] H H1 := by rw [← hH1]; exact ((Ext.put (by simp)).tr (Ext.put (by simp))).tr ((Ext.put (by simp)).tr (Ext.put (by simp)))
                intro d hd
                have hd0 : H d = none := (x1.none hd).resolve_right (by simpa using (ne_of_none e1 hd).symm)
                have hdp : d ≠ p := (ne_of_none e1 hd).symm
                generalize hH2 : upd H1 d _ = H2
                have s2 : Same H1 H2 := by rw [← hH2]; exact (Ext.new (S := []) hd).same
                have e2 : H2 d = some (.dT []) := by rw [← hH2]; exact upd_same
                refine ⟨_, rfl, p, C, dx, _, rfl, s2 _ _ e1, T.cl, T.n_words, (by show 4 < 1000; decide), ?_⟩
                refine ⟨_, rfl, p, C, dx, _, rfl, upd_same, T.cl, T.n_taken, (by show 5 < 1000; decide), ?_⟩
                refine ⟨_, rfl, p, C, dx, _, rfl, upd_same, T.cl, T.n_fb, (by show 6 < 1000; decide), ?_⟩
                generalize hH3 : upd _ p _ = H3
                have e3 : H3 p = some (.ins C dx (flds b l o 0 d 0 .non)) := by rw [← hH3]; exact upd_same
                have x3 : Ext [p] H2 H3 := by rw [← hH3]; exact ((Ext.put (by simp)).tr (Ext.put (by simp))).tr (Ext.put (by simp))
                refine k1 ⟨⟨g1, g2⟩, ⟨g3, g4⟩, g5, g6⟩ H3 d (x1.tr ((s2.ext _).tr x3)) hd0 ⟨⟨dx, 0, .non, e3, .inl rfl⟩, x3 _ _ e2 (by simpa using hdp), List.nodup_nil, Nat.zero_le _, ⟨g1, g2⟩, ⟨g3, g4⟩, ⟨g5, g6⟩, ⟨by decide, by decide⟩⟩ ⟨_, _, _, _, _, _, _, e3⟩
              · rw [decide_eq_false g6]
                refine iteT ?_
                exact ⟨⟨6, rfl, sm_of (by decide) (by decide)⟩, _, rfl, ⟨o, rfl, ho⟩, fun _ => ⟨one, fun a ha => k2 (fun z => g6 z.2.2.2) _ a (Same.refl _) ha⟩⟩
            · rw [decide_eq_false g5]
              refine iteF ⟨_, rfl, ?_⟩
              refine iteT ?_
              exact ⟨⟨6, rfl, sm_of (by decide) (by decide)⟩, _, rfl, ⟨o, rfl, ho⟩, fun _ => ⟨one, fun a ha => k2 (fun z => g5 z.2.2.1) _ a (Same.refl _) ha⟩⟩
          · rw [decide_eq_false g4]
            refine iteT ?_
            exact ⟨⟨9, rfl, sm_of (by decide) (by decide)⟩, _, rfl, ⟨l, rfl, hl⟩, fun _ => ⟨one, fun a ha => k2 (fun z => g4 z.2.1.2) _ a (Same.refl _) ha⟩⟩
        · rw [decide_eq_false g3]
          refine iteF ⟨_, rfl, ?_⟩
          refine iteT ?_
          exact ⟨⟨9, rfl, sm_of (by decide) (by decide)⟩, _, rfl, ⟨l, rfl, hl⟩, fun _ => ⟨one, fun a ha => k2 (fun z => g3 z.2.1.1) _ a (Same.refl _) ha⟩⟩
      · rw [decide_eq_false g2]
        refine iteT ?_
        exact ⟨⟨6, rfl, sm_of (by decide) (by decide)⟩, _, rfl, ⟨b, rfl, hb⟩, fun _ => ⟨one, fun a ha => k2 (fun z => g2 z.1.2) _ a (Same.refl _) ha⟩⟩
    · rw [decide_eq_false g1]
      refine iteF ⟨_, rfl, ?_⟩
      refine iteT ?_
      exact ⟨⟨6, rfl, sm_of (by decide) (by decide)⟩, _, rfl, ⟨b, rfl, hb⟩, fun _ => ⟨one, fun a ha => k2 (fun z => g1 z.1.1) _ a (Same.refl _) ha⟩⟩
/-! ### worlds: wants and is_sound -/
def sp_wwants (C : Addr) : Sp := fun vs H Q _ => ∃ p d b l o t rs, vs = [.ref p] ∧ HouseAt C H p d b l o t rs ∧ rs.length ≤ 900 ∧ ∀ H' wq rs', Same H H' → H wq = none → Srt rs' rs → WantsAt H' wq (runP l t rs').1 → Q (.ref wq) H'
def sp_wsound (C : Addr) : Sp := fun vs H Q _ => ∃ p d b l o t rs, vs = [.ref p] ∧ HouseAt C H p d b l o t rs ∧ rs.length ≤ 900 ∧ ∀ H' rs', Same H H' → Srt rs' rs → Q (.bl (soundW o (runP l t rs').1)) H'
theorem sc_wwants : FnScope ["house"] ["house"] (defScope s_wwants) := ⟨rfl, rfl, rfl, by decide +kernel, rfl, by decide +kernel, by decide +kernel⟩
theorem sc_wsound : FnScope ["house"] ["house"] (defScope s_wsound) := ⟨rfl, rfl, rfl, by decide +kernel, rfl, by decide +kernel, by decide +kernel⟩
theorem ok_wwants (F : Top1 K "wants" "wants" s_wwants f ["house"]) (T : HouseT K mg C aW cBH cBR cBT) (M_rows : Mt P w K mg base k C "rows" ["self"] (sp_rows C)) (M_time : Mt P w K mg base k C "time" ["self"] (sp_time C)) (G_wants : Fn P w K mg base k "wants_among" ["rows", "late", "time"] sp_wants) :
    ∃ fd, FnOk P w K mg base (CXe P w) (k + 1) f fd ["house"] (sp_wwants C) ∧ Binds K fd ["house"] [] := by
  refine F.okN sc_wwants (fun vs H Q E h => ?_) (fun cdv A outer s H vs Q E hr h => ?_)
  · obtain ⟨_, _, _, _, _, _, _, rfl, _⟩ := h
    rfl
  · obtain ⟨p, d, b, l, o, t, rs, rfl, S, hsz, kk⟩ := h
    obtain ⟨dx, n, fb, h1, _⟩ := S.ob
    refine ⟨_, (pss_one (ps_ret (pcall G_wants hr (by rfl) passN (pa_cons (pmeth0 (pv 0) T.cl M_rows hr passN) (pa_cons (pe_fld (pv 0) rfl) (pa_cons (pmeth0 (pv 0) T.cl M_time hr passN) pa_nil)))))), ?_⟩
    refine ⟨_, rfl, p, dx, _, rfl, h1, rfl, p, d, b, l, o, t, rs, rfl, S, fun H2 q rs' s2 _ hq2 pm so => ?_⟩
    have e2 := s2 _ _ h1
    refine ⟨_, rfl, p, C, dx, _, _, rfl, e2, T.cl, T.n_late, f_late .., _, rfl, p, dx, _, rfl, e2, rfl, p, d, b, l, o, t, rs, rfl, S.same s2, q, l, t, rs', rfl, hq2, (by rw [pm.length_eq]; exact hsz), fun H3 wq s3 hn hw => ?_⟩
    exact kk H3 wq rs' (s2.trans s3) (s2.free hn) ⟨sorted_of S.nd pm so, fun r => pm.mem_iff⟩ hw
theorem ok_wsound (F : Top1 K "is_sound" "is_sound" s_wsound f ["house"]) (T : HouseT K mg C aW cBH cBR cBT) (G_wwants : Fn P w K mg base k "wants" ["house"] (sp_wwants C)) (G_stand : Fn P w K mg base k "can_stand" ["wants", "lost"] sp_stand) :
    ∃ fd, FnOk P w K mg base (CXe P w) (k + 1) f fd ["house"] (sp_wsound C) ∧ Binds K fd ["house"] [] := by
  refine F.okN sc_wsound (fun vs H Q E h => ?_) (fun cdv A outer s H vs Q E hr h => ?_)
  · obtain ⟨_, _, _, _, _, _, _, rfl, _⟩ := h
    rfl
  · obtain ⟨p, d, b, l, o, t, rs, rfl, S, hsz, kk⟩ := h
    obtain ⟨dx, n, fb, h1, _⟩ := S.ob
    refine ⟨_, (pss_one (ps_ret (pcall G_stand hr (by rfl) passN (pa_cons (pcall G_wwants hr (by rfl) passN (pa_cons (pv 0) pa_nil)) (pa_cons (pe_fld (pv 0) rfl) pa_nil))))), ?_⟩
    refine ⟨_, rfl, p, d, b, l, o, t, rs, rfl, S, hsz, fun H2 wq rs' s2 _ hS hw => ?_⟩
    have hl := run_len (l := l) (t := t) rs'
    have hl2 := len_le hS.1 (fun r h => (hS.2 r).mp h)
    refine ⟨_, rfl, p, C, dx, _, _, rfl, s2 _ _ h1, T.cl, T.n_lost, f_lost .., wq, o, _, rfl, hw, by omega, fun H3 s3 => ?_⟩
    exact kk H3 rs' (s2.trans s3) hS
end
end Ho
set_option Elab.async false
set_option linter.all false
set_option maxRecDepth 100000
set_option maxHeartbeats 4000000
namespace Ho
open PySem L2
/-! ### _law_alike -/
def AL0 (x y : V) : Prop := x = y ∧ (x = .non ∨ (∃ b, x = .bl b) ∨ (∃ i, x = .int i) ∨ ∃ s, x = .str s)
def AL (H : Hp) : Nat → V → V → Prop
  | 0, x, y => AL0 x y
  | n + 1, x, y => AL0 x y ∨ ∃ a b xs ys, x = .ref a ∧ y = .ref b ∧ ((H a = some (.lst xs) ∧ H b = some (.lst ys)) ∨ (H a = some (.tup xs) ∧ H b = some (.tup ys))) ∧ xs.length = ys.length ∧ xs.length ≤ 1000 ∧ ∀ (i : Nat) (u v : V), xs[i]? = some u → ys[i]? = some v → AL H n u v
theorem AL.same {H H' : Hp} (s : Same H H') : ∀ {n : Nat} {x y : V}, AL H n x y → AL H' n x y
  | 0, _, _, h => h
  | n + 1, _, _, h => by
    rcases h with h | ⟨a, b, xs, ys, e1, e2, hab, hl, hn, hall⟩
    · exact .inl h
    · refine .inr ⟨a, b, xs, ys, e1, e2, ?_, hl, hn, fun i u v hu hv => AL.same s (hall i u v hu hv)⟩
      rcases hab with ⟨h1, h2⟩ | ⟨h1, h2⟩
      · exact .inl ⟨s _ _ h1, s _ _ h2⟩
      · exact .inr ⟨s _ _ h1, s _ _ h2⟩
def sp_alike (n : Nat) : Sp := fun vs H Q _ => ∃ x y, vs = [x, y] ∧ AL H n x y ∧ ∀ H', Same H H' → Q (.bl true) H'
section
variable {P : Program} {w : World} {K : PySem.W.Frag} {mg : Str → Option Value} {base : Heap} {k : Nat} {f C aW cBH cBR cBT : Addr}
theorem sc_alike : FnScope ["_law_found", "_law_due", "_law_k"] ["_law_found", "_law_due"] (defScope s_alike) := ⟨rfl, rfl, rfl, by decide +kernel, rfl, by decide +kernel, by decide +kernel⟩
theorem kt_rel {K : PySem.W.Frag} {T : String} {t : Value} {b : Bool} (h : PySem.W.kitOne K t (.type T) = some b) : ∀ u, RelV (.ty T) u → PySem.W.kitOne K t u = some b := by
  rintro _ rfl
  exact h
theorem kt_it : PySem.W.kitOne K (.type "int") (.type "tuple") = some false := rfl
theorem kt_il : PySem.W.kitOne K (.type "int") (.type "list") = some false := rfl
theorem kt_ib : PySem.W.kitOne K (.type "int") (.type "bool") = some false := rfl
theorem kt_is : PySem.W.kitOne K (.type "int") (.type "str") = some false := rfl
theorem kt_ii : PySem.W.kitOne K (.type "int") (.type "int") = some true := rfl
theorem kt_st : PySem.W.kitOne K (.type "str") (.type "tuple") = some false := rfl
theorem kt_sl : PySem.W.kitOne K (.type "str") (.type "list") = some false := rfl
theorem kt_sb : PySem.W.kitOne K (.type "str") (.type "bool") = some false := rfl
theorem kt_ss : PySem.W.kitOne K (.type "str") (.type "str") = some true := rfl
theorem kt_bt : PySem.W.kitOne K (.type "bool") (.type "tuple") = some false := rfl
theorem kt_bl : PySem.W.kitOne K (.type "bool") (.type "list") = some false := rfl
theorem kt_bb : PySem.W.kitOne K (.type "bool") (.type "bool") = some true := rfl
theorem kt_nt : PySem.W.kitOne K (.type "NoneType") (.type "tuple") = some false := rfl
theorem kt_nl : PySem.W.kitOne K (.type "NoneType") (.type "list") = some false := rfl
theorem kt_lt : PySem.W.kitOne K (.type "list") (.type "tuple") = some false := rfl
theorem kt_ll : PySem.W.kitOne K (.type "list") (.type "list") = some true := rfl
theorem kt_tt : PySem.W.kitOne K (.type "tuple") (.type "tuple") = some true := rfl
theorem ok_alike1 {n : Nat} {sp0 : Sp} (F : Top1 K "_law_alike" "_law_alike" s_alike f ["_law_found", "_law_due"]) (T : Bl mg) (G_alike : Fn P w K mg base k "_law_alike" ["_law_found", "_law_due"] sp0)
    (hn : ∀ H a b xs ys, ((H a = some (.lst xs) ∧ H b = some (.lst ys)) ∨ (H a = some (.tup xs) ∧ H b = some (.tup ys))) → AL H n (.ref a) (.ref b) → xs.length = ys.length ∧ xs.length ≤ 1000 ∧ ∀ H', Same H H' → ∀ (i : Nat) (u v : V), xs[i]? = some u → ys[i]? = some v → ∀ (Q : VK), (∀ H2, Same H' H2 → Q (.bl true) H2) → sp0 [u, v] H' Q E0) :
    ∃ fd, FnOk P w K mg base (CXe P w) (k + 1) f fd ["_law_found", "_law_due"] (sp_alike n) ∧ Binds K fd ["_law_found", "_law_due"] [] := by
  refine F.okN sc_alike (fun vs H Q E h => ?_) (fun cdv A outer s H vs Q E hr h => ?_)
  · obtain ⟨_, _, rfl, _⟩ := h
    rfl
  · obtain ⟨x, y, rfl, al, kk⟩ := h
    have hu := hu_of hr
    have nd := sc_alike.nd
    refine ⟨_, (pss_cons (ps_if (PW.pt (pw_or (pt_val (pe_callB call_isi (by rfl) T.b_isinstance (by decide +kernel) (pa_cons (pv 1) (pa_cons (pe_bltn (by rfl) T.b_tuple (by decide +kernel) (v := .ty "tuple") rfl) pa_nil)))) (pw_or1 (pt_val (pe_callB call_isi (by rfl) T.b_isinstance (by decide +kernel) (pa_cons (pv 1) (pa_cons (pe_bltn (by rfl) T.b_list (by decide +kernel) (v := .ty "list") rfl) pa_nil))))))) (pss_cons (ps_if (PW.pt (pw_or (pt_cmpR op_ne (pe_callB call_isi (by rfl) T.b_isinstance (by decide +kernel) (pa_cons (pv 0) (pa_cons (pe_bltn (by rfl) T.b_tuple (by decide +kernel) (v := .ty "tuple") rfl) pa_nil))) (pe_callB call_isi (by rfl) T.b_isinstance (by decide +kernel) (pa_cons (pv 1) (pa_cons (pe_bltn (by rfl) T.b_tuple (by decide +kernel) (v := .ty "tuple") rfl) pa_nil))) (nomark _)) (pw_or1 (pt_not (pt_val (pe_callB call_isiT (by rfl) T.b_isinstance (by decide +kernel) (pa_cons (pv 0) (pa_cons (pe_tup (pa_cons (pe_bltn (by rfl) T.b_tuple (by decide +kernel) (v := .ty "tuple") rfl) (pa_cons (pe_bltn (by rfl) T.b_list (by decide +kernel) (v := .ty "list") rfl) pa_nil))) pa_nil)))))))) (pss_one (ps_ret pe_bl)) pss_nil)
        (pss_cons (ps_if (pt_cmpR op_ne (pe_callB call_len_seq (by rfl) T.b_len PySem.boot_len (pa_cons (pv 0) pa_nil)) (pe_callB call_len_seq (by rfl) T.b_len PySem.boot_len (pa_cons (pv 1) pa_nil)) (nomark _)) (pss_one (ps_ret pe_bl)) pss_nil)
        (pss_one (ps_ret (pe_cmpR (op_eqD hr.units) (pe_lc (own := [("_law_k", 2)]) (g := gName 2) (tt := tNot (tB (tCall sp0 [] E0 (tCons (tOp (rIx K) (tVar 0) (tVar 2)) (tCons (tOp (rIx K) (tVar 1) (tVar 2)) tNil))))) (te := tVar 2) rfl nd (pi_range1 rfl T.b_range (pa_cons (pe_callB call_len_seq (by rfl) T.b_len PySem.boot_len (pa_cons (pv 1) pa_nil)) pa_nil)) (blkOk_by (own := [("_law_k", 2)]) (N := ["_law_found", "_law_due", "_law_k"]) (sc := defScope s_alike) (by decide +kernel)) (fun _ _ _ _ _ => (pg_name (i := 2) nd rfl (Or.inl rfl))) (fun _ _ _ _ _ => (pts_one (pt_not (pt_val (pcall G_alike hr (by rfl) passN (pa_cons (pe_ix ix_seq (pv 0) (pv 2) (fun _ _ => rfl)) (pa_cons (pe_ix ix_seq (pv 1) (pv 2) (fun _ _ => rfl)) pa_nil))))))) (fun _ _ _ _ _ => (pv 2))) (pe_lst (pa_nil)) (nomark _)))))) pss_nil)
      (pss_cons (ps_if (PW.pt (pw_or (pt_cmp (pc_isN (pv 1))) (pw_or1 (pt_cmp (pc_isN (pv 0)))))) (pss_one (ps_ret (pe_and (pe_cmp (pc_isN (pv 1)) rfl) (pe_one (pe_cmp (pc_isN (pv 0)) rfl))))) pss_nil)
      (pss_cons (ps_if (PW.pt (pw_or (pt_val (pe_callB call_isi (by rfl) T.b_isinstance (by decide +kernel) (pa_cons (pv 1) (pa_cons (pe_bltn (by rfl) T.b_bool (by decide +kernel) (v := .ty "bool") rfl) pa_nil)))) (pw_or1 (pt_val (pe_callB call_isi (by rfl) T.b_isinstance (by decide +kernel) (pa_cons (pv 0) (pa_cons (pe_bltn (by rfl) T.b_bool (by decide +kernel) (v := .ty "bool") rfl) pa_nil))))))) (pss_one (ps_ret (pe_and (pe_callB call_isi (by rfl) T.b_isinstance (by decide +kernel) (pa_cons (pv 1) (pa_cons (pe_bltn (by rfl) T.b_bool (by decide +kernel) (v := .ty "bool") rfl) pa_nil))) (pe_and (pe_callB call_isi (by rfl) T.b_isinstance (by decide +kernel) (pa_cons (pv 0) (pa_cons (pe_bltn (by rfl) T.b_bool (by decide +kernel) (v := .ty "bool") rfl) pa_nil))) (pe_one (pe_cmpR op_eq (pv 0) (pv 1) (nomark _))))))) pss_nil)
      (pss_cons (ps_if (pt_val (pe_callB call_isi (by rfl) T.b_isinstance (by decide +kernel) (pa_cons (pv 1) (pa_cons (pe_bltn (by rfl) T.b_str (by decide +kernel) (v := .ty "str") rfl) pa_nil)))) (pss_one (ps_ret (pe_and (pe_callB call_isi (by rfl) T.b_isinstance (by decide +kernel) (pa_cons (pv 0) (pa_cons (pe_bltn (by rfl) T.b_str (by decide +kernel) (v := .ty "str") rfl) pa_nil))) (pe_one (pe_cmpR op_eq (pv 0) (pv 1) (nomark _)))))) pss_nil)
      (pss_one (ps_ret (pe_and (pe_callB call_isi (by rfl) T.b_isinstance (by decide +kernel) (pa_cons (pv 0) (pa_cons (pe_bltn (by rfl) T.b_int (by decide +kernel) (v := .ty "int") rfl) pa_nil))) (pe_one (pe_cmpR op_eq (pv 0) (pv 1) (nomark _)))))))))), ?_⟩
    have scalar : AL0 x y ∨ ∃ a b xs ys, x = .ref a ∧ y = .ref b ∧ ((H a = some (.lst xs) ∧ H b = some (.lst ys)) ∨ (H a = some (.tup xs) ∧ H b = some (.tup ys))) := by
      cases n with
      | zero => exact .inl al
      | succ n =>
        rcases al with h | ⟨a, b, xs, ys, e1, e2, hab, _⟩
        · exact .inl h
        · exact .inr ⟨a, b, xs, ys, e1, e2, hab⟩
    rcases scalar with ⟨rfl, hx⟩ | ⟨a, b, xs, ys, rfl, rfl, hab⟩
    · rcases hx with rfl | ⟨c, rfl⟩ | ⟨i, rfl⟩ | ⟨z, rfl⟩
      · refine ⟨_, rfl, _, _, _, _, rfl, .inl .non, kt_rel kt_nt, _, rfl, ?_⟩
        refine iteF ⟨_, rfl, _, _, _, _, rfl, .inl .non, kt_rel kt_nl, _, rfl, ?_⟩
        refine iteF ⟨_, rfl, _, rfl, ?_⟩
        refine iteT (iteT ⟨_, rfl, _, rfl, ?_⟩)
        refine iteT ⟨_, rfl, ?_⟩
        exact kk H (Same.refl H)
      · refine ⟨_, rfl, _, _, _, _, rfl, .inl (.bl _), kt_rel kt_bt, _, rfl, ?_⟩
        refine iteF ⟨_, rfl, _, _, _, _, rfl, .inl (.bl _), kt_rel kt_bl, _, rfl, ?_⟩
        refine iteF ⟨_, rfl, _, rfl, ?_⟩
        refine iteF ⟨_, rfl, _, rfl, ?_⟩
        refine iteF ⟨_, rfl, _, _, _, _, rfl, .inl (.bl _), kt_rel kt_bb, _, rfl, ?_⟩
        refine iteT (iteT ⟨_, rfl, _, _, _, _, rfl, .inl (.bl _), kt_rel kt_bb, _, rfl, ?_⟩)
        refine iteT ⟨_, rfl, _, _, _, _, rfl, .inl (.bl _), kt_rel kt_bb, _, rfl, ?_⟩
        refine iteT ⟨_, rfl, _, rfl, rfl, ?_⟩
        rw [decide_eq_true rfl]
        exact kk H (Same.refl H)
      · refine ⟨_, rfl, _, _, _, _, rfl, .inl (.int _), kt_rel kt_it, _, rfl, ?_⟩
        refine iteF ⟨_, rfl, _, _, _, _, rfl, .inl (.int _), kt_rel kt_il, _, rfl, ?_⟩
        refine iteF ⟨_, rfl, _, rfl, ?_⟩
        refine iteF ⟨_, rfl, _, rfl, ?_⟩
        refine iteF ⟨_, rfl, _, _, _, _, rfl, .inl (.int _), kt_rel kt_ib, _, rfl, ?_⟩
        refine iteF ⟨_, rfl, _, _, _, _, rfl, .inl (.int _), kt_rel kt_ib, _, rfl, ?_⟩
        refine iteF ⟨_, rfl, _, _, _, _, rfl, .inl (.int _), kt_rel kt_is, _, rfl, ?_⟩
        refine iteF ⟨_, rfl, _, _, _, _, rfl, .inl (.int _), kt_rel kt_ii, _, rfl, ?_⟩
        refine iteT ⟨_, rfl, _, rfl, rfl, ?_⟩
        rw [decide_eq_true rfl]
        exact kk H (Same.refl H)
      · refine ⟨_, rfl, _, _, _, _, rfl, .inl (.str _), kt_rel kt_st, _, rfl, ?_⟩
        refine iteF ⟨_, rfl, _, _, _, _, rfl, .inl (.str _), kt_rel kt_sl, _, rfl, ?_⟩
        refine iteF ⟨_, rfl, _, rfl, ?_⟩
        refine iteF ⟨_, rfl, _, rfl, ?_⟩
        refine iteF ⟨_, rfl, _, _, _, _, rfl, .inl (.str _), kt_rel kt_sb, _, rfl, ?_⟩
        refine iteF ⟨_, rfl, _, _, _, _, rfl, .inl (.str _), kt_rel kt_sb, _, rfl, ?_⟩
        refine iteF ⟨_, rfl, _, _, _, _, rfl, .inl (.str _), kt_rel kt_ss, _, rfl, ?_⟩
        refine iteT ⟨_, rfl, _, _, _, _, rfl, .inl (.str _), kt_rel kt_ss, _, rfl, ?_⟩
        refine iteT ⟨_, rfl, _, rfl, rfl, ?_⟩
        rw [decide_eq_true rfl]
        exact kk H (Same.refl H)
    · obtain ⟨hl, hlen, hstep⟩ := hn H a b xs ys hab al
      rcases hab with ⟨ha, hb⟩ | ⟨ha, hb⟩
      · refine ⟨_, rfl, _, _, _, _, rfl, .inl (.lst hb), kt_rel kt_lt, _, rfl, ?_⟩
        refine iteF ⟨_, rfl, _, _, _, _, rfl, .inl (.lst hb), kt_rel kt_ll, _, rfl, ?_⟩
        refine iteT ?_
        -- isinstance(found, tuple) != isinstance(due, tuple) or not isinstance(found, (tuple, list))
        refine ⟨_, rfl, _, _, _, _, rfl, .inl (.lst ha), kt_rel kt_lt, _, rfl, _, _, _, _, rfl, .inl (.lst hb), kt_rel kt_lt, rfl, _, rfl, ?_⟩
        rw [decide_eq_true rfl]
        refine iteF ⟨_, rfl, (by show 2 ≤ sizeLine; decide), fun q hq => ?_⟩
        generalize hH1 : upd H q _ = H1
        have s1 : Same H H1 := by rw [← hH1]; exact (Ext.new (S := []) hq).same
        have e1 : H1 q = some (.tup [.ty "tuple", .ty "list"]) := by rw [← hH1]; exact upd_same
        refine ⟨a, q, _, _, true, rfl, .inl ⟨_, s1 _ _ ha, rfl⟩, e1, ?_, _, rfl, ?_⟩
        · rintro us ru
          obtain ⟨u, u', rfl, r1, r2⟩ := vals2 ru
          cases r1
          cases r2
          rfl
        refine iteF ?_
        -- len(found) != len(due)
        refine ⟨_, rfl, a, _, rfl, (.inl (SqL.of (s1 _ _ ha))), _, rfl, b, _, rfl, (.inl (SqL.of (s1 _ _ hb))), rfl, _, rfl, ?_⟩
        rw [hl, decide_eq_true rfl]
        refine iteF ?_
        refine ⟨_, rfl, b, _, rfl, (.inl (SqL.of (s1 _ _ hb))), _, rfl, (by omega), (by omega), fun D hD => ?_⟩
        refine lc_range (n := ys.length) (fun i H2 => Same H1 H2 ∧ H2 D = some (.lst [])) ⟨(Ext.new (S := []) hD).same, upd_same⟩ ?_ ?_
        · rintro i H2 hi ⟨s2, hD2⟩
          obtain ⟨u, hu1⟩ : ∃ u, xs[i]? = some u := ⟨_, List.getElem?_eq_getElem (by omega)⟩
          obtain ⟨v, hv1⟩ : ∃ v, ys[i]? = some v := ⟨_, List.getElem?_eq_getElem hi⟩
          refine ⟨rfl, ?_⟩
          refine ⟨_, rfl, _, rfl, .inl ⟨a, xs, _, u, rfl, rfl, SqL.of (s2 _ _ (s1 _ _ ha)), (by rw [Int.zero_add]; exact atI_nat hu1), _, rfl, _, rfl, .inl ⟨b, ys, _, v, rfl, rfl, SqL.of (s2 _ _ (s1 _ _ hb)), (by rw [Int.zero_add]; exact atI_nat hv1), ?_⟩⟩⟩
          refine hstep H2 (s1.trans s2) i u v hu1 hv1 _ fun H3 s3 => ⟨_, rfl, ?_⟩
          exact iteF ⟨s2.trans s3, s3 _ _ hD2⟩
        · rintro H2 ⟨s2, hD2⟩
          refine ⟨(by show 0 ≤ sizeLine; decide), fun q2 hq2 => ?_⟩
          refine ⟨.list [], .list [], .lst (SqL.of ((Ext.new (S := []) hq2).same _ _ hD2)) .nil, .lst (SqL.of upd_same) .nil, by decide, by decide, ?_⟩
          exact kk _ ((s1.trans s2).trans (Ext.new (S := []) hq2).same)
      · refine ⟨_, rfl, _, _, _, _, rfl, .inl (.tup hb), kt_rel kt_tt, _, rfl, ?_⟩
        refine iteT (iteT ?_)
        -- isinstance(found, tuple) != isinstance(due, tuple) or not isinstance(found, (tuple, list))
        refine ⟨_, rfl, _, _, _, _, rfl, .inl (.tup ha), kt_rel kt_tt, _, rfl, _, _, _, _, rfl, .inl (.tup hb), kt_rel kt_tt, rfl, _, rfl, ?_⟩
        rw [decide_eq_true rfl]
        refine iteF ⟨_, rfl, (by show 2 ≤ sizeLine; decide), fun q hq => ?_⟩
        generalize hH1 : upd H q _ = H1
        have s1 : Same H H1 := by rw [← hH1]; exact (Ext.new (S := []) hq).same
        have e1 : H1 q = some (.tup [.ty "tuple", .ty "list"]) := by rw [← hH1]; exact upd_same
        refine ⟨a, q, _, _, true, rfl, .inr ⟨_, s1 _ _ ha, rfl⟩, e1, ?_, _, rfl, ?_⟩
        · rintro us ru
          obtain ⟨u, u', rfl, r1, r2⟩ := vals2 ru
          cases r1
          cases r2
          rfl
        refine iteF ?_
        -- len(found) != len(due)
        refine ⟨_, rfl, a, _, rfl, (.inr (SqT.of (s1 _ _ ha))), _, rfl, b, _, rfl, (.inr (SqT.of (s1 _ _ hb))), rfl, _, rfl, ?_⟩
        rw [hl, decide_eq_true rfl]
        refine iteF ?_
        refine ⟨_, rfl, b, _, rfl, (.inr (SqT.of (s1 _ _ hb))), _, rfl, (by omega), (by omega), fun D hD => ?_⟩
        refine lc_range (n := ys.length) (fun i H2 => Same H1 H2 ∧ H2 D = some (.lst [])) ⟨(Ext.new (S := []) hD).same, upd_same⟩ ?_ ?_
        · rintro i H2 hi ⟨s2, hD2⟩
          obtain ⟨u, hu1⟩ : ∃ u, xs[i]? = some u := ⟨_, List.getElem?_eq_getElem (by omega)⟩
          obtain ⟨v, hv1⟩ : ∃ v, ys[i]? = some v := ⟨_, List.getElem?_eq_getElem hi⟩
          refine ⟨rfl, ?_⟩
          refine ⟨_, rfl, _, rfl, .inr (.inl ⟨a, xs, _, u, rfl, rfl, SqT.of (s2 _ _ (s1 _ _ ha)), (by rw [Int.zero_add]; exact atI_nat hu1), _, rfl, _, rfl, .inr (.inl ⟨b, ys, _, v, rfl, rfl, SqT.of (s2 _ _ (s1 _ _ hb)), (by rw [Int.zero_add]; exact atI_nat hv1), ?_⟩)⟩)⟩
          refine hstep H2 (s1.trans s2) i u v hu1 hv1 _ fun H3 s3 => ⟨_, rfl, ?_⟩
          exact iteF ⟨s2.trans s3, s3 _ _ hD2⟩
        · rintro H2 ⟨s2, hD2⟩
          refine ⟨(by show 0 ≤ sizeLine; decide), fun q2 hq2 => ?_⟩
          refine ⟨.list [], .list [], .lst (SqL.of ((Ext.new (S := []) hq2).same _ _ hD2)) .nil, .lst (SqL.of upd_same) .nil, by decide, by decide, ?_⟩
          exact kk _ ((s1.trans s2).trans (Ext.new (S := []) hq2).same)
theorem no_AL0 {a : Addr} {y : V} (h : AL0 (.ref a) y) : False := by
  obtain ⟨_, h⟩ := h
  rcases h with h | ⟨_, h⟩ | ⟨_, h⟩ | ⟨_, h⟩ <;> cases h
theorem fn_alike (F : Top1 K "_law_alike" "_law_alike" s_alike f ["_law_found", "_law_due"]) (T : Bl mg) (hm : mg "_law_alike" = some (.ref f)) (hk : PySem.W.keepIn K (.ref f) = true) :
    ∀ n, Fn P w K mg base (n + 1) "_law_alike" ["_law_found", "_law_due"] (sp_alike n)
  | 0 => by
    obtain ⟨fd0, _, b0⟩ := F.ok
    have G : Fn P w K mg base 0 "_law_alike" ["_law_found", "_law_due"] (fun _ _ _ _ => False) := ⟨f, fd0, ⟨fun _ _ _ _ z => z.elim, fun _ _ _ _ _ _ _ _ _ _ _ _ _ z => z.elim⟩, b0, hm, hk⟩
    obtain ⟨fd, h, b⟩ := ok_alike1 (n := 0) (k := 0) F T G fun H a b xs ys _ al => (no_AL0 al).elim
    exact ⟨f, fd, h, b, hm, hk⟩
  | n + 1 => by
    obtain ⟨fd, h, b⟩ := ok_alike1 (n := n + 1) (k := n + 1) F T (fn_alike F T hm hk n) (fun H a b xs ys hab al => by
      rcases al with al | ⟨a', b', xs', ys', e1, e2, hab', hl, hn, hall⟩
      · exact (no_AL0 al).elim
      · cases e1
        cases e2
        have ex : xs = xs' ∧ ys = ys' := by
          rcases hab with ⟨h1, h2⟩ | ⟨h1, h2⟩ <;> rcases hab' with ⟨h3, h4⟩ | ⟨h3, h4⟩ <;> rw [h1] at h3 <;> rw [h2] at h4 <;> cases h3 <;> cases h4 <;> exact ⟨rfl, rfl⟩
        obtain ⟨rfl, rfl⟩ := ex
        exact ⟨hl, hn, fun H' s' i u v hu hv Q hQ => ⟨u, v, rfl, AL.same s' (hall i u v hu hv), hQ⟩⟩)
    exact ⟨f, fd, h, b, hm, hk⟩
end
end Ho
set_option Elab.async false
set_option linter.all false
set_option maxRecDepth 100000
set_option maxHeartbeats 4000000
namespace Ho
open PySem L2
abbrev Deed := Int × Option RowT
def deedL : Deed → List V
  | (x, none) => [.int x]
  | (x, some r) => [.int x, .int r.1.1, .int r.1.2, .str r.2]
def deedO (d : Deed) : HO := .tup (deedL d)
def CanDeed (b l t : Int) (rs : List RowT) : Deed → Prop
  | (x, none) => t ≤ x ∧ x ≤ 60
  | (x, some r) => CanRow b l t rs x r.1.1 r.1.2 r.2
def mkM (l o t : Int) (q : Addr) : List (Key × V) := [(.inr "late", .int l), (.inr "lost", .int o), (.inr "time", .int t), (.inr "known", .ref q)]
def kdOf (rs : List RowT) (i : Nat) : List (Key × V) := (rs.filter fun r => decide (r.1.1 = (i : Int))).map fun r => (Sum.inl r.1.2, V.str r.2)
structure LawM (H : Hp) (m q : Addr) (ds : List Addr) (l o t : Int) (rs : List RowT) : Prop where
  ob : H m = some (.dK (mkM l o t q))
  kn : H q = some (.lst (ds.map V.ref))
  dc : ∀ (i : Nat) (a : Addr), ds[i]? = some a → H a = some (.dK (kdOf rs i))
  nd : ds.Nodup
  b6 : 1 ≤ ds.length ∧ ds.length ≤ 6
  lb : 0 ≤ l ∧ l ≤ 9
  ob2 : 0 ≤ o ∧ o ≤ 6
  tb : 0 ≤ t ∧ t ≤ 60
  kd : (rs.map (·.1)).Nodup
  rg : ∀ r ∈ rs, 0 ≤ r.1.1 ∧ r.1.1 < ds.length ∧ 1 ≤ r.1.2 ∧ r.1.2 ≤ 60
theorem LawM.same {H H' : Hp} {m q : Addr} {ds : List Addr} {l o t : Int} {rs : List RowT} (h : LawM H m q ds l o t rs) (s : Same H H') : LawM H' m q ds l o t rs :=
  { h with ob := s _ _ h.ob, kn := s _ _ h.kn, dc := fun i a e => s _ _ (h.dc i a e) }
theorem LawM.ext {S : List Addr} {H H' : Hp} {m q : Addr} {ds : List Addr} {l o t : Int} {rs : List RowT} (h : LawM H m q ds l o t rs) (s : Ext S H H') (hm : m ∉ S) (hq : q ∉ S) (hd : ∀ a ∈ ds, a ∉ S) : LawM H' m q ds l o t rs :=
  { h with ob := s _ _ h.ob hm, kn := s _ _ h.kn hq, dc := fun i a e => s _ _ (h.dc i a e) (hd a (List.mem_of_getElem? e)) }
theorem mkM_ne {l o t : Int} {q : Addr} {rs : List RowT} {i : Nat} (h : mkM l o t q = kdOf rs i) : False := by
  have e : (mkM l o t q).head?.map (·.1) = some (Sum.inr "late" : Key) := rfl
  rw [h] at e
  unfold kdOf at e
  rw [List.head?_map] at e
  cases q : (rs.filter fun r => decide (r.1.1 = (i : Int))).head? with
  | none => rw [q] at e; cases e
  | some x => rw [q] at e; cases e
theorem LawM.m_ne {H : Hp} {m q : Addr} {ds : List Addr} {l o t : Int} {rs : List RowT} (h : LawM H m q ds l o t rs) {a : Addr} (ha : a ∈ ds) : a ≠ m := by
  intro z
  obtain ⟨i, hi⟩ := List.getElem?_of_mem ha
  have := h.dc i a hi
  rw [z, h.ob] at this
  injection this with this
  injection this with this
  exact mkM_ne this
theorem g_late {H : Hp} {m q : Addr} {l o t : Int} (h : H m = some (.dK (mkM l o t q))) : DGet H m (.str "late") (some (.int l)) := DGet.k (k := Sum.inr "late") h
theorem g_lost {H : Hp} {m q : Addr} {l o t : Int} (h : H m = some (.dK (mkM l o t q))) : DGet H m (.str "lost") (some (.int o)) := DGet.k (k := Sum.inr "lost") h
theorem g_time {H : Hp} {m q : Addr} {l o t : Int} (h : H m = some (.dK (mkM l o t q))) : DGet H m (.str "time") (some (.int t)) := DGet.k (k := Sum.inr "time") h
theorem g_known {H : Hp} {m q : Addr} {l o t : Int} (h : H m = some (.dK (mkM l o t q))) : DGet H m (.str "known") (some (.ref q)) := DGet.k (k := Sum.inr "known") h
theorem p_time {l o t x : Int} {q : Addr} : putK (mkM l o t q) (Sum.inr "time") (.int x) = mkM l o x q := rfl
theorem kd_some {rs : List RowT} {i : Nat} {mo : Int} {v : V} (h : valV (kdOf rs i) (Sum.inl mo : Key) = some v) : ∃ wd, v = .str wd ∧ (((i : Int), mo), wd) ∈ rs := by
  unfold valV at h
  cases e : (kdOf rs i).find? (fun kv => decide (kv.1 = (Sum.inl mo : Key))) with
  | none => rw [e] at h; cases h
  | some x =>
    rw [e] at h
    have hv : x.2 = v := Option.some.inj h
    have hk : x.1 = Sum.inl mo := of_decide_eq_true (by simpa using List.find?_some e)
    have hm := List.mem_of_find?_eq_some e
    unfold kdOf at hm
    obtain ⟨r, hr, rfl⟩ := List.mem_map.mp hm
    obtain ⟨hr1, hr2⟩ := List.mem_filter.mp hr
    have h1 : r.1.1 = (i : Int) := of_decide_eq_true hr2
    have h2 : r.1.2 = mo := Sum.inl.inj hk
    refine ⟨r.2, hv.symm, ?_⟩
    have : r = (((i : Int), mo), r.2) := Prod.ext (Prod.ext h1 h2) rfl
    rw [← this]; exact hr1
theorem kd_none {rs : List RowT} {i : Nat} {mo : Int} (h : valV (kdOf rs i) (Sum.inl mo : Key) = none) : ((i : Int), mo) ∉ rs.map (·.1) := fun m => by
  obtain ⟨r, hr, e⟩ := List.mem_map.mp m
  refine valV_not h ?_
  unfold kdOf
  refine List.mem_map.mpr ⟨(Sum.inl r.1.2, V.str r.2), List.mem_map.mpr ⟨r, List.mem_filter.mpr ⟨hr, decide_eq_true (by rw [e])⟩, rfl⟩, ?_⟩
  show (Sum.inl r.1.2 : Key) = Sum.inl mo
  rw [e]
theorem kd_snoc_ne {rs : List RowT} {i : Nat} {r : RowT} (h : r.1.1 ≠ (i : Int)) : kdOf (rs ++ [r]) i = kdOf rs i := by
  unfold kdOf
  rw [List.filter_append]
  have : [r].filter (fun r => decide (r.1.1 = (i : Int))) = [] := by simp [h]
  rw [this, List.append_nil]
theorem kd_snoc {rs : List RowT} {i : Nat} {r : RowT} (h : r.1.1 = (i : Int)) : kdOf (rs ++ [r]) i = kdOf rs i ++ [(Sum.inl r.1.2, V.str r.2)] := by
  unfold kdOf
  rw [List.filter_append, List.map_append]
  have : [r].filter (fun r => decide (r.1.1 = (i : Int))) = [r] := by simp [h]
  rw [this]; rfl
theorem putK_new {κ : Type} [DecidableEq κ] {kvs : List (κ × V)} {k : κ} {v : V} (h : valV kvs k = none) : putK kvs k v = kvs ++ [(k, v)] := by
  unfold putK
  rw [if_neg]
  intro ha
  obtain ⟨kv, hm, e⟩ := List.any_eq_true.mp ha
  exact valV_not h (List.mem_map.mpr ⟨kv, hm, of_decide_eq_true e⟩)
theorem kd_len {rs : List RowT} {i : Nat} : (kdOf rs i).length ≤ rs.length := by
  unfold kdOf
  rw [List.length_map]
  exact List.length_filter_le _ _
end Ho
set_option Elab.async false
set_option linter.all false
set_option maxRecDepth 100000
set_option maxHeartbeats 4000000
namespace Ho
open PySem L2
def rowOf (dd : Deed) : List RowT := dd.2.toList
def sp_do (C : Addr) : Sp := fun vs H Q _ => ∃ p d m q ds l o t rs e dd, vs = [.ref p, .ref m, .ref e] ∧ HouseAt C H p d ds.length l o t rs ∧ LawM H m q ds l o t rs ∧ H e = some (deedO dd) ∧ CanDeed ds.length l t rs dd ∧ rs.length ≤ 800 ∧
  ∀ H', Ext ([m, p, d] ++ ds) H H' → HouseAt C H' p d ds.length l o dd.1 (rs ++ rowOf dd) → LawM H' m q ds l o dd.1 (rs ++ rowOf dd) → Moves H H' p o l dd.1 (rs ++ rowOf dd) → Q (.bl true) H'
theorem repr_words {wd : Str} (h : wd = "in" ∨ wd = "out") : (reprText wd).length ≤ 40 := by
  rcases h with rfl | rfl <;> decide +kernel
section
variable {P : Program} {w : World} {K : PySem.W.Frag} {mg : Str → Option Value} {base : Heap} {k : Nat} {f C aW cBH cBR cBT : Addr}
theorem sc_do : FnScope ["_law_house", "_law_m", "_law_deed"] ["_law_house", "_law_m", "_law_deed"] (defScope s_do) := ⟨rfl, rfl, rfl, by decide +kernel, rfl, by decide +kernel, by decide +kernel⟩
theorem ok_do (F : Top1 K "_law_do" "_law_do" s_do f ["_law_house", "_law_m", "_law_deed"]) (T : HouseT K mg C aW cBH cBR cBT) (M_tick : Mt P w K mg base k C "tick" ["self", "time"] (sp_tick C cBT)) (M_come : Mt P w K mg base k C "come" ["self", "time", "badge", "moment", "word"] (sp_come C cBR)) :
    ∃ fd, FnOk P w K mg base (CXe P w) (k + 1) f fd ["_law_house", "_law_m", "_law_deed"] (sp_do C) ∧ Binds K fd ["_law_house", "_law_m", "_law_deed"] [] := by
  refine F.okN sc_do (fun vs H Q E h => ?_) (fun cdv A outer s H vs Q E hr h => ?_)
  · obtain ⟨_, _, _, _, _, _, _, _, _, _, _, rfl, _⟩ := h
    rfl
  · obtain ⟨p, d, m, q, ds, l, o, t, rs, e, ⟨x, ro⟩, rfl, S, M, he, can, hsz, kk⟩ := h
    have hu := hu_of hr
    have nd := sc_do.nd
    refine ⟨_, (pss_cons (ps_dput hu (pv 1) pe_str (pe_ix ix_tup (pv 2) pe_int (fun _ _ => rfl)) rfl)
      (pss_cons (ps_if (pt_cmpR op_eq (pe_callB call_len_seq (by rfl) T.b_len PySem.boot_len (pa_cons (pv 2) pa_nil)) pe_int (nomark _)) (pss_one (ps_ret (pe_cmp (pc_isN (pmeth (pv 0) T.cl M_tick hr passN (pa_cons (pe_ix ix_tup (pv 2) pe_int (fun _ _ => rfl)) pa_nil))) rfl))) pss_nil)
      (pss_cons (ps_dput hu (pe_ix ix_list (pe_dget hu (pv 1) pe_str (fun _ _ => rfl)) (pe_ix ix_tup (pv 2) pe_int (fun _ _ => rfl)) (fun _ _ => rfl)) (pe_ix ix_tup (pv 2) pe_int (fun _ _ => rfl)) (pe_ix ix_tup (pv 2) pe_int (fun _ _ => rfl)) rfl)
      (pss_one (ps_ret (pe_cmp (pc_isN (pmeth (pv 0) T.cl M_come hr passN (pa_cons (pe_ix ix_tup (pv 2) pe_int (fun _ _ => rfl)) (pa_cons (pe_ix ix_tup (pv 2) pe_int (fun _ _ => rfl)) (pa_cons (pe_ix ix_tup (pv 2) pe_int (fun _ _ => rfl)) (pa_cons (pe_ix ix_tup (pv 2) pe_int (fun _ _ => rfl)) pa_nil)))))) rfl)))))), ?_⟩
    have h0 : atI (deedL (x, ro)) 0 = some (.int x) := by cases ro <;> rfl
    have hem : e ≠ m := fun z => by rw [z, M.ob] at he; cases he
    have tb := M.tb
    have tm : t ≤ x ∧ x ≤ 60 := by
      cases ro with
      | none => exact can
      | some r => exact can.2.2.2.2.2
    refine ⟨_, rfl, e, _, 0, _, rfl, rfl, SqT.of he, h0, _, rfl, m, _, rfl, DPut.k (k := Sum.inr "time") M.ob (by show 4 < sizeLine; decide), ?_⟩
    rw [p_time]
    generalize hH1 : upd H m _ = H1
    have x1 : Ext [m] H H1 := by rw [← hH1]; exact Ext.put (by simp)
    have e1 : H1 m = some (.dK (mkM l o x q)) := by rw [← hH1]; exact upd_same
    have hpm : p ≠ m := fun z => by
      obtain ⟨dx, n, fb, h1, _⟩ := S.ob
      rw [z, M.ob] at h1; cases h1
    have hdm : d ≠ m := fun z => by
      have := S.dc
      rw [z, M.ob] at this; cases this
    have hqm : q ≠ m := fun z => by
      have := M.kn
      rw [z, M.ob] at this; cases this
    have he1 := x1 _ _ he (by simpa using hem)
    have S1 : HouseAt C H1 p d ds.length l o t rs := by
      obtain ⟨dx, n, fb, h1, h2⟩ := S.ob
      exact ⟨⟨dx, n, fb, x1 _ _ h1 (by simpa using hpm), h2⟩, x1 _ _ S.dc (by simpa using hdm), S.nd, S.sz, S.bb, S.lb, S.ob2, S.tb⟩
    have M1 : LawM H1 m q ds l o x rs := { M with ob := e1, kn := x1 _ _ M.kn (by simpa using hqm), dc := fun i a ha => x1 _ _ (M.dc i a ha) (by simpa using M.m_ne (List.mem_of_getElem? ha)), tb := ⟨by omega, tm.2⟩ }
    obtain ⟨dx, n, fb, hp1, _⟩ := S1.ob
    cases ro with
    | none =>
      refine ⟨_, rfl, e, _, rfl, .inr (SqT.of he1), rfl, _, rfl, ?_⟩
      refine iteT ?_
      refine ⟨_, rfl, p, dx, _, rfl, hp1, rfl, _, rfl, e, _, 0, _, rfl, rfl, SqT.of he1, h0, p, d, _, l, o, t, rs, x, rfl, S1, sm_of (by omega) (by omega), (by omega), fun _ _ H' x' S' m' => ?_, fun z => (z tm).elim⟩
      refine kk H' (fun c oc hc hn => ?_) ?_ ?_ ?_
      · simp only [List.mem_append, List.mem_cons, List.not_mem_nil, or_false, not_or] at hn
        exact x' _ _ (x1 _ _ hc (by simpa using hn.1.1)) (by simpa using hn.1.2.1)
      · rw [show rs ++ rowOf (x, none) = rs from List.append_nil rs]; exact S'
      · rw [show rs ++ rowOf (x, none) = rs from List.append_nil rs]
        refine M1.ext x' (by simpa using hpm.symm) (fun z => ?_) (fun a ha z => ?_)
        · have := M1.kn
          rw [List.mem_singleton.mp z, hp1] at this; cases this
        · obtain ⟨i, hi⟩ := List.getElem?_of_mem ha
          have := M1.dc i a hi
          rw [List.mem_singleton.mp z, hp1] at this; cases this
      · intro n' fb' rs' hB hS
        rw [show rs ++ rowOf (x, none) = rs from List.append_nil rs] at hS
        exact m' n' fb' rs' (hB.ext x1 (by simpa using hpm)) hS
    | some r =>
      have can' : CanRow ds.length l t rs x r.1.1 r.1.2 r.2 := can
      obtain ⟨g3, g5, g4, g6, g7, _⟩ := can
      refine ⟨_, rfl, e, _, rfl, .inr (SqT.of he1), rfl, _, rfl, ?_⟩
      refine iteF ?_
      obtain ⟨a, ha⟩ : ∃ a, ds[r.1.1.toNat]? = some a := ⟨_, List.getElem?_eq_getElem (by omega)⟩
      have hi : r.1.1 = ((r.1.1.toNat : Nat) : Int) := by omega
      have hat : atI (ds.map V.ref) r.1.1 = some (.ref a) := by
        rw [hi]; exact atI_nat (by rw [List.getElem?_map, ha]; rfl)
      refine ⟨_, rfl, e, _, 3, _, rfl, rfl, SqT.of he1, rfl, _, rfl, m, _, rfl, g_known M1.ob, _, rfl, e, _, 1, _, rfl, rfl, SqT.of he1, rfl, q, _, _, _, rfl, rfl, SqL.of M1.kn, hat, _, rfl, e, _, 2, _, rfl, rfl, SqT.of he1, rfl, a, _, rfl, DPut.k (k := Sum.inl r.1.2) (M1.dc _ _ ha) (small1000 (by have := kd_len (rs := rs) (i := r.1.1.toNat); omega)), ?_⟩
      have hvn : valV (kdOf rs r.1.1.toNat) (Sum.inl r.1.2 : Key) = none := by
        cases ev : valV (kdOf rs r.1.1.toNat) (Sum.inl r.1.2 : Key) with
        | none => rfl
        | some v =>
          obtain ⟨wd, _, hm⟩ := kd_some ev
          rw [← hi] at hm
          exact (g7 (List.mem_map.mpr ⟨_, hm, rfl⟩)).elim
      rw [putK_new hvn, ← kd_snoc (rs := rs) (r := r) hi]
      generalize hH2 : upd H1 a _ = H2
      have x2 : Ext [a] H1 H2 := by rw [← hH2]; exact Ext.put (by simp)
      have e2 : H2 a = some (.dK (kdOf (rs ++ [r]) r.1.1.toNat)) := by rw [← hH2]; exact upd_same
      have dca := M1.dc _ _ ha
      have hpa : p ≠ a := fun z => by rw [z, dca] at hp1; cases hp1
      have hda : d ≠ a := fun z => by have := S1.dc; rw [z, dca] at this; cases this
      have hea : e ≠ a := fun z => by rw [z, dca] at he1; cases he1
      have he2 := x2 _ _ he1 (by simpa using hea)
      have S2 : HouseAt C H2 p d ds.length l o t rs := by
        obtain ⟨dx, n, fb, h1, h2⟩ := S1.ob
        exact ⟨⟨dx, n, fb, x2 _ _ h1 (by simpa using hpa), h2⟩, x2 _ _ S1.dc (by simpa using hda), S1.nd, S1.sz, S1.bb, S1.lb, S1.ob2, S1.tb⟩
      have M2 : LawM H2 m q ds l o x (rs ++ [r]) := { M1 with
        ob := x2 _ _ M1.ob (by simpa using (M1.m_ne (List.mem_of_getElem? ha)).symm)
        kn := x2 _ _ M1.kn (fun z => by have := M1.kn; rw [List.mem_singleton.mp z, dca] at this; cases this)
        dc := fun i c hc => by
          by_cases hca : c = a
          · subst hca
            have : i = r.1.1.toNat := (List.getElem?_inj (List.getElem?_eq_some_iff.mp hc).1 M1.nd).mp (hc.trans ha.symm)
            rw [this]; exact e2
          · rw [kd_snoc_ne (fun z => hca (by
              have : r.1.1.toNat = i := by omega
              rw [this] at ha
              exact Option.some.inj (hc.symm.trans ha)))]
            exact x2 _ _ (M1.dc i c hc) (by simpa using hca)
        kd := by
          rw [List.map_append]
          refine List.nodup_append.mpr ⟨M1.kd, by simp, ?_⟩
          intro u hu v hv
          rw [List.mem_singleton.mp hv]
          exact fun z => g7 (by have z' : u = (r.1.1, r.1.2) := z; exact z' ▸ hu)
        rg := fun r' hr' => by
          rcases List.mem_append.mp hr' with h | h
          · exact M1.rg r' h
          · rw [List.mem_singleton.mp h]
            exact ⟨g3.1, g3.2, g5, by omega⟩ }
      obtain ⟨dx2, n2, fb2, hp2, _⟩ := S2.ob
      refine ⟨_, rfl, p, dx2, _, rfl, hp2, rfl, _, rfl, e, _, 0, _, rfl, rfl, SqT.of he2, rfl, _, rfl, e, _, 1, _, rfl, rfl, SqT.of he2, rfl, _, rfl, e, _, 2, _, rfl, rfl, SqT.of he2, rfl, _, rfl, e, _, 3, _, rfl, rfl, SqT.of he2, rfl,
        p, d, _, l, o, t, rs, x, r.1.1, r.1.2, r.2, rfl, S2, sm_of (by omega) (by omega), sm_of (by have := M.b6; omega) (by have := M.b6; omega), sm_of (by omega) (by omega), repr_words g4, hsz, fun _ H' x' S' m' => ?_, fun z => (z can').elim⟩
      refine kk H' (fun c oc hc hn => ?_) S' ?_ (fun n' fb' rs' hB hS => m' n' fb' rs' ((hB.ext x1 (by simpa using hpm)).ext x2 (by simpa using hpa)) hS)
      · simp only [List.mem_append, List.mem_cons, List.not_mem_nil, or_false, not_or] at hn
        exact x' _ _ (x2 _ _ (x1 _ _ hc (by simpa using hn.1.1)) (fun z => hn.2 (by rw [List.mem_singleton.mp z]; exact List.mem_of_getElem? ha))) (by simpa using hn.1.2)
      · have dc2 := S2.dc
        have nin : ∀ u ou, H2 u = some ou → (∀ dx' fs, ou ≠ .ins C dx' fs) → (∀ kv, ou ≠ .dT kv) → u ∉ [p, d] := fun u ou hu1 h1 h2 z => by
          rcases List.mem_cons.mp z with z | z
          · rw [z, hp2] at hu1; exact h1 _ _ (Option.some.inj hu1).symm
          · rw [List.mem_singleton.mp z, dc2] at hu1; exact h2 _ (Option.some.inj hu1).symm
        exact M2.ext x' (nin _ _ M2.ob (fun _ _ z => by cases z) (fun _ z => by cases z)) (nin _ _ M2.kn (fun _ _ z => by cases z) (fun _ z => by cases z)) (fun c hc => by
          obtain ⟨i, hi⟩ := List.getElem?_of_mem hc
          exact nin _ _ (M2.dc i c hi) (fun _ _ z => by cases z) (fun _ z => by cases z))
end
end Ho
set_option Elab.async false
set_option linter.all false
set_option maxRecDepth 100000
set_option maxHeartbeats 4000000
namespace Ho
open PySem L2
theorem Rw.new {K : PySem.W.Frag} {a r x : Addr} {ns : List Int} {H : Hp} (R : Rw K a ns H r) (h : H x = none) : x ≠ r := fun z => by
  obtain ⟨i, y, u, h1, _⟩ := R.st
  rw [z, h1] at h; cases h
theorem pick4 {a b c d lo hi : Int} (ha : lo ≤ a ∧ a ≤ hi) (hb : lo ≤ b ∧ b ≤ hi) (hc : lo ≤ c ∧ c ≤ hi) (hd : lo ≤ d ∧ d ≤ hi) {i : Int} (h0 : 0 ≤ i) (h4 : i < 4) : ∃ y, atI [V.int a, .int b, .int c, .int d] i = some (.int y) ∧ lo ≤ y ∧ y ≤ hi := by
  have : i = 0 ∨ i = 1 ∨ i = 2 ∨ i = 3 := by omega
  rcases this with rfl | rfl | rfl | rfl
  · exact ⟨a, rfl, ha⟩
  · exact ⟨b, rfl, hb⟩
  · exact ⟨c, rfl, hc⟩
  · exact ⟨d, rfl, hd⟩
def sp_fresh (K : PySem.W.Frag) (a : Addr) (ns : List Int) : Sp := fun vs H Q _ => ∃ (r : Addr) (most : Int), vs = [.ref r, .int most] ∧ Rw K a ns H r ∧ 1 ≤ most ∧ most ≤ 6 ∧
  ∀ (H' : Hp) (m q : Addr) (ds : List Addr) (l o : Int), Rw K a ns H' r → Ext [r] H H' → H m = none → H q = none → (∀ x ∈ ds, H x = none) → LawM H' m q ds l o 0 [] → Q (.ref m) H'
section
variable {P : Program} {w : World} {K : PySem.W.Frag} {mg : Str → Option Value} {base : Heap} {k : Nat} {f C aW cBH cBR cBT a : Addr} {ns : List Int}
theorem sc_fresh : FnScope ["_law_row", "_law_most", "_law_late", "_law_lost", "_law_badge"] ["_law_row", "_law_most"] (defScope s_fresh) := ⟨rfl, rfl, rfl, by decide +kernel, rfl, by decide +kernel, by decide +kernel⟩
theorem ok_fresh (F : Top1 K "_law_fresh" "_law_fresh" s_fresh f ["_law_row", "_law_most"]) (T : Bl mg) (G_taken : Fn P w K mg base k "_law_taken" ["_law_row", "_law_many"] (sp_taken K a ns)) :
    ∃ fd, FnOk P w K mg base (CXe P w) (k + 1) f fd ["_law_row", "_law_most"] (sp_fresh K a ns) ∧ Binds K fd ["_law_row", "_law_most"] [] := by
  refine F.okN sc_fresh (fun vs H Q E h => ?_) (fun cdv A outer s H vs Q E hr h => ?_)
  · obtain ⟨_, _, rfl, _⟩ := h
    rfl
  · obtain ⟨r, most, rfl, R, hm1, hm6, kk⟩ := h
    have hu := hu_of hr
    have nd := sc_fresh.nd
    refine ⟨_, (pss_cons (ps_set (i := 2) nd rfl (Or.inl rfl) (pe_ix ix_list (pe_lst (pa_cons pe_int (pa_cons pe_int (pa_cons pe_int (pa_cons (pcall G_taken hr (by rfl) passN (pa_cons (pv 0) (pa_cons pe_int pa_nil))) pa_nil))))) (pcall G_taken hr (by rfl) passN (pa_cons (pv 0) (pa_cons pe_int pa_nil))) (fun _ _ => rfl)))
      (pss_cons (ps_set (i := 3) nd rfl (Or.inl rfl) (pe_ix ix_list (pe_lst (pa_cons pe_int (pa_cons pe_int (pa_cons pe_int (pa_cons (pcall G_taken hr (by rfl) passN (pa_cons (pv 0) (pa_cons pe_int pa_nil))) pa_nil))))) (pcall G_taken hr (by rfl) passN (pa_cons (pv 0) (pa_cons pe_int pa_nil))) (fun _ _ => rfl)))
      (pss_one (ps_ret (pe_disp (pps_cons pe_str (pv 2) (pps_cons pe_str (pv 3) (pps_cons pe_str pe_int (pps_cons pe_str (pe_lc (own := [("_law_badge", 4)]) (g := gName 4) (tt := tYes) (te := tDNewK) rfl nd (pi_range1 rfl T.b_range (pa_cons (pe_op op_add pe_int (pcall G_taken hr (by rfl) passN (pa_cons (pv 0) (pa_cons (pv 1) pa_nil)))) pa_nil)) (blkOk_by (own := [("_law_badge", 4)]) (N := ["_law_row", "_law_most", "_law_late", "_law_lost", "_law_badge"]) (sc := defScope s_fresh) (by decide +kernel)) (fun _ _ _ _ _ => (pg_name (i := 4) nd rfl (Or.inl rfl))) (fun _ _ _ _ _ => pts_nil) (fun _ _ _ _ _ => pe_dnewK)) pps_nil)))) (by rfl) (by rfl) (fun z => by cases z) (by decide)))))), ?_⟩
    -- late
    refine ⟨_, rfl, r, _, rfl, R, (by decide), (by decide), fun v1 H1 g10 g11 R1 x1 => ⟨(by show 4 ≤ sizeLine; decide), fun q1 hq1 => ?_⟩⟩
    generalize hH2 : upd H1 q1 _ = H2
    have s2 : Same H1 H2 := by rw [← hH2]; exact (Ext.new (S := []) hq1).same
    have e2 : H2 q1 = some (.lst [.int 0, .int 1, .int 2, .int v1]) := by rw [← hH2]; exact upd_same
    refine ⟨_, rfl, r, _, rfl, (R1.same s2), (by decide), (by decide), fun v2 H3 g20 g21 R3 x3 => ?_⟩
    obtain ⟨l, hl, hl0, hl9⟩ := pick4 (lo := 0) (hi := 9) (a := 0) (b := 1) (c := 2) (d := v1) (by omega) (by omega) (by omega) (by omega) g20 g21
    refine ⟨q1, _, v2, _, rfl, rfl, SqL.of (x3 _ _ e2 (by simpa using R1.new hq1)), hl, ?_⟩
    -- lost
    refine ⟨_, rfl, r, _, rfl, R3, (by decide), (by decide), fun v3 H4 g30 g31 R4 x4 => ⟨(by show 4 ≤ sizeLine; decide), fun q2 hq2 => ?_⟩⟩
    generalize hH5 : upd H4 q2 _ = H5
    have s5 : Same H4 H5 := by rw [← hH5]; exact (Ext.new (S := []) hq2).same
    have e5 : H5 q2 = some (.lst [.int 0, .int 1, .int 2, .int v3]) := by rw [← hH5]; exact upd_same
    refine ⟨_, rfl, r, _, rfl, (R4.same s5), (by decide), (by decide), fun v4 H6 g40 g41 R6 x6 => ?_⟩
    obtain ⟨o, ho, ho0, ho6⟩ := pick4 (lo := 0) (hi := 6) (a := 0) (b := 1) (c := 2) (d := v3) (by omega) (by omega) (by omega) (by omega) g40 g41
    refine ⟨q2, _, v4, _, rfl, rfl, SqL.of (x6 _ _ e5 (by simpa using R4.new hq2)), ho, ?_⟩
    have xA : Ext [r] H H6 := ((x1.tr (s2.ext _)).tr x3).tr ((x4.tr (s5.ext _)).tr x6)
    -- the dict
    intro m hm
    have hm0 : H m = none := (xA.none hm).resolve_right (by simpa using R6.new hm)
    generalize hH7 : upd H6 m _ = H7
    have s7 : Same H6 H7 := by rw [← hH7]; exact (Ext.new (S := []) hm).same
    have e7 : H7 m = some (.dK []) := by rw [← hH7]; exact upd_same
    refine ⟨_, rfl, _, rfl, _, rfl, _, rfl, r, _, rfl, (R6.same s7), hm1, (by omega), fun v5 H8 g50 g51 R8 x8 => ⟨_, _, rfl, rfl, _, rfl, (by omega), (by omega), fun D hD => ?_⟩⟩
    have xB : Ext [r] H H8 := (xA.tr (s7.ext _)).tr x8
    have e8 : H8 m = some (.dK []) := x8 _ _ e7 (by simpa using R6.new hm)
    have hD0 : H D = none := (xB.none hD).resolve_right (by simpa using R8.new hD)
    have hDm : D ≠ m := (ne_of_none e8 hD).symm
    refine lc_range (n := (1 + v5).toNat) (fun i H9 => Same H8 H9 ∧ ∃ ds : List Addr, H9 D = some (.lst (ds.map V.ref)) ∧ ds.length = i ∧ ds.Nodup ∧ ∀ x ∈ ds, H8 x = none ∧ H9 x = some (.dK [])) ⟨(Ext.new (S := []) hD).same, [], upd_same, rfl, .nil, (fun x hx => by cases hx)⟩ ?_ ?_
    · rintro i H9 hi ⟨s9, ds, hD9, hdl, hdn, hds⟩
      refine ⟨rfl, ?_⟩
      refine yes ?_
      intro p hp
      have hpD : p ≠ D := (ne_of_none hD9 hp).symm
      have hp8 : H8 p = none := s9.free hp
      refine ⟨_, by rw [upd_ne hpD.symm]; exact hD9, (by rw [List.length_map]; exact small1000 (by omega)), fun c oc hc => ?_, ds ++ [p], ?_, ?_, ?_, fun x hx => ?_⟩
      · have nc : c ≠ D := fun z => by rw [z, hD] at hc; cases hc
        rw [upd_ne nc, upd_ne (ne_of_none hc hp8)]; exact s9 _ _ hc
      · rw [upd_same, List.map_append]; rfl
      · rw [List.length_append, hdl]; rfl
      · refine List.nodup_append.mpr ⟨hdn, by simp, fun u hu v hv => ?_⟩
        rw [List.mem_singleton.mp hv]
        exact ne_of_none (hds u hu).2 hp
      · rcases List.mem_append.mp hx with hx | hx
        · have nx : x ≠ D := fun z => by have := (hds x hx).2; rw [z, hD9] at this; cases this
          exact ⟨(hds x hx).1, by rw [upd_ne nx, upd_ne (ne_of_none (hds x hx).2 hp)]; exact (hds x hx).2⟩
        · rw [List.mem_singleton.mp hx]
          exact ⟨hp8, by rw [upd_ne hpD]; exact upd_same⟩
    · rintro H9 ⟨s9, ds, hD9, hdl, hdn, hds⟩
      refine ⟨s9 _ _ e8, [(.inr "late", .int l), (.inr "lost", .int o), (.inr "time", .int 0), (.inr "known", .ref D)], rfl, (by show 4 ≤ 15; decide), ?_⟩
      show Q (.ref m) (upd H9 m (.dK (mkM l o 0 D)))
      have hmr := R6.new hm
      have keep : ∀ c oc, H9 c = some oc → c ≠ m → (upd H9 m (.dK (mkM l o 0 D))) c = some oc := fun c oc hc nc => by rw [upd_ne nc]; exact hc
      have x9 : Ext [m] H9 (upd H9 m (.dK (mkM l o 0 D))) := Ext.put (by simp)
      have R9 := R8.same s9
      have hdm : ∀ x ∈ ds, x ≠ m := fun x hx z => by
        have := (hds x hx).1
        rw [z, e8] at this; cases this
      refine kk _ m D ds l o (R9.ext x9 (by simpa using hmr.symm) (fun oo he q => ?_)) (fun c oc hc hn => keep _ _ (s9 _ _ (xB _ _ hc hn)) (ne_of_none hc hm0)) hm0 hD0 (fun x hx => ?_) ?_
      · intro z
        have z' := List.mem_singleton.mp z
        rw [z', s9 _ _ e8] at he
        cases he
        rcases q with q | ⟨_, q⟩ <;> cases q
      · refine (xB.none (hds x hx).1).resolve_right ?_
        simpa using R8.new (hds x hx).1
      · exact { ob := upd_same, kn := keep _ _ hD9 hDm, dc := fun i c hc => keep _ _ (hds c (List.mem_of_getElem? hc)).2 (hdm c (List.mem_of_getElem? hc)), nd := hdn, b6 := by omega, lb := ⟨hl0, hl9⟩, ob2 := ⟨ho0, ho6⟩, tb := ⟨by decide, by decide⟩, kd := List.nodup_nil, rg := fun r hr => by cases hr }
end
end Ho
set_option Elab.async false
set_option linter.all false
set_option maxRecDepth 100000
set_option maxHeartbeats 4000000
namespace Ho
open PySem L2
theorem LawM.row {a r : Addr} {H H' : Hp} {m q : Addr} {ds : List Addr} {l o t : Int} {rs : List RowT} (h : LawM H m q ds l o t rs) (R : RowSt a H r) (e : Ext [r] H H') : LawM H' m q ds l o t rs := by
  obtain ⟨i, x, y, h1, _⟩ := R
  refine h.ext e (fun z => ?_) (fun z => ?_) (fun c hc z => ?_)
  · have := h.ob
    rw [List.mem_singleton.mp z, h1] at this; cases this
  · have := h.kn
    rw [List.mem_singleton.mp z, h1] at this
    injection this with this
    injection this with this
    cases ds with
    | nil => cases this
    | cons u ds =>
      injection this with _ this
      cases ds with
      | nil => cases this
      | cons v ds => injection this with this; cases this
  · obtain ⟨j, hj⟩ := List.getElem?_of_mem hc
    have := h.dc j c hj
    rw [List.mem_singleton.mp z, h1] at this; cases this
/-! ### deeds, without the program -/
def tmOf (ds : List Deed) : Int := match ds.getLast? with | none => 0 | some e => e.1
def rwOf (ds : List Deed) : List RowT := ds.filterMap (·.2)
def Goes (b l : Int) (ds : List Deed) : Prop := ∀ (i : Nat) (e : Deed), ds[i]? = some e → CanDeed b l (tmOf (ds.take i)) (rwOf (ds.take i)) e
theorem tm_snoc (ds : List Deed) (e : Deed) : tmOf (ds ++ [e]) = e.1 := by
  unfold tmOf
  rw [List.getLast?_append]; rfl
theorem rw_snoc (ds : List Deed) (e : Deed) : rwOf (ds ++ [e]) = rwOf ds ++ rowOf e := by
  unfold rwOf rowOf
  rw [List.filterMap_append]
  obtain ⟨x, y⟩ := e
  cases y <;> rfl
theorem goes_nil {b l : Int} : Goes b l [] := fun i e h => by simp at h
theorem goes_snoc {b l : Int} {ds : List Deed} {e : Deed} (h : Goes b l ds) (c : CanDeed b l (tmOf ds) (rwOf ds) e) : Goes b l (ds ++ [e]) := by
  intro i x hx
  by_cases hi : i < ds.length
  · rw [List.getElem?_append_left hi] at hx
    rw [List.take_append_of_le_length (Nat.le_of_lt hi)]
    exact h i x hx
  · have hl : i < (ds ++ [e]).length := (List.getElem?_eq_some_iff.mp hx).1
    have : i = ds.length := by rw [List.length_append] at hl; simp at hl; omega
    subst this
    rw [List.getElem?_append_right (Nat.le_refl _), Nat.sub_self] at hx
    cases hx
    rw [List.take_append_of_le_length (Nat.le_refl _), List.take_length]
    exact c
abbrev Wt := Int × RowT
def wd (w : Wt) : Deed := (w.1, some w.2)
def WOk (b l τ : Int) (w : Wt) : Prop := τ ≤ w.1 ∧ w.1 ≤ w.2.1.2 + l ∧ 1 ≤ w.2.1.2 ∧ w.2.1.2 ≤ w.1 ∧ (w.2.2 = "in" ∨ w.2.2 = "out") ∧ 0 ≤ w.2.1.1 ∧ w.2.1.1 < b
structure Pure (b l τ β : Int) (W : List Wt) (fd : List Deed) : Prop where
  gw : ∀ w ∈ W, WOk b l τ w
  nd : (W.map (·.2.1) ++ (rwOf fd).map (·.1)).Nodup
  lt : ∀ q ∈ W.map (·.2.1) ++ (rwOf fd).map (·.1), q.2 < τ ∨ (q.2 = τ ∧ q.1 < β)
  go : Goes b l fd
  tm : tmOf fd ≤ τ
theorem Pure.skip {b l τ β : Int} {W : List Wt} {fd : List Deed} (h : Pure b l τ β W fd) : Pure b l τ (β + 1) W fd :=
  { h with lt := fun q hq => by rcases h.lt q hq with z | z; exact .inl z; exact .inr ⟨z.1, by omega⟩ }
theorem Pure.ins {b l τ β : Int} {W : List Wt} {fd : List Deed} (h : Pure b l τ β W fd) {du : Int} {word : Str} (k : Nat) (h1 : τ ≤ du) (h2 : du ≤ τ + l) (h3 : 1 ≤ τ) (h4 : word = "in" ∨ word = "out") (h5 : 0 ≤ β) (h6 : β < b) :
    Pure b l τ (β + 1) (W.take k ++ (du, ((β, τ), word)) :: W.drop k) fd := by
  have pm : (W.take k ++ (du, ((β, τ), word)) :: W.drop k).Perm ((du, ((β, τ), word)) :: W) := by
    have := List.perm_middle (a := ((du, ((β, τ), word)) : Wt)) (l₁ := W.take k) (l₂ := W.drop k)
    rwa [List.take_append_drop] at this
  have pk : ((W.take k ++ (du, ((β, τ), word)) :: W.drop k).map (·.2.1) ++ (rwOf fd).map (·.1)).Perm ((β, τ) :: (W.map (·.2.1) ++ (rwOf fd).map (·.1))) := (pm.map (·.2.1)).append_right _
  refine ⟨fun w hw => ?_, ?_, fun q hq => ?_, h.go, h.tm⟩
  · rcases List.mem_cons.mp (pm.mem_iff.mp hw) with rfl | hw
    · exact ⟨h1, h2, h3, h1, h4, h5, h6⟩
    · exact h.gw w hw
  · rw [pk.nodup_iff]
    refine List.nodup_cons.mpr ⟨fun hm => ?_, h.nd⟩
    rcases h.lt _ hm with z | z
    · exact absurd z (by show ¬ τ < τ; omega)
    · exact absurd z.2 (by show ¬ β < β; omega)
  · rcases List.mem_cons.mp (pk.mem_iff.mp hq) with rfl | hq
    · exact .inr ⟨rfl, by show β < β + 1; omega⟩
    · rcases h.lt q hq with z | z
      · exact .inl z
      · exact .inr ⟨z.1, by omega⟩
theorem push {b l τ : Int} (h60 : τ ≤ 60) : ∀ (D : List Wt) (fd : List Deed), Goes b l fd → tmOf fd ≤ τ → (∀ w ∈ D, WOk b l τ w ∧ w.1 ≤ τ) → (D.map (·.2.1) ++ (rwOf fd).map (·.1)).Nodup →
    Goes b l (fd ++ D.map fun w => (τ, some w.2)) ∧ tmOf (fd ++ D.map fun w => (τ, some w.2)) ≤ τ ∧ rwOf (fd ++ D.map fun w => (τ, some w.2)) = rwOf fd ++ D.map (·.2)
  | [], fd, g, t, _, _ => by simpa using ⟨g, t⟩
  | w :: D, fd, g, t, hw, nd => by
    obtain ⟨⟨o1, o2, o3, o4, o5, o6, o7⟩, o8⟩ := hw w (List.mem_cons_self ..)
    have nd' : (w.2.1 :: (D.map (·.2.1) ++ (rwOf fd).map (·.1))).Nodup := nd
    obtain ⟨n1, n2⟩ := List.nodup_cons.mp nd'
    have g' : Goes b l (fd ++ [(τ, some w.2)]) := goes_snoc g ⟨⟨o6, o7⟩, o3, o5, ⟨by omega, by omega⟩, fun z => n1 (List.mem_append_right _ z), t, h60⟩
    have hr : rwOf (fd ++ [(τ, some w.2)]) = rwOf fd ++ [w.2] := rw_snoc fd (τ, some w.2)
    have := push h60 D (fd ++ [(τ, some w.2)]) g' (by rw [tm_snoc]; exact Int.le_refl _) (fun x hx => hw x (List.mem_cons_of_mem _ hx)) (by
      rw [hr, List.map_append, ← List.append_assoc]
      refine List.nodup_append.mpr ⟨n2, by simp, fun u hu v hv => ?_⟩
      rw [List.mem_singleton.mp hv]
      exact fun z => n1 (by have z' : u = w.2.1 := z; exact z' ▸ hu))
    rw [hr, List.append_assoc, List.append_assoc] at this
    exact this
theorem Pure.turn {b l τ : Int} {W : List Wt} {fd : List Deed} (h : Pure b l τ b W fd) (h60 : τ ≤ 60) :
    Pure b l (τ + 1) 0 (W.filter fun w => decide (τ < w.1)) (fd ++ (W.filter fun w => decide (w.1 ≤ τ)).map fun w => (τ, some w.2)) ∧ tmOf (fd ++ (W.filter fun w => decide (w.1 ≤ τ)).map fun w => (τ, some w.2)) ≤ τ := by
  have sub : ∀ p : Wt → Bool, ∀ w ∈ W.filter p, w ∈ W := fun p w hw => (List.mem_filter.mp hw).1
  have hnd := List.nodup_append.mp h.nd
  have ndD : ((W.filter fun w => decide (w.1 ≤ τ)).map (·.2.1) ++ (rwOf fd).map (·.1)).Nodup := by
    refine List.nodup_append.mpr ⟨hnd.1.sublist (List.Sublist.map _ List.filter_sublist), hnd.2.1, fun u hu v hv => ?_⟩
    obtain ⟨x, hx, rfl⟩ := List.mem_map.mp hu
    exact hnd.2.2 _ (List.mem_map.mpr ⟨x, sub _ x hx, rfl⟩) v hv
  obtain ⟨g1, g2, g3⟩ := push h60 (W.filter fun w => decide (w.1 ≤ τ)) fd h.go h.tm (fun w hw => ⟨h.gw w (sub _ w hw), of_decide_eq_true (List.mem_filter.mp hw).2⟩) ndD
  have pm : ((W.filter fun w => decide (τ < w.1)).map (·.2.1) ++ (rwOf (fd ++ (W.filter fun w => decide (w.1 ≤ τ)).map fun w => (τ, some w.2))).map (·.1)).Perm (W.map (·.2.1) ++ (rwOf fd).map (·.1)) := by
    rw [g3, List.map_append, List.map_map]
    have e1 : (W.filter (fun w => decide (τ < w.1)) ++ W.filter (fun w => decide (w.1 ≤ τ))).Perm W := by
      have := List.filter_append_perm (fun w : Wt => decide (τ < w.1)) W
      have e : (fun w : Wt => !decide (τ < w.1)) = fun w => decide (w.1 ≤ τ) := by
        funext w
        by_cases z : τ < w.1
        · rw [decide_eq_true z, decide_eq_false (by omega)]; rfl
        · rw [decide_eq_false z, decide_eq_true (by omega)]; rfl
      rwa [e] at this
    have e2 := (e1.map (fun w : Wt => w.2.1)).append_right ((rwOf fd).map (·.1))
    rw [List.map_append] at e2
    refine List.Perm.trans ?_ e2
    rw [List.append_assoc]
    exact List.Perm.append_left _ (List.perm_append_comm)
  refine ⟨⟨fun w hw => ?_, pm.nodup_iff.mpr h.nd, fun q hq => ?_, g1, by omega⟩, g2⟩
  · obtain ⟨o1, o2, o3, o4, o5, o6, o7⟩ := h.gw w (sub _ w hw)
    have : τ < w.1 := of_decide_eq_true (List.mem_filter.mp hw).2
    exact ⟨by omega, o2, o3, o4, o5, o6, o7⟩
  · rcases h.lt q (pm.mem_iff.mp hq) with z | z
    · exact .inl (by omega)
    · exact .inl (by omega)
theorem Pure.tick {b l τ : Int} {W : List Wt} {fd : List Deed} (h : Pure b l (τ + 1) 0 W fd) (ht : tmOf fd ≤ τ) (h60 : τ ≤ 60) : Pure b l (τ + 1) 0 W (fd ++ [(τ, none)]) := by
  have hr : rwOf (fd ++ [(τ, none)]) = rwOf fd := (rw_snoc fd (τ, none)).trans (List.append_nil _)
  refine ⟨h.gw, by rw [hr]; exact h.nd, fun q hq => h.lt q (by rw [hr] at hq; exact hq), goes_snoc h.go ⟨ht, h60⟩, ?_⟩
  rw [tm_snoc]; show τ ≤ τ + 1; omega
end Ho
set_option Elab.async false
set_option linter.all false
set_option maxRecDepth 100000
set_option maxHeartbeats 4000000
namespace Ho
open PySem L2
/-- a list of deeds' tuples -/
def TL (H : Hp) (p : Addr) (es : List Deed) : Prop := ∃ fa : List Addr, H p = some (.lst (fa.map V.ref)) ∧ Paired (fun a d => H a = some (deedO d)) fa es
theorem TL.same {H H' : Hp} {p : Addr} {es : List Deed} (h : TL H p es) (s : Same H H') : TL H' p es := by
  obtain ⟨fa, h1, h2⟩ := h
  exact ⟨fa, s _ _ h1, paired_imp (fun _ _ z => s _ _ z) h2⟩
theorem TL.ext {S : List Addr} {H H' : Hp} {p : Addr} {es : List Deed} (h : TL H p es) (s : Ext S H H') (hp : p ∉ S) (hS : ∀ x ∈ S, ∃ xs, H x = some (.lst xs)) : TL H' p es := by
  obtain ⟨fa, h1, h2⟩ := h
  refine ⟨fa, s _ _ h1 hp, paired_imp (fun c d z => s _ _ z fun hc => ?_) h2⟩
  obtain ⟨xs, hx⟩ := hS c hc
  rw [z] at hx; cases hx
theorem TL.row {a r : Addr} {H H' : Hp} {p : Addr} {es : List Deed} (h : TL H p es) (R : RowSt a H r) (s : Ext [r] H H') (hp : p ≠ r) : TL H' p es := by
  obtain ⟨i, x, y, h1, _⟩ := R
  exact h.ext s (by simpa using hp) (fun z hz => by rw [List.mem_singleton.mp hz]; exact ⟨_, h1⟩)
def SD (H : Hp) (q : Addr) (st : List Int) : Prop := H q = some (.lst (st.map V.int)) ∧ ∀ x ∈ st, x = 0 ∨ x = 1
theorem SD.same {H H' : Hp} {q : Addr} {st : List Int} (h : SD H q st) (s : Same H H') : SD H' q st := ⟨s _ _ h.1, h.2⟩
theorem SD.ext {S : List Addr} {H H' : Hp} {q : Addr} {st : List Int} (h : SD H q st) (s : Ext S H H') (hq : q ∉ S) : SD H' q st := ⟨s _ _ h.1 hq, h.2⟩
theorem Rw.re {K : PySem.W.Frag} {a r : Addr} {ns : List Int} {H H' : Hp} (R : Rw K a ns H r) (x : Ext [r] H H') (st : RowSt a H' r) : Rw K a ns H' r := ⟨st, R.sc.ext x (fun o e q => by simpa using Rw.ne R.st e q), R.ln⟩
theorem ixN_nat {n j : Nat} (h : j < n) : ixN n (j : Int) = some j := by
  unfold ixN
  rw [if_pos (by omega), if_pos (by omega)]
  simp
theorem paired_take {α β : Type} {F : α → β → Prop} : ∀ {l : List α} {m : List β} (k : Nat), Paired F l m → Paired F (l.take k) (m.take k)
  | _, _, 0, _ => by simpa using Paired.nil
  | _, _, k + 1, .nil => .nil
  | _, _, k + 1, .cons h t => .cons h (paired_take k t)
theorem paired_drop {α β : Type} {F : α → β → Prop} : ∀ {l : List α} {m : List β} (k : Nat), Paired F l m → Paired F (l.drop k) (m.drop k)
  | _, _, 0, h => h
  | _, _, k + 1, .nil => .nil
  | _, _, k + 1, .cons _ t => paired_drop k t
/-- one more at the end of a list, in place -/
theorem TL.snoc {H : Hp} {p c : Addr} {fa : List Addr} {es : List Deed} {d : Deed} (h1 : H p = some (.lst (fa.map V.ref))) (h2 : Paired (fun a d => H a = some (deedO d)) fa es) (hc : H c = some (deedO d)) : TL (upd H p (.lst (fa.map V.ref ++ [.ref c]))) p (es ++ [d]) := by
  have keep : ∀ b e, H b = some (deedO e) → (upd H p (.lst (fa.map V.ref ++ [.ref c]))) b = some (deedO e) := fun b e hb => by
    rw [upd_ne (fun z => by rw [z, h1] at hb; cases hb)]; exact hb
  exact ⟨fa ++ [c], by rw [upd_same, List.map_append]; rfl, paired_snoc (paired_imp (fun b e hb => keep b e hb) h2) (keep _ _ hc)⟩
theorem TL.ins {H : Hp} {p c : Addr} {fa : List Addr} {es : List Deed} {d : Deed} (k : Nat) (h1 : H p = some (.lst (fa.map V.ref))) (h2 : Paired (fun a d => H a = some (deedO d)) fa es) (hc : H c = some (deedO d)) : TL (upd H p (.lst ((fa.map V.ref).take k ++ .ref c :: (fa.map V.ref).drop k))) p (es.take k ++ d :: es.drop k) := by
  have keep : ∀ b e, H b = some (deedO e) → (upd H p (.lst ((fa.map V.ref).take k ++ .ref c :: (fa.map V.ref).drop k))) b = some (deedO e) := fun b e hb => by
    rw [upd_ne (fun z => by rw [z, h1] at hb; cases hb)]; exact hb
  have h3 := paired_imp (fun b e hb => keep b e hb) h2
  exact ⟨fa.take k ++ c :: fa.drop k, by rw [upd_same, List.map_append, List.map_cons, List.map_take, List.map_drop], paired_append (paired_take k h3) (.cons (keep _ _ hc) (paired_drop k h3))⟩
theorem TL.app {H : Hp} {p : Addr} {fa ga : List Addr} {es fs : List Deed} (h1 : H p = some (.lst (fa.map V.ref))) (h2 : Paired (fun a d => H a = some (deedO d)) fa es) (h3 : Paired (fun a d => H a = some (deedO d)) ga fs) : TL (upd H p (.lst (fa.map V.ref ++ ga.map V.ref))) p (es ++ fs) := by
  have keep : ∀ b e, H b = some (deedO e) → (upd H p (.lst (fa.map V.ref ++ ga.map V.ref))) b = some (deedO e) := fun b e hb => by
    rw [upd_ne (fun z => by rw [z, h1] at hb; cases hb)]; exact hb
  exact ⟨fa ++ ga, by rw [upd_same, List.map_append], paired_append (paired_imp (fun b e hb => keep b e hb) h2) (paired_imp (fun b e hb => keep b e hb) h3)⟩
theorem TL.put {H : Hp} {p b : Addr} {xs ys : List V} {es : List Deed} (h : TL H p es) (hb : H b = some (.lst xs)) (hp : p ≠ b) : TL (upd H b (.lst ys)) p es :=
  h.ext (S := [b]) (Ext.put (by simp)) (by simpa using hp) (fun z hz => by rw [List.mem_singleton.mp hz]; exact ⟨_, hb⟩)
def dataW (w : Wt) : PyData := .tuple [.int w.1, .int w.2.1.1, .int w.2.1.2, .str w.2.2]
theorem dp_w {K : PySem.W.Frag} {H : Hp} : ∀ {fa : List Addr} {W : List Wt}, Paired (fun a d => H a = some (deedO d)) fa (W.map wd) → DpAll K H (fa.map V.ref) (W.map dataW)
  | [], [], _ => .nil
  | [], w :: W, h => by cases h
  | c :: fa, [], h => by cases h
  | c :: fa, w :: W, .cons h t => .cons (.tup (SqT.of h) (.cons (.int _) (.cons (.int _) (.cons (.int _) (.cons (.str _) .nil))))) (dp_w t)
theorem lay_w : ∀ W : List Wt, (∀ w ∈ W, w.2.2 = "in" ∨ w.2.2 = "out") → PyData.canLayAll0 (W.map dataW) = true ∧ PyData.depthAll (W.map dataW) ≤ 1
  | [], _ => ⟨rfl, Nat.zero_le _⟩
  | w :: W, h => by
    obtain ⟨h1, h2⟩ := lay_w W fun x hx => h x (List.mem_cons_of_mem _ hx)
    have hw := h w (List.mem_cons_self ..)
    refine ⟨?_, ?_⟩
    · show (PyData.canLay0 (dataW w) && PyData.canLayAll0 (W.map dataW)) = true
      rw [h1, Bool.and_true]
      obtain ⟨x, q, z⟩ := w
      have kz : PyData.canLay0 (.str z) = true := by
        rcases hw with hw | hw
        · rw [show z = "in" from hw]; decide +kernel
        · rw [show z = "out" from hw]; decide +kernel
      show (true && (true && (true && (PyData.canLay0 (.str z) && true)))) = true
      rw [kz]; rfl
    · show max (PyData.depth (dataW w)) (PyData.depthAll (W.map dataW)) ≤ 1
      exact Nat.max_le.mpr ⟨Nat.le_refl 1, h2⟩
theorem shaped_w (W : List Wt) (h : ∀ w ∈ W, w.2.2 = "in" ∨ w.2.2 = "out") : PySem.SeqAt.shaped (.list (W.map dataW)) = true := by
  obtain ⟨h1, h2⟩ := lay_w W h
  unfold PySem.SeqAt.shaped
  rw [Bool.and_eq_true]
  refine ⟨h1, decide_eq_true ?_⟩
  show PyData.depthAll (W.map dataW) + 1 ≤ 64
  omega
theorem filt_len (W : List Wt) (τ : Int) : (W.filter fun w => decide (τ < w.1)).length + (W.filter fun w => decide (w.1 ≤ τ)).length = W.length := by
  induction W with
  | nil => rfl
  | cons w W ih =>
    by_cases h : τ < w.1
    · rw [List.filter_cons, if_pos (decide_eq_true h), List.filter_cons, if_neg (by rw [decide_eq_true_eq]; omega)]
      simp only [List.length_cons]; omega
    · rw [List.filter_cons, if_neg (by rw [decide_eq_true_eq]; exact h), List.filter_cons, if_pos (decide_eq_true (by omega))]
      simp only [List.length_cons]; omega
theorem filt_snoc {p : Wt → Bool} {W : List Wt} {j : Nat} {w : Wt} (h : W[j]? = some w) : (W.take (j + 1)).filter p = (W.take j).filter p ++ (if p w = true then [w] else []) := by
  rw [List.take_succ, h, List.filter_append]
  congr 1
  show [w].filter p = _
  rw [List.filter_cons]
  rfl
def DeedsOk (b l : Int) (es : List Deed) : Prop := Goes b l es ∧ es.length ≤ 300
def sp_deeds (K : PySem.W.Frag) (a : Addr) (ns : List Int) : Sp := fun vs H Q _ => ∃ r m q ds l o t rs, ∃ most : Int, vs = [.ref r, .ref m, .int most] ∧ Rw K a ns H r ∧ LawM H m q ds l o t rs ∧ 1 ≤ most ∧ most ≤ 40 ∧
  ∀ H' fq es, Rw K a ns H' r → Ext [r] H H' → H fq = none → TL H' fq es → DeedsOk ds.length l es → tmOf es ≤ most + 1 → Q (.ref fq) H'
theorem word2 {i : Int} (h0 : 0 ≤ i) (h2 : i < 2) : ∃ wd : Str, atI [V.str "out", .str "in"] i = some (.str wd) ∧ (wd = "in" ∨ wd = "out") := by
  have : i = 0 ∨ i = 1 := by omega
  rcases this with rfl | rfl
  · exact ⟨"out", rfl, .inr rfl⟩
  · exact ⟨"in", rfl, .inl rfl⟩
section
variable {P : Program} {w : World} {K : PySem.W.Frag} {mg : Str → Option Value} {base : Heap} {k : Nat} {f C aW cBH cBR cBT a : Addr} {ns : List Int}
theorem sc_deeds : FnScope ["_law_row", "_law_m", "_law_most", "_law_found", "_law_state", "_law_badge", "_law_often", "_law_waiting", "_law_time", "_law_word", "_law_at", "_law_due", "_law_one"] ["_law_row", "_law_m", "_law_most"] (defScope s_deeds) := ⟨rfl, rfl, rfl, by decide +kernel, rfl, by decide +kernel, by decide +kernel⟩
theorem ok_deeds (F : Top1 K "_law_deeds" "_law_deeds" s_deeds f ["_law_row", "_law_m", "_law_most"]) (T : Bl mg) (G_taken : Fn P w K mg base k "_law_taken" ["_law_row", "_law_many"] (sp_taken K a ns)) :
    ∃ fd, FnOk P w K mg base (CXe P w) (k + 1) f fd ["_law_row", "_law_m", "_law_most"] (sp_deeds K a ns) ∧ Binds K fd ["_law_row", "_law_m", "_law_most"] [] := by
  refine F.okN sc_deeds (fun vs H Q E h => ?_) (fun cdv A outer s H vs Q E hr h => ?_)
  · obtain ⟨_, _, _, _, _, _, _, _, _, rfl, _⟩ := h
    rfl
  · obtain ⟨r, m, q, ds, l, o, t, rs, most, rfl, R, M, hm1, hm2, kk⟩ := h
    have hu := hu_of hr
    have nd := sc_deeds.nd
    have b6 := M.b6
    have lb := M.lb
    refine ⟨_, (pss_cons (ps_set (i := 3) nd rfl (Or.inl rfl) (pe_lst (pa_nil)))
      (pss_cons (ps_setLc (i := 4) (own := [("_law_badge", 5)]) (g := gName 5) (tt := tYes) (te := tC (.int 0)) rfl nd rfl rfl (sw_true rfl rfl rfl (by decide +kernel)) (pi_list (pe_dget hu (pv 1) pe_str (fun _ _ => rfl))) (blkOk_by (own := [("_law_badge", 5)]) (N := ["_law_row", "_law_m", "_law_most", "_law_found", "_law_state", "_law_badge", "_law_often", "_law_waiting", "_law_time", "_law_word", "_law_at", "_law_due", "_law_one"]) (sc := defScope s_deeds) (by decide +kernel)) (fun _ _ _ _ _ => (pg_name (i := 5) nd rfl (Or.inl rfl))) (fun _ _ _ _ _ => pts_nil) (fun _ _ _ _ _ => pe_int))
      (pss_cons (ps_set (i := 6) nd rfl (Or.inl rfl) (pe_op op_add pe_int (pcall G_taken hr (by rfl) passN (pa_cons (pv 0) (pa_cons pe_int pa_nil)))))
      (pss_cons (ps_set (i := 7) nd rfl (Or.inl rfl) (pe_lst (pa_nil)))
      (pss_cons (ps_for PassesOwn.never rfl (pi_range2 rfl T.b_range (pa_cons pe_int (pa_cons (pe_op op_add pe_int (pcall G_taken hr (by rfl) passN (pa_cons (pv 0) (pa_cons (pv 2) pa_nil)))) pa_nil))) (pg_name (i := 8) nd rfl (Or.inr rfl))
        (pss_cons (ps_for PassesOwn.never rfl (pi_range1 rfl T.b_range (pa_cons (pe_callB call_len_seq (by rfl) T.b_len PySem.boot_len (pa_cons (pv 4) pa_nil)) pa_nil)) (pg_name (i := 5) nd rfl (Or.inl rfl))
          (pss_one (ps_if (pt_cmpR op_eq (pcall G_taken hr (by rfl) passN (pa_cons (pv 0) (pa_cons (pv 6) pa_nil))) pe_int (nomark _)) (pss_cons (ps_asg (pe_op op_sub pe_int (pe_ix ix_list (pv 4) (pv 5) (fun _ _ => rfl))) (pg_sub (pv 4) (pv 5) set_list))
            (pss_cons (ps_set (i := 9) nd rfl (Or.inl rfl) (pe_ix ix_list (pe_lst (pa_cons pe_str (pa_cons pe_str pa_nil))) (pe_op op_mod (pe_op op_add (pe_ix ix_list (pv 4) (pv 5) (fun _ _ => rfl)) (pe_callTy call_int1 (by rfl) T.b_int (by decide +kernel) (pa_cons (pe_cmpR op_eq (pcall G_taken hr (by rfl) passN (pa_cons (pv 0) (pa_cons pe_int pa_nil))) pe_int (nomark _)) pa_nil))) pe_int) (fun _ _ => rfl)))
            (pss_cons (ps_set (i := 10) nd rfl (Or.inl rfl) (pcall G_taken hr (by rfl) passN (pa_cons (pv 0) (pa_cons (pe_op op_add (pe_callB call_len_seq (by rfl) T.b_len PySem.boot_len (pa_cons (pv 7) pa_nil)) pe_int) pa_nil))))
            (pss_one (ps_if (pt_cmpR op_gt (pcall G_taken hr (by rfl) passN (pa_cons (pv 0) (pa_cons pe_int pa_nil))) pe_int (nomark _)) (pss_one (ps_expr (pe_bm PySem.F.plainAttrs_list PySem.F.slot_list_insert PySem.F.type_list_insert mt_insert (pv 7) (pa_cons (pv 10) (pa_cons (pe_tup (pa_cons (pe_op op_add (pv 8) (pcall G_taken hr (by rfl) passN (pa_cons (pv 0) (pa_cons (pe_op op_add (pe_dget hu (pv 1) pe_str (fun _ _ => rfl)) pe_int) pa_nil)))) (pa_cons (pv 5) (pa_cons (pv 8) (pa_cons (pv 9) pa_nil))))) pa_nil))))) pss_nil))))) pss_nil)))
        (pss_cons (ps_setLc (i := 11) (own := [("_law_one", 12)]) (g := gName 12) (tt := tTest (tOp (rI0 fun i j => .bl (decide (i ≤ j))) (tOp (rIxT K) (tVar 12) (tC (.int 0))) (tVar 8))) (te := tVar 12) rfl nd rfl rfl (sw_true rfl rfl rfl (by decide +kernel)) (pi_list (pv 7)) (blkOk_by (own := [("_law_one", 12)]) (N := ["_law_row", "_law_m", "_law_most", "_law_found", "_law_state", "_law_badge", "_law_often", "_law_waiting", "_law_time", "_law_word", "_law_at", "_law_due", "_law_one"]) (sc := defScope s_deeds) (by decide +kernel)) (fun _ _ _ _ _ => (pg_name (i := 12) nd rfl (Or.inl rfl))) (fun _ _ _ _ _ => (pts_one (pt_cmpR op_le (pe_ix ix_tup (pv 12) pe_int (fun _ _ => rfl)) (pv 8) (nomark _)))) (fun _ _ _ _ _ => (pv 12)))
        (pss_cons (ps_setLc (i := 7) (own := [("_law_one", 12)]) (g := gName 12) (tt := tTest (tOp (rI0 fun i j => .bl (decide (j < i))) (tOp (rIxT K) (tVar 12) (tC (.int 0))) (tVar 8))) (te := tVar 12) rfl nd rfl rfl (sw_true rfl rfl rfl (by decide +kernel)) (pi_list (pv 7)) (blkOk_by (own := [("_law_one", 12)]) (N := ["_law_row", "_law_m", "_law_most", "_law_found", "_law_state", "_law_badge", "_law_often", "_law_waiting", "_law_time", "_law_word", "_law_at", "_law_due", "_law_one"]) (sc := defScope s_deeds) (by decide +kernel)) (fun _ _ _ _ _ => (pg_name (i := 12) nd rfl (Or.inl rfl))) (fun _ _ _ _ _ => (pts_one (pt_cmpR op_gt (pe_ix ix_tup (pv 12) pe_int (fun _ _ => rfl)) (pv 8) (nomark _)))) (fun _ _ _ _ _ => (pv 12)))
        (pss_cons (ps_expr (pe_bm PySem.F.plainAttrs_list PySem.F.slot_list_extend PySem.F.type_list_extend mt_extend (pv 3) (pa_cons (pe_lc (own := [("_law_one", 12)]) (g := gName 12) (tt := tYes) (te := tOp (rCatT K) (tTup (tCons (tVar 8) tNil)) (tSl (rSlT K) (tVar 12) (tPart (tC (.int 1))) tNoPart)) rfl nd (pi_list (pv 11)) (blkOk_by (own := [("_law_one", 12)]) (N := ["_law_row", "_law_m", "_law_most", "_law_found", "_law_state", "_law_badge", "_law_often", "_law_waiting", "_law_time", "_law_word", "_law_at", "_law_due", "_law_one"]) (sc := defScope s_deeds) (by decide +kernel)) (fun _ _ _ _ _ => (pg_name (i := 12) nd rfl (Or.inl rfl))) (fun _ _ _ _ _ => pts_nil) (fun _ _ _ _ _ => (pe_op op_catT (pe_tup (pa_cons (pv 8) pa_nil)) (pe_slice sl_tup (pv 12) (po_some pe_int) po_none)))) pa_nil)))
        (pss_one (ps_if (PW.pt (pw_and (pt_cmpR (op_eqD hr.units) (pv 11) (pe_lst (pa_nil)) (nomark _)) (pw_and1 (pt_cmpR op_eq (pcall G_taken hr (by rfl) passN (pa_cons (pv 0) (pa_cons pe_int pa_nil))) pe_int (nomark _))))) (pss_one (ps_expr (pe_bm PySem.F.plainAttrs_list PySem.F.slot_list_append PySem.F.type_list_append mt_append (pv 3) (pa_cons (pe_tup (pa_cons (pv 8) pa_nil)) pa_nil)))) pss_nil)))))))
      (pss_one (ps_ret (pv 3)))))))), ?_⟩
    -- found = []
    refine ⟨Nat.zero_le _, fun fq hfq => ?_⟩
    generalize hH1 : upd H fq _ = H1
    have s1 : Same H H1 := by rw [← hH1]; exact (Ext.new (S := []) hfq).same
    have e1 : H1 fq = some (.lst []) := by rw [← hH1]; exact upd_same
    clear hH1
    have M1 := M.same s1
    have hfr : fq ≠ r := R.new hfq
    -- state
    refine ⟨_, rfl, m, _, rfl, g_known M1.ob, q, rfl, ⟨_, SqL.of M1.kn⟩, fun sq hsq => ?_⟩
    have hsq0 : H sq = none := s1.free hsq
    have hsr : sq ≠ r := R.new hsq0
    have hsf : sq ≠ fq := (ne_of_none e1 hsq).symm
    refine lc_list (K := K) (a := q) (xs := ds.map V.ref) (fun i H2 => Same H1 H2 ∧ SD H2 sq (List.replicate i 0)) ⟨(Ext.new (S := []) hsq).same, upd_same, (fun x hx => by cases hx)⟩ (fun i H2 _ h => SqL.of (h.1 _ _ M1.kn)) ?_ ?_
    · rintro i y H2 hi ⟨s2, h2, _⟩
      have hlt : i < ds.length := by have := (List.getElem?_eq_some_iff.mp hi).1; rwa [List.length_map] at this
      refine ⟨rfl, ?_⟩
      refine yes ?_
      refine ⟨_, h2, (by rw [List.length_map, List.length_replicate]; exact small1000 (by omega)), fun c oc hc => ?_, ?_, fun x hx => .inl (List.eq_of_mem_replicate hx)⟩
      · rw [upd_ne (ne_of_none hc hsq)]; exact s2 _ _ hc
      · rw [upd_same, List.replicate_succ', List.map_append]; rfl
    rintro H2 ⟨s2, S2⟩
    rw [List.length_map] at S2
    have R2 := R.same (s1.trans s2)
    -- often
    refine ⟨_, rfl, r, _, rfl, R2, (by decide), (by decide), fun v1 H3 g10 g11 R3 x3 => ⟨_, _, rfl, rfl, ?_⟩⟩
    have xA : Ext [r] H H3 := ((s1.trans s2).ext _).tr x3
    have e3 : H3 fq = some (.lst []) := x3 _ _ (s2 _ _ e1) (by simpa using hfr)
    have S3 := S2.ext x3 (by simpa using hsr)
    -- waiting = []
    refine ⟨Nat.zero_le _, fun wq hwq => ?_⟩
    generalize hH4 : upd H3 wq _ = H4
    have s4 : Same H3 H4 := by rw [← hH4]; exact (Ext.new (S := []) hwq).same
    have e4 : H4 wq = some (.lst []) := by rw [← hH4]; exact upd_same
    clear hH4
    have hwr : wq ≠ r := R3.new hwq
    have hw0 : H wq = none := (xA.none hwq).resolve_right (by simpa using hwr)
    have hwf : wq ≠ fq := (ne_of_none e3 hwq).symm
    have hws : wq ≠ sq := (ne_of_none S3.1 hwq).symm
    have R4 := R3.same s4
    -- for time in range(1, 2 + taken(row, most))
    refine ⟨_, rfl, _, rfl, r, _, rfl, R4, hm1, (by omega), fun v2 H5 g20 g21 R5 x5 => ⟨_, _, rfl, rfl, _, _, rfl, ⟨by decide, by decide, by omega, by omega⟩, ?_⟩⟩
    have xB : Ext [r] H H5 := (xA.tr (s4.ext _)).tr x5
    have T5 : TL H5 fq [] := ⟨[], x5 _ _ (s4 _ _ e3) (by simpa using hfr), .nil⟩
    have W5 : TL H5 wq [] := ⟨[], x5 _ _ e4 (by simpa using hwr), .nil⟩
    have S5 := (S3.same s4).ext x5 (by simpa using hsr)
    refine for_range (fun i σ H6 => ∃ v5 v8 v9 v10 v11 v12 wq W fd st, σ = [some (.ref r), some (.ref m), some (.int most), some (.ref fq), some (.ref sq), v5, some (.int (2 + v1)), some (.ref wq), v8, v9, v10, v11, v12] ∧
      Rw K a ns H6 r ∧ Ext [r] H H6 ∧ TL H6 fq fd ∧ TL H6 wq (W.map wd) ∧ SD H6 sq st ∧ st.length = ds.length ∧ Pure ds.length l (i + 1) 0 W fd ∧ W.length + fd.length ≤ 7 * i ∧ wq ≠ fq ∧ wq ≠ sq ∧ H wq = none)
      ⟨none, none, none, none, none, none, wq, [], [], _, rfl, R5, xB, T5, W5, S5, by simp, ⟨(fun w hw => by cases hw), List.nodup_nil, (fun q hq => by cases hq), goes_nil, by decide⟩, Nat.zero_le _, hwf, hws, hw0⟩ ?_ ?_
    · clear T5 W5 S5 R5 xB x5 hwf hws hw0 hwr e4 s4 S3 e3 xA R4 R3 x3 R2 S2 s2 hwq
      clear H5 H4 wq H3 H2
      rintro i σ H6 hi ⟨v5, v8, v9, v10, v11, v12, wq, W, fd, st, rfl, R6, x6, T6, W6, S6, hst, pu, hsz, hwf, hws, hw0⟩
      have hi : (i : Int) < 40 := by omega
      have hτ : (1 : Int) + i = i + 1 := by omega
      rw [hτ]
      have hwr : wq ≠ r := R.new hw0
      have hlist : ∀ {X : Hp}, RowSt a X r → ∀ x ∈ [r], ∃ xs, X x = some (.lst xs) := fun st x hx => by
        obtain ⟨_, _, _, h1, _⟩ := st
        rw [List.mem_singleton.mp hx]; exact ⟨_, h1⟩
      refine ⟨_, rfl, sq, _, rfl, .inl (SqL.of S6.1), _, rfl, (by rw [List.length_map]; omega), (by rw [List.length_map]; omega), ?_⟩
      have hn : (((st.map V.int).length : Int)).toNat = ds.length := by rw [List.length_map, hst]; omega
      rw [hn]
      refine for_range (fun β σ H7 => ∃ v5 v9 v10 W st, σ = [some (.ref r), some (.ref m), some (.int most), some (.ref fq), some (.ref sq), v5, some (.int (2 + v1)), some (.ref wq), some (.int (i + 1)), v9, v10, v11, v12] ∧
        Rw K a ns H7 r ∧ Ext [r] H H7 ∧ TL H7 fq fd ∧ TL H7 wq (W.map wd) ∧ SD H7 sq st ∧ st.length = ds.length ∧ Pure ds.length l (i + 1) β W fd ∧ W.length + fd.length ≤ 7 * i + β)
        ⟨v5, v9, v10, W, st, rfl, R6, x6, T6, W6, S6, hst, pu, hsz⟩ ?_ ?_
      · clear hsz pu hst hn W6 T6 x6 R6
        rintro β σ H7 hβ ⟨v5, v9, v10, W, st, rfl, R7, x7, T7, W7, S7, hst, pu, hsz⟩
        rw [Int.zero_add]
        have eβ : ((β + 1 : Nat) : Int) = (β : Int) + 1 := by omega
        refine ⟨_, rfl, _, rfl, r, _, rfl, R7, (by omega), (by omega), fun v3 H8 _ _ R8 x8 => ⟨rfl, _, rfl, ?_⟩⟩
        have T8 := T7.row R7.st x8 hfr
        have W8 := W7.row R7.st x8 hwr
        have S8 := S7.ext x8 (by simpa using hsr)
        have xx8 : Ext [r] H H8 := x7.tr x8
        refine ite2 (fun _ => ?_) (fun _ => ?_)
        · -- state[badge] = 1 - state[badge]
          obtain ⟨sv, hsv⟩ : ∃ sv, st[β]? = some sv := ⟨_, List.getElem?_eq_getElem (by omega)⟩
          have hat : atI (st.map V.int) (β : Int) = some (.int sv) := atI_nat (by rw [List.getElem?_map, hsv]; rfl)
          have h01 := S8.2 sv (List.mem_of_getElem? hsv)
          refine ⟨_, rfl, _, rfl, sq, _, _, _, rfl, rfl, SqL.of S8.1, hat, _, _, rfl, rfl, _, rfl, _, rfl, sq, _, _, β, rfl, rfl, S8.1, ixN_nat (by rw [List.length_map]; omega), ?_⟩
          generalize hH9 : upd H8 sq _ = H9
          have x9 : Ext [sq] H8 H9 := by rw [← hH9]; exact Ext.put (by simp)
          have S9 : SD H9 sq (st.set β (1 - sv)) := by
            refine ⟨by rw [← hH9, List.map_set]; exact upd_same, fun x hx => ?_⟩
            rcases List.mem_or_eq_of_mem_set hx with hx | rfl
            · exact S8.2 x hx
            · omega
          have T9 : TL H9 fq fd := by rw [← hH9]; exact T8.put S8.1 hsf.symm
          have W9 : TL H9 wq (W.map wd) := by rw [← hH9]; exact W8.put S8.1 hws
          have xx9 : Ext [r] H H9 := fun b ob hb hn => x9 _ _ (xx8 _ _ hb hn) (by simpa using ne_of_none hb hsq0)
          have R9 : Rw K a ns H9 r := R.re xx9 (R8.st.ext x9 (by simpa using hsr.symm))
          have hst9 : (st.set β (1 - sv)).length = ds.length := by rw [List.length_set, hst]
          have hat9 : atI ((st.set β (1 - sv)).map V.int) (β : Int) = some (.int (1 - sv)) := atI_nat (by rw [List.getElem?_map, List.getElem?_set_self (by omega)]; rfl)
          clear hH9
          generalize st.set β (1 - sv) = st9 at S9 hst9 hat9
          -- word_here
          refine ⟨(by show 2 ≤ sizeLine; decide), fun lq hlq => ?_⟩
          generalize hH10 : upd H9 lq _ = H10
          have s10 : Same H9 H10 := by rw [← hH10]; exact (Ext.new (S := []) hlq).same
          have e10 : H10 lq = some (.lst [.str "out", .str "in"]) := by rw [← hH10]; exact upd_same
          clear hH10
          have hlr : lq ≠ r := R9.new hlq
          refine ⟨_, rfl, _, rfl, sq, _, _, _, rfl, rfl, SqL.of (s10 _ _ S9.1), hat9, _, rfl, r, _, rfl, R9.same s10, (by decide), (by decide), fun v4 H11 _ _ R11 x11 => ⟨rfl, .inr ⟨_, rfl, _, _, rfl, rfl, _, _, rfl, rfl, (by show (0 : Int) < 2; decide), ?_⟩⟩⟩
          generalize (1 - sv + if decide (V.int v4 = V.int 29) = true then (1 : Int) else 0) = wx
          obtain ⟨word, hword, hw4⟩ := word2 (i := wx % 2) (Int.emod_nonneg _ (by decide)) (Int.emod_lt_of_pos _ (by decide))
          refine ⟨lq, _, _, _, rfl, rfl, SqL.of (x11 _ _ e10 (by simpa using hlr)), hword, ?_⟩
          have T11 := (T9.same s10).row (R9.same s10).st x11 hfr
          have W11 := (W9.same s10).row (R9.same s10).st x11 hwr
          have S11 := (S9.same s10).ext x11 (by simpa using hsr)
          have xx11 : Ext [r] H H11 := (xx9.tr (s10.ext _)).tr x11
          -- at
          obtain ⟨wa, hwa, pwa⟩ := W11
          have hwl : wa.length = W.length := by rw [Paired.length pwa, List.length_map]
          refine ⟨_, rfl, _, rfl, wq, _, rfl, .inl (SqL.of hwa), _, _, rfl, rfl, r, _, rfl, R11, (by rw [List.length_map]; omega), (by rw [List.length_map]; omega), fun kx H12 k0 k1 R12 x12 => ?_⟩
          rw [List.length_map] at k1
          have T12 := T11.row R11.st x12 hfr
          have W12 : TL H12 wq (W.map wd) := TL.row ⟨wa, hwa, pwa⟩ R11.st x12 hwr
          have S12 := S11.ext x12 (by simpa using hsr)
          have xx12 : Ext [r] H H12 := xx11.tr x12
          refine ⟨_, rfl, r, _, rfl, R12, (by decide), (by decide), fun v6 H13 _ _ R13 x13 => ⟨_, _, rfl, rfl, _, rfl, ?_⟩⟩
          have T13 := T12.row R12.st x13 hfr
          have W13 := W12.row R12.st x13 hwr
          have S13 := S12.ext x13 (by simpa using hsr)
          have xx13 : Ext [r] H H13 := xx12.tr x13
          refine ite2 (fun _ => ?_) (fun _ => ?_)
          · have M13 := M.row R.st xx13
            obtain ⟨wb, hwb, pwb⟩ := W13
            have hwbl : wb.length = W.length := by rw [Paired.length pwb, List.length_map]
            refine ⟨_, rfl, (.inl ⟨rfl, _, SqL.of hwb⟩), _, rfl, _, rfl, _, rfl, _, rfl, m, _, rfl, g_late M13.ob, _, _, rfl, rfl, r, _, rfl, R13, (by omega), (by omega), fun dl H14 d0 d1 R14 x14 => ⟨_, _, rfl, rfl, _, rfl, _, rfl, _, rfl, (by show 4 ≤ sizeLine; decide), fun nq hnq => ?_⟩⟩
            have T14 := T13.row R13.st x14 hfr
            have W14 : TL H14 wq (W.map wd) := TL.row ⟨wb, hwb, pwb⟩ R13.st x14 hwr
            have S14 := S13.ext x14 (by simpa using hsr)
            have xx14 : Ext [r] H H14 := xx13.tr x14
            generalize hH15 : upd H14 nq _ = H15
            have s15 : Same H14 H15 := by rw [← hH15]; exact (Ext.new (S := []) hnq).same
            have e15 : H15 nq = some (deedO (wd (i + 1 + dl, (((β : Int), (i : Int) + 1), word)))) := by rw [← hH15]; exact upd_same
            clear hH15
            obtain ⟨wc, hwc, pwc⟩ := W14.same s15
            have hwcl : wc.length = W.length := by rw [Paired.length pwc, List.length_map]
            refine ⟨wq, _, kx.toNat, _, _, rfl, rfl, (by omega), hwc, (by rw [List.length_map]; omega), (by rw [List.length_map]; exact small1000 (by omega)), ?_⟩
            refine ⟨_, _, _, W.take kx.toNat ++ (i + 1 + dl, (((β : Int), (i : Int) + 1), word)) :: W.drop kx.toNat, st9, rfl, ?_, ?_, ?_, ?_, ?_, hst9, ?_, ?_⟩
            · refine R.re (fun b ob hb hn => ?_) ((R14.same s15).st.ext (S := [wq]) (Ext.put (by simp)) (by simpa using hwr.symm))
              rw [upd_ne (ne_of_none hb hw0)]; exact s15 _ _ (xx14 _ _ hb hn)
            · intro b ob hb hn
              rw [upd_ne (ne_of_none hb hw0)]; exact s15 _ _ (xx14 _ _ hb hn)
            · exact (T14.same s15).put hwc hwf.symm
            · have := TL.ins kx.toNat hwc pwc e15
              rw [List.map_append, List.map_cons, List.map_take, List.map_drop]
              exact this
            · exact (S14.same s15).ext (S := [wq]) (Ext.put (by simp)) (by simpa using hws.symm)
            · rw [eβ]
              exact pu.ins kx.toNat (by omega) (by omega) (by omega) hw4 (by omega) (by omega)
            · rw [List.length_append, List.length_cons, List.length_take, List.length_drop]
              omega
          · exact ⟨_, _, _, W, st9, rfl, R13, xx13, T13, W13, S13, hst9, by rw [eβ]; exact pu.skip, by omega⟩
        · exact ⟨_, _, _, W, st, rfl, R8, xx8, T8, W8, S8, hst, by rw [eβ]; exact pu.skip, by omega⟩
      · clear hsz pu hst hn W6 T6 x6 R6 S6
        rintro σ H7 ⟨v5, v9, v10, W, st, rfl, R7, x7, T7, W7, S7, hst, pu, hsz⟩
        have pu : Pure ds.length l (i + 1) ds.length W fd := pu
        have hwords : ∀ (p : Wt → Bool), ∀ w ∈ W.filter p, w.2.2 = "in" ∨ w.2.2 = "out" := fun p w hw => (pu.gw w (List.mem_filter.mp hw).1).2.2.2.2.1
        have hfl := filt_len W ((i : Int) + 1)
        obtain ⟨pT, pTm⟩ := pu.turn (by omega)
        obtain ⟨wa, hwa, pwa⟩ := W7
        have hwl : wa.length = W.length := by rw [Paired.length pwa, List.length_map]
        have at_w : ∀ {j : Nat} {x : V}, (wa.map V.ref)[j]? = some x → ∃ c w, x = .ref c ∧ W[j]? = some w ∧ H7 c = some (deedO (wd w)) := fun {j x} hx => by
          rw [List.getElem?_map] at hx
          cases eq : wa[j]? with
          | none => rw [eq] at hx; cases hx
          | some c =>
            rw [eq] at hx
            obtain ⟨d, hd, hc⟩ := paired_at pwa eq
            rw [List.getElem?_map] at hd
            cases eq2 : W[j]? with
            | none => rw [eq2] at hd; cases hd
            | some w =>
              rw [eq2] at hd
              cases hd
              exact ⟨c, w, (Option.some.inj hx).symm, rfl, hc⟩
        -- due
        refine ⟨_, rfl, wq, rfl, ⟨_, SqL.of hwa⟩, fun dq hdq => ?_⟩
        have hdr : dq ≠ r := R7.new hdq
        have hd0 : H dq = none := (x7.none hdq).resolve_right (by simpa using hdr)
        refine lc_list (K := K) (a := wq) (xs := wa.map V.ref) (fun j H8 => Same H7 H8 ∧ TL H8 dq (((W.take j).filter fun w => decide (w.1 ≤ (i : Int) + 1)).map wd)) ⟨(Ext.new (S := []) hdq).same, [], upd_same, .nil⟩ (fun j H8 _ h => SqL.of (h.1 _ _ hwa)) ?_ ?_
        · rintro j x H8 hj ⟨s8, da, hda, pda⟩
          obtain ⟨c, w, rfl, hw, hc⟩ := at_w hj
          have hdl : da.length ≤ W.length := by
            rw [Paired.length pda, List.length_map]
            exact Nat.le_trans (List.length_filter_le _ _) (by rw [List.length_take]; omega)
          refine ⟨rfl, ?_⟩
          refine ⟨_, rfl, c, _, 0, _, rfl, rfl, SqT.of (s8 _ _ hc), rfl, _, rfl, _, _, rfl, rfl, _, rfl, ?_⟩
          have same9 : ∀ (ys : List V), Same H7 (upd H8 dq (.lst ys)) := fun ys b ob hb => by
            rw [upd_ne (ne_of_none hb hdq)]; exact s8 _ _ hb
          by_cases hq : w.1 ≤ (i : Int) + 1
          · rw [decide_eq_true hq]
            refine iteT ⟨_, rfl, _, hda, (by rw [List.length_map]; exact small1000 (by omega)), same9 _, ?_⟩
            rw [filt_snoc hw, if_pos (decide_eq_true hq), List.map_append]
            exact TL.snoc hda pda (s8 _ _ hc)
          · rw [decide_eq_false hq]
            refine iteF ⟨s8, ?_⟩
            rw [filt_snoc hw, if_neg (by rw [decide_eq_true_eq]; exact hq), List.append_nil]
            exact ⟨da, hda, pda⟩
        rintro H8 ⟨s8, D8⟩
        rw [List.length_map, hwl, List.take_length] at D8
        have R8 := R7.same s8
        have T8 := T7.same s8
        have S8 := S7.same s8
        have xx8 : Ext [r] H H8 := x7.tr (s8.ext _)
        -- waiting
        refine ⟨_, rfl, wq, rfl, ⟨_, SqL.of (s8 _ _ hwa)⟩, fun nq hnq => ?_⟩
        have hnr : nq ≠ r := R8.new hnq
        have hn0 : H nq = none := (xx8.none hnq).resolve_right (by simpa using hnr)
        have hnf : nq ≠ fq := by
          obtain ⟨_, h, _⟩ := T8
          exact (ne_of_none h hnq).symm
        have hns : nq ≠ sq := (ne_of_none S8.1 hnq).symm
        have hnd : nq ≠ dq := by
          obtain ⟨_, h, _⟩ := D8
          exact (ne_of_none h hnq).symm
        refine lc_list (K := K) (a := wq) (xs := wa.map V.ref) (fun j H9 => Same H8 H9 ∧ TL H9 nq (((W.take j).filter fun w => decide ((i : Int) + 1 < w.1)).map wd)) ⟨(Ext.new (S := []) hnq).same, [], upd_same, .nil⟩ (fun j H9 _ h => SqL.of (h.1 _ _ (s8 _ _ hwa))) ?_ ?_
        · rintro j x H9 hj ⟨s9, da, hda, pda⟩
          obtain ⟨c, w, rfl, hw, hc⟩ := at_w hj
          have hdl : da.length ≤ W.length := by
            rw [Paired.length pda, List.length_map]
            exact Nat.le_trans (List.length_filter_le _ _) (by rw [List.length_take]; omega)
          refine ⟨rfl, ?_⟩
          refine ⟨_, rfl, c, _, 0, _, rfl, rfl, SqT.of (s9 _ _ (s8 _ _ hc)), rfl, _, rfl, _, _, rfl, rfl, _, rfl, ?_⟩
          have same9 : ∀ (ys : List V), Same H8 (upd H9 nq (.lst ys)) := fun ys b ob hb => by
            rw [upd_ne (ne_of_none hb hnq)]; exact s9 _ _ hb
          by_cases hq : (i : Int) + 1 < w.1
          · rw [decide_eq_true hq]
            refine iteT ⟨_, rfl, _, hda, (by rw [List.length_map]; exact small1000 (by omega)), same9 _, ?_⟩
            rw [filt_snoc hw, if_pos (decide_eq_true hq), List.map_append]
            exact TL.snoc hda pda (s9 _ _ (s8 _ _ hc))
          · rw [decide_eq_false hq]
            refine iteF ⟨s9, ?_⟩
            rw [filt_snoc hw, if_neg (by rw [decide_eq_true_eq]; exact hq), List.append_nil]
            exact ⟨da, hda, pda⟩
        rintro H9 ⟨s9, N9⟩
        rw [List.length_map, hwl, List.take_length] at N9
        have R9 := R8.same s9
        have T9 := T8.same s9
        have S9 := S8.same s9
        have D9 := D8.same s9
        have xx9 : Ext [r] H H9 := xx8.tr (s9.ext _)
        clear at_w
        generalize hDn : (W.filter fun w => decide (w.1 ≤ (i : Int) + 1)) = Dn at *
        generalize hWn : (W.filter fun w => decide ((i : Int) + 1 < w.1)) = Wn at *
        -- found.extend(..)
        obtain ⟨fa, hfa, pfa⟩ := T9
        obtain ⟨da, hda, pda⟩ := D9
        have hfl2 : fa.length = fd.length := Paired.length pfa
        have hdl2 : da.length = Dn.length := by rw [Paired.length pda, List.length_map]
        refine ⟨_, rfl, (.inl ⟨rfl, _, SqL.of hfa⟩), _, rfl, dq, rfl, ⟨_, SqL.of hda⟩, fun xq hxq => ?_⟩
        refine lc_list (K := K) (a := dq) (xs := da.map V.ref) (fun j H10 => Same H9 H10 ∧ TL H10 xq ((Dn.take j).map fun w => ((i : Int) + 1, some w.2))) ⟨(Ext.new (S := []) hxq).same, [], upd_same, .nil⟩ (fun j H10 _ h => SqL.of (h.1 _ _ hda)) ?_ ?_
        · rintro j x H10 hj ⟨s10, xa, hxa, pxa⟩
          rw [List.getElem?_map] at hj
          cases eq : da[j]? with
          | none => rw [eq] at hj; cases hj
          | some c =>
            rw [eq] at hj
            cases hj
            obtain ⟨d, hd, hc⟩ := paired_at pda eq
            rw [List.getElem?_map] at hd
            cases eq2 : Dn[j]? with
            | none => rw [eq2] at hd; cases hd
            | some w =>
              rw [eq2] at hd
              cases hd
              have hxl : xa.length ≤ Dn.length := by
                rw [Paired.length pxa, List.length_map, List.length_take]; omega
              refine ⟨rfl, ?_⟩
              refine yes ?_
              refine ⟨_, rfl, (by show 1 ≤ sizeLine; decide), fun p1 hp1 => ?_⟩
              generalize hH11 : upd H10 p1 _ = H11
              have s11 : Same H10 H11 := by rw [← hH11]; exact (Ext.new (S := []) hp1).same
              have e11 : H11 p1 = some (.tup [.int ((i : Int) + 1)]) := by rw [← hH11]; exact upd_same
              clear hH11
              refine ⟨_, rfl, _, rfl, c, _, rfl, SqT.of (s11 _ _ (s10 _ _ hc)), (by show ¬ ((1 : Nat) = 0 ∧ (4 : Nat) = 4); decide), fun p2 hp2 => ?_⟩
              generalize hH12 : upd H11 p2 _ = H12
              have s12 : Same H11 H12 := by rw [← hH12]; exact (Ext.new (S := []) hp2).same
              have e12 : H12 p2 = some (.tup [.int w.2.1.1, .int w.2.1.2, .str w.2.2]) := by rw [← hH12]; exact upd_same
              clear hH12
              refine ⟨p1, p2, _, _, rfl, rfl, SqT.of (s12 _ _ e11), SqT.of e12, (fun z => by cases z), (by show 4 ≤ sizeLine; decide), (fun z => by cases z), fun _ p3 hp3 => ?_⟩
              generalize hH13 : upd H12 p3 _ = H13
              have s13 : Same H12 H13 := by rw [← hH13]; exact (Ext.new (S := []) hp3).same
              have e13 : H13 p3 = some (deedO ((i : Int) + 1, some w.2)) := by rw [← hH13]; exact upd_same
              clear hH13
              have sA : Same H10 H13 := s11.trans (s12.trans s13)
              refine ⟨_, sA _ _ hxa, (by rw [List.length_map]; exact small1000 (by omega)), fun b ob hb => ?_, ?_⟩
              · rw [upd_ne (ne_of_none hb hxq)]; exact sA _ _ (s10 _ _ hb)
              · rw [List.take_succ, eq2, List.map_append]
                exact TL.snoc (sA _ _ hxa) (paired_imp (fun _ _ z => sA _ _ z) pxa) e13
        rintro H10 ⟨s10, xa, hxa, pxa⟩
        rw [List.length_map, hdl2, List.take_length] at pxa
        have hxl : xa.length = Dn.length := by rw [Paired.length pxa, List.length_map]
        have hbig : fa.length + xa.length ≤ 1000 := by omega
        refine ⟨fq, xq, _, _, rfl, rfl, s10 _ _ hfa, hxa, (by rw [List.length_map, List.length_map]; exact Nat.le_of_lt (small1000 hbig)), ?_⟩
        have T11 := TL.app (s10 _ _ hfa) (paired_imp (fun _ _ z => s10 _ _ z) pfa) pxa
        generalize hH11 : upd H10 fq _ = H11 at T11
        have x11 : Ext [fq] H10 H11 := by rw [← hH11]; exact Ext.put (by simp)
        have hxx : ∀ b ob, H b = some ob → b ∉ [r] → H11 b = some ob := fun b ob hb hn => x11 _ _ (s10 _ _ (xx9 _ _ hb hn)) (by simpa using ne_of_none hb hfq)
        have R11 : Rw K a ns H11 r := R.re hxx ((R9.same s10).st.ext x11 (by simpa using hfr.symm))
        have N11 : TL H11 nq (Wn.map wd) := by rw [← hH11]; exact (N9.same s10).put (s10 _ _ hfa) hnf
        have S11 : SD H11 sq st := (S9.same s10).ext x11 (by simpa using hsf)
        have hdf : dq ≠ fq := fun z => by rw [z] at hdq; obtain ⟨_, h, _⟩ := T7; rw [h] at hdq; cases hdq
        have D11 : TL H11 dq (Dn.map wd) := by rw [← hH11]; exact (TL.same ⟨da, hda, pda⟩ s10).put (s10 _ _ hfa) hdf
        clear hH11
        have hszA : Wn.length + (fd ++ Dn.map fun w => ((i : Int) + 1, some w.2)).length ≤ 7 * i + 6 := by
          rw [List.length_append, List.length_map]
          omega
        have pT' : Pure ds.length l (((i + 1 : Nat) : Int) + 1) 0 Wn (fd ++ Dn.map fun w => ((i : Int) + 1, some w.2)) := by
          have e : ((i + 1 : Nat) : Int) + 1 = (i : Int) + 1 + 1 := by omega
          rw [e]; exact pT
        -- if due == [] and ..
        obtain ⟨db, hdb, pdb⟩ := D11
        refine ⟨_, rfl, (by show 0 ≤ sizeLine; decide), fun p0 hp0 => ?_⟩
        generalize hH12 : upd H11 p0 _ = H12
        have s12 : Same H11 H12 := by rw [← hH12]; exact (Ext.new (S := []) hp0).same
        have e12 : H12 p0 = some (.lst []) := by rw [← hH12]; exact upd_same
        clear hH12
        refine ⟨.list (Dn.map dataW), .list [], .lst (SqL.of (s12 _ _ hdb)) (dp_w (paired_imp (fun _ _ z => s12 _ _ z) pdb)), .lst (SqL.of e12) .nil, shaped_w Dn (fun w hw => ?_), by decide, _, rfl, ?_⟩
        · rw [← hDn] at hw; exact hwords _ w hw
        have xx12 : Ext [r] H H12 := fun b ob hb hn => s12 _ _ (hxx b ob hb hn)
        have R12 := R11.same s12
        have T12 := T11.same s12
        have N12 := N11.same s12
        have S12 := S11.same s12
        refine ite2 (fun _ => ?_) (fun _ => ?_)
        · refine ⟨_, rfl, r, _, rfl, R12, (by decide), (by decide), fun v7 H13 _ _ R13 x13 => ⟨rfl, _, rfl, ?_⟩⟩
          have T13 := T12.row R12.st x13 hfr
          have N13 := N12.row R12.st x13 hnr
          have S13 := S12.ext x13 (by simpa using hsr)
          have xx13 : Ext [r] H H13 := xx12.tr x13
          refine ite2 (fun _ => ?_) (fun _ => ?_)
          · obtain ⟨fb, hfb, pfb⟩ := T13
            have hfbl : fb.length ≤ 1000 := by rw [Paired.length pfb]; omega
            refine ⟨_, rfl, (.inl ⟨rfl, _, SqL.of hfb⟩), _, rfl, (by show 1 ≤ sizeLine; decide), fun p1 hp1 => ?_⟩
            generalize hH14 : upd H13 p1 _ = H14
            have s14 : Same H13 H14 := by rw [← hH14]; exact (Ext.new (S := []) hp1).same
            have e14 : H14 p1 = some (deedO ((i : Int) + 1, none)) := by rw [← hH14]; exact upd_same
            clear hH14
            refine ⟨fq, _, _, rfl, rfl, s14 _ _ hfb, (by rw [List.length_map]; exact small1000 hfbl), ?_⟩
            have xx15 : ∀ ys, Ext [r] H (upd H14 fq (.lst ys)) := fun ys b ob hb hn => by
              rw [upd_ne (ne_of_none hb hfq)]; exact s14 _ _ (xx13 _ _ hb hn)
            refine ⟨_, _, _, _, _, _, nq, Wn, _, st, rfl, R.re (xx15 _) ((R13.same s14).st.ext (S := [fq]) (Ext.put (by simp)) (by simpa using hfr.symm)), xx15 _, TL.snoc (s14 _ _ hfb) (paired_imp (fun _ _ z => s14 _ _ z) pfb) e14, (N13.same s14).put (s14 _ _ hfb) hnf, (S13.same s14).ext (S := [fq]) (Ext.put (by simp)) (by simpa using hsf), hst, ?_, ?_, hnf, hns, hn0⟩
            · have e : ((i + 1 : Nat) : Int) + 1 = (i : Int) + 1 + 1 := by omega
              rw [e]
              exact pT.tick pTm (by omega)
            · rw [List.length_append]
              show Wn.length + ((fd ++ Dn.map fun w => ((i : Int) + 1, some w.2)).length + 1) ≤ 7 * (i + 1)
              omega
          · exact ⟨_, _, _, _, _, _, nq, Wn, _, st, rfl, R13, xx13, T13, N13, S13, hst, pT', by omega, hnf, hns, hn0⟩
        · exact ⟨_, _, _, _, _, _, nq, Wn, _, st, rfl, R12, xx12, T12, N12, S12, hst, pT', by omega, hnf, hns, hn0⟩
    · rintro σ H6 ⟨v5, v8, v9, v10, v11, v12, wq, W, fd, st, rfl, R6, x6, T6, W6, S6, hst, pu, hsz, hwf, hws, hw0⟩
      exact ⟨_, rfl, kk H6 fq fd R6 x6 hfq T6 ⟨pu.go, by omega⟩ (by have := pu.tm; omega)⟩
end
end Ho
set_option Elab.async false
set_option linter.all false
set_option maxRecDepth 100000
set_option maxHeartbeats 4000000
namespace Ho
open PySem L2
def kd : HO → Nat
  | .lst _ => 0 | .tup _ => 1 | .dK _ => 2 | .dT _ => 3 | .ins _ _ _ => 4 | .tbl _ => 5 | .frz _ _ => 6 | _ => 7
def Kinds (H : Hp) (S : List Addr) (ks : List Nat) : Prop := ∀ x ∈ S, ∃ o, H x = some o ∧ kd o ∈ ks
theorem Kinds.out {H : Hp} {S : List Addr} {ks : List Nat} (h : Kinds H S ks) {b : Addr} {o : HO} (e : H b = some o) (n : kd o ∉ ks) : b ∉ S := fun z => by
  obtain ⟨o', h1, h2⟩ := h b z
  rw [e] at h1; cases h1
  exact n h2
/-- a list of deeds' tuples, by its addresses -/
def TLf (H : Hp) (p : Addr) (fa : List Addr) (es : List Deed) : Prop := H p = some (.lst (fa.map V.ref)) ∧ Paired (fun a d => H a = some (deedO d)) fa es
section
variable {K : PySem.W.Frag} {C a : Addr} {ns : List Int} {r m q : Addr} {ds : List Addr} {l o : Int} {p d fq : Addr} {fa : List Addr} {es : List Deed} {PT : Addr} {t : Int} {rs : List RowT} {H H' : Hp} {S : List Addr} {ks : List Nat} {b : Int} {qu : Str}
theorem TLf.same (h : TLf H fq fa es) (s : Same H H') : TLf H' fq fa es := ⟨s _ _ h.1, paired_imp (fun _ _ z => s _ _ z) h.2⟩
theorem TLf.kx (h : TLf H fq fa es) (e : Ext S H H') (k : Kinds H S ks) (h0 : 0 ∉ ks) (h1 : 1 ∉ ks) : TLf H' fq fa es := ⟨e _ _ h.1 (k.out h.1 h0), paired_imp (fun c d z => e _ _ z (k.out (o := deedO d) z h1)) h.2⟩
theorem Rw.kx (h : Rw K a ns H r) (e : Ext S H H') (k : Kinds H S ks) (h0 : 0 ∉ ks) (h6 : 6 ∉ ks) : Rw K a ns H' r := by
  obtain ⟨i, x, y, h1, h2⟩ := h.st
  refine h.ext e (k.out h1 h0) fun ob he hq => ?_
  rcases hq with rfl | ⟨u, rfl⟩
  · exact k.out he h0
  · exact k.out he h6
theorem LawM.kx (h : LawM H m q ds l o t rs) (e : Ext S H H') (k : Kinds H S ks) (h0 : 0 ∉ ks) (h2 : 2 ∉ ks) : LawM H' m q ds l o t rs :=
  h.ext e (k.out h.ob h2) (k.out h.kn h0) fun c hc => by
    obtain ⟨j, hj⟩ := List.getElem?_of_mem hc
    exact k.out (h.dc j c hj) h2
theorem HouseAt.kx (h : HouseAt C H p d b l o t rs) (e : Ext S H H') (k : Kinds H S ks) (h3 : 3 ∉ ks) (h4 : 4 ∉ ks) : HouseAt C H' p d b l o t rs := by
  obtain ⟨dx, n, fb, g1, g2⟩ := h.ob
  exact ⟨⟨dx, n, fb, e _ _ g1 (k.out g1 h4), g2⟩, e _ _ h.dc (k.out h.dc h3), h.nd, h.sz, h.bb, h.lb, h.ob2, h.tb⟩
theorem TabOk.kx (h : TabOk H PT qu) (e : Ext S H H') (k : Kinds H S ks) (h5 : 5 ∉ ks) (h6 : 6 ∉ ks) : TabOk H' PT qu := by
  obtain ⟨ps, g1, g2, g3⟩ := h
  refine ⟨ps, e _ _ g1 (k.out g1 h5), g2, fun pos cv z => ?_⟩
  obtain ⟨c, oc, z1, z2, z3⟩ := g3 pos cv z
  exact ⟨c, oc, z1, e _ _ z2 (k.out z2 h6), z3⟩
theorem kind_row (h : RowSt a H r) : Kinds H [r] [0] := fun x hx => by
  obtain ⟨i, y, z, h1, _⟩ := h
  rw [List.mem_singleton.mp hx]
  exact ⟨_, h1, by show 0 ∈ [0]; decide⟩
theorem TLf.row (h : TLf H fq fa es) (R : RowSt a H r) (e : Ext [r] H H') : TLf H' fq fa es := by
  have k := kind_row R
  refine ⟨e _ _ h.1 (fun z => ?_), paired_imp (fun _ _ z => e _ _ z (k.out z (by show 1 ∉ [0]; decide))) h.2⟩
  obtain ⟨i, x, y, h1, _⟩ := R
  have h0 := h.1
  rw [List.mem_singleton.mp z, h1] at h0
  injection h0 with h0
  injection h0 with h0
  cases fa with
  | nil => cases h0
  | cons u fa =>
    injection h0 with _ h0
    cases fa with
    | nil => cases h0
    | cons v fa => injection h0 with h0; cases h0
end
end Ho
set_option Elab.async false
set_option linter.all false
set_option maxRecDepth 100000
set_option maxHeartbeats 4000000
namespace Ho
open PySem L2
theorem mo_step {b l t : Int} {rs : List RowT} {dd : Deed} (mo : ∀ r ∈ rs, r.1.2 ≤ t ∧ (r.2 = "in" ∨ r.2 = "out")) (can : CanDeed b l t rs dd) : ∀ r ∈ rs ++ rowOf dd, r.1.2 ≤ dd.1 ∧ (r.2 = "in" ∨ r.2 = "out") := fun r hr => by
  obtain ⟨x, ro⟩ := dd
  cases ro with
  | none =>
    rcases List.mem_append.mp hr with hr | hr
    · have := mo r hr
      have c1 := can.1
      exact ⟨by show r.1.2 ≤ x; omega, this.2⟩
    · cases hr
  | some r' =>
    rcases List.mem_append.mp hr with hr | hr
    · have := mo r hr
      have c1 : t ≤ x := can.2.2.2.2.2.1
      exact ⟨by show r.1.2 ≤ x; omega, this.2⟩
    · have hr : r ∈ [r'] := hr
      rw [List.mem_singleton.mp hr]
      exact ⟨can.2.2.2.1.1, can.2.2.1⟩
/-- House(..) -/
structure MkH (P : Program) (w : World) (K : PySem.W.Frag) (mg : Str → Option Value) (base : Heap) (k : Nat) (C cBH : Addr) : Prop where
  ok : ∃ fi fd, Mk K C fi ∧ FnOk P w K mg base (CXe P w) k fi fd ["self", "badges", "late", "lost"] (sp_init C cBH) ∧ Binds K fd ["self", "badges", "late", "lost"] [] ∧ mg "House" = some (.ref C)
/-- a house as it is built, and what there is of it here -/
structure Built (C : Addr) (H : Hp) (p d m qk : Addr) (ds : List Addr) (l o t : Int) (rs : List RowT) : Prop where
  S : HouseAt C H p d ds.length l o t rs
  M : LawM H m qk ds l o t rs
  mo : ∀ r ∈ rs, r.1.2 ≤ t ∧ (r.2 = "in" ∨ r.2 = "out")
  ln : rs.length ≤ 300
theorem Built.same {C : Addr} {H H' : Hp} {p d m qk : Addr} {ds : List Addr} {l o t : Int} {rs : List RowT} (h : Built C H p d m qk ds l o t rs) (s : Same H H') : Built C H' p d m qk ds l o t rs := ⟨h.S.same s, h.M.same s, h.mo, h.ln⟩
theorem Built.row {K : PySem.W.Frag} {a r : Addr} {ns : List Int} {C : Addr} {H H' : Hp} {p d m qk : Addr} {ds : List Addr} {l o t : Int} {rs : List RowT} (h : Built C H p d m qk ds l o t rs) (R : Rw K a ns H r) (e : Ext [r] H H') : Built C H' p d m qk ds l o t rs := ⟨h.S.kx e (kind_row R.st) (by decide) (by decide), h.M.row R.st e, h.mo, h.ln⟩
def sp_built (K : PySem.W.Frag) (C a : Addr) (ns : List Int) : Sp := fun vs H Q _ => ∃ (r : Addr) (badges most : Int), vs = [.ref r, .int badges, .int most] ∧ Rw K a ns H r ∧ 1 ≤ badges ∧ badges ≤ 6 ∧ 1 ≤ most ∧ most ≤ 40 ∧
  ∀ (H' : Hp) (q p d m qk : Addr) (ds : List Addr) (l o t : Int) (rs : List RowT), Rw K a ns H' r → Ext [r] H H' → H' q = some (.tup [.ref p, .ref m]) → Built C H' p d m qk ds l o t rs → t ≤ most + 1 → Q (.ref q) H'
section
variable {P : Program} {w : World} {K : PySem.W.Frag} {mg : Str → Option Value} {base : Heap} {k kI : Nat} {f C aW cBH cBR cBT a : Addr} {ns : List Int}
theorem sc_built : FnScope ["_law_row", "_law_badges", "_law_most", "_law_m", "_law_house", "_law_deed"] ["_law_row", "_law_badges", "_law_most"] (defScope s_built) := ⟨rfl, rfl, rfl, by decide +kernel, rfl, by decide +kernel, by decide +kernel⟩
theorem ok_built (F : Top1 K "_law_built" "_law_built" s_built f ["_law_row", "_law_badges", "_law_most"]) (T : HouseT K mg C aW cBH cBR cBT) (MK : MkH P w K mg base kI C cBH) (hkI : kI + 1 ≤ k)
    (G_fresh : Fn P w K mg base k "_law_fresh" ["_law_row", "_law_most"] (sp_fresh K a ns)) (G_deeds : Fn P w K mg base k "_law_deeds" ["_law_row", "_law_m", "_law_most"] (sp_deeds K a ns)) (G_do : Fn P w K mg base k "_law_do" ["_law_house", "_law_m", "_law_deed"] (sp_do C)) :
    ∃ fd, FnOk P w K mg base (CXe P w) (k + 1) f fd ["_law_row", "_law_badges", "_law_most"] (sp_built K C a ns) ∧ Binds K fd ["_law_row", "_law_badges", "_law_most"] [] := by
  refine F.okN sc_built (fun vs H Q E h => ?_) (fun cdv A outer s H vs Q E hr h => ?_)
  · obtain ⟨_, _, _, rfl, _⟩ := h
    rfl
  · obtain ⟨r, badges, most, rfl, R, hb1, hb2, hm1, hm2, kk⟩ := h
    have hu := hu_of hr
    have nd := sc_built.nd
    obtain ⟨fi, fdi, mk, Fi, bi, hmH⟩ := id MK.ok
    refine ⟨_, (pss_cons (ps_set (i := 3) nd rfl (Or.inl rfl) (pcall G_fresh hr (by rfl) passN (pa_cons (pv 0) (pa_cons (pv 1) pa_nil))))
      (pss_cons (ps_set (i := 4) nd rfl (Or.inl rfl) (pe_make mk Fi (hr.mono hkI) (by rfl) hmH bi .nil passN (pa_cons (pe_callB call_len_seq (by rfl) T.b_len PySem.boot_len (pa_cons (pe_dget hu (pv 3) pe_str (fun _ _ => rfl)) pa_nil)) (pa_cons (pe_dget hu (pv 3) pe_str (fun _ _ => rfl)) (pa_cons (pe_dget hu (pv 3) pe_str (fun _ _ => rfl)) pa_nil)))))
      (pss_cons (ps_for PassesOwn.never rfl (pi_list (pcall G_deeds hr (by rfl) passN (pa_cons (pv 0) (pa_cons (pv 3) (pa_cons (pv 2) pa_nil))))) (pg_name (i := 5) nd rfl (Or.inl rfl))
        (pss_one (ps_expr (pcall G_do hr (by rfl) passN (pa_cons (pv 4) (pa_cons (pv 3) (pa_cons (pv 5) pa_nil)))))))
      (pss_one (ps_ret (pe_tup (pa_cons (pv 4) (pa_cons (pv 3) pa_nil)))))))), ?_⟩
    refine ⟨_, rfl, _, rfl, r, _, rfl, R, hb1, hb2, fun H2 m q ds l o R2 x2 hm0 hq0 hd0 M2 => ?_⟩
    have b6 := M2.b6
    have lb := M2.lb
    have ob := M2.ob2
    refine ⟨_, rfl, m, _, rfl, g_known M2.ob, q, _, rfl, .inl (SqL.of M2.kn), _, rfl, m, _, rfl, g_late M2.ob, _, rfl, m, _, rfl, g_lost M2.ob, fun p dx hp hdx hnx => ?_⟩
    refine ⟨p, dx, _, l, o, rfl, upd_same, sm_of (by rw [List.length_map]; omega) (by rw [List.length_map]; omega), sm_of (by omega) (by omega), sm_of (by omega) (by omega), fun _ H3 d x3 hd3 S3 _ => ⟨rfl, ?_⟩, fun z => (z ⟨by rw [List.length_map]; omega, by omega, by omega⟩).elim⟩
    rw [List.length_map] at S3
    have s3 : Same H2 H3 := fun b x z => x3 _ _ (by rw [upd_ne (ne_of_none z hp), upd_ne (ne_of_none z hdx)]; exact z) (by simpa using ne_of_none z hp)
    have R3 := R2.same s3
    have M3 := M2.same s3
    have hrp : r ≠ p := (R2.new hp).symm
    have hp0 : H p = none := (x2.none hp).resolve_right (by simpa using R2.new hp)
    have hd2 : H2 d = none := by
      cases e : H2 d with
      | none => rfl
      | some ob =>
        exfalso
        have z1 : d ≠ p := ne_of_none e hp
        have z2 : d ≠ dx := ne_of_none e hdx
        rw [upd_ne z1, upd_ne z2, e] at hd3
        cases hd3
    have hdH : H d = none := (x2.none hd2).resolve_right (by simpa using R2.new hd2)
    refine ⟨_, rfl, _, rfl, _, rfl, r, m, q, ds, l, o, 0, [], most, rfl, R3, M3, hm1, hm2, fun H18 fq es R18 x18 _ TL18 dok htm => ?_⟩
    obtain ⟨fa, hfa, pfa⟩ := TL18
    have k18 := kind_row R3.st
    refine ⟨fq, rfl, ⟨_, SqL.of hfa⟩, for_list (K := K) (a := fq) (xs := fa.map V.ref) (fun i σ H19 => ∃ v5, σ = [some (.ref r), some (.int badges), some (.int most), some (.ref m), some (.ref p), v5] ∧ Rw K a ns H19 r ∧ TLf H19 fq fa es ∧ Ext [r] H H19 ∧ HouseAt C H19 p d ds.length l o (tmOf (es.take i)) (rwOf (es.take i)) ∧ LawM H19 m q ds l o (tmOf (es.take i)) (rwOf (es.take i)) ∧ ∀ r ∈ rwOf (es.take i), r.1.2 ≤ tmOf (es.take i) ∧ (r.2 = "in" ∨ r.2 = "out"))
      ⟨none, rfl, R18, ⟨hfa, pfa⟩, (x2.tr (s3.ext _)).tr x18, S3.kx x18 k18 (by decide) (by decide), M3.row R3.st x18, fun r hr => (by cases hr)⟩ (fun i σ H19 _ h => ?_) ?_ ?_⟩
    · obtain ⟨_, _, _, F19, _⟩ := h
      exact SqL.of F19.1
    · rintro i x σ H19 hi ⟨v5, rfl, R19, F19, x19, S19, M19, mo19⟩
      rw [List.getElem?_map] at hi
      cases eq : fa[i]? with
      | none => rw [eq] at hi; cases hi
      | some cc =>
        rw [eq] at hi
        cases hi
        obtain ⟨dd, hdd, hcc⟩ := paired_at F19.2 eq
        have hl : (rwOf (es.take i)).length ≤ 800 := by
          have h1 : (rwOf (es.take i)).length ≤ (es.take i).length := List.length_filterMap_le _ _
          have h2 : (es.take i).length ≤ es.length := by rw [List.length_take]; omega
          have h3 := dok.2
          omega
        have can := dok.1 i dd hdd
        have ht : es.take (i + 1) = es.take i ++ [dd] := by rw [List.take_succ, hdd]; rfl
        refine ⟨_, rfl, _, rfl, _, rfl, p, d, m, q, ds, l, o, _, _, cc, dd, rfl, S19, M19, hcc, can, hl, fun H20 x20 S20 M20 _ => ?_⟩
        have kk20 : Kinds H19 ([m, p, d] ++ ds) [2, 3, 4] := fun x hx => by
          rcases List.mem_append.mp hx with hx | hx
          · simp only [List.mem_cons, List.not_mem_nil, or_false] at hx
            rcases hx with rfl | rfl | rfl
            · exact ⟨_, M19.ob, by show 2 ∈ [2, 3, 4]; decide⟩
            · obtain ⟨dx, n, fb, g1, _⟩ := S19.ob
              exact ⟨_, g1, by show 4 ∈ [2, 3, 4]; decide⟩
            · exact ⟨_, S19.dc, by show 3 ∈ [2, 3, 4]; decide⟩
          · obtain ⟨j, hj⟩ := List.getElem?_of_mem hx
            exact ⟨_, M19.dc j x hj, by show 2 ∈ [2, 3, 4]; decide⟩
        refine ⟨_, rfl, R19.kx x20 kk20 (by decide) (by decide), F19.kx x20 kk20 (by decide) (by decide), fun b ob hb hn => x20 _ _ (x19 _ _ hb hn) (fun z => ?_), ?_, ?_, ?_⟩
        · simp only [List.mem_append, List.mem_cons, List.not_mem_nil, or_false] at z
          rcases z with (rfl | rfl | rfl) | z
          · rw [hm0] at hb; cases hb
          · rw [hp0] at hb; cases hb
          · rw [hdH] at hb; cases hb
          · rw [hd0 b z] at hb; cases hb
        · rw [ht, tm_snoc, rw_snoc]; exact S20
        · rw [ht, tm_snoc, rw_snoc]; exact M20
        · rw [ht, tm_snoc, rw_snoc]; exact mo_step mo19 can
    · rintro σ H19 ⟨v5, rfl, R19, F19, x19, S19, M19, mo19⟩
      have hfl : fa.length = es.length := Paired.length pfa
      rw [List.take_of_length_le (by rw [List.length_map]; omega)] at S19 M19 mo19
      refine ⟨_, rfl, _, rfl, (by show 2 ≤ sizeLine; decide), fun q9 hq9 => ?_⟩
      have s9 : Same H19 (upd H19 q9 (.tup [.ref p, .ref m])) := (Ext.new (S := []) hq9).same
      refine kk _ q9 p d m q ds l o _ _ (R19.same s9) (x19.tr (s9.ext _)) upd_same ⟨S19.same s9, M19.same s9, mo19, ?_⟩ (by omega)
      have h1 : (rwOf es).length ≤ es.length := List.length_filterMap_le _ _
      have h3 := dok.2
      omega
end
end Ho
set_option Elab.async false
set_option linter.all false
set_option maxRecDepth 100000
set_option maxHeartbeats 4000000
namespace Ho
open PySem L2
/-! ### what rows a badge has -/
def lk (rs : List RowT) (i m : Int) : Option Str := (rs.find? fun r => decide (r.1 = (i, m))).map (·.2)
theorem lk_some {rs : List RowT} (nd : (rs.map (·.1)).Nodup) {i m : Int} {w : Str} : lk rs i m = some w ↔ ((i, m), w) ∈ rs := by
  unfold lk
  constructor
  · intro h
    cases e : rs.find? fun r => decide (r.1 = (i, m)) with
    | none => rw [e] at h; cases h
    | some r =>
      rw [e] at h
      have h1 : r.2 = w := Option.some.inj h
      have h2 : r.1 = (i, m) := of_decide_eq_true (by simpa using List.find?_some e)
      have h3 : r = ((i, m), w) := Prod.ext h2 h1
      rw [← h3]; exact List.mem_of_find?_eq_some e
  · intro h
    cases e : rs.find? fun r => decide (r.1 = (i, m)) with
    | none => exact absurd (List.find?_eq_none.mp e _ h) (by simp)
    | some r =>
      have h2 : r.1 = (i, m) := of_decide_eq_true (by simpa using List.find?_some e)
      have h4 := List.mem_of_find?_eq_some e
      have h5 : ((i, m), r.2) ∈ rs := by rw [← h2]; exact h4
      show some r.2 = some w
      rw [uniq_row nd h5 h]
theorem lk_kd {rs : List RowT} (nd : (rs.map (·.1)).Nodup) {i : Nat} {m : Int} : valV (kdOf rs i) (Sum.inl m : Key) = (lk rs i m).map V.str := by
  cases e : valV (kdOf rs i) (Sum.inl m : Key) with
  | none =>
    cases e2 : lk rs i m with
    | none => rfl
    | some w => exact (kd_none e (List.mem_map.mpr ⟨_, (lk_some nd).mp e2, rfl⟩)).elim
  | some v =>
    obtain ⟨w, rfl, hm⟩ := kd_some e
    rw [(lk_some nd).mpr hm]; rfl
/-! ### the wants of one badge, moment by moment -/
def wU (f : Int → Option Str) (l t i : Int) : Nat → List Want × (Int × Str)
  | 0 => ([], (0, "out"))
  | j + 1 => match f ((j : Int) + 1) with
    | none => wU f l t i j
    | some w => ((wU f l t i j).1 ++ stepW l t (wU f l t i j).2 ((i, (j : Int) + 1), w), ((j : Int) + 1, w))
def rU (f : Int → Option Str) (i : Int) : Nat → List RowT
  | 0 => []
  | j + 1 => rU f i j ++ (match f ((j : Int) + 1) with | none => [] | some w => [((i, (j : Int) + 1), w)])
def foldP (l t : Int) (S : List Want × (Int → Int × Str)) (rs : List RowT) : List Want × (Int → Int × Str) := rs.foldl (stepS l t) S
theorem fold_rU {f : Int → Option Str} {l t i : Int} {S : List Want × (Int → Int × Str)} (h : S.2 i = ((0 : Int), ("out" : Str))) : ∀ j, (foldP l t S (rU f i j)).1 = S.1 ++ (wU f l t i j).1 ∧ (foldP l t S (rU f i j)).2 i = (wU f l t i j).2 ∧ ∀ k, k ≠ i → (foldP l t S (rU f i j)).2 k = S.2 k
  | 0 => ⟨(List.append_nil _).symm, h, fun _ _ => rfl⟩
  | j + 1 => by
    obtain ⟨h1, h2, h3⟩ := fold_rU h j
    have e : foldP l t S (rU f i (j + 1)) = foldP l t (foldP l t S (rU f i j)) (match f ((j : Int) + 1) with | none => [] | some w => [((i, (j : Int) + 1), w)]) := by
      unfold foldP
      rw [← List.foldl_append]; rfl
    rw [e]
    cases hf : f ((j : Int) + 1) with
    | none =>
      have e2 : wU f l t i (j + 1) = wU f l t i j := by show (match f ((j : Int) + 1) with | none => _ | some w => _) = _; rw [hf]
      rw [e2]
      exact ⟨h1, h2, h3⟩
    | some w =>
      have e2 : wU f l t i (j + 1) = ((wU f l t i j).1 ++ stepW l t (wU f l t i j).2 ((i, (j : Int) + 1), w), ((j : Int) + 1, w)) := by show (match f ((j : Int) + 1) with | none => _ | some w => _) = _; rw [hf]
      rw [e2]
      show (stepS l t (foldP l t S (rU f i j)) ((i, (j : Int) + 1), w)).1 = _ ∧ (stepS l t (foldP l t S (rU f i j)) ((i, (j : Int) + 1), w)).2 i = _ ∧ ∀ k, k ≠ i → (stepS l t (foldP l t S (rU f i j)) ((i, (j : Int) + 1), w)).2 k = _
      refine ⟨?_, ?_, fun k hk => ?_⟩
      · show (foldP l t S (rU f i j)).1 ++ stepW l t ((foldP l t S (rU f i j)).2 i) _ = _
        rw [h1, h2, List.append_assoc]
      · show (if i = i then _ else _) = _
        rw [if_pos rfl]
      · show (if k = i then _ else _) = _
        rw [if_neg hk]; exact h3 k hk
def rA (f : Int → Int → Option Str) (t : Nat) : Nat → List RowT
  | 0 => []
  | b + 1 => rA f t b ++ rU (f (b : Int)) (b : Int) t
def wA (f : Int → Int → Option Str) (l t : Int) (n : Nat) : Nat → List Want
  | 0 => []
  | b + 1 => wA f l t n b ++ (wU (f (b : Int)) l t (b : Int) n).1
theorem run_rA {f : Int → Int → Option Str} {l t : Int} {n : Nat} : ∀ b : Nat, (runP l t (rA f n b)).1 = wA f l t n b ∧ ∀ k : Int, (b : Int) ≤ k → (runP l t (rA f n b)).2 k = ((0 : Int), ("out" : Str))
  | 0 => ⟨rfl, fun _ _ => rfl⟩
  | b + 1 => by
    obtain ⟨h1, h2⟩ := run_rA (l := l) (t := t) (n := n) (f := f) b
    have e : runP l t (rA f n (b + 1)) = foldP l t (runP l t (rA f n b)) (rU (f (b : Int)) (b : Int) n) := by
      unfold runP foldP
      rw [← List.foldl_append]; rfl
    obtain ⟨g1, g2, g3⟩ := fold_rU (f := f (b : Int)) (l := l) (t := t) (h2 (b : Int) (Int.le_refl _)) n
    rw [e]
    refine ⟨by rw [g1, h1]; rfl, fun k hk => ?_⟩
    rw [g3 k (by omega)]
    exact h2 k (by omega)
theorem mem_rU {f : Int → Option Str} {i : Int} {r : RowT} : ∀ {j : Nat}, r ∈ rU f i j ↔ r.1.1 = i ∧ 1 ≤ r.1.2 ∧ r.1.2 ≤ (j : Int) ∧ f r.1.2 = some r.2
  | 0 => ⟨fun h => (by cases h), fun h => (by omega)⟩
  | j + 1 => by
    show r ∈ rU f i j ++ _ ↔ _
    rw [List.mem_append, mem_rU (j := j)]
    have hc : ((j + 1 : Nat) : Int) = (j : Int) + 1 := by omega
    rw [hc]
    constructor
    · rintro (⟨h1, h2, h3, h4⟩ | h)
      · exact ⟨h1, h2, by omega, h4⟩
      · cases e : f ((j : Int) + 1) with
        | none => rw [e] at h; cases h
        | some w =>
          rw [e] at h
          have h := List.mem_singleton.mp h
          subst h
          exact ⟨rfl, (by show 1 ≤ (j : Int) + 1; omega), Int.le_refl _, e⟩
    · rintro ⟨h1, h2, h3, h4⟩
      by_cases hj : r.1.2 ≤ (j : Int)
      · exact .inl ⟨h1, h2, hj, h4⟩
      · refine .inr ?_
        have e2 : r.1.2 = (j : Int) + 1 := by omega
        rw [e2] at h4
        rw [h4]
        exact List.mem_singleton.mpr (Prod.ext (Prod.ext h1 e2) rfl)
theorem so_rU {f : Int → Option Str} {i : Int} : ∀ j : Nat, (rU f i j).Pairwise rowLt
  | 0 => List.Pairwise.nil
  | j + 1 => by
    show (rU f i j ++ _).Pairwise rowLt
    refine List.pairwise_append.mpr ⟨so_rU j, ?_, fun u hu v hv => ?_⟩
    · cases f ((j : Int) + 1) with
      | none => exact List.Pairwise.nil
      | some w => exact List.pairwise_singleton _ _
    · have h1 := mem_rU.mp hu
      cases e : f ((j : Int) + 1) with
      | none => rw [e] at hv; cases hv
      | some w =>
        rw [e] at hv
        rw [List.mem_singleton.mp hv]
        exact .inr ⟨h1.1, by show u.1.2 < (j : Int) + 1; omega⟩
theorem mem_rA {f : Int → Int → Option Str} {n : Nat} {r : RowT} : ∀ {b : Nat}, r ∈ rA f n b ↔ (0 ≤ r.1.1 ∧ r.1.1 < (b : Int)) ∧ 1 ≤ r.1.2 ∧ r.1.2 ≤ (n : Int) ∧ f r.1.1 r.1.2 = some r.2
  | 0 => ⟨fun h => (by cases h), fun h => (by omega)⟩
  | b + 1 => by
    show r ∈ rA f n b ++ _ ↔ _
    rw [List.mem_append, mem_rA (b := b), mem_rU]
    constructor
    · rintro (⟨h1, h2⟩ | ⟨h1, h2, h3, h4⟩)
      · exact ⟨by omega, h2⟩
      · exact ⟨by omega, h2, h3, by rw [h1]; exact h4⟩
    · rintro ⟨h1, h2, h3, h4⟩
      by_cases hb : r.1.1 < (b : Int)
      · exact .inl ⟨⟨h1.1, hb⟩, h2, h3, h4⟩
      · have e : r.1.1 = (b : Int) := by omega
        exact .inr ⟨e, h2, h3, by rw [← e]; exact h4⟩
theorem so_rA {f : Int → Int → Option Str} {n : Nat} : ∀ b : Nat, (rA f n b).Pairwise rowLt
  | 0 => List.Pairwise.nil
  | b + 1 => by
    show (rA f n b ++ _).Pairwise rowLt
    refine List.pairwise_append.mpr ⟨so_rA b, so_rU n, fun u hu v hv => ?_⟩
    have h1 := mem_rA.mp hu
    have h2 := mem_rU.mp hv
    exact .inl (by rw [h2.1]; exact h1.1.2)
theorem run_split {l t : Int} {n b : Nat} {rs rs' : List RowT} (nd : (rs.map (·.1)).Nodup) (hS : Srt rs' rs) (hr : ∀ r ∈ rs, (0 ≤ r.1.1 ∧ r.1.1 < (b : Int)) ∧ 1 ≤ r.1.2 ∧ r.1.2 ≤ (n : Int)) : (runP l t rs').1 = wA (lk rs) l t n b := by
  have e : rs' = rA (lk rs) n b := eq_of_sorted hS.1 (so_rA b) fun r => by
    rw [hS.2 r, mem_rA]
    constructor
    · intro h
      have := hr r h
      exact ⟨this.1, this.2.1, this.2.2, (lk_some nd).mpr h⟩
    · rintro ⟨_, _, _, h⟩
      exact (lk_some nd).mp h
  rw [e]
  exact (run_rA b).1
/-! ### stories of one badge -/
def wI (b : Bool) : Str := if b then "in" else "out"
/-- state and price behind a story; none if it can't be -/
def pS (f : Int → Option Str) (l t : Int) (j : Nat) (S : Option (Bool × Nat)) (b : Bool) : Option (Bool × Nat) :=
  match S with
  | none => none
  | some (s, c) => match f ((j : Int) + 1) with
    | some w => if b ≠ s ∧ wI b = w then some (b, c) else none
    | none => some (b, if b ≠ s ∧ (j : Int) + 1 + l < t then c + 1 else c)
/-- the fold, by moments from the front -/
def pF (f : Int → Option Str) (l t : Int) (st : List Bool) : Option (Bool × Nat) := (st.foldl (fun (P : Nat × Option (Bool × Nat)) b => (P.1 + 1, pS f l t P.1 P.2 b)) (0, some (false, 0))).2
theorem fold_len {f : Int → Option Str} {l t : Int} (st : List Bool) : (st.foldl (fun (P : Nat × Option (Bool × Nat)) b => (P.1 + 1, pS f l t P.1 P.2 b)) (0, some (false, 0))).1 = st.length := by
  refine snoc_ind (P := fun st => (st.foldl (fun (P : Nat × Option (Bool × Nat)) b => (P.1 + 1, pS f l t P.1 P.2 b)) (0, some (false, 0))).1 = st.length) rfl (fun st b ih => ?_) st
  rw [List.foldl_append, List.length_append]
  show _ + 1 = _
  rw [ih]; rfl
theorem pF_snoc {f : Int → Option Str} {l t : Int} {st : List Bool} {b : Bool} : pF f l t (st ++ [b]) = pS f l t st.length (pF f l t st) b := by
  unfold pF
  rw [List.foldl_append]
  show pS f l t _ _ b = _
  rw [fold_len]
/-- what the stories of a badge come to, up to a moment -/
def tw (ws : List Want) : Prop := ("twice" : Str) ∈ ws.map (·.2)
def bW (w : Str) : Bool := decide (w = "in")
structure At (f : Int → Option Str) (l t i : Int) (j : Nat) : Prop where
  wd : (wU f l t i j).2.2 = "in" ∨ (wU f l t i j).2.2 = "out"
  le : 0 ≤ (wU f l t i j).2.1 ∧ (wU f l t i j).2.1 ≤ (j : Int)
  no : tw (wU f l t i j).1 → ∀ st : List Bool, st.length = j → pF f l t st = none
  lo : ¬ tw (wU f l t i j).1 → ∀ (st : List Bool) (s : Bool) (c : Nat), st.length = j → pF f l t st = some (s, c) → (s = bW (wU f l t i j).2.2 → (wU f l t i j).1.length ≤ c) ∧ (s ≠ bW (wU f l t i j).2.2 → (wU f l t i j).2.1 < (j : Int) ∧ (wU f l t i j).1.length ≤ c ∧ ((j : Int) + l < t → (wU f l t i j).1.length + 1 ≤ c))
  h1 : ¬ tw (wU f l t i j).1 → ∃ st : List Bool, st.length = j ∧ pF f l t st = some (bW (wU f l t i j).2.2, (wU f l t i j).1.length)
  h2 : ¬ tw (wU f l t i j).1 → (wU f l t i j).2.1 < (j : Int) → ∃ st : List Bool, st.length = j ∧ pF f l t st = some (!bW (wU f l t i j).2.2, if (j : Int) + l < t then (wU f l t i j).1.length + 1 else (wU f l t i j).1.length)
theorem snoc_of {st : List Bool} {j : Nat} (h : st.length = j + 1) : ∃ st' b, st = st' ++ [b] ∧ st'.length = j := by
  have hne : st ≠ [] := fun z => by rw [z] at h; cases h
  exact ⟨st.dropLast, st.getLast hne, (List.dropLast_concat_getLast hne).symm, by rw [List.length_dropLast, h]; rfl⟩
theorem bW_wI {w : Str} (h : w = "in" ∨ w = "out") {b : Bool} : wI b = w ↔ b = bW w := by
  rcases h with rfl | rfl <;> cases b <;> decide
theorem at_all {f : Int → Option Str} {l t i : Int} (hf : ∀ m w, f m = some w → w = "in" ∨ w = "out") : ∀ j : Nat, At f l t i j
  | 0 => by
    have nt : ¬ tw (wU f l t i 0).1 := fun z => (by cases z)
    refine ⟨.inr rfl, ⟨Int.le_refl _, Int.le_refl _⟩, fun z => (nt z).elim, fun _ st s c hl hp => ?_, fun _ => ⟨[], rfl, rfl⟩, fun _ h => ?_⟩
    · rw [List.length_eq_zero_iff.mp hl] at hp
      cases hp
      exact ⟨fun _ => Nat.le_refl _, fun z => (z rfl).elim⟩
    · exact absurd h (by show ¬ (0 : Int) < ((0 : Nat) : Int); omega)
  | j + 1 => by
    obtain ⟨wd, le, no, lo, h1, h2⟩ := at_all (l := l) (t := t) (i := i) hf j
    have hc : ((j + 1 : Nat) : Int) = (j : Int) + 1 := by omega
    cases e : f ((j : Int) + 1) with
    | none =>
      have e2 : wU f l t i (j + 1) = wU f l t i j := by show (match f ((j : Int) + 1) with | none => _ | some w => _) = _; rw [e]
      have ps : ∀ (st : List Bool) (b s : Bool) (c : Nat), st.length = j → pF f l t st = some (s, c) → pF f l t (st ++ [b]) = some (b, if b ≠ s ∧ (j : Int) + 1 + l < t then c + 1 else c) := fun st b s c hl hp => by
        rw [pF_snoc, hp, hl]
        unfold pS
        simp only [e]
      have pn : ∀ (st : List Bool) (b : Bool), pF f l t st = none → pF f l t (st ++ [b]) = none := fun st b hp => by
        rw [pF_snoc, hp]; rfl
      generalize hW : wU f l t i j = W at e2 wd le no lo h1 h2
      refine ⟨by rw [e2]; exact wd, by rw [e2, hc]; omega, fun ht st hl => ?_, fun nt st s c hl hp => ?_, fun nt => ?_, fun nt hlt => ?_⟩
      · rw [e2] at ht
        obtain ⟨st', b, rfl, hl'⟩ := snoc_of hl
        exact pn _ _ (no ht st' hl')
      · rw [e2] at nt ⊢
        obtain ⟨st', b, rfl, hl'⟩ := snoc_of hl
        cases hp' : pF f l t st' with
        | none => rw [pn _ _ hp'] at hp; cases hp
        | some S =>
          obtain ⟨s', c'⟩ := S
          rw [ps st' b s' c' hl' hp'] at hp
          injection hp with hp
          injection hp with hs hcc
          subst hs
          obtain ⟨l1, l2⟩ := lo nt st' s' c' hl' hp'
          rw [hc]
          by_cases hs' : s' = bW W.2.2
          · have l1 := l1 hs'
            refine ⟨fun hb => ?_, fun hb => ?_⟩
            · rw [← hcc]
              split <;> omega
            · rw [← hcc]
              refine ⟨by omega, by split <;> omega, fun hl2 => ?_⟩
              rw [if_pos ⟨fun z => hb (z.trans hs'), hl2⟩]
              omega
          · have l2 := l2 hs'
            refine ⟨fun hb => ?_, fun hb => ?_⟩
            · rw [← hcc]
              split <;> omega
            · rw [← hcc]
              refine ⟨by omega, by split <;> omega, fun hl2 => ?_⟩
              have := l2.2.2 (by omega)
              split <;> omega
      · rw [e2] at nt ⊢
        obtain ⟨st, hl, hp⟩ := h1 nt
        refine ⟨st ++ [bW W.2.2], by rw [List.length_append, hl]; rfl, ?_⟩
        rw [ps st _ _ _ hl hp, if_neg (fun z => z.1 rfl)]
      · rw [e2] at nt ⊢
        obtain ⟨st, hl, hp⟩ := h1 nt
        refine ⟨st ++ [!bW W.2.2], by rw [List.length_append, hl]; rfl, ?_⟩
        rw [ps st _ _ _ hl hp, hc]
        by_cases hl2 : (j : Int) + 1 + l < t
        · rw [if_pos ⟨by cases bW W.2.2 <;> decide, hl2⟩, if_pos hl2]
        · rw [if_neg (fun z => hl2 z.2), if_neg hl2]
    | some w =>
      have hw := hf _ _ e
      have e2 : wU f l t i (j + 1) = ((wU f l t i j).1 ++ stepW l t (wU f l t i j).2 ((i, (j : Int) + 1), w), ((j : Int) + 1, w)) := by show (match f ((j : Int) + 1) with | none => _ | some w => _) = _; rw [e]
      have ps : ∀ (st : List Bool) (b s : Bool) (c : Nat), st.length = j → pF f l t st = some (s, c) → pF f l t (st ++ [b]) = if b ≠ s ∧ b = bW w then some (b, c) else none := fun st b s c hl hp => by
        rw [pF_snoc, hp, hl]
        unfold pS
        simp only [e, bW_wI hw]
      have pn : ∀ (st : List Bool) (b : Bool), pF f l t st = none → pF f l t (st ++ [b]) = none := fun st b hp => by
        rw [pF_snoc, hp]; rfl
      have step : stepW l t (wU f l t i j).2 ((i, (j : Int) + 1), w) = if w = (wU f l t i j).2.2 then (match faultB (wU f l t i j).2.1 ((j : Int) + 1) l t with | some z => [((i, (wU f l t i j).2.1, (j : Int) + 1), z)] | none => []) else [] := rfl
      generalize hW : wU f l t i j = W at e2 step wd le no lo h1 h2
      have e3 : (wU f l t i (j + 1)).1 = W.1 ++ stepW l t W.2 ((i, (j : Int) + 1), w) := by rw [e2]
      have e4 : (wU f l t i (j + 1)).2 = ((j : Int) + 1, w) := by rw [e2]
      have sub : tw W.1 → tw (wU f l t i (j + 1)).1 := fun z => by
        rw [e3]
        unfold tw at z ⊢
        rw [List.map_append]
        exact List.mem_append_left _ z
      -- the price and the state of what is one longer
      have key : ¬ tw (wU f l t i (j + 1)).1 → (∀ (st : List Bool) (s : Bool) (c : Nat), st.length = j → pF f l t st = some (s, c) → bW w ≠ s → (wU f l t i (j + 1)).1.length ≤ c) ∧ ∃ st : List Bool, st.length = j ∧ pF f l t st = some (!bW w, (wU f l t i (j + 1)).1.length) := by
        intro nt
        have nt0 : ¬ tw W.1 := fun z => nt (sub z)
        rw [e3, step] at nt ⊢
        by_cases hs : w = W.2.2
        · rw [if_pos hs] at nt ⊢
          have hbw : bW w = bW W.2.2 := by rw [hs]
          unfold faultB at nt ⊢
          by_cases ha : (j : Int) + 1 - 1 = W.2.1
          · rw [if_pos ha] at nt
            exact (nt (by unfold tw; rw [List.map_append]; exact List.mem_append_right _ (List.mem_singleton.mpr rfl))).elim
          · rw [if_neg ha]
            by_cases hl2 : (j : Int) + 1 - 1 + l < t
            · rw [if_pos hl2]
              refine ⟨fun st s c hl hp hne => ?_, ?_⟩
              · have := (lo nt0 st s c hl hp).2 (fun z => hne (by rw [hbw, z]))
                rw [List.length_append]
                exact this.2.2 (by omega)
              · obtain ⟨st, hl, hp⟩ := h2 nt0 (by omega)
                rw [if_pos (by omega)] at hp
                refine ⟨st, hl, ?_⟩
                rw [hbw, hp, List.length_append]; rfl
            · rw [if_neg hl2]
              refine ⟨fun st s c hl hp hne => ?_, ?_⟩
              · have := (lo nt0 st s c hl hp).2 (fun z => hne (by rw [hbw, z]))
                rw [List.append_nil]; exact this.2.1
              · obtain ⟨st, hl, hp⟩ := h2 nt0 (by omega)
                rw [if_neg (by omega)] at hp
                refine ⟨st, hl, ?_⟩
                rw [hbw, hp, List.append_nil]
        · rw [if_neg hs] at nt ⊢
          have hbw : bW w = !bW W.2.2 := by
            rcases hw with rfl | rfl <;> rcases wd with z | z <;> rw [z] at hs ⊢ <;> first | (exact absurd rfl hs) | rfl
          rw [List.append_nil]
          refine ⟨fun st s c hl hp hne => ?_, ?_⟩
          · refine (lo nt0 st s c hl hp).1 ?_
            rw [hbw] at hne
            cases s <;> cases hx : bW W.2.2 <;> rw [hx] at hne <;> first | rfl | (exact absurd rfl hne)
          · obtain ⟨st, hl, hp⟩ := h1 nt0
            exact ⟨st, hl, by rw [hbw, hp, Bool.not_not]⟩
      refine ⟨by rw [e4]; exact hw, by rw [e4, hc]; exact ⟨by show 0 ≤ (j : Int) + 1; omega, Int.le_refl _⟩, fun ht st hl => ?_, fun nt st s c hl hp => ?_, fun nt => ?_, fun nt hlt => ?_⟩
      · obtain ⟨st', b, rfl, hl'⟩ := snoc_of hl
        cases hp' : pF f l t st' with
        | none => exact pn _ _ hp'
        | some S =>
          obtain ⟨s', c'⟩ := S
          rw [ps st' b s' c' hl' hp']
          have nt0 : ¬ tw W.1 := fun z => by rw [no z st' hl'] at hp'; cases hp'
          refine if_neg fun ⟨hb1, hb2⟩ => ?_
          -- the want is "twice"
          rw [e3, step] at ht
          by_cases hs : w = W.2.2
          · rw [if_pos hs] at ht
            unfold faultB at ht
            have l2 := (lo nt0 st' s' c' hl' hp').2 (fun z => hb1 (by rw [hb2, hs, z]))
            rw [if_neg (by omega)] at ht
            by_cases hl2 : (j : Int) + 1 - 1 + l < t
            · rw [if_pos hl2] at ht
              unfold tw at ht
              rw [List.map_append] at ht
              rcases List.mem_append.mp ht with z | z
              · exact nt0 z
              · have := List.mem_singleton.mp z
                exact absurd (show ("twice" : Str) = "lost" from this) (by decide)
            · rw [if_neg hl2] at ht
              rw [List.append_nil] at ht
              exact nt0 ht
          · rw [if_neg hs, List.append_nil] at ht
            exact nt0 ht
      · obtain ⟨st', b, rfl, hl'⟩ := snoc_of hl
        cases hp' : pF f l t st' with
        | none => rw [pn _ _ hp'] at hp; cases hp
        | some S =>
          obtain ⟨s', c'⟩ := S
          rw [ps st' b s' c' hl' hp'] at hp
          by_cases hbb : b ≠ s' ∧ b = bW w
          · rw [if_pos hbb] at hp
            injection hp with hp
            injection hp with hs hcc
            rw [e4]
            have := (key nt).1 st' s' c' hl' hp' (fun z => hbb.1 (by rw [hbb.2, z]))
            exact ⟨fun _ => by omega, fun z => (z (by show s = bW w; rw [← hs]; exact hbb.2)).elim⟩
          · rw [if_neg hbb] at hp; cases hp
      · obtain ⟨st, hl, hp⟩ := (key nt).2
        refine ⟨st ++ [bW w], by rw [List.length_append, hl]; rfl, ?_⟩
        rw [ps st _ _ _ hl hp, e4, if_pos ⟨by cases bW w <;> decide, rfl⟩]
      · rw [e4, hc] at hlt
        exact absurd hlt (by show ¬ (j : Int) + 1 < (j : Int) + 1; omega)
end Ho
set_option Elab.async false
set_option linter.all false
set_option maxRecDepth 100000
set_option maxHeartbeats 4000000
namespace L2
open PySem PySem.Spec PyProof.Rows
theorem paired_ofGet {α β : Type} {F : α → β → Prop} : ∀ {l : List α} {m : List β}, l.length = m.length → (∀ (i : Nat) a b, l[i]? = some a → m[i]? = some b → F a b) → Paired F l m
  | [], [], _, _ => .nil
  | [], _ :: _, h, _ => by cases h
  | _ :: _, [], h, _ => by cases h
  | a :: l, b :: m, h, k => .cons (k 0 a b rfl rfl) (paired_ofGet (by simpa using h) fun i x y h1 h2 => k (i + 1) x y (by simpa using h1) (by simpa using h2))
section
variable {X : Cx}
/-! ### list(range(..)) -/
def rngL (lo hi : Int) : List Int := (List.range (hi - lo).toNat).map fun (i : Nat) => lo + (i : Int)
theorem rngL_len (lo hi : Int) : (rngL lo hi).length = (hi - lo).toNat := by simp [rngL]
theorem mem_rngL {lo hi x : Int} : x ∈ rngL lo hi ↔ lo ≤ x ∧ x < hi := by
  unfold rngL
  rw [List.mem_map]
  constructor
  · rintro ⟨i, h1, rfl⟩
    have := List.mem_range.mp h1
    omega
  · rintro ⟨h1, h2⟩
    exact ⟨(x - lo).toNat, List.mem_range.mpr (by omega), by omega⟩
theorem call_list_rng (hc : X.calm = true) : CallR X (.type "list") (fun xs H Q => ∃ p lo hi, xs = [.ref p] ∧ H p = some (.rng lo hi) ∧ (-1000 ≤ lo ∧ lo ≤ 1000) ∧ (-1000 ≤ hi ∧ hi ≤ 1000) ∧ ∀ l, H l = none → Q (.ref l) (upd H l (.lst ((rngL lo hi).map V.int)))) := by
  intro pins s σ H xs us Q I r h
  obtain ⟨p, lo, hi, rfl, hp, h1, h2, q⟩ := h
  obtain ⟨u, rfl, rx⟩ := vals1 r
  cases rx
  obtain ⟨t, u, v, e⟩ := (show ObjOk X.prog X.w H s.heap p (.rng lo hi) from I.hok p _ hp)
  refine call_list_range (n := (hi - lo).toNat) (I.ok.hd hc) e (small_one (by omega) (by omega) (by omega) (by omega)) (by rw [rangeSize_one]; split <;> omega) (by omega) fun h' tk acc' c' hk hS hacc => ?_
  refine ⟨.ref s.heap.objs.size, _, I.laid (o := .lst ((rngL lo hi).map V.int)) (t' := tk) hk (Nat.le_refl _) (show ObjOk X.prog X.w _ h' _ (.lst _) from ⟨?_, acc'.toList, c', ?_, by simpa using hS⟩), rfl, q _ (I.hok.fresh (Nat.le_refl _))⟩
  · rw [List.length_map, rngL_len]
    exact Nat.le_trans (show (hi - lo).toNat ≤ 2000 by omega) (by decide)
  · refine paired_ofGet (by rw [List.length_map, rngL_len]; simpa using hacc.1.symm) fun i a b g1 g2 => ?_
    have g2 : acc'[i]? = some b := by simpa using g2
    obtain ⟨t, rfl⟩ := hacc.2 i b g2
    rw [List.getElem?_map] at g1
    have hi' : i < (hi - lo).toNat := by
      have := (Array.getElem?_eq_some_iff.mp g2).1
      rw [hacc.1] at this; exact this
    have : (rngL lo hi)[i]? = some (lo + (i : Int)) := by simp [rngL, hi']
    rw [this] at g1
    cases g1
    exact ⟨t, by rw [Int.mul_one]⟩
end
end L2
set_option Elab.async false
set_option linter.all false
set_option maxRecDepth 100000
set_option maxHeartbeats 4000000
namespace Ho
open PySem L2
def nI (b : Bool) : Int := if b then 1 else 0
def stV (st : List Bool) : List V := (st.map nI).map V.int
def optI : Option (Bool × Nat) → V
  | none => .non
  | some (_, c) => .int (c : Int)
theorem pF_none {f : Int → Option Str} {l t : Int} {xs : List Bool} (h : pF f l t xs = none) (ys : List Bool) : pF f l t (xs ++ ys) = none := by
  refine snoc_ind (P := fun ys => pF f l t (xs ++ ys) = none) (by rw [List.append_nil]; exact h) (fun ys b ih => ?_) ys
  rw [← List.append_assoc, pF_snoc, ih]; rfl
theorem pF_take {f : Int → Option Str} {l t : Int} {st : List Bool} {j : Nat} (h : pF f l t (st.take j) = none) : pF f l t st = none := by
  have := pF_none h (st.drop j)
  rwa [List.take_append_drop] at this
def sp_price : Sp := fun vs H Q _ => ∃ (m q : Addr) (ds : List Addr) (l o t : Int) (rs : List RowT) (i : Nat) (sq : Addr) (st : List Bool), vs = [.ref m, .int i, .ref sq] ∧ LawM H m q ds l o t rs ∧ i < ds.length ∧ (∀ r ∈ rs, r.1.2 ≤ t ∧ (r.2 = "in" ∨ r.2 = "out")) ∧
  H sq = some (.tup (stV st)) ∧ st.length ≤ 100 ∧ ∀ H', Same H H' → Q (optI (pF (lk rs i) l t st)) H'
section
variable {P : Program} {w : World} {K : PySem.W.Frag} {mg : Str → Option Value} {base : Heap} {k : Nat} {f C aW cBH cBR cBT : Addr}
theorem sc_price : FnScope ["_law_m", "_law_badge", "_law_story", "_law_known", "_law_found", "_law_state", "_law_at", "_law_turns", "_law_word"] ["_law_m", "_law_badge", "_law_story"] (defScope s_price) := ⟨rfl, rfl, rfl, by decide +kernel, rfl, by decide +kernel, by decide +kernel⟩
theorem ok_price (F : Top1 K "_law_price" "_law_price" s_price f ["_law_m", "_law_badge", "_law_story"]) (T : Bl mg) :
    ∃ fd, FnOk P w K mg base (CXe P w) (k + 1) f fd ["_law_m", "_law_badge", "_law_story"] sp_price ∧ Binds K fd ["_law_m", "_law_badge", "_law_story"] [] := by
  refine F.okN sc_price (fun vs H Q E h => ?_) (fun cdv A outer s H vs Q E hr h => ?_)
  · obtain ⟨_, _, _, _, _, _, _, _, _, _, rfl, _⟩ := h
    rfl
  · obtain ⟨m, q, ds, l, o, t, rs, i, sq, st, rfl, M, hi, hrs, hst, hl, kk⟩ := h
    have hu := hu_of hr
    have nd := sc_price.nd
    refine ⟨_, (pss_cons (ps_set (i := 3) nd rfl (Or.inl rfl) (pe_ix ix_list (pe_dget hu (pv 0) pe_str (fun _ _ => rfl)) (pv 1) (fun _ _ => rfl)))
      (pss_cons (ps_set (i := 4) nd rfl (Or.inl rfl) pe_int)
      (pss_cons (ps_set (i := 5) nd rfl (Or.inl rfl) pe_int)
      (pss_cons (ps_for PassesOwn.never rfl (pi_range1 rfl T.b_range (pa_cons (pe_callB call_len_seq (by rfl) T.b_len PySem.boot_len (pa_cons (pv 2) pa_nil)) pa_nil)) (pg_name (i := 6) nd rfl (Or.inl rfl))
        (pss_cons (ps_set (i := 7) nd rfl (Or.inl rfl) (pe_cmpR op_ne (pe_ix ix_tup (pv 2) (pv 6) (fun _ _ => rfl)) (pv 5) (nomark _)))
        (pss_cons (ps_set (i := 5) nd rfl (Or.inl rfl) (pe_ix ix_tup (pv 2) (pv 6) (fun _ _ => rfl)))
        (pss_cons (ps_set (i := 8) nd rfl (Or.inl rfl) (pe_dget1 hu (pv 3) (pe_op op_add (pv 6) pe_int) ⟨rfl, rfl, rfl, rfl⟩))
        (pss_cons (ps_if (PW.pt (pw_and (pt_cmp (pc_notN (pv 8))) (pw_and1 (PW.pt (pw_or (pt_not (pt_val (pv 7))) (pw_or1 (pt_cmpR op_ne (pe_ix ix_list (pe_lst (pa_cons pe_str (pa_cons pe_str pa_nil))) (pv 5) (fun _ _ => rfl)) (pv 8) (nomark _)))))))) (pss_one (ps_ret pe_non)) pss_nil)
        (pss_one (ps_if (PW.pt (pw_and (pt_cmp (pc_isN (pv 8))) (pw_and (pt_val (pv 7)) (pw_and1 (pt_cmpR op_lt (pe_op op_add (pe_op op_add (pv 6) pe_int) (pe_dget hu (pv 0) pe_str (fun _ _ => rfl))) (pe_dget hu (pv 0) pe_str (fun _ _ => rfl)) (nomark _)))))) (pss_one (ps_set (i := 4) nd rfl (Or.inl rfl) (pe_op op_add (pv 4) pe_int))) pss_nil)))))))
      (pss_one (ps_ret (pv 4))))))), ?_⟩
    obtain ⟨a, ha⟩ : ∃ a, ds[i]? = some a := ⟨_, List.getElem?_eq_getElem hi⟩
    have hat : atI (ds.map V.ref) (i : Int) = some (.ref a) := atI_nat (by rw [List.getElem?_map, ha]; rfl)
    have hsl : (stV st).length = st.length := by unfold stV; rw [List.length_map, List.length_map]
    refine ⟨_, rfl, m, _, rfl, g_known M.ob, _, rfl, q, _, _, _, rfl, rfl, SqL.of M.kn, hat, ?_⟩
    refine ⟨_, rfl, sq, _, rfl, .inr (SqT.of hst), _, rfl, ?_, ?_, ?_⟩
    · rw [hsl]; omega
    · rw [hsl]; omega
    refine for_range (fun j σ H3 => ∃ s c v6 v7 v8, σ = [some (.ref m), some (.int i), some (.ref sq), some (.ref a), some (.int ((c : Nat) : Int)), some (.int (nI s)), v6, v7, v8] ∧ Same H H3 ∧ pF (lk rs i) l t (st.take j) = some (s, c)) ?_ ?_ ?_
    · exact ⟨false, 0, none, none, none, rfl, Same.refl H, rfl⟩
    · rintro j σ H3 hj ⟨s3, c, v6, v7, v8, rfl, sm, hp⟩
      have hj : j < st.length := by
        have : ((stV st).length : Int).toNat = st.length := by rw [hsl]; simp
        omega
      rw [Int.zero_add]
      obtain ⟨b, hb⟩ : ∃ b, st[j]? = some b := ⟨_, List.getElem?_eq_getElem hj⟩
      have hbat : atI (stV st) (j : Int) = some (.int (nI b)) := atI_nat (by unfold stV; rw [List.getElem?_map, List.getElem?_map, hb]; rfl)
      have et : st.take (j + 1) = st.take j ++ [b] := by rw [List.take_succ, hb]; rfl
      have ps : pF (lk rs i) l t (st.take (j + 1)) = pS (lk rs i) l t j (some (s3, c)) b := by
        rw [et, pF_snoc, hp, List.length_take, Nat.min_eq_left (by omega)]
      have M3 := M.same sm
      refine ⟨_, rfl, _, rfl, sq, _, _, _, rfl, rfl, SqT.of (sm _ _ hst), hbat, _, rfl, rfl, ?_⟩
      refine ⟨_, rfl, _, rfl, sq, _, _, _, rfl, rfl, SqT.of (sm _ _ hst), hbat, ?_⟩
      have dg : DGet H3 a (.int ((j : Int) + 1)) ((lk rs i ((j : Int) + 1)).map V.str) := by
        have := DGet.k (k := Sum.inl ((j : Int) + 1)) (M3.dc i a ha)
        rw [lk_kd M.kd] at this
        exact this
      refine ⟨_, rfl, a, rfl, .inl ⟨_, .inl (M3.dc i a ha)⟩, _, rfl, _, _, rfl, rfl, _, dg, ?_⟩
      have htb : (!decide (V.int (nI b) = V.int (nI s3))) = decide (b ≠ s3) := by
        cases b <;> cases s3 <;> decide
      rw [htb]
      cases e : lk rs i ((j : Int) + 1) with
      | none =>
        rw [show (Option.map V.str (none : Option Str)).getD V.non = V.non from rfl]
        have ps : pF (lk rs i) l t (st.take (j + 1)) = some (b, if b ≠ s3 ∧ (j : Int) + 1 + l < t then c + 1 else c) := by
          rw [ps]
          unfold pS
          simp only [e]
        refine ⟨_, rfl, _, rfl, ?_⟩
        refine iteF ?_
        refine ⟨_, rfl, _, rfl, ?_⟩
        refine iteT ⟨_, rfl, _, rfl, ?_⟩
        by_cases hbs : b ≠ s3
        · rw [decide_eq_true hbs]
          refine iteT ⟨_, rfl, _, _, rfl, rfl, _, rfl, m, _, rfl, g_late M3.ob, _, _, rfl, rfl, _, rfl, m, _, rfl, g_time M3.ob, _, _, rfl, rfl, _, rfl, ?_⟩
          by_cases hlt : (j : Int) + 1 + l < t
          · rw [decide_eq_true hlt]
            refine iteT ⟨_, rfl, _, _, rfl, rfl, ?_⟩
            rw [if_pos ⟨hbs, hlt⟩] at ps
            exact ⟨b, c + 1, _, _, _, rfl, sm, ps⟩
          · rw [decide_eq_false hlt]
            refine iteF ?_
            rw [if_neg (fun z => hlt z.2)] at ps
            exact ⟨b, c, _, _, _, rfl, sm, ps⟩
        · rw [decide_eq_false hbs]
          refine iteF ?_
          rw [if_neg (fun z => hbs z.1)] at ps
          exact ⟨b, c, _, _, _, rfl, sm, ps⟩
      | some wd =>
        rw [show (Option.map V.str (some wd)).getD V.non = V.str wd from rfl]
        have ps : pF (lk rs i) l t (st.take (j + 1)) = if b ≠ s3 ∧ wI b = wd then some (b, c) else none := by
          rw [ps]
          unfold pS
          simp only [e]
        refine ⟨_, rfl, _, rfl, ?_⟩
        refine iteT ⟨_, rfl, _, rfl, ?_⟩
        by_cases hbs : b ≠ s3
        · rw [decide_eq_true hbs]
          refine iteF ⟨(by show 2 ≤ sizeLine; decide), fun u1 hu1 => ?_⟩
          generalize hH4 : upd H3 u1 _ = H4
          have s4 : Same H3 H4 := by rw [← hH4]; exact (Ext.new (S := []) hu1).same
          have e4 : H4 u1 = some (.lst [.str "out", .str "in"]) := by rw [← hH4]; exact upd_same
          clear hH4
          have hwat : atI [V.str "out", .str "in"] (nI b) = some (.str (wI b)) := by cases b <;> rfl
          refine ⟨_, rfl, u1, _, _, _, rfl, rfl, SqL.of e4, hwat, _, rfl, rfl, _, rfl, ?_⟩
          by_cases hw : wI b = wd
          · rw [decide_eq_true (show V.str (wI b) = V.str wd by rw [hw])]
            refine iteF ?_
            rw [if_pos ⟨hbs, hw⟩] at ps
            refine ⟨_, rfl, _, rfl, ?_⟩
            exact iteF ⟨b, c, _, _, _, rfl, sm.trans s4, ps⟩
          · rw [decide_eq_false (show ¬ V.str (wI b) = V.str wd from fun z => hw (V.str.inj z))]
            refine iteT ?_
            rw [if_neg (fun z => hw z.2)] at ps
            have kk := kk H4 (sm.trans s4)
            rw [pF_take ps] at kk
            exact kk
        · rw [decide_eq_false hbs]
          refine iteT ?_
          rw [if_neg (fun z => hbs z.1)] at ps
          have kk := kk H3 sm
          rw [pF_take ps] at kk
          exact kk
    · rintro σ H3 ⟨s3, c, v6, v7, v8, rfl, sm, hp⟩
      rw [List.take_of_length_le (by rw [hsl]; simp)] at hp
      have kk := kk H3 sm
      rw [hp] at kk
      exact ⟨_, rfl, kk⟩
end
end Ho
set_option Elab.async false
set_option linter.all false
set_option maxRecDepth 100000
set_option maxHeartbeats 4000000
namespace Ho
open PySem L2
/-! ### lists of ints, by == -/
theorem dp_ints {K : PySem.W.Frag} {H : Hp} : ∀ xs : List Int, DpAll K H (xs.map V.int) (xs.map PyData.int)
  | [] => .nil
  | x :: xs => .cons (.int x) (dp_ints xs)
theorem lay_ints : ∀ xs : List Int, PyData.canLayAll0 (xs.map PyData.int) = true ∧ PyData.depthAll (xs.map PyData.int) ≤ 1
  | [] => ⟨rfl, Nat.zero_le _⟩
  | x :: xs => by
    obtain ⟨h1, h2⟩ := lay_ints xs
    refine ⟨?_, ?_⟩
    · show (PyData.canLay0 (.int x) && PyData.canLayAll0 (xs.map PyData.int)) = true
      rw [h1]; rfl
    · show max (PyData.depth (.int x)) (PyData.depthAll (xs.map PyData.int)) ≤ 1
      exact Nat.max_le.mpr ⟨Nat.zero_le 1, h2⟩
theorem shaped_ints (xs : List Int) : PySem.SeqAt.shaped (.list (xs.map PyData.int)) = true := by
  obtain ⟨h1, h2⟩ := lay_ints xs
  unfold PySem.SeqAt.shaped
  rw [Bool.and_eq_true]
  refine ⟨h1, decide_eq_true ?_⟩
  show PyData.depthAll (xs.map PyData.int) + 1 ≤ 64
  omega
theorem eqv_nil (xs : List Int) : PyData.eqv (.list (xs.map PyData.int)) (.list []) = decide (xs = []) := by
  cases xs <;> rfl
theorem ifilt_snoc {p : Int → Bool} {W : List Int} {j : Nat} {w : Int} (h : W[j]? = some w) : (W.take (j + 1)).filter p = (W.take j).filter p ++ (if p w = true then [w] else []) := by
  rw [List.take_succ, h, List.filter_append]
  congr 1
  show [w].filter p = _
  rw [List.filter_cons]
  rfl
def sp_lwants : Sp := fun vs H Q _ => ∃ m q ds l o t rs, vs = [.ref m] ∧ LawM H m q ds l o t rs ∧ rs.length ≤ 900 ∧ (∀ r ∈ rs, r.1.2 ≤ t ∧ (r.2 = "in" ∨ r.2 = "out")) ∧
  ∀ (H' : Hp) (fq : Addr) (rs' : List RowT), Same H H' → H fq = none → Srt rs' rs → WantsAt H' fq (runP l t rs').1 → Q (.ref fq) H'
def stW (st : Int) : Str := if st = 0 then "out" else "in"
section
variable {P : Program} {w : World} {K : PySem.W.Frag} {mg : Str → Option Value} {base : Heap} {k : Nat} {f C aW cBH cBR cBT : Addr}
theorem sc_lwants : FnScope ["_law_m", "_law_found", "_law_badge", "_law_state", "_law_ahead", "_law_moment", "_law_word", "_law_between", "_law_some", "_law_one"] ["_law_m"] (defScope s_lwants) := ⟨rfl, rfl, rfl, by decide +kernel, rfl, by decide +kernel, by decide +kernel⟩
theorem ok_lwants (F : Top1 K "_law_wants" "_law_wants" s_lwants f ["_law_m"]) (T : Bl mg) :
    ∃ fd, FnOk P w K mg base (CXe P w) (k + 1) f fd ["_law_m"] sp_lwants ∧ Binds K fd ["_law_m"] [] := by
  refine F.okN sc_lwants (fun vs H Q E h => ?_) (fun cdv A outer s H vs Q E hr h => ?_)
  · obtain ⟨_, _, _, _, _, _, _, rfl, _⟩ := h
    rfl
  · obtain ⟨m, q, ds, l, o, t, rs, rfl, M, hsz, hrs, kk⟩ := h
    have hu := hu_of hr
    have nd := sc_lwants.nd
    refine ⟨_, (pss_cons (ps_set (i := 1) nd rfl (Or.inl rfl) (pe_lst (pa_nil)))
      (pss_cons (ps_for PassesOwn.never rfl (pi_range1 rfl T.b_range (pa_cons (pe_callB call_len_seq (by rfl) T.b_len PySem.boot_len (pa_cons (pe_dget hu (pv 0) pe_str (fun _ _ => rfl)) pa_nil)) pa_nil)) (pg_name (i := 2) nd rfl (Or.inl rfl))
        (pss_cons (ps_set (i := 3) nd rfl (Or.inl rfl) pe_int)
        (pss_cons (ps_set (i := 4) nd rfl (Or.inl rfl) pe_int)
        (pss_one (ps_for PassesOwn.never rfl (pi_range2 rfl T.b_range (pa_cons pe_int (pa_cons (pe_op op_add (pe_dget hu (pv 0) pe_str (fun _ _ => rfl)) pe_int) pa_nil))) (pg_name (i := 5) nd rfl (Or.inl rfl))
          (pss_cons (ps_set (i := 6) nd rfl (Or.inl rfl) (pe_dget1 hu (pe_ix ix_list (pe_dget hu (pv 0) pe_str (fun _ _ => rfl)) (pv 2) (fun _ _ => rfl)) (pv 5) ⟨rfl, rfl, rfl, rfl⟩))
          (pss_one (ps_if (pt_cmp (pc_notN (pv 6))) (pss_cons (ps_set (i := 7) nd rfl (Or.inl rfl) (pe_callTy (call_list_rng rfl) (by rfl) T.b_list (by decide +kernel) (pa_cons (pe_callTy call_rng2 (by rfl) T.b_range (by decide +kernel) (pa_cons (pe_op op_add (pv 4) pe_int) (pa_cons (pv 5) pa_nil))) pa_nil)))
            (pss_cons (ps_setLc (i := 8) (own := [("_law_one", 9)]) rfl nd rfl rfl (sw_true rfl rfl rfl (by decide +kernel)) (pi_list (pv 7)) (blkOk_by (own := [("_law_one", 9)]) (N := ["_law_m", "_law_found", "_law_badge", "_law_state", "_law_ahead", "_law_moment", "_law_word", "_law_between", "_law_some", "_law_one"]) (sc := defScope s_lwants) (by decide +kernel)) (fun _ _ _ _ _ => by exact (pg_name (i := 9) nd rfl (Or.inl rfl))) (fun _ _ _ _ _ => by exact (pts_one (pt_cmpR op_ge (pe_op op_add (pv 9) (pe_dget hu (pv 0) pe_str (fun _ _ => rfl))) (pe_dget hu (pv 0) pe_str (fun _ _ => rfl)) (nomark _)))) (fun _ _ _ _ _ => by exact (pv 9)))
            (pss_cons (ps_if (PW.pt (pw_and (pt_cmpR op_eq (pe_ix ix_list (pe_lst (pa_cons pe_str (pa_cons pe_str pa_nil))) (pv 3) (fun _ _ => rfl)) (pv 6) (nomark _)) (pw_and1 (PW.pt (pw_or (pt_cmpR (op_eqD hr.units) (pv 7) (pe_lst (pa_nil)) (nomark _)) (pw_or1 (pt_cmpR (op_eqD hr.units) (pv 8) (pe_lst (pa_nil)) (nomark _)))))))) (pss_one (ps_expr (pe_bm PySem.F.plainAttrs_list PySem.F.slot_list_append PySem.F.type_list_append mt_append (pv 1) (pa_cons (pe_tup (pa_cons (pv 2) (pa_cons (pv 4) (pa_cons (pv 5) (pa_cons (pe_ix ix_list (pe_lst (pa_cons pe_str (pa_cons pe_str pa_nil))) (pe_callTy call_int1 (by rfl) T.b_int (by decide +kernel) (pa_cons (pe_cmpR (op_eqD hr.units) (pv 7) (pe_lst (pa_nil)) (nomark _)) pa_nil)) (fun _ _ => rfl)) pa_nil))))) pa_nil)))) pss_nil)
            (pss_cons (ps_set (i := 3) nd rfl (Or.inl rfl) (pe_callTy call_int1 (by rfl) T.b_int (by decide +kernel) (pa_cons (pe_cmpR op_eq (pv 6) pe_str (nomark _)) pa_nil)))
            (pss_one (ps_set (i := 4) nd rfl (Or.inl rfl) (pv 5))))))) pss_nil))))))))
      (pss_one (ps_ret (pv 1))))), ?_⟩
    have b6 := M.b6
    have tb := M.tb
    have lb := M.lb
    have hll : (((ds.map V.ref).length : Int)).toNat = ds.length := by simp
    refine ⟨Nat.zero_le _, fun fq hfq => ?_⟩
    generalize hH1 : upd H fq _ = H1
    have s1 : Same H H1 := by rw [← hH1]; exact (Ext.new (S := []) hfq).same
    have e1 : H1 fq = some (.lst []) := by rw [← hH1]; exact upd_same
    clear hH1
    have M1 := M.same s1
    refine ⟨_, rfl, m, _, rfl, g_known M1.ob, q, _, rfl, .inl (SqL.of M1.kn), _, rfl, ?_, ?_, ?_⟩
    · rw [List.length_map]; omega
    · rw [List.length_map]; omega
    refine for_range (fun i σ H2 => ∃ v2 v3 v4 v5 v6 v7 v8 v9, σ = [some (.ref m), some (.ref fq), v2, v3, v4, v5, v6, v7, v8, v9] ∧ Same H H2 ∧ ∃ (rs' : List RowT), WantsAt H2 fq (runP l t rs').1 ∧ rs'.Pairwise rowLt ∧ ∀ r, r ∈ rs' ↔ (r ∈ rs ∧ r.1.1 < (i : Int))) ?_ ?_ ?_
    · refine ⟨none, none, none, none, none, none, none, none, rfl, s1, [], ⟨[], e1, .nil⟩, .nil, fun r => ⟨(fun z => by cases z), fun z => ?_⟩⟩
      have := (M.rg r z.1).1
      have := z.2
      omega
    · rintro i σ H2 hi ⟨v2, v3, v4, v5, v6, v7, v8, v9, rfl, s2, rs', hW, so, mem⟩
      have hi : i < ds.length := by omega
      rw [Int.zero_add]
      have M2 := M.same s2
      obtain ⟨a, ha⟩ : ∃ a, ds[i]? = some a := ⟨_, List.getElem?_eq_getElem hi⟩
      have hat : atI (ds.map V.ref) (i : Int) = some (.ref a) := atI_nat (by rw [List.getElem?_map, ha]; rfl)
      have ms' : ∀ {rs3 : List RowT}, (∀ r ∈ rs3, r ∈ rs) → Ms rs3 := fun h r hr => (M.rg r (h r hr)).2.2.1
      have hl0 : (runP l t rs').2 (i : Int) = ((0 : Int), ("out" : Str)) := by
        obtain ⟨_, g⟩ := run_last (l := l) (t := t) (bd := (i : Int)) rs' so (ms' fun r hr => ((mem r).mp hr).1)
        rcases g with g | g
        · exact Prod.ext g.1 g.2
        · have := ((mem _).mp g).2
          exact absurd this (by show ¬ (i : Int) < i; omega)
      refine ⟨_, rfl, m, _, rfl, g_time M2.ob, _, _, rfl, rfl, _, _, rfl, ⟨by decide, by decide, (by show _ ≤ t + 1; omega), (by show t + 1 < _; omega)⟩, ?_⟩
      refine for_range (lo := 1) (n := (t + 1 - 1).toNat) (fun j σ H3 => ∃ st ah v5 v6 v7 v8 v9, σ = [some (.ref m), some (.ref fq), some (.int i), some (.int st), some (.int ah), v5, v6, v7, v8, v9] ∧ Same H H3 ∧ (0 ≤ ah ∧ ah ≤ (j : Int)) ∧ (st = 0 ∨ st = 1) ∧ ∃ (rs3 : List RowT), WantsAt H3 fq (runP l t rs3).1 ∧ rs3.Pairwise rowLt ∧ (∀ r, r ∈ rs3 ↔ (r ∈ rs ∧ (r.1.1 < (i : Int) ∨ (r.1.1 = (i : Int) ∧ r.1.2 ≤ (j : Int))))) ∧ (runP l t rs3).2 (i : Int) = (ah, stW st)) ?_ ?_ ?_
      · refine ⟨0, 0, v5, v6, v7, v8, v9, rfl, s2, ⟨Int.le_refl _, Int.le_refl _⟩, .inl rfl, rs', hW, so, fun r => (mem r).trans ⟨fun z => ⟨z.1, .inl z.2⟩, fun z => ⟨z.1, ?_⟩⟩, hl0⟩
        have := (M.rg r z.1).2.2.1
        rcases z.2 with z | z
        · exact z
        · omega
      · rintro j σ H3 hj ⟨st, ah, v5, v6, v7, v8, v9, rfl, s3, hah, hst, rs3, hW3, so3, mem3, hla⟩
        have M3 := M.same s3
        have hj1 : (1 : Int) + (j : Int) ≤ t := by omega
        refine ⟨_, rfl, m, _, rfl, g_known M3.ob, _, rfl, q, _, _, _, rfl, rfl, SqL.of M3.kn, hat, a, rfl, .inl ⟨_, .inl (M3.dc i a ha)⟩, _, rfl, _, DGet.k (k := Sum.inl (1 + (j : Int))) (M3.dc i a ha), ?_⟩
        refine ⟨_, rfl, _, rfl, ?_⟩
        cases ev : valV (kdOf rs i) (Sum.inl (1 + (j : Int)) : Key) with
        | none =>
          refine iteF ⟨st, ah, _, _, _, _, _, rfl, s3, ⟨hah.1, by omega⟩, hst, rs3, hW3, so3, fun r => (mem3 r).trans ⟨fun z => ⟨z.1, ?_⟩, fun z => ⟨z.1, ?_⟩⟩, hla⟩
          · rcases z.2 with z2 | z2
            · exact .inl z2
            · exact .inr ⟨z2.1, by omega⟩
          · rcases z.2 with z2 | z2
            · exact .inl z2
            · have hne : r.1.2 ≠ 1 + (j : Int) := fun y => kd_none ev (List.mem_map.mpr ⟨r, z.1, Prod.ext z2.1 y⟩)
              exact .inr ⟨z2.1, by omega⟩
        | some v =>
          obtain ⟨wd, rfl, hm⟩ := kd_some ev
          have hwd := (hrs _ hm).2
          have hwd : wd = "in" ∨ wd = "out" := hwd
          rw [show (some (V.str wd)).getD V.non = V.str wd from rfl]
          refine iteT ?_
          -- between = list(range(ahead + 1, moment))
          refine ⟨_, rfl, _, _, rfl, rfl, _, rfl, _, _, rfl, fun p1 hp1 => ?_⟩
          generalize hH4 : upd H3 p1 _ = H4
          have s4 : Same H3 H4 := by rw [← hH4]; exact (Ext.new (S := []) hp1).same
          have e4 : H4 p1 = some (.rng (ah + 1) (1 + (j : Int))) := by rw [← hH4]; exact upd_same
          clear hH4
          refine ⟨p1, _, _, rfl, e4, ⟨by omega, by omega⟩, ⟨by omega, by omega⟩, fun bq hbq => ?_⟩
          generalize hH5 : upd H4 bq _ = H5
          have s5 : Same H4 H5 := by rw [← hH5]; exact (Ext.new (S := []) hbq).same
          have e5 : H5 bq = some (.lst ((rngL (ah + 1) (1 + (j : Int))).map V.int)) := by rw [← hH5]; exact upd_same
          clear hH5
          have hbl : (rngL (ah + 1) (1 + (j : Int))).length ≤ 100 := by rw [rngL_len]; omega
          have hmb : ∀ x, x ∈ rngL (ah + 1) (1 + (j : Int)) ↔ ah + 1 ≤ x ∧ x < 1 + (j : Int) := fun x => mem_rngL
          generalize rngL (ah + 1) (1 + (j : Int)) = bs at e5 hbl hmb
          have M5 := M3.same (s4.trans s5)
          -- some = [one for one in between if one + late >= time]
          refine ⟨_, rfl, bq, rfl, ⟨_, SqL.of e5⟩, fun D hD => ?_⟩
          refine lc_list (K := K) (a := bq) (xs := bs.map V.int) (fun i H6 => Same H5 H6 ∧ H6 D = some (.lst (((bs.take i).filter fun x => decide (t ≤ x + l)).map V.int))) ⟨(Ext.new (S := []) hD).same, upd_same⟩ (fun i H6 _ h => SqL.of (h.1 _ _ e5)) ?_ ?_
          · rintro i6 y H6 hi6 ⟨s6, hD6⟩
            rw [List.getElem?_map] at hi6
            cases eb : bs[i6]? with
            | none => rw [eb] at hi6; cases hi6
            | some x6 =>
              rw [eb] at hi6
              cases hi6
              have M6 := M5.same s6
              have hlt6 : i6 < bs.length := (List.getElem?_eq_some_iff.mp eb).1
              refine ⟨rfl, _, rfl, _, rfl, m, _, rfl, g_late M6.ob, _, _, rfl, rfl, _, rfl, m, _, rfl, g_time M6.ob, _, _, rfl, rfl, _, rfl, ?_⟩
              rw [ifilt_snoc eb]
              by_cases hc : t ≤ x6 + l
              · rw [decide_eq_true hc]
                refine iteT ?_
                refine ⟨_, rfl, _, hD6, (by rw [List.length_map]; exact small1000 (by have := List.length_filter_le (fun x => decide (t ≤ x + l)) (bs.take i6); rw [List.length_take] at this; omega)), fun c oc hc => ?_, ?_⟩
                · have nc : c ≠ D := fun z => by rw [z, hD] at hc; cases hc
                  rw [upd_ne nc]; exact s6 _ _ hc
                · rw [upd_same, List.map_append]; rfl
              · rw [decide_eq_false hc]
                refine iteF ?_
                refine ⟨s6, ?_⟩
                simpa using hD6
          · rintro H6 ⟨s6, hD6⟩
            rw [List.take_of_length_le (by rw [List.length_map]; exact Nat.le_refl _)] at hD6
            have e6 := s6 _ _ e5
            have hfb : faultB ah (1 + (j : Int)) l t = if bs = [] then some ("twice" : Str) else if bs.filter (fun x => decide (t ≤ x + l)) = [] then some ("lost" : Str) else none := by
              unfold faultB
              have h1 : (1 + (j : Int) - 1 = ah) ↔ bs = [] := by
                constructor
                · intro z
                  refine List.eq_nil_iff_forall_not_mem.mpr fun x hx => ?_
                  have := (hmb x).mp hx
                  omega
                · intro z
                  by_cases hlt : ah < (j : Int)
                  · have := (hmb (ah + 1)).mpr ⟨by omega, by omega⟩
                    rw [z] at this; cases this
                  · omega
              have h2 : bs ≠ [] → ((1 + (j : Int) - 1 + l < t) ↔ bs.filter (fun x => decide (t ≤ x + l)) = []) := fun hne => by
                constructor
                · intro z
                  refine List.filter_eq_nil_iff.mpr fun x hx => ?_
                  have := (hmb x).mp hx
                  rw [decide_eq_true_eq]
                  omega
                · intro z
                  have hj : ah < (j : Int) := by
                    by_cases hlt : ah < (j : Int)
                    · exact hlt
                    · exact (hne (h1.mp (by omega))).elim
                  have := (List.filter_eq_nil_iff.mp z) (j : Int) ((hmb _).mpr ⟨by omega, by omega⟩)
                  rw [decide_eq_true_eq] at this
                  omega
              by_cases hb : bs = []
              · rw [if_pos (h1.mpr hb), if_pos hb]
              · rw [if_neg (fun z => hb (h1.mp z)), if_neg hb]
                by_cases hs : bs.filter (fun x => decide (t ≤ x + l)) = []
                · rw [if_pos ((h2 hb).mpr hs), if_pos hs]
                · rw [if_neg (fun z => hs ((h2 hb).mp z)), if_neg hs]
            generalize bs.filter (fun x => decide (t ≤ x + l)) = so6 at hD6 hfb
            have hstat : atI [V.str "out", .str "in"] st = some (.str (stW st)) := by rcases hst with rfl | rfl <;> rfl
            have hW6 := hW3.same (s4.trans (s5.trans s6))
            have s36 : Same H H6 := s3.trans (s4.trans (s5.trans s6))
            have mem4 : ∀ r, r ∈ rs3 ++ [(((i : Int), 1 + (j : Int)), wd)] ↔ (r ∈ rs ∧ (r.1.1 < (i : Int) ∨ (r.1.1 = (i : Int) ∧ r.1.2 ≤ ((j + 1 : Nat) : Int)))) := fun r => by
              rw [List.mem_append, mem3 r, List.mem_singleton]
              constructor
              · rintro (z | rfl)
                · refine ⟨z.1, ?_⟩
                  rcases z.2 with z2 | z2
                  · exact .inl z2
                  · exact .inr ⟨z2.1, by omega⟩
                · exact ⟨hm, .inr ⟨rfl, by show 1 + (j : Int) ≤ ((j + 1 : Nat) : Int); omega⟩⟩
              · rintro ⟨z1, z2⟩
                rcases z2 with z2 | z2
                · exact .inl ⟨z1, .inl z2⟩
                · by_cases hj2 : r.1.2 ≤ (j : Int)
                  · exact .inl ⟨z1, .inr ⟨z2.1, hj2⟩⟩
                  · refine .inr ?_
                    have e2 : r.1.2 = 1 + (j : Int) := by omega
                    have e3 : r = (((i : Int), 1 + (j : Int)), r.2) := Prod.ext (Prod.ext z2.1 e2) rfl
                    rw [e3] at z1
                    rw [e3, uniq_row M.kd z1 hm]
            have so4 : (rs3 ++ [(((i : Int), 1 + (j : Int)), wd)]).Pairwise rowLt := by
              refine List.pairwise_append.mpr ⟨so3, List.pairwise_singleton _ _, fun u hu2 v hv2 => ?_⟩
              rw [List.mem_singleton.mp hv2]
              rcases ((mem3 u).mp hu2).2 with z | z
              · exact .inl z
              · exact .inr ⟨z.1, by show u.1.2 < 1 + (j : Int); omega⟩
            have hla4 : (runP l t (rs3 ++ [(((i : Int), 1 + (j : Int)), wd)])).2 (i : Int) = (1 + (j : Int), wd) := by
              rw [run_snoc]
              show (if (i : Int) = (i : Int) then _ else _) = _
              rw [if_pos rfl]
            have hst4 : stW (if decide (V.str wd = V.str "in") = true then 1 else 0) = wd := by
              rcases hwd with rfl | rfl <;> rfl
            have hst5 : (if decide (V.str wd = V.str "in") = true then (1 : Int) else 0) = 0 ∨ (if decide (V.str wd = V.str "in") = true then (1 : Int) else 0) = 1 := by
              split
              · exact .inr rfl
              · exact .inl rfl
            have hrun : (runP l t (rs3 ++ [(((i : Int), 1 + (j : Int)), wd)])).1 = (runP l t rs3).1 ++ (if wd = stW st then (match faultB ah (1 + (j : Int)) l t with | some z => [(((i : Int), ah, 1 + (j : Int)), z)] | none => []) else []) := by
              rw [run_snoc]
              show (runP l t rs3).1 ++ stepW l t ((runP l t rs3).2 (i : Int)) _ = _
              rw [hla]; rfl
            have hrl : (runP l t rs3).1.length ≤ 900 := Nat.le_trans (run_len rs3) (Nat.le_trans (len_le so3 fun r hr => ((mem3 r).mp hr).1) hsz)
            refine ⟨(by show 2 ≤ sizeLine; decide), fun u1 hu1 => ?_⟩
            generalize hH7 : upd H6 u1 _ = H7
            have s7 : Same H6 H7 := by rw [← hH7]; exact (Ext.new (S := []) hu1).same
            have e7 : H7 u1 = some (.lst [.str "out", .str "in"]) := by rw [← hH7]; exact upd_same
            clear hH7
            refine ⟨_, rfl, u1, _, st, _, rfl, rfl, SqL.of e7, hstat, _, rfl, rfl, _, rfl, ?_⟩
            by_cases hw : stW st = wd
            · rw [decide_eq_true (show V.str (stW st) = V.str wd by rw [hw])]
              refine iteT ?_
              rw [if_pos hw.symm, hfb] at hrun
              -- between == []
              refine ⟨_, rfl, Nat.zero_le _, fun z1 hz1 => ?_⟩
              generalize hH8 : upd H7 z1 _ = H8
              have s8 : Same H7 H8 := by rw [← hH8]; exact (Ext.new (S := []) hz1).same
              have e8 : H8 z1 = some (.lst []) := by rw [← hH8]; exact upd_same
              clear hH8
              refine ⟨.list (bs.map PyData.int), .list [], .lst (SqL.of (s8 _ _ (s7 _ _ e6))) (dp_ints bs), .lst (SqL.of e8) .nil, shaped_ints bs, by decide, _, rfl, ?_⟩
              rw [eqv_nil]
              by_cases hb : bs = []
              · rw [decide_eq_true hb]
                refine iteT (iteT ?_)
                rw [if_pos hb] at hrun
                obtain ⟨qs, hq6, pq6⟩ := hW6
                have hqs : qs.length ≤ 900 := by rw [Paired.length pq6]; exact hrl
                have sH : Same H6 H8 := s7.trans s8
                refine ⟨_, rfl, (.inl ⟨rfl, _, SqL.of (sH _ _ hq6)⟩), _, rfl, _, rfl, _, rfl, (by show 2 ≤ sizeLine; decide), fun y1 hy1 => ?_⟩
                generalize hHA : upd H8 y1 _ = HA
                have sA : Same H8 HA := by rw [← hHA]; exact (Ext.new (S := []) hy1).same
                have eA : HA y1 = some (.lst [.str "lost", .str "twice"]) := by rw [← hHA]; exact upd_same
                clear hHA
                refine ⟨_, rfl, Nat.zero_le _, fun y2 hy2 => ?_⟩
                generalize hHB : upd HA y2 _ = HB
                have sB : Same HA HB := by rw [← hHB]; exact (Ext.new (S := []) hy2).same
                have eB : HB y2 = some (.lst []) := by rw [← hHB]; exact upd_same
                clear hHB
                have sHB : Same H6 HB := sH.trans (sA.trans sB)
                refine ⟨.list (bs.map PyData.int), .list [], .lst (SqL.of (sHB _ _ e6)) (dp_ints bs), .lst (SqL.of eB) .nil, shaped_ints bs, by decide, .inr ⟨_, rfl, ?_⟩⟩
                refine ⟨y1, _, _, _, rfl, rfl, SqL.of (sB _ _ eA), (by rw [eqv_nil, decide_eq_true hb]; rfl), (by show 4 ≤ sizeLine; decide), fun y3 hy3 => ?_⟩
                generalize hHC : upd HB y3 _ = HC
                have sC : Same HB HC := by rw [← hHC]; exact (Ext.new (S := []) hy3).same
                have eC : HC y3 = some (wantO (((i : Int), ah, 1 + (j : Int)), "twice")) := by rw [← hHC]; exact upd_same
                clear hHC
                have nq : y3 ≠ fq := fun z => by rw [z, sHB _ _ hq6] at hy3; cases hy3
                refine ⟨fq, _, _, rfl, rfl, sC _ _ (sHB _ _ hq6), (by rw [List.length_map]; exact small1000 (by omega)), ?_⟩
                generalize hHD : upd HC fq _ = HD
                have xD : Ext [fq] HC HD := by rw [← hHD]; exact Ext.put (by simp)
                have eD : HD fq = some (.lst ((qs ++ [y3]).map V.ref)) := by rw [← hHD, List.map_append]; exact upd_same
                clear hHD
                refine ⟨_, rfl, rfl, .inr ⟨_, rfl, ?_⟩⟩
                refine ⟨_, rfl, ?_⟩
                refine ⟨_, _, _, _, _, _, _, rfl, fun b ob hb => xD _ _ (sC _ _ (sHB _ _ (s36 _ _ hb))) (by simpa using ne_of_none hb hfq), ⟨by omega, by omega⟩, hst5, rs3 ++ [(((i : Int), 1 + (j : Int)), wd)], ?_, so4, mem4, by rw [hla4, hst4]⟩
                rw [hrun]
                refine ⟨qs ++ [y3], eD, paired_snoc (paired_imp (fun c w hc => xD _ _ (sC _ _ (sHB _ _ hc)) (fun y => by rw [List.mem_singleton.mp y, hq6] at hc; cases hc)) pq6) (xD _ _ eC (by simpa using nq))⟩
              · rw [decide_eq_false hb]
                refine iteF ?_
                rw [if_neg hb] at hrun
                refine ⟨_, rfl, Nat.zero_le _, fun z2 hz2 => ?_⟩
                generalize hH9 : upd H8 z2 _ = H9
                have s9 : Same H8 H9 := by rw [← hH9]; exact (Ext.new (S := []) hz2).same
                have e9 : H9 z2 = some (.lst []) := by rw [← hH9]; exact upd_same
                clear hH9
                refine ⟨.list (so6.map PyData.int), .list [], .lst (SqL.of (s9 _ _ (s8 _ _ (s7 _ _ hD6)))) (dp_ints so6), .lst (SqL.of e9) .nil, shaped_ints so6, by decide, _, rfl, ?_⟩
                rw [eqv_nil]
                by_cases hs : so6 = []
                · rw [decide_eq_true hs]
                  refine iteT ?_
                  rw [if_pos hs] at hrun
                  obtain ⟨qs, hq6, pq6⟩ := hW6
                  have hqs : qs.length ≤ 900 := by rw [Paired.length pq6]; exact hrl
                  have sH : Same H6 H9 := s7.trans (s8.trans s9)
                  refine ⟨_, rfl, (.inl ⟨rfl, _, SqL.of (sH _ _ hq6)⟩), _, rfl, _, rfl, _, rfl, (by show 2 ≤ sizeLine; decide), fun y1 hy1 => ?_⟩
                  generalize hHA : upd H9 y1 _ = HA
                  have sA : Same H9 HA := by rw [← hHA]; exact (Ext.new (S := []) hy1).same
                  have eA : HA y1 = some (.lst [.str "lost", .str "twice"]) := by rw [← hHA]; exact upd_same
                  clear hHA
                  refine ⟨_, rfl, Nat.zero_le _, fun y2 hy2 => ?_⟩
                  generalize hHB : upd HA y2 _ = HB
                  have sB : Same HA HB := by rw [← hHB]; exact (Ext.new (S := []) hy2).same
                  have eB : HB y2 = some (.lst []) := by rw [← hHB]; exact upd_same
                  clear hHB
                  have sHB : Same H6 HB := sH.trans (sA.trans sB)
                  refine ⟨.list (bs.map PyData.int), .list [], .lst (SqL.of (sHB _ _ e6)) (dp_ints bs), .lst (SqL.of eB) .nil, shaped_ints bs, by decide, .inr ⟨_, rfl, ?_⟩⟩
                  refine ⟨y1, _, _, _, rfl, rfl, SqL.of (sB _ _ eA), (by rw [eqv_nil, decide_eq_false hb]; rfl), (by show 4 ≤ sizeLine; decide), fun y3 hy3 => ?_⟩
                  generalize hHC : upd HB y3 _ = HC
                  have sC : Same HB HC := by rw [← hHC]; exact (Ext.new (S := []) hy3).same
                  have eC : HC y3 = some (wantO (((i : Int), ah, 1 + (j : Int)), "lost")) := by rw [← hHC]; exact upd_same
                  clear hHC
                  have nq : y3 ≠ fq := fun z => by rw [z, sHB _ _ hq6] at hy3; cases hy3
                  refine ⟨fq, _, _, rfl, rfl, sC _ _ (sHB _ _ hq6), (by rw [List.length_map]; exact small1000 (by omega)), ?_⟩
                  generalize hHD : upd HC fq _ = HD
                  have xD : Ext [fq] HC HD := by rw [← hHD]; exact Ext.put (by simp)
                  have eD : HD fq = some (.lst ((qs ++ [y3]).map V.ref)) := by rw [← hHD, List.map_append]; exact upd_same
                  clear hHD
                  refine ⟨_, rfl, rfl, .inr ⟨_, rfl, ?_⟩⟩
                  refine ⟨_, rfl, ?_⟩
                  refine ⟨_, _, _, _, _, _, _, rfl, fun b ob hb => xD _ _ (sC _ _ (sHB _ _ (s36 _ _ hb))) (by simpa using ne_of_none hb hfq), ⟨by omega, by omega⟩, hst5, rs3 ++ [(((i : Int), 1 + (j : Int)), wd)], ?_, so4, mem4, by rw [hla4, hst4]⟩
                  rw [hrun]
                  refine ⟨qs ++ [y3], eD, paired_snoc (paired_imp (fun c w hc => xD _ _ (sC _ _ (sHB _ _ hc)) (fun y => by rw [List.mem_singleton.mp y, hq6] at hc; cases hc)) pq6) (xD _ _ eC (by simpa using nq))⟩
                · rw [decide_eq_false hs]
                  refine iteF ?_
                  rw [if_neg hs] at hrun
                  refine ⟨_, rfl, rfl, .inr ⟨_, rfl, ?_⟩⟩
                  refine ⟨_, rfl, ?_⟩
                  refine ⟨_, _, _, _, _, _, _, rfl, s36.trans (s7.trans (s8.trans s9)), ⟨by omega, by omega⟩, hst5, rs3 ++ [(((i : Int), 1 + (j : Int)), wd)], ?_, so4, mem4, by rw [hla4, hst4]⟩
                  rw [hrun, List.append_nil]
                  exact hW6.same (s7.trans (s8.trans s9))
            · rw [decide_eq_false (show ¬ V.str (stW st) = V.str wd from fun z => hw (V.str.inj z))]
              refine iteF ?_
              rw [if_neg (fun z => hw z.symm)] at hrun
              refine ⟨_, rfl, rfl, .inr ⟨_, rfl, ?_⟩⟩
              refine ⟨_, rfl, ?_⟩
              refine ⟨_, _, _, _, _, _, _, rfl, s36.trans (s7), ⟨by omega, by omega⟩, hst5, rs3 ++ [(((i : Int), 1 + (j : Int)), wd)], ?_, so4, mem4, by rw [hla4, hst4]⟩
              rw [hrun, List.append_nil]
              exact hW6.same (s7)
      · rintro σ H3 ⟨st, ah, v5, v6, v7, v8, v9, rfl, s3, _, _, rs3, hW3, so3, mem3, _⟩
        refine ⟨_, _, _, _, _, _, _, _, rfl, s3, rs3, hW3, so3, fun r => (mem3 r).trans ⟨fun z => ⟨z.1, ?_⟩, fun z => ⟨z.1, ?_⟩⟩⟩
        · rcases z.2 with z2 | z2 <;> omega
        · have := (hrs r z.1).1
          by_cases hb : r.1.1 < (i : Int)
          · exact .inl hb
          · exact .inr ⟨by omega, by omega⟩
    · rintro σ H2 ⟨v2, v3, v4, v5, v6, v7, v8, v9, rfl, s2, rs', hW, so, mem⟩
      refine ⟨_, rfl, kk H2 fq rs' s2 hfq ⟨so, fun r => ⟨fun z => ((mem r).mp z).1, fun z => (mem r).mpr ⟨z, ?_⟩⟩⟩ hW⟩
      have := (M.rg r z).2.1
      omega
end
end Ho
set_option Elab.async false
set_option linter.all false
set_option maxRecDepth 100000
set_option maxHeartbeats 4000000
namespace Ho
open PySem L2
def sp_lsound : Sp := fun vs H Q _ => ∃ m q ds l o t rs, vs = [.ref m] ∧ LawM H m q ds l o t rs ∧ rs.length ≤ 900 ∧ (∀ r ∈ rs, r.1.2 ≤ t ∧ (r.2 = "in" ∨ r.2 = "out")) ∧
  ∀ (H' : Hp) (rs' : List RowT), Same H H' → Srt rs' rs → Q (.bl (soundW o (runP l t rs').1)) H'
section
variable {P : Program} {w : World} {K : PySem.W.Frag} {mg : Str → Option Value} {base : Heap} {k : Nat} {f C aW cBH cBR cBT : Addr}
theorem sc_lsound : FnScope ["_law_m", "_law_told", "_law_want"] ["_law_m"] (defScope s_lsound) := ⟨rfl, rfl, rfl, by decide +kernel, rfl, by decide +kernel, by decide +kernel⟩
theorem ok_lsound (F : Top1 K "_law_is_sound" "_law_is_sound" s_lsound f ["_law_m"]) (T : Bl mg) (G_lwants : Fn P w K mg base k "_law_wants" ["_law_m"] sp_lwants) :
    ∃ fd, FnOk P w K mg base (CXe P w) (k + 1) f fd ["_law_m"] sp_lsound ∧ Binds K fd ["_law_m"] [] := by
  refine F.okN sc_lsound (fun vs H Q E h => ?_) (fun cdv A outer s H vs Q E hr h => ?_)
  · obtain ⟨_, _, _, _, _, _, _, rfl, _⟩ := h
    rfl
  · obtain ⟨m, q, ds, l, o, t, rs, rfl, M, hsz, hrs, kk⟩ := h
    have hu := hu_of hr
    have nd := sc_lsound.nd
    refine ⟨_, (pss_cons (ps_setLc (i := 1) (own := [("_law_want", 2)]) (g := gName 2) (tt := tYes) (te := tOp (rIxT K) (tVar 2) (tC (.int 3))) rfl nd rfl rfl (sw_true rfl rfl rfl (by decide +kernel)) (pi_list (pcall G_lwants hr (by rfl) passN (pa_cons (pv 0) pa_nil))) (blkOk_by (own := [("_law_want", 2)]) (N := ["_law_m", "_law_told", "_law_want"]) (sc := defScope s_lsound) (by decide +kernel)) (fun _ _ _ _ _ => by exact (pg_name (i := 2) nd rfl (Or.inl rfl))) (fun _ _ _ _ _ => by exact pts_nil) (fun _ _ _ _ _ => by exact (pe_ix ix_tup (pv 2) pe_int (fun _ _ => rfl))))
      (pss_one (ps_ret (pe_and (pe_cmpR op_notIn_seq pe_str (pv 1) (by rfl)) (pe_one (pe_cmpR op_le (pe_callB call_len_seq (by rfl) T.b_len PySem.boot_len (pa_cons (pv 1) pa_nil)) (pe_dget hu (pv 0) pe_str (fun _ _ => rfl)) (nomark _))))))), ?_⟩
    refine ⟨_, rfl, m, q, ds, l, o, t, rs, rfl, M, hsz, hrs, fun H1 fq rs' s1 _ hS hW => ?_⟩
    obtain ⟨qs, hq, pq⟩ := hW
    have hrl : (runP l t rs').1.length ≤ 900 := Nat.le_trans (run_len rs') (Nat.le_trans (len_le hS.1 fun r hr => (hS.2 r).mp hr) hsz)
    have M1 := M.same s1
    have kk := fun H' s' => kk H' rs' s' hS
    generalize (runP l t rs').1 = ws at pq hrl kk
    have hlq : qs.length = ws.length := Paired.length pq
    refine ⟨fq, rfl, ⟨_, SqL.of hq⟩, fun D hD => ?_⟩
    refine lc_list (K := K) (a := fq) (xs := qs.map V.ref) (fun i H2 => Same H1 H2 ∧ H2 D = some (.lst (((ws.take i).map (·.2)).map V.str))) ⟨(Ext.new (S := []) hD).same, upd_same⟩ (fun i H2 _ h => SqL.of (h.1 _ _ hq)) ?_ ?_
    · rintro i y H2 hi ⟨s2, hD2⟩
      rw [List.getElem?_map] at hi
      cases eq : qs[i]? with
      | none => rw [eq] at hi; cases hi
      | some qa =>
        rw [eq] at hi
        cases hi
        have hlt : i < qs.length := (List.getElem?_eq_some_iff.mp eq).1
        obtain ⟨wn, hwn, hqa⟩ := paired_at pq eq
        have et : ws.take (i + 1) = ws.take i ++ [wn] := by rw [List.take_succ, hwn]; rfl
        refine ⟨rfl, ?_⟩
        refine yes ?_
        refine ⟨_, rfl, qa, _, 3, _, rfl, rfl, SqT.of (s2 _ _ hqa), rfl, _, hD2, (by rw [List.length_map, List.length_map, List.length_take]; exact small1000 (by omega)), fun c oc hc => ?_, ?_⟩
        · have nc : c ≠ D := fun z => by rw [z, hD] at hc; cases hc
          rw [upd_ne nc]; exact s2 _ _ hc
        · rw [upd_same, et, List.map_append, List.map_append]; rfl
    · rintro H2 ⟨s2, hD2⟩
      rw [List.take_of_length_le (by rw [List.length_map]; omega)] at hD2
      have fl : ((ws.map (·.2)).map V.str).all flatV = true := by
        rw [List.all_eq_true]
        intro v hv
        obtain ⟨z, _, rfl⟩ := List.mem_map.mp hv
        rfl
      have hin := inV_strs "twice" (ws.map (·.2))
      have kk := kk H2 (s1.trans s2)
      have M2 := M1.same s2
      refine ⟨_, rfl, D, _, rfl, .inl (SqL.of hD2), rfl, fl, _, rfl, ?_⟩
      rw [hin]
      unfold soundW at kk
      by_cases ht : ("twice" : Str) ∈ ws.map (·.2)
      · rw [decide_eq_true ht] at kk ⊢
        exact iteF kk
      · rw [decide_eq_false ht] at kk ⊢
        refine iteT ⟨_, rfl, D, _, rfl, .inl (SqL.of hD2), _, rfl, m, _, rfl, g_lost M2.ob, _, _, rfl, rfl, ?_⟩
        rw [List.length_map, List.length_map]
        exact kk
end
end Ho
set_option Elab.async false
set_option linter.all false
set_option maxRecDepth 100000
set_option maxHeartbeats 4000000
namespace Ho
open PySem L2
/-! ### steps of a badge, and what is left behind each moment -/
/-- before, behind, price -/
abbrev Sp3 := Int × Int × Int
def optsOf (w : Option Str) (p : Int) : List Sp3 := if w = some ("in" : Str) then [(0, 1, 0)] else if w = some ("out" : Str) then [(1, 0, 0)] else [(0, 0, 0), (0, 1, p), (1, 0, p), (1, 1, 0)]
def prL (l t m : Int) : Int := if m + l < t then 1 else 0
def stepsOf (f : Int → Option Str) (l t : Int) (n : Nat) : List (List Sp3) := (List.range n).map fun (j : Nat) => optsOf (f ((j : Int) + 1)) (prL l t ((j : Int) + 1))
def through (oss : List (List Sp3)) (m : Nat) (s : Int) : List (List Sp3) := oss.take (m - 1) ++ [(oss.getD (m - 1) []).filter fun o => decide (o.2.1 = s)] ++ oss.drop m
def rAt (r : Int × Int) (b : Int) : Int := if b = 0 then r.1 else r.2
/-- the prices on from a state, of which the least is wanted -/
def onFrom (s : Int) (os : List Sp3) (r : Int × Int) : List Int := (os.filter fun o => decide (o.1 = s)).map fun o => o.2.2 + rAt r o.2.1
/-- m is the least of ns; 1000 if there is none -/
def MinD (ns : List Int) (m : Int) : Prop := (ns = [] ∧ m = 1000) ∨ (m ∈ ns ∧ ∀ y ∈ ns, m ≤ y)
theorem MinD.uniq {ns : List Int} {m m' : Int} (h : MinD ns m) (h' : MinD ns m') : m = m' := by
  rcases h with ⟨e, h⟩ | ⟨h1, h2⟩ <;> rcases h' with ⟨e', h'⟩ | ⟨h1', h2'⟩
  · rw [h, h']
  · rw [e] at h1'; cases h1'
  · rw [e'] at h1; cases h1
  · have := h2 _ h1'
    have := h2' _ h1
    omega
/-- a step's states are 0 or 1 -/
def OkO (os : List Sp3) : Prop := ∀ o ∈ os, (o.1 = 0 ∨ o.1 = 1) ∧ (o.2.1 = 0 ∨ o.2.1 = 1) ∧ (o.2.2 = 0 ∨ o.2.2 = 1)
/-- rests, moment by moment from the first -/
inductive Rests : List (List Sp3) → List (Int × Int) → Prop
  | nil : Rests [] [(0, 0)]
  | cons {os : List Sp3} {oss : List (List Sp3)} {r r' : Int × Int} {rr : List (Int × Int)} : Rests oss (r :: rr) → MinD (onFrom 0 os r) r'.1 → MinD (onFrom 1 os r) r'.2 → Rests (os :: oss) (r' :: r :: rr)
theorem Rests.len {oss : List (List Sp3)} {rr : List (Int × Int)} (h : Rests oss rr) : rr.length = oss.length + 1 := by
  induction h with
  | nil => rfl
  | cons _ _ _ ih => simp [ih]
theorem Rests.bound {oss : List (List Sp3)} {rr : List (Int × Int)} (h : Rests oss rr) (ok : ∀ os ∈ oss, OkO os) : ∀ r ∈ rr, (0 ≤ r.1 ∧ r.1 ≤ 1000 + oss.length) ∧ (0 ≤ r.2 ∧ r.2 ≤ 1000 + oss.length) := by
  induction h with
  | nil => intro r hr; rw [List.mem_singleton.mp hr]; simp
  | @cons os oss r r' rr h1 m0 m1 ih =>
    have ih := ih fun os hos => ok os (List.mem_cons_of_mem _ hos)
    have hb := ih r (List.mem_cons_self ..)
    have one : ∀ s m, MinD (onFrom s os r) m → 0 ≤ m ∧ m ≤ 1000 + ((os :: oss).length : Int) := fun s m hm => by
      rcases hm with ⟨_, rfl⟩ | ⟨hm, _⟩
      · simp only [List.length_cons]; omega
      · unfold onFrom at hm
        obtain ⟨o, ho, rfl⟩ := List.mem_map.mp hm
        have hok := ok os (List.mem_cons_self ..) o (List.mem_filter.mp ho).1
        unfold rAt
        simp only [List.length_cons]
        split <;> omega
    intro q hq
    rcases List.mem_cons.mp hq with rfl | hq
    · exact ⟨one 0 _ m0, one 1 _ m1⟩
    · have := ih q hq
      simp only [List.length_cons]
      omega
theorem ok_optsOf (w : Option Str) {p : Int} (hp : p = 0 ∨ p = 1) : OkO (optsOf w p) := by
  unfold optsOf
  split
  · intro o ho; rw [List.mem_singleton.mp ho]; simp
  · split
    · intro o ho; rw [List.mem_singleton.mp ho]; simp
    · intro o ho
      simp only [List.mem_cons, List.not_mem_nil, or_false] at ho
      rcases ho with rfl | rfl | rfl | rfl <;> simp [hp]
theorem prL01 (l t m : Int) : prL l t m = 0 ∨ prL l t m = 1 := by
  unfold prL
  split
  · exact .inr rfl
  · exact .inl rfl
theorem stepsOf_len (f : Int → Option Str) (l t : Int) (n : Nat) : (stepsOf f l t n).length = n := by simp [stepsOf]
theorem ok_through {oss : List (List Sp3)} (ok : ∀ os ∈ oss, OkO os) (m : Nat) (s : Int) : ∀ os ∈ through oss m s, OkO os := fun os hos => by
  unfold through at hos
  rcases List.mem_append.mp hos with hos | hos
  · rcases List.mem_append.mp hos with hos | hos
    · exact ok os (List.mem_of_mem_take hos)
    · rw [List.mem_singleton.mp hos]
      intro o ho
      have ho := (List.mem_filter.mp ho).1
      by_cases hm : m - 1 < oss.length
      · rw [List.getD_eq_getElem?_getD, List.getElem?_eq_getElem hm] at ho
        exact ok _ (List.getElem_mem hm) o ho
      · rw [List.getD_eq_getElem?_getD, List.getElem?_eq_none (by omega)] at ho
        cases ho
  · exact ok os (List.mem_of_mem_drop hos)
end Ho
set_option Elab.async false
set_option linter.all false
set_option maxRecDepth 100000
set_option maxHeartbeats 4000000
namespace PySem.SeqAt
open AutoSeq1 (wpAny_loadPart')
open MeetsSeq MeetsSeq2 MeetsSeq3 SeqRoads2
/-! ### which of two tuples is less -/
def LsAt (A : Around) (s : Shared) (x y : Value) (b : Bool) : Prop :=
  ∀ (prog : Program) (w : World) (E : Value → Shared → Prop) (Q : Value → Shared → Prop), Q (.bool b) s → wpAny (model prog w) A (richCompare .Lt x y) Q E s
/-- by the first pair that differs, then by the lengths -/
def lsZ (m n : Nat) : List (Bool × Bool) → Bool
  | [] => decide (m < n)
  | (e, g) :: r => if e then lsZ m n r else g
inductive ZAt (A : Around) (s : Shared) : List (Value × Value) → List (Bool × Bool) → Prop
  | nil : ZAt A s [] []
  | cons {x y : Value} {e g : Bool} {r : List (Value × Value)} {t : List (Bool × Bool)} : EqAt A s x y e → (e = false → LsAt A s x y g) → ZAt A s r t → ZAt A s ((x, y) :: r) ((e, g) :: t)
theorem tuple_lsAt (l b : Addr) (xs ys : Array Value) (n1 n2 : Nat) (d1 d2 : Option Addr) (sl1 sl2 : Array (Option Value)) (zs : List (Bool × Bool)) :
    Meets (Builtin.«tuple.__lt__» ⟨[.ref l, .ref b], []⟩)
      (fun A R s => s.heap.get? l = some { cls := .type "tuple", dict := d1, data := .seq xs n1, slots := sl1 } ∧ s.heap.get? b = some { cls := .type "tuple", dict := d2, data := .seq ys n2, slots := sl2 } ∧
        ZAt A.in1 s (xs.toList.zip ys.toList) zs ∧ R (.ok (.ret (.bool (lsZ xs.size ys.size zs)))) s) :=
  .of_wp fun prog w A R s h => by
    obtain ⟨h0, g0, d0, t0, o0⟩ := s
    obtain ⟨hl, hb, hz, h⟩ := h
    have f2 := AutoSeq1.sub_tuple_tuple
    wp_walk using wpAny_loadPart' hl, wpAny_loadPart' hb, wpAny_forIn_list _ (fun rest b s' => b.1 = none ∧ s' = ⟨h0, g0, d0, t0, o0⟩ ∧ ∃ zr, ZAt A.in1 ⟨h0, g0, d0, t0, o0⟩ rest zr ∧ R (.ok (.ret (.bool (lsZ xs.size ys.size zr)))) ⟨h0, g0, d0, t0, o0⟩) _
    case turn =>
      rintro ⟨y, x⟩ rest b s' ⟨hb', rfl, zr, hz', hR⟩
      cases hz' with
      | @cons _ _ e g _ t he hg ht =>
        refine wpAny_bind (he prog w _ _ ?_)
        cases e with
        | true =>
          wp_walk
          exact ⟨rfl, rfl, t, ht, hR⟩
        | false =>
          rw [if_pos (show (!false) = true from rfl)]
          refine wpAny_bind (wpAny_rule (wpAny_bind (hg rfl prog w _ _ ?_)))
          refine wpAny_bind (wpAny_pure (wpAny_pure ?_))
          exact wpAny_pure ⟨_, rfl, hR⟩
    case fin =>
      rintro ⟨b1, b2⟩ s' ⟨hb', rfl, zr, hz', hR⟩
      simp only at hb'
      subst hb'
      cases hz' with
      | nil =>
        wp_walk
        exact ⟨_, rfl, by simpa [Builtin.Tuple.tupleCompareSizes, lsZ] using hR⟩
    case h =>
      exact ⟨rfl, rfl, zs, hz, h⟩
section
variable {A : Around} {s : Shared}
theorem LsAt.tuples {l b : Addr} {xs ys : Array Value} {zs : List (Bool × Bool)} (hl : s.heap.IsTuple l xs) (hb : s.heap.IsTuple b ys) (hu : A.units < cLine) (hz : ZAt A.in1 s (xs.toList.zip ys.toList) zs) :
    LsAt A s (.ref l) (.ref b) (lsZ xs.size ys.size zs) := fun prog w E Q h => by
  obtain ⟨⟨c1, d1, dt1, sl1⟩, ho, hc, n1, hd⟩ := id hl
  obtain ⟨⟨c2, d2, dt2, sl2⟩, ho2, hc2, n2, hd2⟩ := id hb
  simp only at hc hd hc2 hd2
  subst hc hd hc2 hd2
  exact richCompare_meets_room (op := .Lt) ⟨_, ho, rfl⟩ ⟨_, ho2, rfl⟩ F.slot_tuple_lt F.entry_tuple_lt (F.args_tuple_lt_2 _ _) (tuple_lsAt l b xs ys n1 n2 d1 d2 sl1 sl2 zs)
    ⟨ho, ho2, hz, show Value.bool (lsZ xs.size ys.size zs) ≠ Value.notImplemented ∧ Q (.bool (lsZ xs.size ys.size zs)) s from ⟨(fun x => nomatch x), h⟩⟩ hu
theorem LsAt.ints {a b : Int} {t u : Tok} : LsAt A s (.int a t) (.int b u) (decide (a < b)) := fun prog w E Q h => wpAny_lt_int h
end
end PySem.SeqAt
set_option Elab.async false
set_option linter.all false
set_option maxRecDepth 100000
set_option maxHeartbeats 4000000
namespace PySem
/-! ### min over things whose order the state tells -/
section
variable {prog : Program} {w : World} {A : Around} {R : Result → Shared → Prop} {I : Addr} {fp wr : List Addr} {n : Nat} {P : Nat → Value → Prop} {St : Nat → Heap → Prop} {J : Heap → Prop}
end
section
variable {prog : Program} {w : World} {A : Around} {E : Value → Shared → Prop} {s : Shared}
end
end PySem
set_option Elab.async false
set_option linter.all false
set_option maxRecDepth 100000
set_option maxHeartbeats 4000000
namespace PySem
/-! ### min(xs, default = d) -/
section
variable {prog : Program} {w : World} {A : Around} {R : Result → Shared → Prop} {I : Addr} {fp wr : List Addr} {n : Nat} {P : Nat → Value → Prop} {St : Nat → Heap → Prop}
theorem minD_loop {d : Value} (W : Walks prog w A.in1 I fp wr n P St) (bt : Nat → Nat → Bool) (cmp : CmpOf prog w A.in1 .Lt P bt) (S : Addr) (nS : S ∉ fp) :
    ∀ (k j : Nat) (s : Shared) (best : Value) (c : Nat), n - (j + 1) = k → j + 1 ≤ n → St (j + 1) s.heap → P (argBest bt j) best → s.heap.get? S = some { cls := .type "list", dict := none, data := .seq #[best, best] c, slots := #[] } →
      (∀ v h' tk, P (argBest bt (n - 1)) v → (∀ b o, b ∉ wr → b ≠ S → s.heap.get? b = some o → h'.get? b = some o) → R (.ok (.ret v)) { s with heap := h', toks := tk }) →
      codeAny (model prog w) A (.builtin "min.loop" ⟨[.ref I, .none, .ref S], [("default", d)]⟩) R s := by
  have nW : S ∉ wr := fun z => nS (W.sub _ z)
  have nm : (toString "min" ++ toString ".loop" : String) = "min.loop" := by decide
  intro k
  induction k with
  | zero =>
    intro j s best c ek ej hst hB hS out
    have en : j + 1 = n := by omega
    refine codeAny_builtin (F.entry_min_loop) ?_
    rw [Around.under_plainId (F.plain_min_loop) _]
    show wpAny _ (A.in1) (seqItems? (.ref S) >>= _) _ _ s
    refine (wpAny_bind (wpAny_seqItems hS rfl ?_))
    show wpAny _ (A.in1) (tryCatch (pyNext (.ref I)) _ >>= _) _ _ s
    refine wpAny_bind (wpAny_tryCatch (W.done s _ _ (en ▸ hst) fun h1 tk k1 => ?_))
    have hS1 := k1 S _ nW hS
    show wpAny _ (A.in1) (updateSeq S (fun _ => #[]) >>= _) _ _ _
    refine wpAny_bind (wpAny_updateSeq hS1 rfl (wpAny_bind (wpAny_letGo (wpAny_pure ?_))))
    exact out best _ tk (by rw [← en]; exact hB) fun b o hb hn e => (Heap.get?_update_other _ _ hn.symm).trans (k1 b o hb e)
  | succ k ih =>
    intro j s best c ek ej hst hB hS out
    have jl : j + 1 < n := by omega
    refine codeAny_builtin (F.entry_min_loop) ?_
    rw [Around.under_plainId (F.plain_min_loop) _]
    show wpAny _ (A.in1) (seqItems? (.ref S) >>= _) _ _ s
    refine (wpAny_bind (wpAny_seqItems hS rfl ?_))
    show wpAny _ (A.in1) (tryCatch (pyNext (.ref I)) _ >>= _) _ _ s
    refine wpAny_bind (wpAny_tryCatch (W.item (j + 1) s _ _ jl hst fun v h1 tk hP st1 k1 => ?_))
    have hS1 := k1 S _ nW hS
    show wpAny _ (A.in1) (tryCatch (holding [v, v] (richCompare .Lt v best >>= _)) _ >>= _) _ _ _
    refine wpAny_bind (wpAny_tryCatch (wpAny_holding (wpAny_bind (cmp (j + 1) (argBest bt j) v best _ _ _ hP hB ?_))))
    refine wpAny_bind (wpAny_holding (wpAny_truthy_bool (wpAny_bind (wpAny_letGo (wpAny_pure ?_)))))
    cases eb : bt (j + 1) (argBest bt j) with
    | true =>
      simp only [if_true]
      refine wpAny_bind (wpAny_updateSeq hS1 rfl (wpAny_bind (wpAny_letGo ?_)))
      rw [nm]
      have up : ∀ b o, b ≠ S → h1.get? b = some o → (h1.update S (Obj.mapSeq fun _ => #[v, v])).get? b = some o := fun b o hn e => (Heap.get?_update_other _ _ hn.symm).trans e
      refine wpAny_pure ⟨plainId_quiet (F.plain_min_loop) _, ih (j + 1) _ v _ (by omega) jl (W.frame _ _ _ st1 fun b hf o e => up b o (fun z => nS (z ▸ hf)) e)
        (by simp only [argBest, eb, if_true]; exact hP) (Heap.get?_update_self _ hS1 rfl) fun v2 h2 tk2 hP2 k2 => out v2 h2 tk2 hP2 fun b o hb hn e => k2 b o hb hn (up b o hn (k1 b o hb e))⟩
    | false =>
      simp only [Bool.false_eq_true, if_false]
      refine wpAny_bind (wpAny_letGo ?_)
      rw [nm]
      exact wpAny_pure ⟨plainId_quiet (F.plain_min_loop) _, ih (j + 1) _ best c (by omega) jl st1 (by simp only [argBest, eb, Bool.false_eq_true, if_false]; exact hB) hS1 fun v2 h2 tk2 hP2 k2 => out v2 h2 tk2 hP2 fun b o hb hn e => k2 b o hb hn (k1 b o hb e)⟩
end
section
variable {prog : Program} {w : World} {A : Around} {E : Value → Shared → Prop} {s : Shared}
theorem treeK {id : String} {b : Builtin} {args : List Value} {kw : List (Str × Value)} {Q : Value → Shared → Prop} (hk : builtinKind id = none) (hp : plainId id = true) (hb : entryFor table id = some b) (ha : argsOk id ⟨args, kw⟩)
    (hc : wpAny (model prog w) A.in1 (b ⟨args, kw⟩) (fun fin s' => match fin with
      | .done f => (match (Except.ok f : Result) with | .ok (.ret v) => Q v s' | .ok _ => False | .error e => E e s')
      | .again c => c.quiet = true ∧ codeAny (model prog w) A c (fun r s' => match r with | .ok (.ret v) => Q v s' | .ok _ => False | .error e => E e s') s') E s) :
    wpAny (model prog w) A (call (.builtin id) args kw) Q E s := by
  refine wpAny_call (codeAny_call_builtin hp hb ?_)
  simp only [checkBuiltinCall, hk]
  cases hs : Manifest.signature? id with
  | none => exact wpAny_pure hc
  | some sg =>
    have hz : Bind.checkArgs id sg ⟨args, kw⟩ = pure () := by simpa only [argsOk, hs] using ha
    simp only [hz]
    exact wpAny_pure hc
theorem args_minD (a d : Value) : argsOk "min" ⟨[a], [("default", d)]⟩ := by unfold argsOk; kernel_rfl
theorem minD_call {x d : Value} {Q : Value → Shared → Prop}
    (h : wpAny (model prog w) A.in1 (pyIter x) (fun it s2 => ∃ I fp wr n P St bt, it = .ref I ∧ Walks prog w A.in1 I fp wr n P St ∧ St 0 s2.heap ∧ (∀ b ∈ fp, b < s2.heap.objs.size) ∧ CmpOf prog w A.in1 .Lt P bt ∧
      (n = 0 → ∀ h' tk, (∀ b o, b ∉ wr → s2.heap.get? b = some o → h'.get? b = some o) → Q d { s2 with heap := h', toks := tk }) ∧
      (0 < n → ∀ v h' tk, P (argBest bt (n - 1)) v → (∀ b o, b ∉ wr → s2.heap.get? b = some o → h'.get? b = some o) → Q v { s2 with heap := h', toks := tk })) E s) :
    wpAny (model prog w) A (call (.builtin "min") [x] [("default", d)]) Q E s := by
  have nm : (toString "min" ++ toString ".loop" : String) = "min.loop" := by decide
  refine treeK F.kind_min F.plain_min (F.entry_min) (args_minD x d) ?_
  show wpAny _ (A.in1) (Builtin.Builtins.bindParams "min" ["key", "default"] 0 ⟨[], [("default", d)]⟩ >>= _) _ _ s
  refine wpAny_bind (wpAny_of_eq (show (Builtin.Builtins.bindParams "min" ["key", "default"] 0 ⟨[], [("default", d)]⟩) = pure [none, some d] from rfl) (wpAny_bind (wpAny_pure ?_)))
  refine wpAny_bind (wpAny_mono h (fun it s2 hh => ?_) fun _ _ z => z)
  obtain ⟨I, fp, wr, n, P, St, bt, rfl, W, st0, bd, cmp, out0, out⟩ := hh
  refine wpAny_bind (wpAny_newObj_type ?_)
  have nS : s2.heap.objs.size ∉ fp := fun z => Nat.lt_irrefl _ (bd _ z)
  have nW : s2.heap.objs.size ∉ wr := fun z => nS (W.sub _ z)
  have pu : ∀ b o, s2.heap.get? b = some o → (s2.heap.push { cls := .type "list", data := .seq #[] }).get? b = some o := fun b o e => Heap.get?_push_of_some _ e
  rw [nm]
  refine wpAny_pure ⟨plainId_quiet (F.plain_min_loop) _, codeAny_builtin (F.entry_min_loop) ?_⟩
  rw [Around.under_plainId (F.plain_min_loop) _]
  have hS : (s2.heap.push { cls := .type "list", data := .seq #[] }).get? s2.heap.objs.size = some { cls := .type "list", data := .seq #[] } := Heap.get?_push_size _ rfl
  show wpAny _ (A.in1) (seqItems? (.ref s2.heap.objs.size) >>= _) _ _ _
  refine (wpAny_bind (wpAny_seqItems hS rfl ?_))
  show wpAny _ (A.in1) (tryCatch (pyNext (.ref I)) _ >>= _) _ _ _
  by_cases pos : n = 0
  · subst pos
    refine wpAny_bind (wpAny_tryCatch (W.done _ _ _ (W.frame _ _ _ st0 fun b _ o e => pu b o e) fun h1 tk k1 => ?_))
    refine wpAny_bind (wpAny_rule (wpAny_pure ?_))
    exact out0 rfl h1 tk fun b o hb e => k1 b o hb (pu b o e)
  · have pos : 0 < n := by omega
    refine wpAny_bind (wpAny_tryCatch (W.item 0 _ _ _ pos (W.frame _ _ _ st0 fun b _ o e => pu b o e) fun v h1 tk hP st1 k1 => ?_))
    have hS1 := k1 _ _ nW hS
    show wpAny _ (A.in1) (updateSeq s2.heap.objs.size (fun _ => #[v, v]) >>= _) _ _ _
    refine wpAny_bind (wpAny_updateSeq hS1 rfl ?_)
    rw [nm]
    have up : ∀ b o, b ≠ s2.heap.objs.size → h1.get? b = some o → (h1.update s2.heap.objs.size (Obj.mapSeq fun _ => #[v, v])).get? b = some o := fun b o hn e => (Heap.get?_update_other _ _ hn.symm).trans e
    refine wpAny_pure ⟨plainId_quiet (F.plain_min_loop) _, minD_loop W bt cmp s2.heap.objs.size nS _ 0 _ v _ rfl pos (W.frame _ _ _ st1 fun b hf o e => up b o (fun z => nS (z ▸ hf)) e)
      hP (Heap.get?_update_self _ hS1 rfl) fun v2 h2 tk2 hP2 k2 => out pos v2 h2 tk2 hP2 fun b o hb e => ?_⟩
    have nb : b ≠ s2.heap.objs.size := Nat.ne_of_lt (Heap.lt_size e)
    exact k2 b o hb nb (up b o nb (k1 b o hb (pu b o e)))
end
end PySem
namespace L2
open PySem PySem.Spec PyProof.Rows
/-! ### a built-in called with keywords -/
def CallRK (X : Cx) (f : Value) (ks : List Str) (r : List V → List V → Hp → VK → Prop) : Prop :=
  ∀ (pins : List (Addr × Obj)) (s : Shared) (σ : St) (H : Hp) (vs : List V) (us : List Value) (zs : List V) (ws : List Value) (Q : VK), Inv X pins σ H s → Vals vs us → Vals zs ws → r vs zs H Q → wpAny (model X.prog X.w) X.A (call f us (ks.zip ws)) (EP X pins σ Q) X.xe s
def tCBK (r : List V → List V → Hp → VK → Prop) (t tk : TA) : TE := fun σ H Q => t σ H fun vs H1 => tk σ H1 fun zs H2 => r vs zs H2 Q
section
variable {X : Cx} {id : String} {r : List V → List V → Hp → VK → Prop} {x : Str} {p pos : Pos} {e : Expr} {es : List Expr} {kws : List Keyword} {t tk : TA} {ks : List Str}
theorem pe_callBK (hc : CallRK X (.builtin id) ks r) (hg : Gl X x) (hm : X.mg x = none) (hv : bootBuiltins x = some (.builtin id)) (ha : PA X (e :: es) t) (hkw : PK X kws tk) (hks : (backToKw pos (keywordEach kws X.env)).filterMap (·.1) = ks := by rfl) (hn : x ≠ "__name__" := by decide) (hdb : (x == ("__debug__" : Str)) = false := by decide)
    (he : backTo pos (starEach (e :: es) X.env) = (false, eval e X.env) :: backTo pos (starEach es X.env) := by rfl) (hpl : (backTo pos (starEach (e :: es) X.env)).any (·.1) = false := by rfl) (hall : (backToKw pos (keywordEach kws X.env)).all (·.1.isSome) = true := by rfl) (hnn : (backToKw pos (keywordEach kws X.env)).any (·.1.isNone) = false := by rfl) :
    PE X (.Call (.Name x p) (e :: es) kws pos) (tCBK r t tk) := by
  intro pins s σ H Q I h
  refine wpAny_Call_Name_kw (ld_blt I hg hm hv ?_ hn hdb)
  refine callWith_kw (thn (ha pos pins s σ H _ I h) fun us s1 ⟨vs, H1, I1, r1, q1⟩ => thn (hkw pos pins s1 σ H1 _ I1 q1) fun ws s2 ⟨zs, H2, I2, rz, q2⟩ => ?_) he hpl hall hnn
  rw [hks]
  exact hc pins s2 σ H2 vs us zs ws Q I2 r1 rz q2
def rMinD (K : PySem.W.Frag) : List V → List V → Hp → VK → Prop := fun vs zs H Q => ∃ (a : Addr) (ns : List Int) (n : Int), vs = [.ref a] ∧ zs = [.int n] ∧ SqL K H a (ns.map V.int) ∧ (ns = [] → Q (.int n) H) ∧ (ns ≠ [] → ∀ m, m ∈ ns → (∀ y, y ∈ ns → m ≤ y) → Q (.int m) H)
theorem ck_minD (hc : X.calm = true) : CallRK X (.builtin "min") ["default"] (rMinD X.K) := by
  intro pins s σ H vs us zs ws Q I r rz h
  obtain ⟨a, ns, n, rfl, rfl, hs, q0, q1⟩ := h
  rw [Vals.ref1 r]
  obtain ⟨u, rfl, t, rfl⟩ := vals1 rz
  obtain ⟨its, rv, pl, _⟩ := I.list hs
  have hl := pl.isList
  have hi := rv.ints
  obtain ⟨xs, e⟩ := hi.allInts.items
  have hns : ns = xs.toList.map (·.1) := by rw [← hi.numsOf, ← nums_intItems, ← e]
  rw [e] at hl
  refine minD_call (iter_intList hl fun s2 e2 st hfp hlI => ?_)
  subst e2
  refine ⟨_, _, _, _, _, _, _, rfl, Walks.list (A := X.A.in1) (I.ok.hd hc) _ a hlI (intItems xs), st, hfp, CmpOf.ints_lt (numAt xs) (fun _ _ => intItems_at), fun hz h' tk hk => ?_, fun hz v h' tk hP hk => ?_⟩
  · have hx : xs.size = 0 := by simpa [intItems] using hz
    have : ns = [] := by rw [hns]; exact List.length_eq_zero_iff.mp (by rw [List.length_map, Array.length_toList]; exact hx)
    exact ⟨.int n, H, I.kept (old_kept hk), ⟨_, rfl⟩, q0 this⟩
  · have hx : 0 < xs.size := by simpa [intItems] using hz
    have hne : ns ≠ [] := fun z => by
      rw [z] at hns
      have : (xs.toList.map (·.1)).length = 0 := by rw [← hns]; rfl
      rw [List.length_map, Array.length_toList] at this
      omega
    have hv : (intItems xs)[argBest (fun i j => decide (numAt xs i < numAt xs j)) (xs.size - 1)]? = some v := by simpa [intItems] using hP
    obtain ⟨t', rfl⟩ := intItems_at hv
    obtain ⟨h1, h2⟩ := argBest_lt (numAt xs) (xs.size - 1)
    refine ⟨.int _, H, I.kept (old_kept hk), ⟨_, rfl⟩, q1 hne _ ?_ fun y hy => ?_⟩
    · rw [hns, numAt_eq]; exact getD_mem (by rw [List.length_map, Array.length_toList]; omega)
    · rw [hns] at hy
      obtain ⟨j, hj, rfl⟩ := mem_getD hy
      rw [List.length_map, Array.length_toList] at hj
      rw [← numAt_eq]; exact h2 j (by omega)
end
end L2
set_option Elab.async false
set_option linter.all false
set_option maxRecDepth 100000
set_option maxHeartbeats 4000000
namespace L2
open PySem PySem.Spec PyProof.Rows
theorem Vals.rev {xs : List V} {us : List Value} (r : Vals xs us) : Vals xs.reverse us.reverse := by
  induction r with
  | nil => exact .nil
  | cons h _ ih =>
    rw [List.reverse_cons, List.reverse_cons]
    exact Paired.snoc ih h
section
variable {X : Cx} {e st : Expr} {p2 pos : Pos} {te : TE}
/-! ### xs[::-1] of a list -/
def tRev (K : PySem.W.Frag) (te : TE) : TE := fun σ H Q => te σ H fun x H1 => ∃ a xs, x = .ref a ∧ SqL K H1 a xs ∧ ∀ p, H1 p = none → Q (.ref p) (upd H1 p (.lst xs.reverse))
theorem pe_rev (he : PE X e te) (hst : PE X st (tC (.int (-1)))) (hs : ∀ (l sl : Addr), ∃ ops, subscripted (.Slice none none (some st) p2) false (.ref l) (.ref sl) = operate ops (getItem (.ref l) (.ref sl)) := by intro l sl; first | exact ⟨[.ref l, .ref sl], by with_unfolding_all rfl⟩ | exact ⟨[.ref sl, .ref l], by with_unfolding_all rfl⟩)
    (ht : ∀ v r, letTemporaryGo e v r = pure () := by intro _ _; with_unfolding_all rfl) : PE X (.Subscript e (.Slice none none (some st) p2) pos) (tRev X.K te) := by
  intro pins s σ H Q I h
  refine Subscript_ (thn (he pins s σ H _ I h) fun v s1 ⟨x, H1, I1, r1, q1⟩ => ?_)
  obtain ⟨a, xs, rfl, hx, q⟩ := q1
  cases r1
  refine wpAny_Slice (wpAny_evalPart_none (wpAny_evalPart_none (wpAny_evalPart_some (thn (hst pins s1 σ H1 (fun y H2 => y = .int (-1) ∧ H2 = H1) I1 ⟨rfl, rfl⟩) fun vk s2 ⟨y, H2, I2, r2, q2⟩ => ?_))))
  obtain ⟨rfl, rfl⟩ := q2
  obtain ⟨tk, rfl⟩ := r2
  obtain ⟨its, r, pl, hz⟩ := I2.list hx
  have hlen := r.length
  have I3 : Inv X pins σ H2 { s2 with heap := s2.heap.push { cls := .type "slice", data := .fields #[.none, .none, .int (-1) tk] } } := I2.kept (t' := s2.toks) fun b ob q => Heap.get?_push_of_some _ q
  obtain ⟨ops, hs⟩ := hs a s2.heap.objs.size
  refine subscriptTail_ops (Heap.IsList.typeIs (s := { s2 with heap := s2.heap.push { cls := .type "slice", data := .fields #[.none, .none, .int (-1) tk] } }) (pl.isList.push _)) list_getitem_lookup
    (wpAny_getItem_list_slice (pl.isList.push _) (Heap.IsSliceOf.new ..) .none .none (.int _ _) (by decide) ?_ (by rw [List.size_toArray] <;> omega)) hs (ht _)
  rw [PySem.W.krv_pick]
  refine ⟨.ref _, _, I3.laid (t' := s2.toks) (o := .lst xs.reverse) (fun b ob q => Heap.get?_push_of_some _ q) (Nat.le_refl _) ?_, rfl, q _ (I3.hok.fresh (Nat.le_refl _))⟩
  exact ⟨by rw [List.length_reverse]; exact hz, its.reverse, 0, Vals.rev r, Heap.get?_push_size _ rfl⟩
end
end L2
set_option Elab.async false
set_option linter.all false
set_option maxRecDepth 100000
set_option maxHeartbeats 4000000
namespace L2
open PySem PySem.Spec PyProof.Rows
/-! ### {k: v for target in iter if ..}: as the layer's list comprehension -/
theorem dcLoop_any {prog : Program} {w : World} {A : Around} {R : Result → Shared → Prop} {s : Shared} {kx vx target iter : Expr} {ifs : List Expr} {scope : Scope} {pos : Pos} {it : Value} {D : Addr} {env : Env} (I : Nat → Shared → Prop)
    (turn : ∀ n s, I n s → wpAny (model prog w) A (pyNext it) (fun r s₁ => match r with
      | none => R (.ok .next) s₁
      | some v => wpAny (model prog w) A (letOwnedTupleGo target it v) (fun _ s₁' => wpAny (model prog w) A (assign target env v) (fun _ s₂ =>
          wpAny (model prog w) A (forIn ifs true fun c r => if r = true then do let ok ← isTrue c env (eval c env); pure (ForInStep.yield ok) else pure (ForInStep.yield r)) (fun ok s₃ =>
            if ok = true then wpAny (model prog w) A (eval kx env) (fun kv s₄ => wpAny (model prog w) A (eval vx env) (fun vv s₅ => wpAny (model prog w) A (dictSet D kv vv) (fun _ s₆ => ∃ m, m < n ∧ I m s₆)
                (notedBy (model prog w) A env fun e s' => R (.error e) s') s₅) (notedBy (model prog w) A env fun e s' => R (.error e) s') s₄) (notedBy (model prog w) A env fun e s' => R (.error e) s') s₃
            else ∃ m, m < n ∧ I m s₃) (notedBy (model prog w) A env fun e s' => R (.error e) s') s₂) (notedBy (model prog w) A env fun e s' => R (.error e) s') s₁') (notedBy (model prog w) A env fun e s' => R (.error e) s') s₁) (notedBy (model prog w) A env fun e s' => R (.error e) s') s)
    (n : Nat) (h : I n s) :
    codeAny (model prog w) A (.compLoop (.DictComp kx vx [⟨target, iter, ifs, 0⟩] scope pos) 0 it (.ref D) env) R s := by
  refine codeAny_loop rfl I (fun n s hI => ?_) n h
  show wpAny _ A ((compTurn (.DictComp kx vx [⟨target, iter, ifs, 0⟩] scope pos) 0 it (.ref D) env).onRaise (fun x => do noteFrame x env; theTreesLotGoes x)) _ _ s
  refine wpAny_noted ?_
  rw [compTurn_dict]
  refine wpAny_bind (wpAny_standAt (wpAny_bind (wpAny_mono (turn n s hI) (fun r s₁ h₁ => ?_) fun _ _ h' => h')))
  cases r with
  | none => exact wpAny_pure h₁
  | some v =>
    refine wpAny_bind (wpAny_mono h₁ (fun _ s₁' h₁' => ?_) fun _ _ h' => h')
    refine wpAny_bind (wpAny_mono h₁' (fun _ s₂ h₂ => wpAny_bind (wpAny_mono h₂ (fun ok s₃ h₃ => ?_) fun _ _ h' => h')) fun _ _ h' => h')
    cases ok with
    | false => exact wpAny_pure ⟨rfl, h₃⟩
    | true =>
      exact wpAny_bind (wpAny_bind (wpAny_mono h₃ (fun kv s₄ h₄ => wpAny_bind (wpAny_holding (wpAny_mono h₄ (fun vv s₅ h₅ => wpAny_bind (wpAny_standAt (wpAny_holding (wpAny_mono h₅ (fun _ s₆ h₆ => wpAny_pure ⟨rfl, h₆⟩) fun _ _ z => z)))) fun _ _ z => z))) fun _ _ z => z))
section
variable {X : Cx}
def tDc (wi : TI) (g : TG) (tt : TT) (tk tv : TE) (vs : List Nat) : TE := fun σ H Q => wi σ H fun J H1 => ∀ D, H1 D = none → ∃ W : Nat → Nat → Hp → Prop, (∃ m, W 0 m (upd H1 D (.dK []))) ∧ ∀ i m H, W i m H →
  (J.stop i H ∧ Q (.ref D) H) ∨ (J.go i H ∧ ∃ Nx : Hp → Prop, (∀ H', Nx H' → ∃ m', m' < m ∧ W (i + 1) m' H') ∧ ∀ x H', J.yld i H x H' → g x (wipe σ vs) H' fun σ2 H2 => wipe σ2 vs = wipe σ vs ∧ tt σ2 H2 fun b H3 =>
    if b = true then tk σ2 H3 fun y H4 => tv σ2 H4 fun z H5 => ∃ (kvs : List (Key × V)) (k : Key), H5 D = some (.dK kvs) ∧ y = kV k ∧ kvs.length < sizeLine ∧ Nx (upd H5 D (.dK (putK kvs k z))) else Nx H3)
theorem dc_core {pins : List (Addr × Obj)} {s : Shared} {σ : St} {H : Hp} {Q : VK} {kx vx tg iter : Expr} {ifs : List Expr} {scope : Scope} {own : List (Str × Nat)} {pos pos' : Pos} {wi : TI} {g : TG} {tt : TT} {tk tv : TE} {use : Option (Value → Sem Unit)} {Qf : Value → Shared → Prop}
    (hc : X.calm = true) (hN : X.N.Nodup) (I : Inv X pins σ H s) (hi : PI X tg iter wi) (ok : BlkOk X.N X.env.scope scope own)
    (hg : ∀ (s : Shared) (H : Hp) (C : Addr) (cl : List (Str × Addr)) (fp : List Addr), PG (X.blk s H scope (compEnvC scope cl C X.env) fp) tg g) (ht : ∀ (s : Shared) (H : Hp) (C : Addr) (cl : List (Str × Addr)) (fp : List Addr), PTs (X.blk s H scope (compEnvC scope cl C X.env) fp) ifs tt)
    (hk : ∀ (s : Shared) (H : Hp) (C : Addr) (cl : List (Str × Addr)) (fp : List Addr), PE (X.blk s H scope (compEnvC scope cl C X.env) fp) kx tk) (hv : ∀ (s : Shared) (H : Hp) (C : Addr) (cl : List (Str × Addr)) (fp : List Addr), PE (X.blk s H scope (compEnvC scope cl C X.env) fp) vx tv) (hs : ∀ x, foldedSetIterable iter X.env x = pure x)
    (h : tDc wi g tt tk tv (own.map (·.2)) σ H Q)
    (hRR : ∀ D C s' m H', Inv X pins σ H' s' → Q (.ref D) H' → s'.heap.Ns C m → FpOk X pins H' C → compPost (model X.prog X.w) X.A X.xe use Qf (.ref D) C (.ok .next) s') :
    wpAny (model X.prog X.w) X.A (comprehension (.DictComp kx vx [⟨tg, iter, ifs, 0⟩] scope pos) scope X.env pos' newDict false (eval iter X.env) use) Qf X.xe s := by
  have hfree : ∀ y ∈ scope.names, y.2 = .free → ∃ c, X.env.cells.lookup y.1 = some c := fun y hy e => by
    rcases ok.free y hy e with k | k
    · exact I.ok.has _ (.inl k)
    · exact I.ok.has _ (.inr k)
  refine wpAny_comprehension_free (use := use) rfl hs (closure_ok hfree) ok.kind (fun y hy e => by rw [ok.uniq y hy, e])
    (thn (hi pins s σ H _ I h) fun xv s1 hx => thn hx fun itv s2 h2 => ?_)
  obtain ⟨it, fp, tn, J, H2, e, I2, T, st2, f2, q⟩ := h2
  subst e
  refine wpAny_newObj_type (newEnv_comp ?_) (by size_fits)
  generalize hD : s2.heap.objs.size = D
  have hDn : H2 D = none := I2.hok.fresh (Nat.le_of_eq hD)
  obtain ⟨W, ⟨m0, w0⟩, turn⟩ := q D hDn
  -- the new list
  generalize hs3 : ({ s2 with heap := s2.heap.push { cls := .type "dict", data := .dict #[] } } : Shared) = s3
  have I3 : Inv X pins σ (upd H2 D (.dK [])) s3 := by
    rw [← hs3]
    rw [← hD]
    exact I2.laid (t' := s2.toks) (a := s2.heap.objs.size) (o := .dK []) (fun b o e => Heap.get?_push_of_some _ e) (Nat.le_refl _) (dk_empty s2.heap I2.big)
  have h3 : s3.heap = s2.heap.push { cls := .type "dict", data := .dict #[] } := by rw [← hs3]
  have sz : ∀ b ∈ fp, b < s2.heap.objs.size := fun b hb => by
    obtain ⟨o, e, _⟩ := T.obj _ _ st2 b hb
    exact Heap.lt_size e
  have f3 : ∀ b ∈ fp, FpOk X pins (upd H2 D (.dK [])) b ∧ b < s3.heap.objs.size := fun b hb => by
    have hlt := sz b hb
    refine ⟨⟨?_, (f2 b hb).2⟩, by rw [h3, Heap.size_push]; exact Nat.lt_succ_of_lt hlt⟩
    rw [upd_ne (by rw [← hD]; exact Nat.ne_of_lt hlt)]
    exact (f2 b hb).1
  have st3 : tn 0 s3.heap := T.keep _ _ _ st2 fun b _ o e => by rw [h3]; exact Heap.get?_push_of_some _ e
  have I4 := block_start I3 ok hN f3
  have pg := hg s3 (upd H2 D (.dK [])) s3.heap.objs.size (cellsFrom (s3.heap.objs.size + 1) scope.names (cloFrom X.env.cells scope.names [])) fp
  have pt := ht s3 (upd H2 D (.dK [])) s3.heap.objs.size (cellsFrom (s3.heap.objs.size + 1) scope.names (cloFrom X.env.cells scope.names [])) fp
  have pk := hk s3 (upd H2 D (.dK [])) s3.heap.objs.size (cellsFrom (s3.heap.objs.size + 1) scope.names (cloFrom X.env.cells scope.names [])) fp
  have pv := hv s3 (upd H2 D (.dK [])) s3.heap.objs.size (cellsFrom (s3.heap.objs.size + 1) scope.names (cloFrom X.env.cells scope.names [])) fp
  show codeAny _ _ (.compStart (.DictComp kx vx [⟨tg, iter, ifs, 0⟩] scope pos) 0 (.ref it) (.ref D) (compEnvC scope (cellsFrom (s3.heap.objs.size + 1) scope.names (cloFrom X.env.cells scope.names [])) s3.heap.objs.size X.env)) (compPost (model X.prog X.w) X.A X.xe use Qf (.ref D) s3.heap.objs.size) { s3 with heap := pushCells (s3.heap.push { cls := .type "dict", data := .dict #[] }) scope.names }
  have nfp : ∀ b ∈ fp, (upd H2 D (.dK [])) b = none := fun b hb => (f3 b hb).1.1
  generalize hce : compEnvC scope (cellsFrom (s3.heap.objs.size + 1) scope.names (cloFrom X.env.cells scope.names [])) s3.heap.objs.size X.env = ce at I4 pg pt pk pv ⊢
  have cL : ce.locals = s3.heap.objs.size := by subst hce; rfl
  generalize hH3 : upd H2 D (.dK []) = H3 at I3 I4 pg pt pk pv w0 nfp f3
  generalize hs4 : ({ s3 with heap := pushCells (s3.heap.push { cls := .type "dict", data := .dict #[] }) scope.names } : Shared) = s4 at I4 ⊢
  have st4 : tn 0 s4.heap := T.keep _ _ _ st3 fun b _ o e => by rw [← hs4]; exact pushCells_keeps _ _ _ _ (Heap.get?_push_of_some _ e)
  have stat : ∀ {σ' : St} {H' : Hp} {s' : Shared}, Inv (X.blk s3 H3 scope ce fp) [] σ' H' s' → (∀ b ∈ fp, H' b = none) → ∀ b ∈ fp, FpOk (X.blk s3 H3 scope ce fp) [] H' b := fun {σ' H' s'} I' hn b hb =>
    ⟨hn b hb, (I'.ok.exf b hb).1, I'.ok.exfs b hb, .inl hb, fun x c e => (I'.ok.exf b hb).2 x c e, fun p hp => absurd (show p ∈ ([] : List (Addr × Obj)) ++ [] from hp) (by simp)⟩
  have loop : codeAny (model X.prog X.w) X.A (.compLoop (.DictComp kx vx [⟨tg, iter, ifs, 0⟩] scope pos) 0 (.ref it) (.ref D) ce) (compPost (model X.prog X.w) X.A X.xe use Qf (.ref D) s3.heap.objs.size) s4 := by
    refine dcLoop_any (fun n s' => ∃ i H', Inv (X.blk s3 H3 scope ce fp) [] (wipe σ (own.map (·.2))) H' s' ∧ tn i s'.heap ∧ (∀ b ∈ fp, H' b = none) ∧ W i n H') ?_ m0 ⟨0, H3, I4, st4, nfp, w0⟩
    rintro n s5 ⟨i, H5, I5, st5, n5, w5⟩
    rcases turn i n H5 w5 with ⟨stop, qq⟩ | ⟨go, Nx, hNx, step⟩
    · have td := T.done (X.blk s3 H3 scope ce fp) rfl rfl rfl hc i [] s5 _ H5 (fun _ _ => False) I5 (stat I5 n5) st5 stop
      refine thnF td fun r s6 ⟨hr, I6⟩ => ?_
      subst hr
      -- back in the def's context
      have I7 : Inv X pins σ H5 s6 := I3.call' (ch := fp) I6.os I6.base I6.hok I6.bare fun b hb => ⟨(f3 b hb).1.2.2.2.1, (f3 b hb).1.2.1, (f3 b hb).1.2.2.2.2.1, (f3 b hb).1.2.2.2.2.2⟩
      have nC : H5 s3.heap.objs.size = none := by
        have z : H5 ce.locals = none := I6.free
        rw [cL] at z
        exact z
      obtain ⟨m, hn, _⟩ := I6.loc
      have hn : s6.heap.Ns ce.locals m := hn
      rw [cL] at hn
      exact hRR D s3.heap.objs.size s6 m H5 I7 qq hn (I3.fpOk (Nat.le_refl _) nC)
    · have ti := T.item (X.blk s3 H3 scope ce fp) rfl rfl rfl hc i [] s5 _ H5 (fun _ _ => False) I5 (stat I5 n5) st5 go
      refine thnF ti fun r s6 ⟨u, hr, h6⟩ => ?_
      subst hr
      refine thnF h6 fun _ s7 ⟨x, H7, I7, r7, y7, st7, n7⟩ => ?_
      have I7' := I7.pinned (stat I7 n7) (T.obj _ _ st7)
      refine thnF (pg _ s7 _ H7 x u _ I7' r7 (step x H7 y7)) fun _ s8 ⟨σ8, H8, I8, hw8, q8⟩ => ?_
      refine thnF (pt _ s8 σ8 H8 _ I8 q8) fun b s9 ⟨H9, I9, q9⟩ => ?_
      -- the turn's end
      have fin : ∀ {s' : Shared} {H' : Hp}, Inv (X.blk s3 H3 scope ce fp) ([] ++ pinsAt fp s7.heap) σ8 H' s' → Nx H' → ∃ m, m < n ∧ ∃ i H', Inv (X.blk s3 H3 scope ce fp) [] (wipe σ (own.map (·.2))) H' s' ∧ tn i s'.heap ∧ (∀ b ∈ fp, H' b = none) ∧ W i m H' := fun {s' H'} I' nx => by
        obtain ⟨m', hm, w'⟩ := hNx H' nx
        have pin' : ∀ b ∈ fp, ∀ o, s7.heap.get? b = some o → s'.heap.get? b = some o ∧ H' b = none := fun b hb o e =>
          let z := I'.pin (b, o) (List.mem_append_right _ (List.mem_append_right _ (mem_pinsAt hb e)))
          ⟨z.1, z.2.1⟩
        have hl : (wipe σ (own.map (·.2))).length = σ8.length := by rw [← hw8, wipe_length]
        refine ⟨m', hm, i + 1, H', (I'.unpinned (pins := [])).weak hl (fun j v e => ?_), T.keep _ _ _ st7 fun b hb o e => (pin' b hb o e).1, fun b hb => ?_, w'⟩
        · rw [← hw8] at e
          exact (wipe_some e).1
        · obtain ⟨o, e, _⟩ := T.obj _ _ st7 b hb
          exact (pin' b hb o e).2
      cases b with
      | false =>
        simp only [Bool.false_eq_true, if_false] at q9 ⊢
        exact fin I9 q9
      | true =>
        simp only [if_true] at q9 ⊢
        refine thnF (pk _ s9 σ8 H9 _ I9 q9) fun kv s10 ⟨yv, H10, I10, r10, q10⟩ => ?_
        refine thnF (pv _ s10 σ8 H10 _ I10 q10) fun vv s11 ⟨zv, H11, I11, r11, kvs, k, hD11, hy, hz11, nx⟩ => ?_
        subst hy
        obtain ⟨z, hd, vs, rel, dd⟩ := dk_of I11.hok hD11
        have hz : vs.length ≤ sizeLine := by rw [← rel.length]; exact z
        have hl : (putK kvs k zv).length ≤ sizeLine := by have := length_putK kvs k zv; omega
        refine wpAny_dictSet_pairs (hsz := hz) (kV_is r10) dd fun h' dd' hs => fin (d_write I11 (by rw [hD11]; exact True.intro) hs ?_ (dk_new hl hd (rel.put k r11) dd')) nx
        exact let ⟨q, _, _, hq, _⟩ := dd'; ⟨q, hq⟩
  exact codeAny_compStart_dict loop (T.self X.A 0 _ _ _ st4 loop)

theorem ps_setDc {i : Nat} {y : Str} {py : Pos} {kx vx tg iter : Expr} {ifs : List Expr} {scope : Scope} {own : List (Str × Nat)} {pos spos : Pos} {wi : TI} {g : TG} {tt : TT} {tk tv : TE} (hc : X.calm = true) (hN : X.N.Nodup) (hy : X.N[i]? = some y) (hyl : X.env.scope.names.lookup y = some .local)
    (hsw : swapsWith (.DictComp kx vx [⟨tg, iter, ifs, 0⟩] scope pos) (some (.Name y py)) spos.line X.env = pure true) (hi : PI X tg iter wi) (ok : BlkOk X.N X.env.scope scope own)
    (hg : ∀ (s : Shared) (H : Hp) (C : Addr) (cl : List (Str × Addr)) (fp : List Addr), PG (X.blk s H scope (compEnvC scope cl C X.env) fp) tg g) (ht : ∀ (s : Shared) (H : Hp) (C : Addr) (cl : List (Str × Addr)) (fp : List Addr), PTs (X.blk s H scope (compEnvC scope cl C X.env) fp) ifs tt)
    (hk : ∀ (s : Shared) (H : Hp) (C : Addr) (cl : List (Str × Addr)) (fp : List Addr), PE (X.blk s H scope (compEnvC scope cl C X.env) fp) kx tk) (hv : ∀ (s : Shared) (H : Hp) (C : Addr) (cl : List (Str × Addr)) (fp : List Addr), PE (X.blk s H scope (compEnvC scope cl C X.env) fp) vx tv) (hs : ∀ x, foldedSetIterable iter X.env x = pure x := by intro _; rfl) :
    PS X (.Assign [.Name y py] (.DictComp kx vx [⟨tg, iter, ifs, 0⟩] scope pos) spos) (tAsg (tDc wi g tt tk tv (own.map (·.2))) (gName i)) := by
  intro pins s σ H D I h
  rw [exec_Assign_Name_used _ _ _ _ hsw]
  refine wpAny_bind (wpAny_standAt (wpAny_bind ?_))
  show wpAny _ X.A (do let _ ← comprehension (.DictComp kx vx [⟨tg, iter, ifs, 0⟩] scope pos) scope X.env (firstIterPos [⟨tg, iter, ifs, 0⟩] pos) newDict false (eval iter X.env) (some (assign (.Name y py) X.env))) _ _ s
  have h : tDc wi g tt tk tv (own.map (·.2)) σ H (fun x H1 => gName i x σ H1 D.nx) := h
  refine wpAny_bind (thn (dc_core (Qf := fun _ s' => SP X pins D .next s') hc hN I hi ok hg ht hk hv hs h fun L C s' m H' I' q hn f => ?_) fun _ s' hq => wpAny_pure (wpAny_pure hq))
  show wpAny _ _ (assign (.Name y py) X.env (.ref L)) _ _ _
  refine wpAny_assign_Name (store_ok2 (v := V.ref L) I' hN hy (.inl hyl) rfl (fun s2 I2 ⟨a, sb, ha⟩ => ?_) (.inr hyl))
  obtain ⟨f0, f1, f2, f3, f4, f5⟩ := f
  have haC : C ≠ a := by
    rcases ha with z | z
    · rw [z]; exact f1
    · exact fun e => f4 y a z e.symm
  refine ⟨m, hn.sameBut sb haC, fun h3 sb3 => ?_⟩
  exact ⟨_, H', I2.turned (t' := s2.toks) (fun b o hb e => (sb3.2 b hb).trans e) f0 f1 f3 f4 f5, q⟩
theorem sw_trueD {kx vx : Expr} {gs : List Comprehension} {scope : Scope} {pos py : Pos} {y : Str} {l : Nat} {env : Env} (hk : env.scope.kind = .function) (hy : env.scope.names.lookup y = some .local) (hl : (py.line == pos.line) = true)
    (ha : (scope.names.any fun (n, k) => n == y && (k == .local || k == .cell)) = false) : swapsWith (.DictComp kx vx gs scope pos) (some (.Name y py)) l env = pure true := by
  have ky : env.kindOf y = some .local := hy
  have hb : env.blockKind = .function := by unfold Env.blockKind; rw [hk]; rfl
  unfold swapsWith
  simp only [hb, ky, ha, Expr.pos, hl]
  rfl
end
theorem dc_list {K : PySem.W.Frag} {a : Addr} {xs : List V} {g : TG} {tt : TT} {tk tv : TE} {vs : List Nat} {σ : St} {H1 : Hp} {D : Addr} {Qd : Hp → Prop} (Pv : Nat → Hp → Prop) (h0 : Pv 0 (upd H1 D (.dK []))) (hl : ∀ i H, i ≤ xs.length → Pv i H → SqL K H a xs)
    (hs : ∀ i x H, xs[i]? = some x → Pv i H → g x (wipe σ vs) H fun σ2 H2 => wipe σ2 vs = wipe σ vs ∧ tt σ2 H2 fun b H3 =>
      if b = true then tk σ2 H3 fun y H4 => tv σ2 H4 fun z H5 => ∃ (kvs : List (Key × V)) (k : Key), H5 D = some (.dK kvs) ∧ y = kV k ∧ kvs.length < sizeLine ∧ Pv (i + 1) (upd H5 D (.dK (putK kvs k z))) else Pv (i + 1) H3) (hd : ∀ H, Pv xs.length H → Qd H) :
    ∃ W : Nat → Nat → Hp → Prop, (∃ m, W 0 m (upd H1 D (.dK []))) ∧ ∀ i m H, W i m H →
      ((Itl K a).stop i H ∧ Qd H) ∨ ((Itl K a).go i H ∧ ∃ Nx : Hp → Prop, (∀ H', Nx H' → ∃ m', m' < m ∧ W (i + 1) m' H') ∧ ∀ x H', (Itl K a).yld i H x H' → g x (wipe σ vs) H' fun σ2 H2 => wipe σ2 vs = wipe σ vs ∧ tt σ2 H2 fun b H3 =>
        if b = true then tk σ2 H3 fun y H4 => tv σ2 H4 fun z H5 => ∃ (kvs : List (Key × V)) (k : Key), H5 D = some (.dK kvs) ∧ y = kV k ∧ kvs.length < sizeLine ∧ Nx (upd H5 D (.dK (putK kvs k z))) else Nx H3) := by
  refine ⟨fun i m H => m = xs.length - i ∧ i ≤ xs.length ∧ Pv i H, ⟨xs.length, by simp, Nat.zero_le _, h0⟩, ?_⟩
  rintro i m H ⟨rfl, hi, p⟩
  have q := hl i H hi p
  by_cases hlt : i < xs.length
  · refine .inr ⟨⟨xs, xs[i], q, by simp [hlt]⟩, Pv (i + 1), fun H' p' => ⟨xs.length - (i + 1), by omega, rfl, hlt, p'⟩, fun x H' y => ?_⟩
    obtain ⟨e, y⟩ := y
    subst e
    exact hs i x _ (y xs q) p
  · have e : i = xs.length := by omega
    subst e
    exact .inl ⟨⟨xs, q, Nat.le_refl _⟩, hd H p⟩
end L2
set_option Elab.async false
set_option linter.all false
set_option maxRecDepth 100000
set_option maxHeartbeats 4000000
namespace Ho
open PySem L2
def StO (H : Hp) (a : Addr) (o : Sp3) : Prop := H a = some (.tup [.int o.1, .int o.2.1, .int o.2.2])
/-- the steps of a moment, at q -/
def OpsAt (H : Hp) (q : Addr) (os : List Sp3) : Prop := ∃ qs : List Addr, H q = some (.lst (qs.map V.ref)) ∧ Paired (StO H) qs os
/-- the steps of all moments -/
def StepsAt (H : Hp) (q : Addr) (oss : List (List Sp3)) : Prop := ∃ qs : List Addr, H q = some (.lst (qs.map V.ref)) ∧ Paired (OpsAt H) qs oss
theorem OpsAt.same {H H' : Hp} {q : Addr} {os : List Sp3} (h : OpsAt H q os) (s : Same H H') : OpsAt H' q os := by
  obtain ⟨qs, h1, h2⟩ := h
  exact ⟨qs, s _ _ h1, paired_imp (fun _ _ z => s _ _ z) h2⟩
theorem StepsAt.same {H H' : Hp} {q : Addr} {oss : List (List Sp3)} (h : StepsAt H q oss) (s : Same H H') : StepsAt H' q oss := by
  obtain ⟨qs, h1, h2⟩ := h
  exact ⟨qs, s _ _ h1, paired_imp (fun _ _ z => z.same s) h2⟩
def oV : Option Str → V
  | none => .non
  | some w => .str w
def sp_steps_in : Sp := fun vs H Q _ => ∃ (w : Option Str) (p : Int), vs = [oV w, .int p] ∧ ∀ H' q, Same H H' → H q = none → OpsAt H' q (optsOf w p) → Q (.ref q) H'
section
variable {P : Program} {w : World} {K : PySem.W.Frag} {mg : Str → Option Value} {base : Heap} {k : Nat} {f C aW cBH cBR cBT : Addr}
theorem sc_steps_in : FnScope ["word", "price"] ["word", "price"] (defScope s_steps_in) := ⟨rfl, rfl, rfl, by decide +kernel, rfl, by decide +kernel, by decide +kernel⟩
theorem ok_steps_in (F : Top1 K "steps_in" "steps_in" s_steps_in f ["word", "price"]) :
    ∃ fd, FnOk P w K mg base (CXe P w) (k + 1) f fd ["word", "price"] sp_steps_in ∧ Binds K fd ["word", "price"] [] := by
  refine F.okN sc_steps_in (fun vs H Q E h => ?_) (fun cdv A outer s H vs Q E hr h => ?_)
  · obtain ⟨_, _, rfl, _⟩ := h
    rfl
  · obtain ⟨wd, p, rfl, kk⟩ := h
    have hu := hu_of hr
    have nd := sc_steps_in.nd
    refine ⟨_, (pss_cons (ps_if (pt_cmpR op_eq (pv 0) pe_str (nomark _)) (pss_one (ps_ret (pe_lst (pa_cons (pe_tup (pa_cons pe_int (pa_cons pe_int (pa_cons pe_int pa_nil)))) pa_nil)))) pss_nil)
      (pss_cons (ps_if (pt_cmpR op_eq (pv 0) pe_str (nomark _)) (pss_one (ps_ret (pe_lst (pa_cons (pe_tup (pa_cons pe_int (pa_cons pe_int (pa_cons pe_int pa_nil)))) pa_nil)))) pss_nil)
      (pss_one (ps_ret (pe_lst (pa_cons (pe_tup (pa_cons pe_int (pa_cons pe_int (pa_cons pe_int pa_nil)))) (pa_cons (pe_tup (pa_cons pe_int (pa_cons pe_int (pa_cons (pv 1) pa_nil)))) (pa_cons (pe_tup (pa_cons pe_int (pa_cons pe_int (pa_cons (pv 1) pa_nil)))) (pa_cons (pe_tup (pa_cons pe_int (pa_cons pe_int (pa_cons pe_int pa_nil)))) pa_nil))))))))), ?_⟩
    have three : (3 : Nat) ≤ sizeLine := by decide
    have hsc : ∀ z : Str, scal (oV wd) (.str z) = true := fun z => by cases wd <;> rfl
    have hde : ∀ z : Str, decide (oV wd = V.str z) = decide (wd = some z) := fun z => by
      cases wd with
      | none => rfl
      | some y =>
        by_cases h : y = z
        · subst h; simp [oV]
        · simp [oV, h]
    refine ⟨_, rfl, hsc _, _, rfl, ?_⟩
    rw [hde]
    have one : ∀ b a c : Int, (∀ H' q, Same H H' → H q = none → OpsAt H' q [(b, a, c)] → Q (.ref q) H') → ∀ p1, H p1 = none → ∀ p2, (upd H p1 (.tup [.int b, .int a, .int c])) p2 = none → Q (.ref p2) (upd (upd H p1 (.tup [.int b, .int a, .int c])) p2 (.lst [.ref p1])) := fun b a c kq p1 h1 p2 h2 => by
      have e1 : (upd H p1 (.tup [.int b, .int a, .int c])) p1 = some (.tup [.int b, .int a, .int c]) := upd_same
      have s1 : Same H (upd H p1 (.tup [.int b, .int a, .int c])) := (Ext.new (S := []) h1).same
      have s2 := (Ext.new (S := []) (o := .lst [.ref p1]) h2).same
      exact kq _ p2 (s1.trans s2) (s1.free h2) ⟨[p1], upd_same, .cons (s2 _ _ e1) .nil⟩
    by_cases h1 : wd = some ("in" : Str)
    · rw [decide_eq_true h1]
      refine iteT ⟨three, fun p1 hp1 => ⟨(by show 1 ≤ sizeLine; decide), fun p2 hp2 => ?_⟩⟩
      refine one 0 1 0 (fun H' q a b c => kk H' q a b ?_) p1 hp1 p2 hp2
      unfold optsOf; rw [if_pos h1]; exact c
    · rw [decide_eq_false h1]
      refine iteF ⟨_, rfl, hsc _, _, rfl, ?_⟩
      rw [hde]
      by_cases h2 : wd = some ("out" : Str)
      · rw [decide_eq_true h2]
        refine iteT ⟨three, fun p1 hp1 => ⟨(by show 1 ≤ sizeLine; decide), fun p2 hp2 => ?_⟩⟩
        refine one 1 0 0 (fun H' q a b c => kk H' q a b ?_) p1 hp1 p2 hp2
        unfold optsOf; rw [if_neg h1, if_pos h2]; exact c
      · rw [decide_eq_false h2]
        refine iteF ⟨three, fun p1 hp1 => ?_⟩
        generalize hH1 : upd H p1 _ = H1
        have s1 : Same H H1 := by rw [← hH1]; exact (Ext.new (S := []) hp1).same
        have e1 : H1 p1 = some (.tup [.int 0, .int 0, .int 0]) := by rw [← hH1]; exact upd_same
        clear hH1
        refine ⟨_, rfl, three, fun p2 hp2 => ?_⟩
        generalize hH2 : upd H1 p2 _ = H2
        have s2 : Same H1 H2 := by rw [← hH2]; exact (Ext.new (S := []) hp2).same
        have e2 : H2 p2 = some (.tup [.int 0, .int 1, .int p]) := by rw [← hH2]; exact upd_same
        clear hH2
        refine ⟨_, rfl, three, fun p3 hp3 => ?_⟩
        generalize hH3 : upd H2 p3 _ = H3
        have s3 : Same H2 H3 := by rw [← hH3]; exact (Ext.new (S := []) hp3).same
        have e3 : H3 p3 = some (.tup [.int 1, .int 0, .int p]) := by rw [← hH3]; exact upd_same
        clear hH3
        refine ⟨three, fun p4 hp4 => ?_⟩
        generalize hH4 : upd H3 p4 _ = H4
        have s4 : Same H3 H4 := by rw [← hH4]; exact (Ext.new (S := []) hp4).same
        have e4 : H4 p4 = some (.tup [.int 1, .int 1, .int 0]) := by rw [← hH4]; exact upd_same
        clear hH4
        refine ⟨(by show 4 ≤ sizeLine; decide), fun q hq => ?_⟩
        generalize hH5 : upd H4 q _ = H5
        have s5 : Same H4 H5 := by rw [← hH5]; exact (Ext.new (S := []) hq).same
        have e5 : H5 q = some (.lst [.ref p1, .ref p2, .ref p3, .ref p4]) := by rw [← hH5]; exact upd_same
        clear hH5
        refine kk H5 q (s1.trans (s2.trans (s3.trans (s4.trans s5)))) ((s1.trans (s2.trans (s3.trans s4))).free hq) ⟨[p1, p2, p3, p4], e5, ?_⟩
        unfold optsOf; rw [if_neg h1, if_neg h2]
        exact .cons (s5 _ _ (s4 _ _ (s3 _ _ (s2 _ _ e1)))) (.cons (s5 _ _ (s4 _ _ (s3 _ _ e2))) (.cons (s5 _ _ (s4 _ _ e3)) (.cons (s5 _ _ e4) .nil)))
end
end Ho
set_option Elab.async false
set_option linter.all false
set_option maxRecDepth 100000
set_option maxHeartbeats 4000000
namespace Ho
open PySem L2
theorem pm_imp {α β : Type} {F G : α → β → Prop} : ∀ {l : List α} {m : List β}, (∀ a b, F a b → a ∈ l → G a b) → Paired F l m → Paired G l m
  | _, _, _, .nil => .nil
  | _ :: _, _ :: _, h, .cons r t => .cons (h _ _ r (List.mem_cons_self ..)) (pm_imp (fun a b f hm => h a b f (List.mem_cons_of_mem _ hm)) t)
theorem lk_cong {rs rs' : List RowT} (nd : (rs.map (·.1)).Nodup) (nd' : (rs'.map (·.1)).Nodup) (h : ∀ r, r ∈ rs' ↔ r ∈ rs) (i m : Int) : lk rs' i m = lk rs i m := by
  cases e : lk rs i m with
  | none =>
    cases e' : lk rs' i m with
    | none => rfl
    | some w =>
      have := (lk_some nd).mpr ((h _).mp ((lk_some nd').mp e'))
      rw [e] at this; cases this
  | some w => exact (lk_some nd').mpr ((h _).mpr ((lk_some nd).mp e))
theorem lk_snoc {rs : List RowT} {r : RowT} (nd : ((rs ++ [r]).map (·.1)).Nodup) (i m : Int) : lk (rs ++ [r]) i m = if r.1 = (i, m) then some r.2 else lk rs i m := by
  have nd1 : (rs.map (·.1)).Nodup := by
    rw [List.map_append] at nd
    exact (List.nodup_append.mp nd).1
  by_cases h : r.1 = (i, m)
  · rw [if_pos h]
    refine (lk_some nd).mpr (List.mem_append_right _ (List.mem_singleton.mpr ?_))
    rw [← h]
  · rw [if_neg h]
    cases e : lk rs i m with
    | some w => exact (lk_some nd).mpr (List.mem_append_left _ ((lk_some nd1).mp e))
    | none =>
      cases e' : lk (rs ++ [r]) i m with
      | none => rfl
      | some w =>
        rcases List.mem_append.mp ((lk_some nd).mp e') with z | z
        · rw [(lk_some nd1).mpr z] at e; cases e
        · exact (h (by rw [← List.mem_singleton.mp z])).elim
def sp_steps_of (C : Addr) : Sp := fun vs H Q _ => ∃ p d b l o t rs i, vs = [.ref p, .int i] ∧ HouseAt C H p d b l o t rs ∧ rs.length ≤ 900 ∧ ∀ H' q, Same H H' → H q = none → StepsAt H' q (stepsOf (lk rs i) l t t.toNat) → Q (.ref q) H'
section
variable {P : Program} {w : World} {K : PySem.W.Frag} {mg : Str → Option Value} {base : Heap} {k : Nat} {f C aW cBH cBR cBT : Addr}
theorem sc_steps_of : FnScope ["house", "badge", "words", "owner", "moment", "word", "time", "steps", "price"] ["house", "badge"] (defScope s_steps_of) := ⟨rfl, rfl, rfl, by decide +kernel, rfl, by decide +kernel, by decide +kernel⟩
theorem ok_steps_of (F : Top1 K "steps_of" "steps_of" s_steps_of f ["house", "badge"]) (T : HouseT K mg C aW cBH cBR cBT) (M_rows : Mt P w K mg base k C "rows" ["self"] (sp_rows C)) (M_time : Mt P w K mg base k C "time" ["self"] (sp_time C)) (G_in : Fn P w K mg base k "steps_in" ["word", "price"] sp_steps_in) :
    ∃ fd, FnOk P w K mg base (CXe P w) (k + 1) f fd ["house", "badge"] (sp_steps_of C) ∧ Binds K fd ["house", "badge"] [] := by
  refine F.okN sc_steps_of (fun vs H Q E h => ?_) (fun cdv A outer s H vs Q E hr h => ?_)
  · obtain ⟨_, _, _, _, _, _, _, _, rfl, _⟩ := h
    rfl
  · obtain ⟨p, d, b, l, o, t, rs, i, rfl, S, hsz, kk⟩ := h
    have hu := hu_of hr
    have nd := sc_steps_of.nd
    obtain ⟨dx, n, fb, h1, _⟩ := S.ob
    refine ⟨_, (pss_cons (ps_setDc (i := 2) (own := [("owner", 3), ("moment", 4), ("word", 5)]) (g := gTup K 3 (gCons (gName 3) (gCons (gName 4) (gCons (gName 5) gNil)))) rfl nd rfl rfl (sw_trueD rfl rfl rfl (by decide +kernel)) (pi_list (pmeth0 (pv 0) T.cl M_rows hr passN)) (blkOk_by (own := [("owner", 3), ("moment", 4), ("word", 5)]) (N := ["house", "badge", "words", "owner", "moment", "word", "time", "steps", "price"]) (sc := defScope s_steps_of) (by decide +kernel)) (fun _ _ _ _ _ => by exact (pg_tup rfl (pgs_cons (pg_name (i := 3) nd rfl (Or.inl rfl)) (pgs_cons (pg_name (i := 4) nd rfl (Or.inl rfl)) (pgs_cons (pg_name (i := 5) nd rfl (Or.inl rfl)) pgs_nil))))) (fun _ _ _ _ _ => by exact (pts_one (pt_cmpR op_eq (pv 3) (pv 1) (nomark _)))) (fun _ _ _ _ _ => by exact (pv 4)) (fun _ _ _ _ _ => by exact (pv 5)))
      (pss_cons (ps_set (i := 6) nd rfl (Or.inl rfl) (pmeth0 (pv 0) T.cl M_time hr passN))
      (pss_cons (ps_set (i := 7) nd rfl (Or.inl rfl) (pe_lst pa_nil))
      (pss_cons (ps_for PassesOwn.never rfl (pi_range2 rfl T.b_range (pa_cons pe_int (pa_cons (pe_op op_add (pv 6) pe_int) pa_nil))) (pg_name (i := 4) nd rfl (Or.inl rfl))
        (pss_cons (ps_set (i := 8) nd rfl (Or.inl rfl) (pe_ifExp (pt_cmpR op_lt (pe_op op_add (pv 4) (pe_fld (pv 0) rfl)) (pv 6) (nomark _)) pe_int pe_int))
        (pss_one (ps_expr (pe_bm PySem.F.plainAttrs_list PySem.F.slot_list_append PySem.F.type_list_append mt_append (pv 7) (pa_cons (pcall G_in hr (by rfl) passN (pa_cons (pe_dget1 hu (pv 2) (pv 4) ⟨rfl, rfl, rfl, rfl⟩) (pa_cons (pv 8) pa_nil))) pa_nil))))))
      (pss_one (ps_ret (pv 7))))))), ?_⟩
    have tb := S.tb
    refine ⟨_, rfl, p, dx, _, rfl, h1, rfl, p, d, b, l, o, t, rs, rfl, S, fun H1 q1 rs' s1 hq1 ra pm so => ?_⟩
    obtain ⟨qs, hqs, pq⟩ := ra
    have hS : Srt rs' rs := ⟨sorted_of S.nd pm so, fun r => pm.mem_iff⟩
    have nd' : (rs'.map (·.1)).Nodup := keys_nd hS.1
    have hlq : qs.length = rs'.length := Paired.length pq
    have hl9 : rs'.length ≤ 900 := by rw [pm.length_eq]; exact hsz
    refine ⟨q1, rfl, ⟨_, SqL.of hqs⟩, fun D hD => ?_⟩
    refine dc_list (K := K) (a := q1) (xs := qs.map V.ref) (fun j H2 => Same H1 H2 ∧ ∃ kvs : List (Key × V), H2 D = some (.dK kvs) ∧ kvs.length ≤ j ∧ ∀ m : Int, valV kvs (Sum.inl m : Key) = (lk (rs'.take j) i m).map V.str) ⟨(Ext.new (S := []) hD).same, [], upd_same, Nat.le_refl _, fun _ => rfl⟩ (fun j H2 _ h => SqL.of (h.1 _ _ hqs)) ?_ ?_
    · rintro j y H2 hj ⟨s2, kvs, hD2, hkl, hkv⟩
      rw [List.getElem?_map] at hj
      cases eq : qs[j]? with
      | none => rw [eq] at hj; cases hj
      | some qa =>
        rw [eq] at hj
        cases hj
        have hlt : j < qs.length := (List.getElem?_eq_some_iff.mp eq).1
        obtain ⟨r, hr1, hqa⟩ := paired_at pq eq
        have et : rs'.take (j + 1) = rs'.take j ++ [r] := by rw [List.take_succ, hr1]; rfl
        have nd2 : ((rs'.take j ++ [r]).map (·.1)).Nodup := by
          rw [← et, List.map_take]
          exact List.Nodup.sublist (List.take_sublist _ _) nd'
        refine ⟨qa, _, rfl, SqT.of (s2 _ _ hqa), rfl, _, _, rfl, _, _, rfl, _, _, rfl, rfl, rfl, ?_⟩
        refine ⟨_, rfl, _, rfl, rfl, _, rfl, ?_⟩
        rw [et]
        by_cases hb : r.1.1 = i
        · rw [decide_eq_true (show V.int r.1.1 = V.int i by rw [hb])]
          refine iteT ⟨_, rfl, _, rfl, kvs, Sum.inl r.1.2, hD2, rfl, small1000 (by omega), fun c oc hc => ?_, _, upd_same, ?_, fun m => ?_⟩
          · have nc : c ≠ D := fun z => by rw [z, hD] at hc; cases hc
            rw [upd_ne nc]; exact s2 _ _ hc
          · have := putK_le kvs (Sum.inl r.1.2 : Key) (.str r.2)
            omega
          · rw [valV_put, lk_snoc nd2, hkv m]
            by_cases hm : m = r.1.2
            · rw [if_pos (by rw [hm]), if_pos (Prod.ext hb hm.symm)]; rfl
            · rw [if_neg (fun z => hm (Sum.inl.inj z)), if_neg (fun z => hm (by rw [z]))]
        · rw [decide_eq_false (show ¬ V.int r.1.1 = V.int i from fun z => hb (V.int.inj z))]
          refine iteF ⟨s2, kvs, hD2, by omega, fun m => ?_⟩
          rw [lk_snoc nd2, if_neg (fun z => hb (by rw [z])), hkv m]
    · rintro H2 ⟨s2, kvs, hD2, _, hkv⟩
      rw [List.take_of_length_le (by rw [List.length_map]; omega)] at hkv
      have hkv : ∀ m : Int, valV kvs (Sum.inl m : Key) = (lk rs i m).map V.str := fun m => by rw [hkv m, lk_cong S.nd nd' hS.2]
      have sH2 : Same H H2 := s1.trans s2
      have S2 := S.same sH2
      obtain ⟨dx2, n2, fb2, h2, _⟩ := S2.ob
      have hDH : H D = none := s1.free hD
      refine ⟨_, rfl, p, dx2, _, rfl, h2, rfl, p, d, b, l, o, t, rs, rfl, S2, Nat.zero_le _, fun sq hsq => ?_⟩
      generalize hH3 : upd H2 sq _ = H3
      have s3 : Same H2 H3 := by rw [← hH3]; exact (Ext.new (S := []) hsq).same
      have e3 : H3 sq = some (.lst []) := by rw [← hH3]; exact upd_same
      clear hH3
      have hsqH : H sq = none := sH2.free hsq
      have nsD : sq ≠ D := fun z => by rw [z, hD2] at hsq; cases hsq
      refine ⟨_, rfl, _, _, rfl, rfl, _, _, rfl, ⟨by decide, by decide, (by show _ ≤ t + 1; omega), (by show t + 1 < _; omega)⟩, ?_⟩
      refine for_range (lo := 1) (n := (t + 1 - 1).toNat) (fun j σ H4 => ∃ v3 v4 v5 v8, σ = [some (.ref p), some (.int i), some (.ref D), v3, v4, v5, some (.int t), some (.ref sq), v8] ∧ Ext [sq] H3 H4 ∧ ∃ qs : List Addr, H4 sq = some (.lst (qs.map V.ref)) ∧ Paired (OpsAt H4) qs (stepsOf (lk rs i) l t j) ∧ ∀ q ∈ qs, q ≠ sq) ?_ ?_ ?_
      · exact ⟨_, _, _, _, rfl, Ext.refl _ _, [], e3, .nil, fun q hq => (by cases hq)⟩
      · rintro j σ H4 hj ⟨v3, v4, v5, v8, rfl, x4, qs4, hs4, p4, hne⟩
        have hp3 := s3 _ _ h2
        have hp4 := x4 _ _ hp3 (fun z => by rw [List.mem_singleton.mp z, e3] at hp3; cases hp3)
        have hD3 := s3 _ _ hD2
        have hD4 := x4 _ _ hD3 (by simpa using nsD.symm)
        refine ⟨_, rfl, _, rfl, p, C, dx2, _, _, rfl, hp4, T.cl, T.n_late, f_late .., _, _, rfl, rfl, _, rfl, _, _, rfl, rfl, _, rfl, ?_⟩
        have dg : DGet H4 D (.int (1 + (j : Int))) ((lk rs i (1 + (j : Int))).map V.str) := by
          have := DGet.k (k := Sum.inl (1 + (j : Int))) hD4
          rw [hkv] at this
          exact this
        have hql : qs4.length = j := by rw [Paired.length p4, stepsOf_len]
        have e1j : (1 : Int) + (j : Int) = (j : Int) + 1 := by omega
        have key : ∀ pr : Int, pr = prL l t ((j : Int) + 1) → ∀ H5 q5, Same H4 H5 → H4 q5 = none → OpsAt H5 q5 (optsOf (lk rs i ((j : Int) + 1)) pr) → (upd H5 sq (.lst (qs4.map V.ref ++ [.ref q5]))) sq = some (.lst ((qs4 ++ [q5]).map V.ref)) ∧ Ext [sq] H3 (upd H5 sq (.lst (qs4.map V.ref ++ [.ref q5]))) ∧ Paired (OpsAt (upd H5 sq (.lst (qs4.map V.ref ++ [.ref q5])))) (qs4 ++ [q5]) (stepsOf (lk rs i) l t (j + 1)) ∧ ∀ q ∈ qs4 ++ [q5], q ≠ sq := by
          rintro pr rfl H5 q5 s5 hq5 o5
          have nq : q5 ≠ sq := fun z => by rw [z, hs4] at hq5; cases hq5
          have hs5 := s5 _ _ hs4
          have keep : ∀ {g : Addr} {os : List Sp3}, OpsAt H5 g os → g ≠ sq → OpsAt (upd H5 sq (.lst (qs4.map V.ref ++ [.ref q5]))) g os := fun {g os} h hg => by
            obtain ⟨zs, z1, z2⟩ := h
            refine ⟨zs, by rw [upd_ne hg]; exact z1, paired_imp (fun c x hc => ?_) z2⟩
            have hc : H5 c = some (.tup [.int x.1, .int x.2.1, .int x.2.2]) := hc
            show (upd H5 sq _) c = _
            rw [upd_ne (fun z => by rw [z, hs5] at hc; cases hc)]; exact hc
          refine ⟨by rw [upd_same, List.map_append]; rfl, fun c oc hc hn => ?_, ?_, fun q hq => ?_⟩
          · rw [upd_ne (by simpa using hn)]; exact s5 _ _ (x4 _ _ hc hn)
          · unfold stepsOf
            rw [List.range_succ, List.map_append]
            exact paired_snoc (pm_imp (fun g os hg hm => keep (hg.same s5) (hne g hm)) p4) (keep o5 nq)
          · rcases List.mem_append.mp hq with hq | hq
            · exact hne q hq
            · rw [List.mem_singleton.mp hq]; exact nq
        have wv : ((lk rs i (1 + (j : Int))).map V.str).getD V.non = oV (lk rs i ((j : Int) + 1)) := by
          rw [e1j]
          cases lk rs i ((j : Int) + 1) <;> rfl
        by_cases hlt : 1 + (j : Int) + l < t
        · rw [decide_eq_true hlt]
          refine iteT ?_
          refine ⟨_, rfl, (.inl ⟨rfl, _, SqL.of hs4⟩), _, rfl, D, rfl, .inl ⟨_, .inl hD4⟩, _, rfl, _, dg, _, rfl, lk rs i ((j : Int) + 1), 1, by rw [wv]; rfl, fun H5 q5 s5 hq5 o5 => ?_⟩
          obtain ⟨k1, k2, k3, k4⟩ := key 1 (by unfold prL; rw [if_pos (by omega)]) H5 q5 s5 hq5 o5
          exact ⟨sq, _, _, rfl, rfl, s5 _ _ hs4, (by rw [List.length_map]; exact small1000 (by omega)), _, _, _, _, rfl, k2, _, k1, k3, k4⟩
        · rw [decide_eq_false hlt]
          refine iteF ?_
          refine ⟨_, rfl, (.inl ⟨rfl, _, SqL.of hs4⟩), _, rfl, D, rfl, .inl ⟨_, .inl hD4⟩, _, rfl, _, dg, _, rfl, lk rs i ((j : Int) + 1), 0, by rw [wv]; rfl, fun H5 q5 s5 hq5 o5 => ?_⟩
          obtain ⟨k1, k2, k3, k4⟩ := key 0 (by unfold prL; rw [if_neg (by omega)]) H5 q5 s5 hq5 o5
          exact ⟨sq, _, _, rfl, rfl, s5 _ _ hs4, (by rw [List.length_map]; exact small1000 (by omega)), _, _, _, _, rfl, k2, _, k1, k3, k4⟩
      · rintro σ H4 ⟨v3, v4, v5, v8, rfl, x4, qs4, hs4, p4, hne⟩
        refine ⟨_, rfl, kk H4 sq (fun b ob hb => x4 _ _ (s3 _ _ (sH2 _ _ hb)) (by simpa using ne_of_none hb hsqH)) hsqH ⟨qs4, hs4, ?_⟩⟩
        have : (t + 1 - 1).toNat = t.toNat := by congr 1; omega
        rw [this] at p4
        exact p4
end
end Ho
set_option Elab.async false
set_option linter.all false
set_option maxRecDepth 100000
set_option maxHeartbeats 4000000
namespace L2
open PySem PySem.Spec PyProof.Rows
/-- over a list, from its end -/
theorem for_rev {K : PySem.W.Frag} {a : Addr} {xs : List V} {g : TG} {tb : TS} {D : Ends} {σ : St} {H : Hp} (Pv : Nat → St → Hp → Prop) (h0 : Pv 0 σ H) (hl : ∀ i σ H, i ≤ xs.length → Pv i σ H → SqL K H a xs)
    (hs : ∀ i x σ H, i < xs.length → xs[xs.length - 1 - i]? = some x → Pv i σ H → g x σ H fun σ2 H2 => tb { D with nx := Pv (i + 1), ct := Pv (i + 1), bk := D.nx } σ2 H2) (hd : ∀ σ H, Pv xs.length σ H → D.nx σ H) :
    ∃ W : Nat → Nat → St → Hp → Prop, (∃ m, W 0 m σ H) ∧ ∀ i m σ H, W i m σ H →
      ((Itv K a xs.length).stop i H ∧ D.nx σ H) ∨ ((Itv K a xs.length).go i H ∧ ∃ N : St → Hp → Prop, (∀ σ' H', N σ' H' → ∃ m', m' < m ∧ W (i + 1) m' σ' H') ∧ ∀ x H', (Itv K a xs.length).yld i H x H' → g x σ H' fun σ2 H2 => tb { D with nx := N, ct := N, bk := D.nx } σ2 H2) := by
  refine ⟨fun i m σ H => m = xs.length - i ∧ i ≤ xs.length ∧ Pv i σ H, ⟨xs.length, by simp, Nat.zero_le _, h0⟩, ?_⟩
  rintro i m σ H ⟨rfl, hi, p⟩
  have q := hl i σ H hi p
  by_cases hlt : i < xs.length
  · have hx : xs[xs.length - 1 - i]? = some (xs[xs.length - 1 - i]'(by omega)) := List.getElem?_eq_getElem (by omega)
    refine .inr ⟨⟨hlt, xs, _, q, hx⟩, Pv (i + 1), fun σ' H' p' => ⟨xs.length - (i + 1), by omega, rfl, hlt, p'⟩, fun x H' y => ?_⟩
    obtain ⟨e, y⟩ := y
    subst e
    exact hs i x σ _ hlt (y xs q) p
  · have e : i = xs.length := by omega
    subst e
    exact .inl ⟨Nat.le_refl _, hd σ H p⟩
theorem pe_negC {X : Cx} {i : Int} {j : Nat} {pos pos' : Pos} : PE X (.UnaryOp .USub (.Constant (.int i) j pos) pos') (tC (.int (-i))) := by
  intro pins s σ H Q I h
  exact pe_un un_neg pe_int pins s σ H Q I ⟨i, rfl, h⟩
theorem cut_head {xs : List V} {k : Nat} (h : k ≤ xs.length) : cutV xs none (some (k : Int)) = xs.take k := by
  unfold cutV
  rw [HT.sIx_none, HT.sIx_nat, Nat.min_eq_left h, Nat.sub_zero, List.drop_zero]
theorem cut_tail {xs : List V} {k : Nat} (h : k ≤ xs.length) : cutV xs (some (k : Int)) none = xs.drop k := by
  unfold cutV
  rw [HT.sIx_none, HT.sIx_nat, Nat.min_eq_left h]
  exact List.take_of_length_le (by rw [List.length_drop]; exact Nat.le_refl _)
end L2
namespace Ho
open PySem L2
theorem paired_rev {α β : Type} {F : α → β → Prop} : ∀ {l : List α} {m : List β}, Paired F l m → Paired F l.reverse m.reverse
  | _, _, .nil => .nil
  | _ :: _, _ :: _, .cons r t => by
    rw [List.reverse_cons, List.reverse_cons]
    exact paired_snoc (paired_rev t) r
/-- the constants of worlds -/
structure WorldT (mg : Str → Option Value) : Prop where
  m_NEVER : ∃ t, mg "NEVER" = some (.int 1000 t)
  b_reversed : mg "reversed" = none
def Sm4 (os : List Sp3) : Prop := OkO os ∧ os.length ≤ 4
def RrAt (H : Hp) (q : Addr) (rr : List (Int × Int)) : Prop := ∃ qs : List Addr, H q = some (.lst (qs.map V.ref)) ∧ Paired (fun a r => H a = some (.tup [.int (r : Int × Int).1, .int r.2])) qs rr
def sp_rest_from : Sp := fun vs H Q _ => ∃ (s : Int) (oq rq : Addr) (os : List Sp3) (r : Int × Int), vs = [.int s, .ref oq, .ref rq] ∧ OpsAt H oq os ∧ Sm4 os ∧ H rq = some (.tup [.int r.1, .int r.2]) ∧ ∀ H' m, Same H H' → MinD (onFrom s os r) m → Q (.int m) H'
def sp_rests_of : Sp := fun vs H Q _ => ∃ (sq : Addr) (oss : List (List Sp3)), vs = [.ref sq] ∧ StepsAt H sq oss ∧ (∀ os ∈ oss, Sm4 os) ∧ oss.length ≤ 60 ∧ ∀ H' q rr, Same H H' → Rests oss rr → RrAt H' q rr → Q (.ref q) H'
section
variable {P : Program} {w : World} {K : PySem.W.Frag} {mg : Str → Option Value} {base : Heap} {k : Nat} {f C aW cBH cBR cBT : Addr}
theorem sc_rest_from : FnScope ["state", "options", "rest", "before", "behind", "price"] ["state", "options", "rest"] (defScope s_rest_from) := ⟨rfl, rfl, rfl, by decide +kernel, rfl, by decide +kernel, by decide +kernel⟩
theorem ok_rest_from (F : Top1 K "rest_from" "rest_from" s_rest_from f ["state", "options", "rest"]) (T : Bl mg) (W : WorldT mg) :
    ∃ fd, FnOk P w K mg base (CXe P w) (k + 1) f fd ["state", "options", "rest"] sp_rest_from ∧ Binds K fd ["state", "options", "rest"] [] := by
  refine F.okN sc_rest_from (fun vs H Q E h => ?_) (fun cdv A outer s H vs Q E hr h => ?_)
  · obtain ⟨_, _, _, _, _, rfl, _⟩ := h
    rfl
  · obtain ⟨st, oq, rq, os, r, rfl, ⟨qs, hq, pq⟩, ⟨hok, h4⟩, hrq, kk⟩ := h
    have hu := hu_of hr
    have nd := sc_rest_from.nd
    refine ⟨_, (pss_one (ps_ret (pe_callBK (ck_minD rfl) (by rfl) T.b_min (by decide +kernel) (pa_cons (pe_lc (own := [("before", 3), ("behind", 4), ("price", 5)]) (g := gTup K 3 (gCons (gName 3) (gCons (gName 4) (gCons (gName 5) gNil)))) (te := tOp rAdd (tVar 5) (tOp (rIxT K) (tVar 2) (tVar 4))) rfl nd (pi_list (pv 1)) (blkOk_by (own := [("before", 3), ("behind", 4), ("price", 5)]) (N := ["state", "options", "rest", "before", "behind", "price"]) (sc := defScope s_rest_from) (by decide +kernel)) (fun _ _ _ _ _ => by exact (pg_tup rfl (pgs_cons (pg_name (i := 3) nd rfl (Or.inl rfl)) (pgs_cons (pg_name (i := 4) nd rfl (Or.inl rfl)) (pgs_cons (pg_name (i := 5) nd rfl (Or.inl rfl)) pgs_nil))))) (fun _ _ _ _ _ => by exact (pts_one (pt_cmpR op_eq (pv 3) (pv 0) (nomark _)))) (fun _ _ _ _ _ => by exact (pe_op op_add (pv 5) (pe_ix ix_tup (pv 2) (pv 4) (fun _ _ => rfl))))) pa_nil) (pk_cons (pe_gint (by rfl) W.m_NEVER) pk_nil)))), ?_⟩
    have hlq : qs.length = os.length := Paired.length pq
    refine ⟨_, rfl, oq, rfl, ⟨_, SqL.of hq⟩, fun D hD => ?_⟩
    refine lc_list (K := K) (a := oq) (xs := qs.map V.ref) (fun j H2 => Same H H2 ∧ H2 D = some (.lst ((onFrom st (os.take j) r).map V.int))) ⟨(Ext.new (S := []) hD).same, upd_same⟩ (fun j H2 _ h => SqL.of (h.1 _ _ hq)) ?_ ?_
    · rintro j y H2 hj ⟨s2, hD2⟩
      rw [List.getElem?_map] at hj
      cases eq : qs[j]? with
      | none => rw [eq] at hj; cases hj
      | some qa =>
        rw [eq] at hj
        cases hj
        have hlt : j < qs.length := (List.getElem?_eq_some_iff.mp eq).1
        obtain ⟨o, ho, hqa⟩ := paired_at pq eq
        have hqa : H qa = some (.tup [.int o.1, .int o.2.1, .int o.2.2]) := hqa
        have et : os.take (j + 1) = os.take j ++ [o] := by rw [List.take_succ, ho]; rfl
        have hoo := hok o (List.mem_of_getElem? ho)
        refine ⟨qa, _, rfl, SqT.of (s2 _ _ hqa), rfl, _, _, rfl, _, _, rfl, _, _, rfl, rfl, rfl, ?_⟩
        refine ⟨_, rfl, _, rfl, rfl, _, rfl, ?_⟩
        have on : onFrom st (os.take (j + 1)) r = onFrom st (os.take j) r ++ (if o.1 = st then [o.2.2 + rAt r o.2.1] else []) := by
          unfold onFrom
          rw [et, List.filter_append, List.map_append]
          congr 1
          by_cases h : o.1 = st
          · rw [if_pos h]; simp [h]
          · rw [if_neg h]; simp [h]
        rw [on]
        have hlo : (onFrom st (os.take j) r).length ≤ 4 := by
          unfold onFrom
          rw [List.length_map]
          have h1 := List.length_filter_le (fun o : Sp3 => decide (o.1 = st)) (os.take j)
          rw [List.length_take] at h1
          omega
        by_cases hb : o.1 = st
        · rw [decide_eq_true (show V.int o.1 = V.int st by rw [hb]), if_pos hb]
          have hat : atI [V.int r.1, .int r.2] o.2.1 = some (.int (rAt r o.2.1)) := by
            unfold rAt
            rcases hoo.2.1 with h | h <;> rw [h] <;> rfl
          refine iteT ⟨_, rfl, _, rfl, _, rfl, rq, _, _, _, rfl, rfl, SqT.of (s2 _ _ hrq), hat, _, _, rfl, rfl, _, hD2, (by rw [List.length_map]; exact small1000 (by omega)), fun c oc hc => ?_, ?_⟩
          · have nc : c ≠ D := fun z => by rw [z, hD] at hc; cases hc
            rw [upd_ne nc]; exact s2 _ _ hc
          · rw [upd_same, List.map_append]; rfl
        · rw [decide_eq_false (show ¬ V.int o.1 = V.int st from fun z => hb (V.int.inj z)), if_neg hb, List.append_nil]
          exact iteF ⟨s2, hD2⟩
    · rintro H2 ⟨s2, hD2⟩
      rw [List.take_of_length_le (by rw [List.length_map]; omega)] at hD2
      exact ⟨D, _, 1000, rfl, rfl, SqL.of hD2, fun hz => kk H2 1000 s2 (.inl ⟨hz, rfl⟩), fun _ m hm hle => kk H2 m s2 (.inr ⟨hm, hle⟩)⟩
theorem sc_rests_of : FnScope ["steps", "rests", "options", "rest"] ["steps"] (defScope s_rests_of) := ⟨rfl, rfl, rfl, by decide +kernel, rfl, by decide +kernel, by decide +kernel⟩
theorem ok_rests_of (F : Top1 K "rests_of" "rests_of" s_rests_of f ["steps"]) (T : Bl mg) (W : WorldT mg) (G_rest : Fn P w K mg base k "rest_from" ["state", "options", "rest"] sp_rest_from) :
    ∃ fd, FnOk P w K mg base (CXe P w) (k + 1) f fd ["steps"] sp_rests_of ∧ Binds K fd ["steps"] [] := by
  refine F.okN sc_rests_of (fun vs H Q E h => ?_) (fun cdv A outer s H vs Q E hr h => ?_)
  · obtain ⟨_, _, rfl, _⟩ := h
    rfl
  · obtain ⟨sq, oss, rfl, ⟨qs, hq, pq⟩, hok, h60, kk⟩ := h
    have hu := hu_of hr
    have nd := sc_rests_of.nd
    have hlq : qs.length = oss.length := Paired.length pq
    refine ⟨_, (pss_cons (ps_set (i := 1) nd rfl (Or.inl rfl) (pe_lst (pa_cons (pe_tup (pa_cons pe_int (pa_cons pe_int pa_nil))) pa_nil)))
      (pss_cons (ps_for PassesOwn.never rfl (pi_reversed (by rfl) W.b_reversed (pa_cons (pv 0) pa_nil)) (pg_name (i := 2) nd rfl (Or.inl rfl))
        (pss_cons (ps_set (i := 3) nd rfl (Or.inl rfl) (pe_ix ix_list (pv 1) (pe_un un_neg pe_int) (fun _ _ => rfl)))
        (pss_one (ps_expr (pe_bm PySem.F.plainAttrs_list PySem.F.slot_list_append PySem.F.type_list_append mt_append (pv 1) (pa_cons (pe_tup (pa_cons (pcall G_rest hr (by rfl) passN (pa_cons pe_int (pa_cons (pv 2) (pa_cons (pv 3) pa_nil)))) (pa_cons (pcall G_rest hr (by rfl) passN (pa_cons pe_int (pa_cons (pv 2) (pa_cons (pv 3) pa_nil)))) pa_nil))) pa_nil))))))
      (pss_one (ps_ret (pe_rev (pv 1) (pe_negC)))))), ?_⟩
    refine ⟨(by show 2 ≤ sizeLine; decide), fun p1 hp1 => ?_⟩
    generalize hH1 : upd H p1 _ = H1
    have s1 : Same H H1 := by rw [← hH1]; exact (Ext.new (S := []) hp1).same
    have e1 : H1 p1 = some (.tup [.int 0, .int 0]) := by rw [← hH1]; exact upd_same
    clear hH1
    refine ⟨(by show 1 ≤ sizeLine; decide), fun rq hrq => ?_⟩
    generalize hH2 : upd H1 rq _ = H2
    have s2 : Same H1 H2 := by rw [← hH2]; exact (Ext.new (S := []) hrq).same
    have e2 : H2 rq = some (.lst [.ref p1]) := by rw [← hH2]; exact upd_same
    clear hH2
    have hrH : H rq = none := s1.free hrq
    have sH2 : Same H H2 := s1.trans s2
    have hml : (qs.map V.ref).length = oss.length := by rw [List.length_map]; exact hlq
    refine ⟨_, rfl, sq, _, rfl, SqL.of (sH2 _ _ hq), ?_⟩
    refine for_rev (K := K) (a := sq) (xs := qs.map V.ref) (fun j σ H3 => ∃ v2 v3, σ = [some (.ref sq), some (.ref rq), v2, v3] ∧ Ext [rq] H2 H3 ∧ ∃ (zs : List Addr) (r : Int × Int) (rr : List (Int × Int)), H3 rq = some (.lst (zs.map V.ref)) ∧ Paired (fun a r => H3 a = some (.tup [.int (r : Int × Int).1, .int r.2])) zs (r :: rr).reverse ∧ Rests (oss.drop (oss.length - j)) (r :: rr)) ?_ ?_ ?_ ?_
    · refine ⟨none, none, rfl, Ext.refl _ _, [p1], (0, 0), [], e2, .cons (s2 _ _ e1) .nil, ?_⟩
      rw [Nat.sub_zero, List.drop_of_length_le (Nat.le_refl _)]
      exact .nil
    · rintro j σ H3 _ ⟨_, _, _, x3, _⟩
      exact SqL.of (x3 _ _ (sH2 _ _ hq) (by simpa using ne_of_none hq hrH))
    · rintro j y σ H3 hjl hj ⟨v2, v3, rfl, x3, zs, r, rr, hz3, p3, hR⟩
      rw [hml] at hjl hj
      rw [List.getElem?_map] at hj
      cases eq : qs[oss.length - 1 - j]? with
      | none => rw [eq] at hj; cases hj
      | some qa =>
        rw [eq] at hj
        cases hj
        obtain ⟨os, hos, hqa⟩ := paired_at pq eq
        have hom : os ∈ oss := List.mem_of_getElem? hos
        have hzl : zs.length = rr.length + 1 := by rw [Paired.length p3, List.length_reverse]; rfl
        have hrl := hR.len
        rw [List.length_drop, List.length_cons] at hrl
        rw [List.reverse_cons] at p3
        obtain ⟨z1, z2, rfl, pz1, pz2⟩ : ∃ z1 z2, zs = z1 ++ [z2] ∧ Paired (fun a r => H3 a = some (.tup [.int (r : Int × Int).1, .int r.2])) z1 rr.reverse ∧ H3 z2 = some (.tup [.int r.1, .int r.2]) := by
          have hne : zs ≠ [] := fun z => by rw [z] at hzl; simp at hzl
          obtain ⟨w1, w2, e⟩ : ∃ w1 w2, zs = w1 ++ [w2] := ⟨zs.dropLast, zs.getLast hne, (List.dropLast_concat_getLast hne).symm⟩
          subst e
          have hw : w1.length = rr.reverse.length := by
            rw [List.length_append] at hzl
            rw [List.length_reverse]
            simp at hzl
            omega
          refine ⟨w1, w2, rfl, paired_ofGet hw fun i a b h1 h2 => ?_, ?_⟩
          · have hi : i < w1.length := (List.getElem?_eq_some_iff.mp h1).1
            obtain ⟨b', h3, h4⟩ := paired_at p3 (show (w1 ++ [w2])[i]? = some a by rw [List.getElem?_append_left hi]; exact h1)
            rw [List.getElem?_append_left (by omega), h2] at h3
            cases h3; exact h4
          · obtain ⟨b', h3, h4⟩ := paired_at p3 (show (w1 ++ [w2])[w1.length]? = some w2 by simp)
            rw [hw] at h3
            simp at h3
            subst h3; exact h4
        refine ⟨_, rfl, _, rfl, rq, _, _, _, rfl, rfl, SqL.of hz3, (by rw [List.map_append]; exact atI_last _ _), ?_⟩
        have hqa3 : OpsAt H3 qa os := by
          obtain ⟨ts, t1, t2⟩ := hqa
          refine ⟨ts, x3 _ _ (sH2 _ _ t1) (by simpa using ne_of_none t1 hrH), paired_imp (fun c x hc => ?_) t2⟩
          have hc : H c = some (.tup [.int x.1, .int x.2.1, .int x.2.2]) := hc
          exact x3 _ _ (sH2 _ _ hc) (by simpa using ne_of_none hc hrH)
        refine ⟨_, rfl, (.inl ⟨rfl, _, SqL.of hz3⟩), _, rfl, _, rfl, 0, qa, z2, os, r, rfl, hqa3, hok os hom, pz2, fun H4 m0 s4 hm0 => ?_⟩
        refine ⟨_, rfl, _, rfl, 1, qa, z2, os, r, rfl, hqa3.same s4, hok os hom, s4 _ _ pz2, fun H5 m1 s5 hm1 => ?_⟩
        refine ⟨(by show 2 ≤ sizeLine; decide), fun p6 hp6 => ?_⟩
        generalize hH6 : upd H5 p6 _ = H6
        have s6 : Same H5 H6 := by rw [← hH6]; exact (Ext.new (S := []) hp6).same
        have e6 : H6 p6 = some (.tup [.int m0, .int m1]) := by rw [← hH6]; exact upd_same
        clear hH6
        have s36 := s4.trans (s5.trans s6)
        have hz6 := s36 _ _ hz3
        have np : p6 ≠ rq := fun z => by rw [z, s5 _ _ (s4 _ _ hz3)] at hp6; cases hp6
        refine ⟨rq, _, _, rfl, rfl, hz6, (by rw [List.length_map]; exact small1000 (by omega)), ?_⟩
        refine ⟨_, _, rfl, fun c oc hc hn => ?_, (z1 ++ [z2]) ++ [p6], (m0, m1), r :: rr, ?_, ?_, ?_⟩
        · rw [upd_ne (by simpa using hn)]; exact s36 _ _ (x3 _ _ hc hn)
        · rw [upd_same, List.map_append (l₁ := z1 ++ [z2])]; rfl
        · have e7 : ((m0, m1) :: r :: rr).reverse = (rr.reverse ++ [r]) ++ [(m0, m1)] := by rw [List.reverse_cons, List.reverse_cons]
          rw [e7]
          refine paired_snoc (paired_imp (fun c x hc => ?_) p3) ?_
          · rw [upd_ne (fun z => by rw [z, hz3] at hc; cases hc)]; exact s36 _ _ hc
          · rw [upd_ne np]; exact e6
        · have e8 : oss.drop (oss.length - (j + 1)) = os :: oss.drop (oss.length - j) := by
            have h1 : oss.length - (j + 1) = oss.length - 1 - j := by omega
            have h2 : oss.length - 1 - j < oss.length := by omega
            rw [h1, List.drop_eq_getElem_cons h2]
            rw [List.getElem?_eq_getElem h2] at hos
            rw [Option.some.inj hos]
            congr 2
            omega
          rw [e8]
          exact .cons hR hm0 hm1
    · rintro σ H3 ⟨v2, v3, rfl, x3, zs, r, rr, hz3, p3, hR⟩
      rw [hml, Nat.sub_self, List.drop_zero] at hR
      refine ⟨_, rfl, rq, _, rfl, SqL.of hz3, fun p9 hp9 => ?_⟩
      generalize hH9 : upd H3 p9 _ = H9
      have s9 : Same H3 H9 := by rw [← hH9]; exact (Ext.new (S := []) hp9).same
      have e9 : H9 p9 = some (.lst (zs.map V.ref).reverse) := by rw [← hH9]; exact upd_same
      clear hH9
      refine kk H9 p9 (r :: rr) (fun b ob hb => s9 _ _ (x3 _ _ (sH2 _ _ hb) (by simpa using ne_of_none hb hrH))) hR ⟨zs.reverse, by rw [e9, List.map_reverse], ?_⟩
      have p9 := paired_rev (paired_imp (fun c x hc => s9 _ _ hc) p3)
      rw [List.reverse_reverse] at p9
      exact p9
end
end Ho
set_option Elab.async false
set_option linter.all false
set_option maxRecDepth 100000
set_option maxHeartbeats 4000000
namespace Ho
open PySem L2
def sp_steps_through : Sp := fun vs H Q _ => ∃ (sq : Addr) (oss : List (List Sp3)) (m : Nat) (s : Int), vs = [.ref sq, .int (m : Int), .int s] ∧ StepsAt H sq oss ∧ (∀ os ∈ oss, Sm4 os) ∧ oss.length ≤ 60 ∧ 1 ≤ m ∧ m ≤ oss.length ∧ ∀ H' q, Same H H' → StepsAt H' q (through oss m s) → Q (.ref q) H'
section
variable {P : Program} {w : World} {K : PySem.W.Frag} {mg : Str → Option Value} {base : Heap} {k : Nat} {f C aW cBH cBR cBT : Addr}
theorem sc_steps_through : FnScope ["steps", "moment", "state", "leading", "step"] ["steps", "moment", "state"] (defScope s_steps_through) := ⟨rfl, rfl, rfl, by decide +kernel, rfl, by decide +kernel, by decide +kernel⟩
theorem ok_steps_through (F : Top1 K "steps_through" "steps_through" s_steps_through f ["steps", "moment", "state"]) :
    ∃ fd, FnOk P w K mg base (CXe P w) (k + 1) f fd ["steps", "moment", "state"] sp_steps_through ∧ Binds K fd ["steps", "moment", "state"] [] := by
  refine F.okN sc_steps_through (fun vs H Q E h => ?_) (fun cdv A outer s H vs Q E hr h => ?_)
  · obtain ⟨_, _, _, _, rfl, _⟩ := h
    rfl
  · obtain ⟨sq, oss, m, st, rfl, ⟨qs, hq, pq⟩, hok, h60, hm1, hm2, kk⟩ := h
    have hu := hu_of hr
    have nd := sc_steps_through.nd
    have hlq : qs.length = oss.length := Paired.length pq
    refine ⟨_, (pss_cons (ps_setLc (i := 3) (own := [("step", 4)]) (g := gName 4) (tt := tTest (tOp rEq (tOp (rIxT K) (tVar 4) (tC (.int 1))) (tVar 2))) (te := tVar 4) rfl nd rfl rfl (sw_true rfl rfl rfl (by decide +kernel)) (pi_list (pe_ix ix_list (pv 0) (pe_op op_sub (pv 1) pe_int) (fun _ _ => rfl))) (blkOk_by (own := [("step", 4)]) (N := ["steps", "moment", "state", "leading", "step"]) (sc := defScope s_steps_through) (by decide +kernel)) (fun _ _ _ _ _ => by exact (pg_name (i := 4) nd rfl (Or.inl rfl))) (fun _ _ _ _ _ => by exact (pts_one (pt_cmpR op_eq (pe_ix ix_tup (pv 4) pe_int (fun _ _ => rfl)) (pv 2) (nomark _)))) (fun _ _ _ _ _ => by exact (pv 4)))
      (pss_one (ps_ret (pe_op op_cat (pe_op op_cat (pe_slice sl_list (pv 0) po_none (po_some (pe_op op_sub (pv 1) pe_int))) (pe_lst (pa_cons (pv 3) pa_nil))) (pe_slice sl_list (pv 0) (po_some (pv 1)) po_none))))), ?_⟩
    have hlt : m - 1 < qs.length := by omega
    have hq1 : qs[m - 1]? = some qs[m - 1] := List.getElem?_eq_getElem hlt
    generalize qs[m - 1] = qa at hq1
    obtain ⟨os, hos, qs2, hqa, pqa⟩ := paired_at pq hq1
    have hat : atI (qs.map V.ref) ((m : Int) - 1) = some (.ref qa) := by
      have e : (m : Int) - 1 = ((m - 1 : Nat) : Int) := by omega
      rw [e]; exact atI_nat (by rw [List.getElem?_map, hq1]; rfl)
    have hom : os ∈ oss := List.mem_of_getElem? hos
    have h4 := (hok os hom).2
    have hl2 : qs2.length = os.length := Paired.length pqa
    refine ⟨_, rfl, _, rfl, _, _, rfl, rfl, sq, _, _, _, rfl, rfl, SqL.of hq, hat, qa, rfl, ⟨_, SqL.of hqa⟩, fun D hD => ?_⟩
    refine lc_list (K := K) (a := qa) (xs := qs2.map V.ref) (fun j H2 => Same H H2 ∧ ∃ zs : List Addr, H2 D = some (.lst (zs.map V.ref)) ∧ Paired (StO H) zs ((os.take j).filter fun o => decide (o.2.1 = st)) ∧ zs.length ≤ j) ⟨(Ext.new (S := []) hD).same, [], upd_same, .nil, Nat.le_refl _⟩ (fun j H2 _ h => SqL.of (h.1 _ _ hqa)) ?_ ?_
    · rintro j y H2 hj ⟨s2, zs, hD2, pz, hzl⟩
      rw [List.getElem?_map] at hj
      cases eq : qs2[j]? with
      | none => rw [eq] at hj; cases hj
      | some qb =>
        rw [eq] at hj
        cases hj
        have hlt : j < qs2.length := (List.getElem?_eq_some_iff.mp eq).1
        obtain ⟨o, ho, hqb⟩ := paired_at pqa eq
        have hqb' : H qb = some (.tup [.int o.1, .int o.2.1, .int o.2.2]) := hqb
        have et : os.take (j + 1) = os.take j ++ [o] := by rw [List.take_succ, ho]; rfl
        refine ⟨rfl, ?_⟩
        refine ⟨_, rfl, qb, _, _, _, rfl, rfl, SqT.of (s2 _ _ hqb'), rfl, _, rfl, rfl, _, rfl, ?_⟩
        rw [et, List.filter_append]
        by_cases hb : o.2.1 = st
        · rw [decide_eq_true (show V.int o.2.1 = V.int st by rw [hb])]
          refine iteT ⟨_, rfl, _, hD2, (by rw [List.length_map]; exact small1000 (by omega)), fun c oc hc => ?_, zs ++ [qb], ?_, ?_, ?_⟩
          · have nc : c ≠ D := fun z => by rw [z, hD] at hc; cases hc
            rw [upd_ne nc]; exact s2 _ _ hc
          · rw [upd_same, List.map_append]; rfl
          · have : [o].filter (fun o => decide (o.2.1 = st)) = [o] := by simp [hb]
            rw [this]
            exact paired_snoc pz hqb
          · rw [List.length_append]; simp only [List.length_cons, List.length_nil]; omega
        · rw [decide_eq_false (show ¬ V.int o.2.1 = V.int st from fun z => hb (V.int.inj z))]
          have : [o].filter (fun o => decide (o.2.1 = st)) = [] := by simp [hb]
          rw [this, List.append_nil]
          exact iteF ⟨s2, zs, hD2, pz, by omega⟩
    · rintro H2 ⟨s2, zs, hD2, pz, _⟩
      rw [List.take_of_length_le (by rw [List.length_map]; omega)] at pz
      have hq2 := s2 _ _ hq
      refine ⟨_, rfl, _, rfl, _, _, rfl, rfl, _, rfl, sq, _, rfl, SqL.of hq2, fun p3 hp3 => ?_⟩
      generalize hH3 : upd H2 p3 _ = H3
      have s3 : Same H2 H3 := by rw [← hH3]; exact (Ext.new (S := []) hp3).same
      have e3 : H3 p3 = some (.lst (cutV (qs.map V.ref) none (some ((m : Int) - 1)))) := by rw [← hH3]; exact upd_same
      clear hH3
      have ec : (m : Int) - 1 = ((m - 1 : Nat) : Int) := by omega
      rw [ec, cut_head (by rw [List.length_map]; omega), ← List.map_take] at e3
      refine ⟨_, rfl, (by show 1 ≤ sizeLine; decide), fun p4 hp4 => ?_⟩
      generalize hH4 : upd H3 p4 _ = H4
      have s4 : Same H3 H4 := by rw [← hH4]; exact (Ext.new (S := []) hp4).same
      have e4 : H4 p4 = some (.lst [.ref D]) := by rw [← hH4]; exact upd_same
      clear hH4
      refine ⟨p3, p4, _, _, rfl, rfl, s4 _ _ e3, e4, ?_, fun p5 hp5 => ?_⟩
      · refine Nat.le_of_lt (small1000 ?_)
        rw [List.length_map, List.length_take]
        show _ + 1 ≤ 1000
        omega
      generalize hH5 : upd H4 p5 _ = H5
      have s5 : Same H4 H5 := by rw [← hH5]; exact (Ext.new (S := []) hp5).same
      have e5 : H5 p5 = some (.lst ((qs.take (m - 1)).map V.ref ++ [.ref D])) := by rw [← hH5]; exact upd_same
      clear hH5
      have s25 := s3.trans (s4.trans s5)
      refine ⟨_, rfl, _, rfl, _, rfl, sq, _, rfl, SqL.of (s25 _ _ hq2), fun p6 hp6 => ?_⟩
      generalize hH6 : upd H5 p6 _ = H6
      have s6 : Same H5 H6 := by rw [← hH6]; exact (Ext.new (S := []) hp6).same
      have e6 : H6 p6 = some (.lst (cutV (qs.map V.ref) (some (m : Int)) none)) := by rw [← hH6]; exact upd_same
      clear hH6
      rw [cut_tail (by rw [List.length_map]; omega), ← List.map_drop] at e6
      refine ⟨p5, p6, _, _, rfl, rfl, s6 _ _ e5, e6, ?_, fun p7 hp7 => ?_⟩
      · refine Nat.le_of_lt (small1000 ?_)
        rw [List.length_append, List.length_map, List.length_take, List.length_map, List.length_drop]
        show _ + 1 + _ ≤ 1000
        omega
      generalize hH7 : upd H6 p7 _ = H7
      have s7 : Same H6 H7 := by rw [← hH7]; exact (Ext.new (S := []) hp7).same
      have e7 : H7 p7 = some (.lst ((qs.take (m - 1)).map V.ref ++ [.ref D] ++ (qs.drop m).map V.ref)) := by rw [← hH7]; exact upd_same
      clear hH7
      have s27 := s25.trans (s6.trans s7)
      have sH := s2.trans s27
      refine kk H7 p7 sH ⟨qs.take (m - 1) ++ [D] ++ qs.drop m, by rw [e7, List.map_append, List.map_append]; rfl, ?_⟩
      unfold through
      have hgd : oss.getD (m - 1) [] = os := by rw [List.getD_eq_getElem?_getD, hos]; rfl
      rw [hgd]
      refine paired_append (paired_append (paired_take _ (paired_imp (fun c x (hc : OpsAt H c x) => hc.same sH) pq)) (.cons ⟨zs, s27 _ _ hD2, paired_imp (fun c x hc => sH _ _ hc) pz⟩ .nil)) (paired_drop _ (paired_imp (fun c x (hc : OpsAt H c x) => hc.same sH) pq))
end
end Ho
set_option Elab.async false
set_option linter.all false
set_option maxRecDepth 100000
set_option maxHeartbeats 4000000
namespace Ho
open PySem L2
/-! ### stories begun, one moment longer each time -/
/-- the story, its state, what is spent -/
abbrev Bg := List Int × Int × Int
def lon1 (os : List Sp3) (r : Int × Int) (most : Int) (x : Bg) : List Bg := (os.filter fun o => decide (o.1 = x.2.1 ∧ x.2.2 + o.2.2 + rAt r o.2.1 ≤ most)).map fun o => (x.1 ++ [o.2.1], o.2.1, x.2.2 + o.2.2)
def longer (bs : List Bg) (os : List Sp3) (r : Int × Int) (most : Int) : List Bg := bs.flatMap (lon1 os r most)
def cutB (most : Int) (many : Nat) : List (List Sp3) → List (Int × Int) → List Bg → List Bg
  | os :: oss, _ :: r :: rr, bs => cutB most many oss (r :: rr) ((longer bs os r most).take many)
  | _, _, bs => bs
/-- each one begun can be ended: its spent and the rest are within the price -/
def CanEnd (r : Int × Int) (most : Int) (bs : List Bg) : Prop := ∀ x ∈ bs, (x.2.1 = 0 ∨ x.2.1 = 1) ∧ x.2.2 + rAt r x.2.1 ≤ most ∧ 0 ≤ x.2.2
theorem lon1_ne {os : List Sp3} {r r' : Int × Int} {most : Int} {x : Bg} (m0 : MinD (onFrom 0 os r) r'.1) (m1 : MinD (onFrom 1 os r) r'.2) (hm : most < 1000) (h0 : x.2.1 = 0 ∨ x.2.1 = 1) (h1 : x.2.2 + rAt r' x.2.1 ≤ most) (h2 : 0 ≤ x.2.2) : lon1 os r most x ≠ [] := by
  have hmd : MinD (onFrom x.2.1 os r) (rAt r' x.2.1) := by
    rcases h0 with h | h
    · rw [h]; exact m0
    · rw [h]; exact m1
  rcases hmd with ⟨_, g⟩ | ⟨g, _⟩
  · omega
  · unfold onFrom at g
    obtain ⟨o, ho, e⟩ := List.mem_map.mp g
    obtain ⟨k1, k2⟩ := List.mem_filter.mp ho
    have k2 : o.1 = x.2.1 := by simpa using k2
    intro z
    have : (x.1 ++ [o.2.1], o.2.1, x.2.2 + o.2.2) ∈ lon1 os r most x := by
      unfold lon1
      exact List.mem_map.mpr ⟨o, List.mem_filter.mpr ⟨k1, decide_eq_true ⟨k2, by omega⟩⟩, rfl⟩
    rw [z] at this; cases this
theorem longer_can {bs : List Bg} {os : List Sp3} {r : Int × Int} {most : Int} (ok : OkO os) (h : ∀ x ∈ bs, 0 ≤ x.2.2) : CanEnd r most (longer bs os r most) := fun y hy => by
  unfold longer lon1 at hy
  obtain ⟨x, hx, hy⟩ := List.mem_flatMap.mp hy
  obtain ⟨o, ho, rfl⟩ := List.mem_map.mp hy
  obtain ⟨k1, k2⟩ := List.mem_filter.mp ho
  have k2 := of_decide_eq_true k2
  have hok := ok o k1
  have := h x hx
  refine ⟨hok.2.1, k2.2, ?_⟩
  show 0 ≤ x.2.2 + o.2.2
  omega
end Ho
set_option Elab.async false
set_option linter.all false
set_option maxRecDepth 100000
set_option maxHeartbeats 4000000
namespace L2
open PySem PySem.Spec PyProof.Rows PySem.SeqAt
/-! ### tuples of ints, by == and < -/
/-- a key: a price and a story -/
abbrev Ky := Int × List Int
def KAt (h : Heap) (v : Value) (k : Ky) : Prop := ∃ (q a : Addr) (t : Tok) (its : List Value), v = .ref q ∧ h.IsTuple q #[.int k.1 t, .ref a] ∧ h.IsTuple a its.toArray ∧ IntsAre its k.2
theorem IsTuple.keeps {h h' : Heap} {a : Addr} {x : Array Value} (hk : ∀ b o, h.get? b = some o → h'.get? b = some o) (e : h.IsTuple a x) : h'.IsTuple a x := by
  obtain ⟨o, h1, h2⟩ := e
  exact ⟨o, hk _ _ h1, h2⟩
theorem KAt.keeps {h h' : Heap} {v : Value} {k : Ky} (hk : ∀ b o, h.get? b = some o → h'.get? b = some o) (e : KAt h v k) : KAt h' v k := by
  obtain ⟨q, a, t, its, h1, h2, h3, h4⟩ := e
  exact ⟨q, a, t, its, h1, IsTuple.keeps hk h2, IsTuple.keeps hk h3, h4⟩
theorem tuple_inj {h : Heap} {a : Addr} {x y : Array Value} (e1 : h.IsTuple a x) (e2 : h.IsTuple a y) : x = y := by
  obtain ⟨o, h1, _, n, h3⟩ := e1
  obtain ⟨o', g1, _, n', g3⟩ := e2
  rw [h1] at g1; cases g1
  rw [h3] at g3
  injection g3
section
variable {X : Cx}
end
end L2
set_option Elab.async false
set_option linter.all false
set_option maxRecDepth 100000
set_option maxHeartbeats 4000000
namespace L2
open PySem PySem.Spec PyProof.Rows PySem.SeqAt
section
variable {X : Cx}
/-! ### [] in a list of lists -/
end
end L2
set_option Elab.async false
set_option linter.all false
set_option maxRecDepth 100000
set_option maxHeartbeats 4000000
namespace L2
open PySem PySem.Spec PyProof.Rows
section
variable {X : Cx}
/-! ### a tuple and a tuple that is not empty -/
def rCatA (K : PySem.W.Frag) : R2 := fun x y H Q => ∃ (a b : Addr) (xs ys : List V), x = .ref a ∧ y = .ref b ∧ SqT K H a xs ∧ H b = some (.tup ys) ∧ ys ≠ [] ∧ xs.length + ys.length ≤ sizeLine ∧ ∀ p H', Same H H' → H' p = some (.tup (xs ++ ys)) → Q (.ref p) H'
theorem op_catA : OpR X (binaryOp .Add) (rCatA X.K) := by
  intro pins s σ H x y v u Q I rx ry h
  obtain ⟨a, b, xs, ys, rfl, rfl, ha, hb, hy, hz, q⟩ := h
  by_cases hx : xs = []
  · subst hx
    cases rx
    cases ry
    obtain ⟨its, r1, p1, _⟩ := I.tuple ha
    obtain ⟨its2, r2, p2, _⟩ := I.tuple (SqT.of (K := X.K) hb)
    have hv : its = [] := r1.nil_iff.mpr rfl
    obtain ⟨⟨c1, d1, dt1, sl1⟩, ho, hc, n1, hd⟩ := id p1
    obtain ⟨⟨c2, d2, dt2, sl2⟩, ho2, hc2, n2, hd2⟩ := id p2
    simp only at hc hd hc2 hd2
    subst hc hd hc2 hd2
    exact concat_meets ⟨_, ho, rfl⟩ ⟨_, ho2, rfl⟩ noFill_tuple_add seq_tuple_add (PySem.F.slot_tuple_add) PySem.F.entry_tuple_add (PySem.F.args_tuple_add_2 _ _)
      (tuple_addW0 a b its.toArray its2.toArray n1 n2 d1 d2 sl1 sl2 (by rw [hv]; rfl)) ⟨ho, ho2, ⟨.ref b, H, I, rfl, q b H (Same.refl H) hb⟩⟩
  · exact op_catT pins s σ H (.ref a) (.ref b) v u Q I rx ry ⟨a, b, xs, ys, rfl, rfl, ha, SqT.of hb, hx, hz, fun z => (hy z).elim, fun _ p hp => q p _ (fun c o e => by rw [upd_ne (ne_of_none e hp)]; exact e) upd_same⟩
end
end L2
set_option Elab.async false
set_option linter.all false
set_option maxRecDepth 100000
set_option maxHeartbeats 4000000
namespace PySem
/-! ### enumerate(xs, start = 1) -/
section
variable {prog : Program} {w : World} {A : Around} {E : Value → Shared → Prop} {s : Shared}
theorem init_kw {T made : String} {v : Value} {vs : List Value} {kw : List (Str × Value)} (h1 : typeLookup (.type T) "__init__" = pure (some (.builtin "object.__init__"))) (h2 : Bind.madeBy (.type T) = pure (some made)) (h3 : (some made != some "object.__new__") = true) :
    Meets (Builtin.«object.__init__» ⟨v :: vs, kw⟩) (fun _ R s => s.TypeIs v T ∧ R (.ok (.ret .none)) s) := by
  refine Meets.of_wp fun p w A R s q => ?_
  obtain ⟨q1, q2⟩ := q
  cases vs with
  | nil =>
    cases kw with
    | nil => exact wpAny_pure ⟨_, rfl, q2⟩
    | cons k kw =>
      repeat (any_goals (first | assumption | wp_step))
      exact ⟨_, rfl, q2⟩
  | cons b vs =>
    repeat (any_goals (first | assumption | wp_step))
    exact ⟨_, rfl, q2⟩
theorem type_kw {T made : String} {Bn : Builtin} {vs : List Value} {kw : List (Str × Value)} {S : Spec} {Q : Value → Shared → Prop} (ft : TypeCalled T made "object.__init__") (hne : (some made != some "object.__new__") = true)
    (c1 : checkTypeCall T ⟨vs, kw⟩ = pure ()) (c2 : checkBuiltinCall made ⟨.type T :: vs, kw⟩ = pure ()) (c3 : ∀ obj, argsOk "object.__init__" ⟨obj :: vs, kw⟩) (en : entryFor table made = some Bn) (g : Meets (Bn ⟨.type T :: vs, kw⟩) S)
    (h : S A.in1 (wants (fun obj s₁ => s₁.TypeIs obj T ∧ Q obj s₁) E) s) : wpAny (model prog w) A (call (.type T) vs kw) Q E s := by
  obtain ⟨m1, m2, mro⟩ := ft.mro
  have a1 := ft.made
  have a2 := ft.sub
  have a3 := ft.notType
  have a4 := ft.canCreate
  refine wpAny_call (codeAny_of_tree ?_)
  show wpAny _ _ (callAny (.type T) _) _ _ _
  refine wpAny_pure ⟨Code.quiet_builtin _ (by decide +kernel), codeAny_builtin F.entry_type_call ?_⟩
  rw [Around.under_plain (weight_type_call_type T vs kw) (units_type_call_type T vs kw)]
  repeat (any_goals (first | assumption | wp_step))
  refine codeAny_mono (codeAny_call_builtin ft.plain en (wpAny_of_eq c2 (g prog w A.in1 _ s h))) fun r s1 k => ?_
  match r, k with
  | .error e, k => exact k
  | .ok (.ret obj), k =>
    obtain ⟨k1, k2⟩ := k
    have b1 := ft.init.lookup
    have b2 := ft.init.bind obj
    repeat (any_goals (first | assumption | wp_step))
    refine codeAny_mono (codeAny_call_builtin ft.init.plain F.entry_object_init (ft.init.check _ _ _ _ _ _ _ _ k1 (c3 obj) (init_kw b1 a1 hne prog w A.in1 (wants (fun r s₂ => r = .none ∧ Q obj s₂) E) s1 ⟨k1, rfl, k2⟩))) fun r2 s2 k3 => ?_
    match r2, k3 with
    | .error e, k3 => exact k3
    | .ok (.ret r), k3 =>
      obtain ⟨rfl, hq⟩ := k3
      repeat (any_goals (first | assumption | wp_step))

open AutoSeq1 (wpAny_loadPart') in
theorem enum1_new (a : Addr) (xs : Array Value) (k : Nat) (dc : Option Addr) (sl : Array (Option Value)) (t : Tok) : Meets (Builtin.«enumerate.__new__» ⟨[.type "enumerate", .ref a], [("start", .int 1 t)]⟩) (fun _ R s =>
    s.heap.get? a = some ⟨.type "list", dc, .seq xs k, sl⟩ ∧
      R (.ok (.ret (.ref (s.heap.objs.size + 1)))) { s with heap := (s.heap.push { cls := .type "list_iterator", data := .fields #[.ref a, .int 0 0] }).push { cls := .type "enumerate", data := .fields #[.none, .bool false, .ref s.heap.objs.size, rawInt 1, .none, .none] } }) :=
  .of_wp fun p w A R s q => by
    obtain ⟨hp, g, d, tk, os⟩ := s
    obtain ⟨q1, q2⟩ := q
    have b1 := sub_enumerate
    have b2 : Heap.IsList (Shared.heap ⟨hp, g, d, tk, os⟩) a xs := ⟨_, q1, rfl, k, rfl⟩
    wp_walk using wpAny_loadPart' q1
    refine wpAny_stack_any fun st => wpAny_pure ?_
    split
    · rename_i c _ _ _ _ _
      cases (c == Value.type "enumerate")
      · wp_walk using wpAny_loadPart' q1, wpAny_pyIter_list b2
        exact ⟨_, by rw [Heap.size_push], q2⟩
      · wp_walk using wpAny_loadPart' q1, wpAny_pyIter_list b2
        exact ⟨_, by rw [Heap.size_push], q2⟩
    · wp_walk using wpAny_loadPart' q1, wpAny_pyIter_list b2
      exact ⟨_, by rw [Heap.size_push], q2⟩
theorem init_args (v u x : Value) : argsOk "object.__init__" ⟨[v, u], [("start", x)]⟩ := by
  have e := signature?_of (id := "object.__init__") (n := "__init__".toList.reverse) (o := "object".toList.reverse) (by kernel_rfl) F.owner_object
  unfold argsOk
  rw [e]
  kernel_rfl
theorem call_enum1 {a : Addr} {xs : Array Value} {t : Tok} {Q : Value → Shared → Prop} (hL : s.heap.IsList a xs)
    (h : ∀ h1, IsEnum h1 (s.heap.objs.size + 1) s.heap.objs.size 1 .none → h1.IsListIter s.heap.objs.size a 0 → h1.objs.size = s.heap.objs.size + 2 → (∀ b o, s.heap.get? b = some o → h1.get? b = some o) → Q (.ref (s.heap.objs.size + 1)) { s with heap := h1 }) :
    wpAny (model prog w) A (call (.type "enumerate") [.ref a] [("start", .int 1 t)]) Q E s := by
  obtain ⟨⟨c, dc, dt, sl⟩, h1, h2, k, h3⟩ := hL
  have h2 : c = .type "list" := h2
  have h3 : dt = .seq xs k := h3
  subst h2 h3
  have z := Heap.size_push s.heap { cls := .type "list_iterator", data := .fields #[.ref a, .int 0 0] }
  have en : IsEnum ((s.heap.push { cls := .type "list_iterator", data := .fields #[.ref a, .int 0 0] }).push { cls := .type "enumerate", data := .fields #[.none, .bool false, .ref s.heap.objs.size, rawInt 1, .none, .none] }) (s.heap.objs.size + 1) s.heap.objs.size 1 .none := by
    have y := Heap.get?_push_size (s.heap.push { cls := .type "list_iterator", data := .fields #[.ref a, .int 0 0] }) (o := { cls := .type "enumerate", data := .fields #[.none, .bool false, .ref s.heap.objs.size, rawInt 1, .none, .none] }) rfl
    rw [z] at y
    exact y
  refine type_kw F.called_enumerate (by decide) (by kernel_rfl) (by kernel_rfl) (fun obj => init_args obj _ _) F.entry_enumerate_new (enum1_new a xs k dc sl t) ⟨h1, ?_⟩
  exact ⟨⟨_, en, rfl⟩, h _ en ⟨_, Heap.get?_push_of_some _ (Heap.get?_push_size _ rfl), rfl, rfl⟩ (by rw [Heap.size_push, z]) fun b o y => Heap.get?_push_of_some _ (Heap.get?_push_of_some _ y)⟩
/-- a list's iterator, its turns numbered from 1 -/
theorem draws1 {a it : Addr} {xs : Array Value} (hh : A.handled = none) : Draws prog w A it [it, a] (xs.size + 1) (fun i x => xs[i - 1]? = some x) (fun i h => 1 ≤ i ∧ h.IsListIter it a (i - 1) ∧ h.IsList a xs) where
  live := fun i h ⟨_, ⟨o, q, _⟩, _⟩ => ⟨o, q⟩
  frame := fun i h h1 ⟨p, ⟨o, q, q2⟩, ⟨u, r, r2⟩⟩ k => ⟨p, ⟨o, k it (by simp) o q, q2⟩, ⟨u, k a (by simp) u r, r2⟩⟩
  item := fun i s Q E hi st hq => by
    obtain ⟨p, q, r⟩ := st
    have na : it ≠ a := fun z => by
      obtain ⟨o, q1, q2, _⟩ := q
      obtain ⟨u, r1, r2, _⟩ := r
      rw [z, r1] at q1
      cases q1
      rw [r2] at q2
      exact absurd q2 (by decide)
    have hx : xs[i - 1]? = some (xs[i - 1]'(by omega)) := Array.getElem?_eq_getElem (by omega)
    refine wpAny_nextOf_list_item q r hx fun h1 q1 sb => hq _ h1 s.toks hx ⟨by omega, ?_, ?_⟩ sb
    · have : i + 1 - 1 = i - 1 + 1 := by omega
      rw [this]; exact q1
    · obtain ⟨u, r1, r2⟩ := r
      exact ⟨u, (sb.2 a (fun z => na z.symm)).trans r1, r2⟩
  done := fun s Q E st hq => by
    obtain ⟨p, q, r⟩ := st
    exact wpAny_nextOf_list_end hh q r (Array.getElem?_eq_none (by omega)) hq
theorem drawsE {a it : Addr} {xs : Array Value} {i : Nat} (hh : A.handled = none) (hx : xs[i]? = none) : Draws prog w A it [it, a] (i + 1) (fun _ _ => True) (fun j h => j = i + 1 ∧ h.IsListIter it a i ∧ h.IsList a xs) where
  live := fun j h ⟨_, ⟨o, q, _⟩, _⟩ => ⟨o, q⟩
  frame := fun j h h1 ⟨p, ⟨o, q, q2⟩, ⟨u, r, r2⟩⟩ k => ⟨p, ⟨o, k it (by simp) o q, q2⟩, ⟨u, k a (by simp) u r, r2⟩⟩
  item := fun j s Q E hj st hq => absurd st.1 (Nat.ne_of_lt hj)
  done := fun s Q E st hq => by
    obtain ⟨p, q, r⟩ := st
    exact wpAny_nextOf_list_end hh q r hx hq
end
end PySem
namespace L2
open PySem PySem.Spec PyProof.Rows
/-- the list at a, each item in a new pair, numbered from 1 -/
def Ite1 (K : PySem.W.Frag) (a : Addr) : It where
  go i H := ∃ (xs : List V) (x : V), SqL K H a xs ∧ xs[i]? = some x
  yld i H v H' := ∃ T x, v = .ref T ∧ H T = none ∧ H' = upd H T (.tup [.int ((i : Int) + 1), x]) ∧ ∀ xs, SqL K H a xs → xs[i]? = some x
  stop i H := ∃ xs : List V, SqL K H a xs ∧ xs.length ≤ i
theorem turn_enum1 {P : Program} {w : World} {K : PySem.W.Frag} {elts : List Expr} {kk : Nat} {tpos : Pos} (a e it : Addr) :
    Turn P w K (.Tuple elts kk tpos) (Ite1 K a) [e, it] e (fun i h => (∃ v, IsEnum h e it (((i + 1 : Nat) : Nat) : Int) v) ∧ h.IsListIter it a i ∧ e ≠ it) where
  mem := List.mem_cons_self ..
  obj := fun i h ⟨⟨v, q1⟩, ⟨o, q2, q3, q4⟩, _⟩ b hb => by
    rcases List.mem_cons.mp hb with rfl | hb
    · exact ⟨_, q1, fun v q => nomatch q⟩
    · rw [List.mem_singleton.mp hb]
      exact ⟨o, q2, fun v q => by rw [q4] at q; cases q⟩
  keep := fun i h h1 ⟨⟨v, q1⟩, q2, q3⟩ k => ⟨⟨v, k e (List.mem_cons_self ..) _ q1⟩, q2.at fun o q => k it (List.mem_cons_of_mem _ (List.mem_cons_self ..)) o q, q3⟩
  item := by
    intro X hP hw hK hc i pins s σ H E I hf ⟨⟨v, q1⟩, q2, q3⟩ ⟨xs, x, hq, hx⟩
    subst hP hw hK
    obtain ⟨us, rv, pl, _⟩ := I.list hq
    obtain ⟨u, hu, ru⟩ := rv.get hx
    have he : e < s.heap.objs.size := Heap.lt_size q1
    have hi : it < s.heap.objs.size := by
      obtain ⟨_, z, _⟩ := q2
      exact Heap.lt_size z
    have hlen : i < us.toArray.size := by
      rw [List.size_toArray]
      exact (List.getElem?_eq_some_iff.mp hu).1
    refine wpAny_pyNext_enum_itemD (draws1 (prog := X.prog) (w := X.w) (A := X.A.in1) (I.ok.hd hc)) (i := i + 1) q1 ⟨by omega, q2, pl.isList⟩ (by omega) q3 (fun z => ?_) fun y h1 tk hy ho hst hT hsz hk => ?_
    · rcases List.mem_cons.mp z with z | z
      · exact q3 z
      · have z := List.mem_singleton.mp z
        obtain ⟨o, g1, g2, _⟩ := pl.isList
        rw [← z, q1] at g1
        cases g1
        have g2 : Value.type "enumerate" = Value.type "list" := g2
        exact absurd g2 (by decide)
    have hy : y = u := by
      have hy : us.toArray[i]? = some y := hy
      rw [List.getElem?_toArray, hu] at hy
      exact (Option.some.inj hy).symm
    subst hy
    obtain ⟨_, hst, _⟩ := hst
    have hst : h1.IsListIter it a (i + 1) := hst
    refine ⟨_, rfl, wpAny_letOwnedTupleGo_enum (s := { s with heap := h1, toks := tk + 1 }) ho fun h2 q4 sb => ?_⟩
    have hT2 := (sb.2 _ (Nat.ne_of_gt he)).trans hT
    have new : ObjOk X.prog X.w (upd H s.heap.objs.size (.tup [.int ((i : Int) + 1), x])) h2 s.heap.objs.size (.tup [.int ((i : Int) + 1), x]) :=
      ⟨(by show 2 ≤ sizeLine; decide), _, .cons ⟨_, rfl⟩ (.cons ru .nil), ⟨_, hT2, rfl, _, rfl⟩⟩
    have I1 := I.turnedNew (t' := tk + 1) (ch := [e, it]) (fun b ob hb z => (sb.2 b fun y => hb (by rw [y]; exact List.mem_cons_self ..)).trans (hk b ob (fun y => hb (by rw [y]; exact List.mem_cons_self ..)) (fun y => hb (by rw [y]; exact List.mem_cons_of_mem _ (List.mem_cons_self ..))) z)) hf (Nat.le_refl _) new
    refine ⟨.ref s.heap.objs.size, _, I1, rfl, ⟨_, x, rfl, I.hok.fresh (Nat.le_refl _), rfl, fun ys hys => by rw [I.list_inj hys hq]; exact hx⟩, ⟨⟨y, q4⟩, hst.at fun o z => (sb.2 it q3.symm).trans z, q3⟩, fun b hb => ?_⟩
    have hb1 : b ≠ s.heap.objs.size := by
      rcases List.mem_cons.mp hb with z | z
      · rw [z]; exact Nat.ne_of_lt he
      · rw [List.mem_singleton.mp z]; exact Nat.ne_of_lt hi
    rw [upd_ne hb1]
    exact (hf b hb).1
  done := by
    intro X hP hw hK hc i pins s σ H E I hf ⟨⟨v, q1⟩, q2, q3⟩ ⟨xs, hq, hx⟩
    subst hP hw hK
    obtain ⟨us, rv, pl, _⟩ := I.list hq
    obtain ⟨f0, f1, _, f3, f4, f5⟩ := hf it (List.mem_cons_of_mem _ (List.mem_cons_self ..))
    have hlen := rv.length
    exact wpAny_pyNext_enum_endD (drawsE (prog := X.prog) (w := X.w) (A := X.A.in1) (i := i) (I.ok.hd hc) (Array.getElem?_eq_none (by rw [List.size_toArray]; omega))) q1 ⟨rfl, q2, pl.isList⟩ fun h1 eb => ⟨rfl, I.turned (t' := s.toks) (fun b o hb z => eb b o hb z) f0 f1 f3 f4 f5⟩
  self := fun A i s Q E ⟨⟨_, q⟩, _⟩ h => wpAny_pyIter_enum q h
end L2
set_option Elab.async false
set_option linter.all false
set_option maxRecDepth 100000
set_option maxHeartbeats 4000000
namespace L2
open PySem PySem.Spec PyProof.Rows
/-- a type called with words behind its arguments -/
theorem with_kwT {M : Model} {A : Around} {E : Value → Shared → Prop} {s : Shared} {env : Env} {pos : Pos} {T : String} {e : Expr} {es : List Expr} {kws : List Keyword} {Q : Value → Shared → Prop}
    (h : wpAny M A (spliced (backTo pos (starEach (e :: es) env))) (fun vs s1 => wpAny M A (evalAll ((backToKw pos (keywordEach kws env)).map (·.2))) (fun ws s2 => wpAny M A (call (.type T) vs (((backToKw pos (keywordEach kws env)).filterMap (·.1)).zip ws)) Q E s2) E s1) E s)
    (c1 : backTo pos (starEach (e :: es) env) = (false, eval e env) :: backTo pos (starEach es env)) (c2 : (backTo pos (starEach (e :: es) env)).any (·.1) = false) (c3 : (backToKw pos (keywordEach kws env)).all (·.1.isSome) = true) (c4 : (backToKw pos (keywordEach kws env)).any (·.1.isNone) = false) :
    wpAny M A (callWith pos (.type T) [] (backTo pos (starEach (e :: es) env)) (backToKw pos (keywordEach kws env))) Q E s := by
  have h1 : wpAny M A (evalArgs (.type T) true (backTo pos (starEach (e :: es) env)) (backToKw pos (keywordEach kws env))) (fun a s1 => wpAny M A (call (.type T) ([] ++ a.pos) a.kw) Q E s1) E s := by
    rw [c1] at h ⊢
    exact evalArgs_kwB c3 h
  unfold callWith
  refine wpAny_bind (wpAny_holding (wpAny_mono h1 (fun a s1 k => ?_) fun _ _ z => z))
  refine wpAny_bind (wpAny_standAt ?_)
  simp only [c2, c4, Bool.or_false]
  refine wpAny_bind (wpAny_pure (wpAny_bind (wpAny_mono k (fun r s2 k2 => ?_) fun _ _ z => z)))
  exact wpAny_bind (wpAny_holding (wpAny_point (wpAny_pure k2)))
def iEnum1 (K : PySem.W.Frag) (ta tk : TA) : TI := fun σ H R => ta σ H fun vs H1 => tk σ H1 fun zs H2 => ∃ a xs, vs = [.ref a] ∧ zs = [.int 1] ∧ SqL K H2 a xs ∧ R (Ite1 K a) H2
theorem pi_enum1 {X : Cx} {e : Expr} {kws : List Keyword} {ta tk : TA} {p pos tpos : Pos} {elts : List Expr} {kk : Nat} (hg : Gl X "enumerate") (hm : X.mg "enumerate" = none) (ha : PA X [e] ta) (hkw : PK X kws tk) (hks : (backToKw pos (keywordEach kws X.env)).filterMap (·.1) = [("start" : Str)] := by rfl)
    (c1 : backTo pos (starEach [e] X.env) = (false, eval e X.env) :: backTo pos (starEach [] X.env) := by rfl) (c2 : (backTo pos (starEach [e] X.env)).any (·.1) = false := by rfl) (c3 : (backToKw pos (keywordEach kws X.env)).all (·.1.isSome) = true := by rfl) (c4 : (backToKw pos (keywordEach kws X.env)).any (·.1.isNone) = false := by rfl) :
    PI X (.Tuple elts kk tpos) (.Call (.Name "enumerate" p) [e] kws pos) (iEnum1 X.K ta tk) := by
  intro pins s σ H R I h
  refine wpAny_Call_Name_kw (ld_blt I hg hm boot_enumerate (with_kwT (thn (ha pos pins s σ H _ I h) fun us s1 ⟨vs, H1, I1, r1, q1⟩ => thn (hkw pos pins s1 σ H1 _ I1 q1) fun ws s2 ⟨zs, H2, I2, rz, q2⟩ => ?_) c1 c2 c3 c4))
  rw [hks]
  obtain ⟨a, xs, rfl, rfl, hq, q⟩ := q2
  rw [Vals.ref1 r1]
  obtain ⟨u, rfl, t, rfl⟩ := vals1 rz
  obtain ⟨its, rv, pl, _⟩ := I2.list hq
  refine call_enum1 pl.isList fun h1 k1 k2 k3 k4 => wpAny_pyIter_enum k1 ?_
  have I3 : Inv X pins σ H2 { s2 with heap := h1 } := I2.kept (t' := s2.toks) k4
  refine ⟨s2.heap.objs.size + 1, [s2.heap.objs.size + 1, s2.heap.objs.size], _, _, H2, rfl, I3, turn_enum1 a (s2.heap.objs.size + 1) s2.heap.objs.size, ⟨⟨.none, k1⟩, k2, Nat.succ_ne_self _⟩, fun b hb => ?_, q⟩
  have hle : s2.heap.objs.size ≤ b := by
    rcases List.mem_cons.mp hb with z | z
    · rw [z]; exact Nat.le_succ _
    · rw [List.mem_singleton.mp z]; exact Nat.le_refl _
  exact I2.fpOk hle (I2.hok.fresh hle)
/-- over a list, numbered from 1 -/
theorem for_enum1 {K : PySem.W.Frag} {a : Addr} {xs : List V} {g : TG} {tb : TS} {D : Ends} {σ : St} {H : Hp} (Pv : Nat → St → Hp → Prop) (h0 : Pv 0 σ H) (hl : ∀ i σ H, i ≤ xs.length → Pv i σ H → SqL K H a xs)
    (hs : ∀ i x σ H T, xs[i]? = some x → Pv i σ H → H T = none → g (.ref T) σ (upd H T (.tup [.int ((i : Int) + 1), x])) fun σ2 H2 => tb { D with nx := Pv (i + 1), ct := Pv (i + 1), bk := D.nx } σ2 H2) (hd : ∀ σ H, Pv xs.length σ H → D.nx σ H) :
    ∃ W : Nat → Nat → St → Hp → Prop, (∃ m, W 0 m σ H) ∧ ∀ i m σ H, W i m σ H →
      ((Ite1 K a).stop i H ∧ D.nx σ H) ∨ ((Ite1 K a).go i H ∧ ∃ N : St → Hp → Prop, (∀ σ' H', N σ' H' → ∃ m', m' < m ∧ W (i + 1) m' σ' H') ∧ ∀ x H', (Ite1 K a).yld i H x H' → g x σ H' fun σ2 H2 => tb { D with nx := N, ct := N, bk := D.nx } σ2 H2) := by
  refine ⟨fun i m σ H => m = xs.length - i ∧ i ≤ xs.length ∧ Pv i σ H, ⟨xs.length, rfl, Nat.zero_le _, h0⟩, ?_⟩
  rintro i m σ H ⟨rfl, hi, p⟩
  have q := hl i σ H hi p
  by_cases hlt : i < xs.length
  · have hx := List.getElem?_eq_getElem hlt
    refine .inr ⟨⟨xs, _, q, hx⟩, Pv (i + 1), fun σ1 H1 p1 => ⟨xs.length - (i + 1), by omega, rfl, hlt, p1⟩, fun v H1 y => ?_⟩
    obtain ⟨T, x, rfl, hT, rfl, hy⟩ := y
    exact hs i x σ H T (hy xs q) p hT
  · have e : i = xs.length := by omega
    subst e
    exact .inl ⟨⟨xs, q, Nat.le_refl _⟩, hd σ H p⟩
end L2
set_option Elab.async false
set_option linter.all false
set_option maxRecDepth 100000
set_option maxHeartbeats 4000000
namespace L2
open PySem PySem.Spec PyProof.Rows
/-- a walk over a list, whatever each turn asks -/
theorem walkL {K : PySem.W.Frag} {a : Addr} {xs : List V} {H0 : Hp} {B : (Hp → Prop) → V → Hp → Prop} {Qd : Hp → Prop} (Pv : Nat → Hp → Prop) (h0 : Pv 0 H0) (hl : ∀ i H, i ≤ xs.length → Pv i H → SqL K H a xs) (hs : ∀ i x H, xs[i]? = some x → Pv i H → B (Pv (i + 1)) x H) (hd : ∀ H, Pv xs.length H → Qd H) :
    ∃ W : Nat → Nat → Hp → Prop, (∃ m, W 0 m H0) ∧ ∀ i m H, W i m H → ((Itl K a).stop i H ∧ Qd H) ∨ ((Itl K a).go i H ∧ ∃ Nx : Hp → Prop, (∀ H', Nx H' → ∃ m', m' < m ∧ W (i + 1) m' H') ∧ ∀ x H', (Itl K a).yld i H x H' → B Nx x H') := by
  refine ⟨fun i m H => m = xs.length - i ∧ i ≤ xs.length ∧ Pv i H, ⟨xs.length, rfl, Nat.zero_le _, h0⟩, ?_⟩
  rintro i m H ⟨rfl, hi, p⟩
  have q := hl i H hi p
  by_cases hlt : i < xs.length
  · refine .inr ⟨⟨xs, _, q, List.getElem?_eq_getElem hlt⟩, Pv (i + 1), fun H1 p1 => ⟨xs.length - (i + 1), by omega, rfl, hlt, p1⟩, fun x H1 ⟨e, y⟩ => ?_⟩
    subst e
    exact hs i x _ (y xs q) p
  · have e : i = xs.length := by omega
    subst e
    exact .inl ⟨⟨xs, q, Nat.le_refl _⟩, hd H p⟩
theorem wipe3 {σ : St} {i j k : Nat} {a b c : Option V} : wipe ((((wipe σ [i, j, k]).set i a).set j b).set k c) [i, j, k] = wipe σ [i, j, k] := by
  refine List.ext_getElem? fun n => ?_
  simp only [wipe, List.getElem?_set, List.length_set]
  by_cases h1 : i = n
  · simp [h1]
  · by_cases h2 : j = n
    · simp [h1, h2]
    · by_cases h3 : k = n
      · simp [h1, h2, h3]
      · simp [h1, h2, h3]
end L2
namespace Ho
open PySem L2
def BgO (H : Hp) (a : Addr) (x : Bg) : Prop := ∃ sq : Addr, H a = some (.tup [.ref sq, .int x.2.1, .int x.2.2]) ∧ H sq = some (.tup (x.1.map V.int))
def BgAt (H : Hp) (q : Addr) (bs : List Bg) : Prop := ∃ qs : List Addr, H q = some (.lst (qs.map V.ref)) ∧ Paired (BgO H) qs bs
theorem BgO.same {H H' : Hp} {a : Addr} {x : Bg} (h : BgO H a x) (s : Same H H') : BgO H' a x := by
  obtain ⟨sq, h1, h2⟩ := h
  exact ⟨sq, s _ _ h1, s _ _ h2⟩
theorem BgO.put {H : Hp} {a D : Addr} {x : Bg} {ys zs : List V} (h : BgO H a x) (hD : H D = some (.lst ys)) : BgO (upd H D (.lst zs)) a x := by
  obtain ⟨sq, h1, h2⟩ := h
  refine ⟨sq, ?_, ?_⟩
  · rw [upd_ne (fun z => by rw [z, hD] at h1; cases h1)]; exact h1
  · rw [upd_ne (fun z => by rw [z, hD] at h2; cases h2)]; exact h2
theorem lon1_len {os : List Sp3} {r : Int × Int} {most : Int} {x : Bg} : (lon1 os r most x).length ≤ os.length := by
  unfold lon1
  rw [List.length_map]
  exact List.length_filter_le _ _
theorem longer_len {os : List Sp3} {r : Int × Int} {most : Int} : ∀ {bs : List Bg}, (longer bs os r most).length ≤ bs.length * os.length
  | [] => Nat.zero_le _
  | x :: bs => by
    have h1 := lon1_len (os := os) (r := r) (most := most) (x := x)
    have h2 := longer_len (os := os) (r := r) (most := most) (bs := bs)
    show ((lon1 os r most x) ++ longer bs os r most).length ≤ _
    rw [List.length_append, List.length_cons, Nat.succ_mul]
    omega
def sp_longer_ones : Sp := fun vs H Q _ => ∃ (bq oq rq : Addr) (bs : List Bg) (os : List Sp3) (r : Int × Int) (most : Int), vs = [.ref bq, .ref oq, .ref rq, .int most] ∧ BgAt H bq bs ∧ OpsAt H oq os ∧ Sm4 os ∧ H rq = some (.tup [.int r.1, .int r.2]) ∧ bs.length ≤ 240 ∧ (∀ x ∈ bs, x.1.length ≤ 100) ∧ ∀ H' q, Same H H' → BgAt H' q (longer bs os r most) → Q (.ref q) H'
section
variable {P : Program} {w : World} {K : PySem.W.Frag} {mg : Str → Option Value} {base : Heap} {k : Nat} {f C aW cBH cBR cBT : Addr}
def NLo : List Str := ["begun", "options", "rest", "most", "story", "state", "spent", "before", "behind", "price"]
theorem sc_longer_ones : FnScope NLo ["begun", "options", "rest", "most"] (defScope s_longer_ones) := ⟨rfl, rfl, rfl, by decide +kernel, rfl, by decide +kernel, by decide +kernel⟩
theorem ok_longer_ones (F : Top1 K "longer_ones" "longer_ones" s_longer_ones f ["begun", "options", "rest", "most"]) :
    ∃ fd, FnOk P w K mg base (CXe P w) (k + 1) f fd ["begun", "options", "rest", "most"] sp_longer_ones ∧ Binds K fd ["begun", "options", "rest", "most"] [] := by
  refine F.okN sc_longer_ones (fun vs H Q E h => ?_) (fun cdv A outer s H vs Q E hr h => ?_)
  · obtain ⟨_, _, _, _, _, _, _, rfl, _⟩ := h
    rfl
  · obtain ⟨bq, oq, rq, bs, os, r, most, rfl, ⟨qs, hq, pq⟩, ⟨ts, ht, pt⟩, ⟨hok, h4⟩, hrq, hb, hsl, kk⟩ := h
    have nd := sc_longer_ones.nd
    refine ⟨_, (pss_one (ps_ret (pe_lc2 (own := [("story", 4), ("state", 5), ("spent", 6), ("before", 7), ("behind", 8), ("price", 9)]) (vs1 := [7, 8, 9]) (g := gTup K 3 (gCons (gName 4) (gCons (gName 5) (gCons (gName 6) gNil)))) (tt := tYes) (wi1 := iList K (tVar 1)) (g1 := gTup K 3 (gCons (gName 7) (gCons (gName 8) (gCons (gName 9) gNil))))
      (tt1 := tAnd (tTest (tOp rEq (tVar 7) (tVar 5))) (tTest (tOp (rI0 fun i j => .bl (decide (i ≤ j))) (tOp rAdd (tOp rAdd (tVar 6) (tVar 9)) (tOp (rIxT K) (tVar 2) (tVar 8))) (tVar 3)))) (te := tTup (tCons (tOp (rCatA K) (tVar 4) (tTup (tCons (tVar 8) tNil))) (tCons (tVar 8) (tCons (tOp rAdd (tVar 6) (tVar 9)) tNil))))
      rfl nd (pi_list (pv 0)) (blkOk_by (own := [("story", 4), ("state", 5), ("spent", 6), ("before", 7), ("behind", 8), ("price", 9)]) (N := NLo) (sc := defScope s_longer_ones) (by decide +kernel)) (by decide)
      (fun _ _ _ _ _ => by exact (pg_tup rfl (pgs_cons (pg_name (i := 4) nd rfl (Or.inl rfl)) (pgs_cons (pg_name (i := 5) nd rfl (Or.inl rfl)) (pgs_cons (pg_name (i := 6) nd rfl (Or.inl rfl)) pgs_nil))))) (fun _ _ _ _ _ => by exact pts_nil) (fun _ _ _ _ _ => by exact (pi_list (pv 1)))
      (fun _ _ _ _ _ => by exact (pg_tup rfl (pgs_cons (pg_name (i := 7) nd rfl (Or.inl rfl)) (pgs_cons (pg_name (i := 8) nd rfl (Or.inl rfl)) (pgs_cons (pg_name (i := 9) nd rfl (Or.inl rfl)) pgs_nil)))))
      (fun _ _ _ _ _ => by exact (pts_one (PW.pt (pw_and (pt_cmpR op_eq (pv 7) (pv 5) (nomark _)) (pw_and1 (pt_cmpR op_le (pe_op op_add (pe_op op_add (pv 6) (pv 9)) (pe_ix ix_tup (pv 2) (pv 8) (fun _ _ => rfl))) (pv 3) (nomark _)))))))
      (fun _ _ _ _ _ => by exact (pe_tup (pa_cons (pe_op op_catA (pv 4) (pe_tup (pa_cons (pv 8) pa_nil))) (pa_cons (pv 8) (pa_cons (pe_op op_add (pv 6) (pv 9)) pa_nil)))))))), ?_⟩
    have hlq : qs.length = bs.length := Paired.length pq
    have hlt' : ts.length = os.length := Paired.length pt
    generalize hσ : start NLo _ = σ0
    have e0 : σ0 = [some (.ref bq), some (.ref oq), some (.ref rq), some (.int most), none, none, none, none, none, none] := by rw [← hσ]; rfl
    clear hσ; subst e0
    refine ⟨_, rfl, bq, rfl, ⟨_, SqL.of hq⟩, fun D hD => ?_⟩
    refine walkL (K := K) (a := bq) (xs := qs.map V.ref) (fun i H2 => Same H H2 ∧ ∃ zs : List Addr, H2 D = some (.lst (zs.map V.ref)) ∧ Paired (BgO H2) zs (longer (bs.take i) os r most)) ⟨(Ext.new (S := []) hD).same, [], upd_same, .nil⟩ (fun i H2 _ h => SqL.of (h.1 _ _ hq)) ?_ ?_
    · rintro i y H2 hi ⟨s2, zs, hD2, pz⟩
      rw [List.getElem?_map] at hi
      cases eq : qs[i]? with
      | none => rw [eq] at hi; cases hi
      | some qa =>
        rw [eq] at hi
        cases hi
        have hlt : i < qs.length := (List.getElem?_eq_some_iff.mp eq).1
        obtain ⟨x, hx, sq, hqa, hsq⟩ := paired_at pq eq
        have hxl := hsl x (List.mem_of_getElem? hx)
        have et : longer (bs.take (i + 1)) os r most = longer (bs.take i) os r most ++ lon1 os r most x := by
          unfold longer
          rw [List.take_succ, hx, List.flatMap_append]; simp
        refine ⟨qa, _, rfl, SqT.of (s2 _ _ hqa), rfl, _, _, rfl, _, _, rfl, _, _, rfl, rfl, rfl, ?_⟩
        generalize hσ : List.set (List.set (List.set _ 4 _) 5 _) 6 _ = σ2
        have e2 : σ2 = [some (.ref bq), some (.ref oq), some (.ref rq), some (.int most), some (.ref sq), some (.int x.2.1), some (.int x.2.2), none, none, none] := by rw [← hσ]; rfl
        clear hσ; subst e2
        refine yes ?_
        refine ⟨_, rfl, oq, rfl, ⟨_, SqL.of (s2 _ _ ht)⟩, ?_⟩
        refine walkL (K := K) (a := oq) (xs := ts.map V.ref) (fun j H3 => Same H H3 ∧ ∃ zs : List Addr, H3 D = some (.lst (zs.map V.ref)) ∧ Paired (BgO H3) zs (longer (bs.take i) os r most ++ lon1 (os.take j) r most x)) ⟨s2, zs, hD2, by rw [List.take_zero]; exact (show Paired _ _ (_ ++ []) by rw [List.append_nil]; exact pz)⟩ (fun j H3 _ h => SqL.of (h.1 _ _ ht)) ?_ ?_
        · rintro j y H3 hj ⟨s3, zs3, hD3, pz3⟩
          rw [List.getElem?_map] at hj
          cases eo : ts[j]? with
          | none => rw [eo] at hj; cases hj
          | some ta =>
            rw [eo] at hj
            cases hj
            obtain ⟨op, hop, hta⟩ := paired_at pt eo
            have hta : H ta = some (.tup [.int op.1, .int op.2.1, .int op.2.2]) := hta
            have hoo := hok op (List.mem_of_getElem? hop)
            have hat : atI [V.int r.1, .int r.2] op.2.1 = some (.int (rAt r op.2.1)) := by
              unfold rAt
              rcases hoo.2.1 with h | h <;> rw [h] <;> rfl
            have hzl : zs3.length ≤ 990 := by
              rw [Paired.length pz3, List.length_append]
              have a1 := longer_len (os := os) (r := r) (most := most) (bs := bs.take i)
              have a2 := lon1_len (os := os.take j) (r := r) (most := most) (x := x)
              rw [List.length_take] at a1 a2
              have a3 : min i bs.length * os.length ≤ 240 * 4 := Nat.mul_le_mul (by omega) h4
              omega
            have ol : lon1 (os.take (j + 1)) r most x = lon1 (os.take j) r most x ++ (if op.1 = x.2.1 ∧ x.2.2 + op.2.2 + rAt r op.2.1 ≤ most then [(x.1 ++ [op.2.1], op.2.1, x.2.2 + op.2.2)] else []) := by
              unfold lon1
              rw [List.take_succ, hop, List.filter_append, List.map_append]
              congr 1
              by_cases h : op.1 = x.2.1 ∧ x.2.2 + op.2.2 + rAt r op.2.1 ≤ most
              · rw [if_pos h]; simp [h]
              · rw [if_neg h]; simp [h]
            refine ⟨ta, _, rfl, SqT.of (s3 _ _ hta), rfl, _, _, rfl, _, _, rfl, _, _, rfl, rfl, wipe3, ?_⟩
            generalize hσ : List.set (List.set (List.set _ 7 _) 8 _) 9 _ = σ3
            have e3 : σ3 = [some (.ref bq), some (.ref oq), some (.ref rq), some (.int most), some (.ref sq), some (.int x.2.1), some (.int x.2.2), some (.int op.1), some (.int op.2.1), some (.int op.2.2)] := by rw [← hσ]; rfl
            clear hσ; subst e3
            refine ⟨_, rfl, _, rfl, rfl, _, rfl, ?_⟩
            rw [ol, ← List.append_assoc]
            by_cases hb1 : op.1 = x.2.1
            · rw [decide_eq_true (show V.int op.1 = V.int x.2.1 by rw [hb1])]
              refine iteT ⟨_, rfl, _, rfl, _, _, rfl, rfl, _, rfl, _, rfl, rq, _, _, _, rfl, rfl, SqT.of (s3 _ _ hrq), hat, _, _, rfl, rfl, _, rfl, _, _, rfl, rfl, _, rfl, ?_⟩
              by_cases hb2 : x.2.2 + op.2.2 + rAt r op.2.1 ≤ most
              · rw [decide_eq_true hb2, if_pos ⟨hb1, hb2⟩]
                refine iteT ⟨_, rfl, _, rfl, (by show 1 ≤ sizeLine; decide), fun c4 hc4 => ?_⟩
                generalize hH4 : upd H3 c4 _ = H4
                have s4 : Same H3 H4 := by rw [← hH4]; exact (Ext.new (S := []) hc4).same
                have e4 : H4 c4 = some (.tup [.int op.2.1]) := by rw [← hH4]; exact upd_same
                clear hH4
                have hcl : (x.1.map V.int).length + [V.int op.2.1].length ≤ sizeLine := Nat.le_of_lt (small1000 (by rw [List.length_map]; show x.1.length + 1 ≤ 1000; omega))
                refine ⟨sq, c4, x.1.map V.int, [V.int op.2.1], rfl, rfl, SqT.of (s4 _ _ (s3 _ _ hsq)), e4, List.cons_ne_nil _ _, hcl, fun c5 H5 s5 e5 => ?_⟩
                refine ⟨_, rfl, _, rfl, _, rfl, _, _, rfl, rfl, (by show 3 ≤ sizeLine; decide), fun c6 hc6 => ?_⟩
                generalize hH6 : upd H5 c6 _ = H6
                have s6 : Same H5 H6 := by rw [← hH6]; exact (Ext.new (S := []) hc6).same
                have e6 : H6 c6 = some (.tup [.ref c5, .int op.2.1, .int (x.2.2 + op.2.2)]) := by rw [← hH6]; exact upd_same
                clear hH6
                have s36 := s4.trans (s5.trans s6)
                have hD6 := s36 _ _ hD3
                have nw : BgO H6 c6 (x.1 ++ [op.2.1], op.2.1, x.2.2 + op.2.2) := ⟨c5, e6, by rw [s6 _ _ e5, List.map_append]; rfl⟩
                refine ⟨_, hD6, (by rw [List.length_map]; exact small1000 (by omega)), fun c oc hc => ?_, zs3 ++ [c6], ?_, ?_⟩
                · have nc : c ≠ D := fun z => by rw [z, hD] at hc; cases hc
                  rw [upd_ne nc]; exact s36 _ _ (s3 _ _ hc)
                · rw [upd_same, List.map_append]; rfl
                · exact paired_snoc (paired_imp (fun c y (hc : BgO H3 c y) => (hc.same s36).put hD6) pz3) (nw.put hD6)
              · rw [decide_eq_false hb2, if_neg (fun z => hb2 z.2), List.append_nil]
                exact iteF ⟨s3, zs3, hD3, pz3⟩
            · rw [decide_eq_false (show ¬ V.int op.1 = V.int x.2.1 from fun z => hb1 (V.int.inj z)), if_neg (fun z => hb1 z.1), List.append_nil]
              exact iteF (iteF ⟨s3, zs3, hD3, pz3⟩)
        · rintro H3 ⟨s3, zs3, hD3, pz3⟩
          rw [List.length_map, hlt', List.take_of_length_le (Nat.le_refl _), ← et] at pz3
          exact ⟨s3, zs3, hD3, pz3⟩
    · rintro H2 ⟨s2, zs, hD2, pz⟩
      rw [List.length_map, hlq, List.take_of_length_le (Nat.le_refl _)] at pz
      exact kk H2 D s2 ⟨zs, hD2, pz⟩
end
end Ho
set_option Elab.async false
set_option linter.all false
set_option maxRecDepth 100000
set_option maxHeartbeats 4000000
namespace L2
open PySem PySem.Spec PyProof.Rows
theorem cut_headA {xs : List V} {k : Nat} : cutV xs none (some (k : Int)) = xs.take k := by
  unfold cutV
  rw [HT.sIx_none, HT.sIx_nat, Nat.sub_zero, List.drop_zero]
  by_cases h : k ≤ xs.length
  · rw [Nat.min_eq_left h]
  · rw [Nat.min_eq_right (by omega), List.take_of_length_le (Nat.le_refl _), List.take_of_length_le (by omega)]
theorem paired_take {α β : Type} {F : α → β → Prop} : ∀ {l : List α} {m : List β} (k : Nat), Paired F l m → Paired F (l.take k) (m.take k)
  | _, _, _, .nil => by rw [List.take_nil, List.take_nil]; exact .nil
  | _ :: _, _ :: _, 0, _ => .nil
  | _ :: _, _ :: _, k + 1, .cons r t => .cons r (paired_take k t)
end L2
namespace Ho
open PySem L2
/-- stories in a list -/
def StsAt (H : Hp) (q : Addr) (ss : List (List Int)) : Prop := ∃ qs : List Addr, H q = some (.lst (qs.map V.ref)) ∧ Paired (fun a s => H a = some (.tup ((s : List Int).map V.int))) qs ss
/-- what the first stories are -/
def firstS (most : Int) (many : Nat) (oss : List (List Sp3)) (rr : List (Int × Int)) : List (List Int) := (cutB most many oss rr [([], 0, 0)]).map (·.1)
def sp_first_stories : Sp := fun vs H Q _ => ∃ (sq : Addr) (oss : List (List Sp3)) (most : Int) (many : Nat), vs = [.ref sq, .int most, .int (many : Int)] ∧ StepsAt H sq oss ∧ (∀ os ∈ oss, Sm4 os) ∧ oss.length ≤ 60 ∧ 1 ≤ many ∧ many ≤ 240 ∧ ∀ H' q rr, Same H H' → H q = none → Rests oss rr → StsAt H' q (firstS most many oss rr) → Q (.ref q) H'
theorem longer_up {os : List Sp3} {r : Int × Int} {most : Int} {n : Nat} {bs : List Bg} (h : ∀ x ∈ bs, x.1.length ≤ n) : ∀ x ∈ longer bs os r most, x.1.length ≤ n + 1 := fun y hy => by
  unfold longer lon1 at hy
  obtain ⟨x, hx, hy⟩ := List.mem_flatMap.mp hy
  obtain ⟨o, _, rfl⟩ := List.mem_map.mp hy
  have := h x hx
  show (x.1 ++ [o.2.1]).length ≤ _
  rw [List.length_append]; simp only [List.length_cons, List.length_nil]; omega
theorem BgAt.same {H H' : Hp} {q : Addr} {bs : List Bg} (h : BgAt H q bs) (s : Same H H') : BgAt H' q bs := by
  obtain ⟨qs, h1, h2⟩ := h
  exact ⟨qs, s _ _ h1, paired_imp (fun a x hx => hx.same s) h2⟩
section
variable {P : Program} {w : World} {K : PySem.W.Frag} {mg : Str → Option Value} {base : Heap} {k : Nat} {f C aW cBH cBR cBT : Addr}
def NFs : List Str := ["steps", "most", "many", "rests", "begun", "moment", "options", "story", "state", "spent"]
theorem sc_first_stories : FnScope NFs ["steps", "most", "many"] (defScope s_first_stories) := ⟨rfl, rfl, rfl, by decide +kernel, rfl, by decide +kernel, by decide +kernel⟩
theorem ok_first_stories (F : Top1 K "first_stories" "first_stories" s_first_stories f ["steps", "most", "many"]) (b_enumerate : mg "enumerate" = none) (G_rests : Fn P w K mg base k "rests_of" ["steps"] sp_rests_of) (G_longer : Fn P w K mg base k "longer_ones" ["begun", "options", "rest", "most"] sp_longer_ones) :
    ∃ fd, FnOk P w K mg base (CXe P w) (k + 1) f fd ["steps", "most", "many"] sp_first_stories ∧ Binds K fd ["steps", "most", "many"] [] := by
  refine F.okN sc_first_stories (fun vs H Q E h => ?_) (fun cdv A outer s H vs Q E hr h => ?_)
  · obtain ⟨_, _, _, _, rfl, _⟩ := h
    rfl
  · obtain ⟨sq, oss, most, many, rfl, hS, hok, h60, hm1, hm2, kk⟩ := h
    have nd := sc_first_stories.nd
    refine ⟨_, (pss_cons (ps_set (i := 3) nd rfl (Or.inl rfl) (pcall G_rests hr (by rfl) passN (pa_cons (pv 0) pa_nil)))
      (pss_cons (ps_set (i := 4) nd rfl (Or.inl rfl) (pe_lst (pa_cons (pe_tup (pa_cons (pe_tup pa_nil) (pa_cons pe_int (pa_cons pe_int pa_nil)))) pa_nil)))
      (pss_cons (ps_for PassesOwn.never rfl (pi_enum1 (by rfl) b_enumerate (pa_cons (pv 0) pa_nil) (pk_cons pe_int pk_nil)) (pg_tup rfl (pgs_cons (pg_name (i := 5) nd rfl (Or.inl rfl)) (pgs_cons (pg_name (i := 6) nd rfl (Or.inl rfl)) pgs_nil)))
        (pss_one (ps_set (i := 4) nd rfl (Or.inl rfl) (pe_slice sl_list (pcall G_longer hr (by rfl) passN (pa_cons (pv 4) (pa_cons (pv 6) (pa_cons (pe_ix ix_list (pv 3) (pv 5) (fun _ _ => rfl)) (pa_cons (pv 1) pa_nil))))) po_none (po_some (pv 2))))))
      (pss_one (ps_ret (pe_lc (own := [("story", 7), ("state", 8), ("spent", 9)]) (g := gTup K 3 (gCons (gName 7) (gCons (gName 8) (gCons (gName 9) gNil)))) (tt := tYes) (te := tVar 7) rfl nd (pi_list (pv 4)) (blkOk_by (own := [("story", 7), ("state", 8), ("spent", 9)]) (N := NFs) (sc := defScope s_first_stories) (by decide +kernel)) (fun _ _ _ _ _ => by exact (pg_tup rfl (pgs_cons (pg_name (i := 7) nd rfl (Or.inl rfl)) (pgs_cons (pg_name (i := 8) nd rfl (Or.inl rfl)) (pgs_cons (pg_name (i := 9) nd rfl (Or.inl rfl)) pgs_nil))))) (fun _ _ _ _ _ => by exact pts_nil) (fun _ _ _ _ _ => by exact (pv 7)))))))), ?_⟩
    generalize hσ : start NFs _ = σ0
    have e0 : σ0 = [some (.ref sq), some (.int most), some (.int (many : Int)), none, none, none, none, none, none, none] := by rw [← hσ]; rfl
    clear hσ; subst e0
    refine ⟨_, rfl, sq, oss, rfl, hS, hok, h60, fun H1 rq rr s1 hR hrq => ?_⟩
    refine ⟨Nat.zero_le _, fun c2 hc2 => ?_⟩
    generalize hH2 : upd H1 c2 _ = H2
    have s2 : Same H1 H2 := by rw [← hH2]; exact (Ext.new (S := []) hc2).same
    have e2 : H2 c2 = some (.tup []) := by rw [← hH2]; exact upd_same
    clear hH2
    refine ⟨(by show 3 ≤ sizeLine; decide), fun c3 hc3 => ?_⟩
    generalize hH3 : upd H2 c3 _ = H3
    have s3 : Same H2 H3 := by rw [← hH3]; exact (Ext.new (S := []) hc3).same
    have e3 : H3 c3 = some (.tup [.ref c2, .int 0, .int 0]) := by rw [← hH3]; exact upd_same
    clear hH3
    refine ⟨(by show 1 ≤ sizeLine; decide), fun c4 hc4 => ?_⟩
    generalize hH4 : upd H3 c4 _ = H4
    have s4 : Same H3 H4 := by rw [← hH4]; exact (Ext.new (S := []) hc4).same
    have e4 : H4 c4 = some (.lst [.ref c3]) := by rw [← hH4]; exact upd_same
    clear hH4
    have sH4 : Same H H4 := s1.trans (s2.trans (s3.trans s4))
    have b4 : BgAt H4 c4 [([], 0, 0)] := ⟨[c3], e4, .cons ⟨c2, s4 _ _ e3, s4 _ _ (s3 _ _ e2)⟩ .nil⟩
    have rq4 : RrAt H4 rq rr := by
      obtain ⟨zs, z1, z2⟩ := hrq
      have ss := s2.trans (s3.trans s4)
      exact ⟨zs, ss _ _ z1, paired_imp (fun a x hx => ss _ _ hx) z2⟩
    obtain ⟨zs, z1, z2⟩ := rq4
    obtain ⟨qs, hq, pq⟩ := hS
    have hlq : qs.length = oss.length := Paired.length pq
    have hml : (qs.map V.ref).length = oss.length := by rw [List.length_map]; exact hlq
    have hrl := hR.len
    have hzl : zs.length = rr.length := Paired.length z2
    refine ⟨_, rfl, sq, _, rfl, rfl, SqL.of (sH4 _ _ hq), ?_⟩
    refine for_enum1 (K := K) (a := sq) (xs := qs.map V.ref) (fun j σ H5 => Same H4 H5 ∧ ∃ (bq : Addr) (bs : List Bg) (v5 v6 : Option V), σ = [some (.ref sq), some (.int most), some (.int (many : Int)), some (.ref rq), some (.ref bq), v5, v6, none, none, none] ∧ BgAt H5 bq bs ∧ bs.length ≤ many ∧ (∀ x ∈ bs, x.1.length ≤ j) ∧ cutB most many (oss.drop j) (rr.drop j) bs = cutB most many oss rr [([], 0, 0)]) ?_ ?_ ?_ ?_
    · exact ⟨fun _ _ h => h, c4, _, none, none, rfl, b4, hm1, fun x hx => by rw [List.mem_singleton.mp hx]; exact Nat.le_refl _, rfl⟩
    · rintro j σ H5 _ ⟨s5, _⟩
      exact SqL.of (s5 _ _ (sH4 _ _ hq))
    · rintro j y σ H5 T hj ⟨s5, bq, bs, v5, v6, rfl, hb, hbl, hbx, hcut⟩ hT
      rw [List.getElem?_map] at hj
      cases eq : qs[j]? with
      | none => rw [eq] at hj; cases hj
      | some qa =>
        rw [eq] at hj
        cases hj
        obtain ⟨os, hos, hqa⟩ := paired_at pq eq
        have hjl : j < oss.length := (List.getElem?_eq_some_iff.mp hos).1
        have hom : os ∈ oss := List.mem_of_getElem? hos
        generalize hH6 : upd H5 T _ = H6
        have s6 : Same H5 H6 := by rw [← hH6]; exact (Ext.new (S := []) hT).same
        have e6 : H6 T = some (.tup [.int ((j : Int) + 1), .ref qa]) := by rw [← hH6]; exact upd_same
        clear hH6
        refine ⟨T, _, rfl, SqT.of e6, rfl, _, _, rfl, _, _, rfl, rfl, ?_⟩
        have s46 := s5.trans s6
        have sH6 := sH4.trans s46
        have hr1 : rr[j + 1]? = some (rr[j + 1]'(by omega)) := List.getElem?_eq_getElem (by omega)
        have hr0 : rr[j]? = some (rr[j]'(by omega)) := List.getElem?_eq_getElem (by omega)
        have hz1 : zs[j + 1]? = some (zs[j + 1]'(by omega)) := List.getElem?_eq_getElem (by omega)
        generalize rr[j + 1] = r1 at hr1
        generalize rr[j] = r0 at hr0
        generalize zs[j + 1] = za at hz1
        obtain ⟨r1', hr1', hza⟩ := paired_at z2 hz1
        rw [hr1] at hr1'; cases hr1'
        have hat : atI (zs.map V.ref) ((j : Int) + 1) = some (.ref za) := by
          have e : (j : Int) + 1 = ((j + 1 : Nat) : Int) := by omega
          rw [e]; exact atI_nat (by rw [List.getElem?_map, hz1]; rfl)
        have hops : OpsAt H6 qa os := by
          obtain ⟨us, u1, u2⟩ := hqa
          exact ⟨us, sH6 _ _ u1, paired_imp (fun a x hx => sH6 _ _ hx) u2⟩
        refine ⟨_, rfl, _, rfl, _, rfl, _, rfl, rq, _, _, _, rfl, rfl, SqL.of (s46 _ _ z1), hat, _, rfl, ?_⟩
        refine ⟨bq, qa, za, bs, os, r1, most, rfl, hb.same s6, hops, hok os hom, s46 _ _ hza, by omega, fun x hx => by have := hbx x hx; omega, fun H7 q7 s7 hb7 => ?_⟩
        obtain ⟨ws, hw, pw⟩ := hb7
        refine ⟨_, rfl, _, rfl, q7, _, rfl, SqL.of hw, fun c8 hc8 => ?_⟩
        generalize hH8 : upd H7 c8 _ = H8
        have s8 : Same H7 H8 := by rw [← hH8]; exact (Ext.new (S := []) hc8).same
        have e8 : H8 c8 = some (.lst ((ws.take many).map V.ref)) := by rw [← hH8, upd_same, cut_headA, List.map_take]
        clear hH8
        refine ⟨s46.trans (s7.trans s8), c8, (longer bs os r1 most).take many, some (.int ((j : Int) + 1)), some (.ref qa), rfl, ⟨_, e8, paired_take many (paired_imp (fun a x hx => hx.same s8) pw)⟩, ?_, ?_, ?_⟩
        · rw [List.length_take]; omega
        · intro x hx
          exact longer_up hbx x (List.mem_of_mem_take hx)
        · rw [← hcut]
          have d1 : oss.drop j = os :: oss.drop (j + 1) := by
            rw [List.drop_eq_getElem_cons hjl]
            congr 1
            rw [List.getElem?_eq_getElem hjl] at hos
            exact Option.some.inj hos
          have d2 : rr.drop j = r0 :: rr.drop (j + 1) := by
            have hl : j < rr.length := by omega
            rw [List.drop_eq_getElem_cons hl]
            congr 1
            rw [List.getElem?_eq_getElem hl] at hr0
            exact Option.some.inj hr0
          have d3 : rr.drop (j + 1) = r1 :: rr.drop (j + 2) := by
            have hl : j + 1 < rr.length := by omega
            rw [List.drop_eq_getElem_cons hl]
            congr 1
            rw [List.getElem?_eq_getElem hl] at hr1
            exact Option.some.inj hr1
          rw [d1, d2, d3]
          rfl
    · rintro σ H5 ⟨s5, bq, bs, v5, v6, rfl, hb, hbl, hbx, hcut⟩
      rw [hml] at hcut hbx
      have hcut : bs = cutB most many oss rr [([], 0, 0)] := by
        rw [← hcut, List.drop_of_length_le (Nat.le_refl _)]
        rfl
      obtain ⟨us, hu1, pu⟩ := hb
      have hul : us.length = bs.length := Paired.length pu
      have sH5 := sH4.trans s5
      refine ⟨_, rfl, bq, rfl, ⟨_, SqL.of hu1⟩, fun D hD => ?_⟩
      refine lc_list (K := K) (a := bq) (xs := us.map V.ref) (fun i H6 => Same H5 H6 ∧ ∃ ws : List Addr, H6 D = some (.lst (ws.map V.ref)) ∧ Paired (fun a s => H5 a = some (.tup ((s : List Int).map V.int))) ws ((bs.take i).map (·.1))) ⟨(Ext.new (S := []) hD).same, [], upd_same, .nil⟩ (fun i H6 _ h => SqL.of (h.1 _ _ hu1)) ?_ ?_
      · rintro i y H6 hi ⟨s6, ws, hD6, p6⟩
        rw [List.getElem?_map] at hi
        cases eq : us[i]? with
        | none => rw [eq] at hi; cases hi
        | some ua =>
          rw [eq] at hi
          cases hi
          have hlt : i < us.length := (List.getElem?_eq_some_iff.mp eq).1
          obtain ⟨x, hx, sa, hua, hsa⟩ := paired_at pu eq
          refine ⟨ua, _, rfl, SqT.of (s6 _ _ hua), rfl, _, _, rfl, _, _, rfl, _, _, rfl, rfl, rfl, ?_⟩
          refine yes ?_
          have hwl : ws.length ≤ i := by rw [Paired.length p6, List.length_map, List.length_take]; omega
          refine ⟨_, rfl, _, hD6, (by rw [List.length_map]; exact small1000 (by omega)), fun c oc hc => ?_, ws ++ [sa], ?_, ?_⟩
          · have nc : c ≠ D := fun z => by rw [z, hD] at hc; cases hc
            rw [upd_ne nc]; exact s6 _ _ hc
          · rw [upd_same, List.map_append]; rfl
          · rw [List.take_succ, hx, List.map_append]
            exact paired_snoc p6 hsa
      · rintro H6 ⟨s6, ws, hD6, p6⟩
        rw [List.length_map, hul, List.take_of_length_le (Nat.le_refl _)] at p6
        refine kk H6 D rr (sH5.trans s6) (sH5.free hD) hR ⟨ws, hD6, ?_⟩
        have : firstS most many oss rr = bs.map (·.1) := by unfold firstS; rw [hcut]
        rw [this]
        exact paired_imp (fun a x hx => s6 _ _ hx) p6
end
end Ho
set_option Elab.async false
set_option linter.all false
set_option maxRecDepth 100000
set_option maxHeartbeats 4000000
namespace Ho
open PySem L2
theorem sm4_optsOf (w : Option Str) {p : Int} (hp : p = 0 ∨ p = 1) : Sm4 (optsOf w p) := by
  refine ⟨ok_optsOf w hp, ?_⟩
  unfold optsOf
  split
  · simp
  · split <;> simp
theorem sm4_stepsOf (f : Int → Option Str) (l t : Int) (n : Nat) : ∀ os ∈ stepsOf f l t n, Sm4 os := fun os hos => by
  unfold stepsOf at hos
  obtain ⟨j, _, rfl⟩ := List.mem_map.mp hos
  exact sm4_optsOf _ (prL01 _ _ _)
theorem sm4_through {oss : List (List Sp3)} (ok : ∀ os ∈ oss, Sm4 os) (m : Nat) (s : Int) : ∀ os ∈ through oss m s, Sm4 os := fun os hos => by
  refine ⟨ok_through (fun os h => (ok os h).1) m s os hos, ?_⟩
  unfold through at hos
  rcases List.mem_append.mp hos with hos | hos
  · rcases List.mem_append.mp hos with hos | hos
    · exact (ok os (List.mem_of_mem_take hos)).2
    · rw [List.mem_singleton.mp hos]
      by_cases hm : m - 1 < oss.length
      · rw [List.getD_eq_getElem?_getD, List.getElem?_eq_getElem hm]
        exact Nat.le_trans (List.length_filter_le _ _) (ok _ (List.getElem_mem hm)).2
      · rw [List.getD_eq_getElem?_getD, List.getElem?_eq_none (by omega)]
        exact Nat.zero_le _
  · exact (ok os (List.mem_of_mem_drop hos)).2
theorem through_len {oss : List (List Sp3)} {m : Nat} {s : Int} (h1 : 1 ≤ m) (h2 : m ≤ oss.length) : (through oss m s).length = oss.length := by
  unfold through
  rw [List.length_append, List.length_append, List.length_take, List.length_drop]
  simp only [List.length_cons, List.length_nil]
  omega
def sp_check_moment (C : Addr) : Sp := fun vs H Q _ => ∃ p d b l o t rs x, vs = [.ref p, .int x] ∧ HouseAt C H p d b l o t rs ∧ 1 ≤ x ∧ x ≤ t ∧ ∀ H', Same H H' → Q .non H'
def sp_check_sound (C : Addr) : Sp := fun vs H Q _ => ∃ p d b l o t rs, vs = [.ref p] ∧ HouseAt C H p d b l o t rs ∧ rs.length ≤ 900 ∧ (∀ rs', Srt rs' rs → soundW o (runP l t rs').1 = true) ∧ ∀ H', Same H H' → Q .non H'
section
variable {P : Program} {w : World} {K : PySem.W.Frag} {mg : Str → Option Value} {base : Heap} {k : Nat} {f C aW cBH cBR cBT : Addr}
theorem sc_check_moment : FnScope ["house", "moment"] ["house", "moment"] (defScope s_check_moment) := ⟨rfl, rfl, rfl, by decide +kernel, rfl, by decide +kernel, by decide +kernel⟩
theorem ok_check_moment (F : Top1 K "check_moment" "check_moment" s_check_moment f ["house", "moment"]) (T : HouseT K mg C aW cBH cBR cBT) (M_time : Mt P w K mg base k C "time" ["self"] (sp_time C)) :
    ∃ fd, FnOk P w K mg base (CXe P w) (k + 1) f fd ["house", "moment"] (sp_check_moment C) ∧ Binds K fd ["house", "moment"] [] := by
  refine F.okN sc_check_moment (fun vs H Q E h => ?_) (fun cdv A outer s H vs Q E hr h => ?_)
  · obtain ⟨_, _, _, _, _, _, _, _, rfl, _⟩ := h
    rfl
  · obtain ⟨p, d, b, l, o, t, rs, x, rfl, S, hm1, hm2, kk⟩ := h
    obtain ⟨dx, n, fb, h1, _⟩ := S.ob
    refine ⟨_, (pss_one (ps_if (pt_not (pt_chain op_le op_le pe_int (pv 1) (pmeth0 (pv 0) T.cl M_time hr passN))) pss_never pss_nil)), ?_⟩
    refine ⟨_, rfl, _, _, rfl, rfl, _, rfl, ?_⟩
    rw [decide_eq_true hm1]
    refine ⟨_, rfl, p, dx, _, rfl, h1, rfl, p, d, b, l, o, t, rs, rfl, S, _, _, rfl, rfl, _, rfl, ?_⟩
    rw [decide_eq_true hm2]
    exact iteF (kk H (Same.refl _))
theorem sc_check_sound : FnScope ["house"] ["house"] (defScope s_check_sound) := ⟨rfl, rfl, rfl, by decide +kernel, rfl, by decide +kernel, by decide +kernel⟩
theorem ok_check_sound (F : Top1 K "check_sound" "check_sound" s_check_sound f ["house"]) (G_sound : Fn P w K mg base k "is_sound" ["house"] (sp_wsound C)) :
    ∃ fd, FnOk P w K mg base (CXe P w) (k + 1) f fd ["house"] (sp_check_sound C) ∧ Binds K fd ["house"] [] := by
  refine F.okN sc_check_sound (fun vs H Q E h => ?_) (fun cdv A outer s H vs Q E hr h => ?_)
  · obtain ⟨_, _, _, _, _, _, _, rfl, _⟩ := h
    rfl
  · obtain ⟨p, d, b, l, o, t, rs, rfl, S, hsz, hs, kk⟩ := h
    refine ⟨_, (pss_one (ps_if (pt_not (pt_val (pcall G_sound hr (by rfl) passN (pa_cons (pv 0) pa_nil)))) pss_never pss_nil)), ?_⟩
    refine ⟨_, rfl, p, d, b, l, o, t, rs, rfl, S, hsz, fun H1 rs' s1 hS => ⟨_, rfl, ?_⟩⟩
    rw [hs rs' hS]
    exact iteF (kk H1 s1)
end
end Ho
set_option Elab.async false
set_option linter.all false
set_option maxRecDepth 100000
set_option maxHeartbeats 4000000
namespace L2
open PySem PySem.Spec PyProof.Rows

/-! ### tuple(e for x in xs) -/
/-- a code table that is tracked -/
def GTab (H : Hp) (P : Addr) : Prop := ∃ ps, H P = some (.tbl ps) ∧ TriplesOk ps.toList
theorem gen_code {M : Model} {A : Around} {E : Value → Shared → Prop} {s : Shared} {env : Env} {c P : Addr} {ps : Array Value} {pos : Pos} {q : Str} {scope : Scope} {Q : Value → Shared → Prop} (hc : env.code = .ref c) (C : PySem.W.CodeHd s.heap c P) (hP : s.heap.get? P = some (PySem.W.tabObj ps)) (ht : TriplesOk ps.toList)
    (hQ : ∀ code h' tk ps', (∀ b o, b ≠ P → s.heap.get? b = some o → h'.get? b = some o) → s.heap.objs.size ≤ h'.objs.size → h'.get? P = some (PySem.W.tabObj ps') → (∃ more, ps' = ps ++ more) → TriplesOk ps'.toList → Q code { s with heap := h', toks := tk }) :
    wpAny M A (genexprCode env pos q scope) Q E s := by
  cases hf : codeAmong pos ps.toList with
  | none =>
    refine wpAny_genexprCodeX hc (C.code hP ht) (C.tab hP) hf fun c' h' tk hx hge hlt hcode _ htab _ => ?_
    exact hQ _ h' tk _ (fun b o hb e => hx b o hb e) (Nat.le_trans hge (Nat.le_of_lt hlt)) htab.2 ⟨_, rfl⟩ (by rw [Array.toList_append]; exact TriplesOk_snoc _ _ _ _ ht)
  | some cv =>
    obtain ⟨o, vs, file, tf, flags, tg, inF, text, tt, op, ho, hd, h11, h2, h7, h9, h10, hop, hpd, htr, hne⟩ := C.code hP ht
    unfold genexprCode codeAt
    rw [hc, if_neg (show ¬ ((Value.ref c == Value.none) = true) from Bool.false_ne_true)]
    refine wpAny_bind (wpAny_fieldsOf ho hd ?_)
    rw [h11]
    refine wpAny_bind (wpAny_fieldsOf hop hpd ?_)
    rw [hf]
    exact wpAny_pure (hQ cv s.heap s.toks ps (fun _ _ _ e => e) (Nat.le_refl _) hP ⟨#[], by simp⟩ ht)
def tTupGen (P : Addr) (el : Hp → V → V → Prop) (ti : TE) : TE := fun σ H Q => ti σ H fun xv H1 => ∃ l xs ys, xv = .ref l ∧ H1 l = some (.lst xs) ∧ Paired (el H1) xs ys ∧ GTab H1 P ∧ ∀ t H2, H1 t = none → (∀ b o, b ≠ P → H1 b = some o → H2 b = some o) → GTab H2 P → H2 t = some (.tup ys) → Q (.ref t) H2
theorem pass_all (n : Nat) : passing (fun _ => true) n 0 = List.range n := by
  unfold passing
  rw [List.drop_zero]
  exact List.filter_eq_self.mpr fun _ _ => rfl
theorem pe_tupgen {X : Cx} {k : Nat} {elt iter : Expr} {x : Str} {px gpos p pos : Pos} {scope : Scope} {c0 P : Addr} {ti : TE} {el : Hp → V → V → Prop} (hr : Room k X.A) (L : LamTop X.base X.mg c0 P) (hcode : X.env.code = .ref c0)
    (hg : Gl X "tuple") (hm : X.mg "tuple" = none) (hi : PE X iter ti)
    (hel : ∀ (C : Addr) (code : Value) (A' : Around) (E' : Value → Shared → Prop) (H1 : Hp) (u : Shared) (m : Str → Option Value) (v y : V) (uv : Value), A'.handled = none → (∀ b o, H1 b = some o → (∀ ps, o ≠ .tbl ps) → ObjOk X.prog X.w H1 u.heap b o) → u.heap.Ns C m → m x = some uv → RelV v uv → el H1 v y →
      wpAny (model X.prog X.w) A' (eval elt (genEnv scope [] C code builtinsNs X.env)) (fun z s3 => RelV y z ∧ Keeps u s3) E' u)
    (hco : scope.isCoroutine = false := by rfl) (hclos : closureFor scope X.env = pure [] := by rfl) (hcell : ∀ y ∈ scope.names, y.2 ≠ .cell := by decide +kernel) (h0 : scope.names.lookup (".0" : Str) = some NameKind.local := by decide +kernel) (hx : scope.names.lookup x = some .local := by decide +kernel) (hkind : scope.kind = .function := by rfl)
    (hs : ∀ x, genFold iter X.env x = pure x := by intro _; rfl)
    (he : starEach [.GeneratorExp elt [⟨.Name x px, iter, [], 0⟩] scope gpos] X.env = (false, eval (.GeneratorExp elt [⟨.Name x px, iter, [], 0⟩] scope gpos) X.env) :: starEach [] X.env := by rfl) :
    PE X (.Call (.Name "tuple" p) [.GeneratorExp elt [⟨.Name x px, iter, [], 0⟩] scope gpos] [] pos) (tTupGen P el ti) := by
  intro pins s σ H Q I h
  have hroom : X.A.depth < recursionLimit := by have := hr.dp; omega
  refine wpAny_Call_Name_kw (ld_blt I hg hm (u := .type "tuple") (by decide +kernel) ?_ (by decide) (by decide))
  refine PyProof.Rows.callWith_type1 ?_ he rfl
  rw [he]
  show wpAny _ _ (spliced ((false, eval _ X.env) :: backTo pos (starEach [] X.env))) _ _ s
  refine Calls.spliced_cons (wpAny_GeneratorExp_walksQ hr.hd hco hclos hcell h0 hx hkind hroom (thn (hi pins s σ H _ I h) fun xv s1 ⟨v, H1, I1, r1, q1⟩ => ?_) hs)
  obtain ⟨l, xs, ys, rfl, hl, pel, ⟨ps, hP, htr⟩, kk⟩ := q1
  cases r1
  obtain ⟨its, rv, pl, hz⟩ := I1.list (SqL.of hl)
  have isl := pl.isList
  have hlt : l < s1.heap.objs.size := (I1.hok l _ hl).lt
  have hPlt : P < s1.heap.objs.size := (I1.hok P _ hP).lt
  have hlen := rv.length
  have hylen : xs.length = ys.length := Paired.length pel
  refine wpAny_pyIter_list isl ⟨I1.nolimit.push _, ?_⟩
  have hk2 : ∀ b o, s1.heap.get? b = some o → (s1.heap.push { cls := .type "list_iterator", data := .fields #[.ref l, .int 0 0] }).get? b = some o := fun b o e => Heap.get?_push_of_some _ e
  have hP1 : s1.heap.get? P = some (PySem.W.tabObj ps) := I1.hok P _ hP
  refine gen_code hcode ((L.hd.keeps I1.bk).keeps hk2) (hk2 _ _ hP1) htr fun code h3 tk3 ps' hx3 hsz3 hP3 hmore htr' => ?_
  obtain ⟨bm, o, b1, b2, b3, b4, b5, b6, b7, b8⟩ := L.bt
  have keep3 : ∀ b o, b ≠ P → s1.heap.get? b = some o → h3.get? b = some o := fun b o hb e => hx3 b o hb (hk2 b o e)
  have ns3 : h3.Ns X.env.globals X.mg := by
    rw [I1.ok.glob]
    exact (I1.mod.glob.keeps I1.bk).at' fun o e => keep3 _ o L.gp e
  refine wpAny_builtinsFor ns3 b1 b2 (keep3 _ _ b4 (I1.bk _ _ b5)) b6 b7 b8 ?_
  have hsz13 : s1.heap.objs.size < h3.objs.size := by
    have : (s1.heap.push { cls := .type "list_iterator", data := .fields #[.ref l, .int 0 0] }).objs.size ≤ h3.objs.size := hsz3
    rw [Heap.size_push] at this
    exact this
  have hcs : cStatics < s1.heap.objs.size := let ⟨_, hn, _⟩ := I1.nolimit; hn.lt
  have hcsP : cStatics ≠ P := fun e => by
    obtain ⟨_, hns, _⟩ := I1.nolimit
    obtain ⟨o, es, ep, ho, hd, _⟩ := hns
    rw [e, hP1] at ho; cases ho; cases hd
  have lim3 : h3.NoLimit := by
    obtain ⟨mc, hns, hnn⟩ := I1.nolimit
    exact ⟨mc, hns.at' fun o e => keep3 _ o hcsP e, hnn⟩
  have nlP : l ≠ P := fun e => by rw [e, hP] at hl; cases hl
  refine ⟨s1.heap.objs.size, [s1.heap.objs.size, l], [s1.heap.objs.size], its.toArray.size, _, _, (fun _ => true), (fun i y => ∃ v, ys[i]? = some v ∧ RelV v y), rfl, (fun A' hA => Walks.list hA _ _ (Nat.ne_of_lt hlt) its.toArray), ?_, ?_, lim3, ?_, ?_, ?_⟩
  · refine ⟨⟨_, hx3 _ _ (Nat.ne_of_gt hPlt) (Heap.get?_push_size _ rfl), rfl, rfl⟩, isl.at fun o e => keep3 _ o nlP e⟩
  · intro b hb
    rcases List.mem_cons.mp hb with rfl | hb
    · exact hsz13
    · rw [List.mem_singleton.mp hb]; exact Nat.lt_trans hlt hsz13
  · intro hb
    rw [List.mem_singleton.mp hb] at hcs
    exact Nat.lt_irrefl _ hcs
  · intro href hhref
    refine ⟨fun A' E' i v s2 m2 hA hPv hns hmx hkp => ?_, fun A' E' i v s2 m2 hA hPv _ hns hmx hkp => ?_⟩
    · show wpAny _ _ (pure true) _ _ _
      exact wpAny_pure ⟨rfl, s2.heap, s2.toks, rfl, fun _ _ e => e⟩
    · have hi' : its[i]? = some v := by simpa using hPv
      have hil : i < its.length := (List.getElem?_eq_some_iff.mp hi').1
      have hxi : xs[i]? = some (xs[i]'(by omega)) := List.getElem?_eq_getElem (by omega)
      obtain ⟨u, hu, ru⟩ := rv.get hxi
      rw [hi'] at hu; cases hu
      obtain ⟨y, hy, hyy⟩ := paired_get pel hxi
      refine wpAny_mono (hel _ _ A' E' H1 s2 m2 _ y v hA (fun b o e hn => ?_) hns hmx ru hyy) (fun z s3 r => ⟨⟨y, hy, r.1⟩, r.2⟩) fun _ _ e => e
      refine (I1.hok b o e).stay (fun c u hc q => ?_) (fun _ q => q) fun _ _ q => q
      have hcP : c ≠ P := fun z => by
        rcases hc with hc | hc
        · rw [← hc, z, hP] at e; exact hn _ (Option.some.inj e).symm
        · rw [z, hP] at hc; cases hc
      have hcl : c < s1.heap.objs.size := Heap.lt_size q
      refine hkp c (List.mem_range.mpr (Nat.lt_trans hcl hsz13)) (fun z => ?_) u (hhref _ _ (keep3 c u hcP q))
      rw [List.mem_singleton.mp z] at hcl
      exact Nat.lt_irrefl _ hcl
  · intro a h5 tk gs hgb hag hsz5 hk5 W hat
    refine Calls.spliced_nil ?_
    have hag : h3.objs.size < a := hag
    rw [pass_all] at W
    have hnl : (List.range its.toArray.size).length = its.length := by simp
    rw [hnl] at W
    refine call_tuple_gen W.in4_3 (fun i s' st => st.1.typeIs) hat (fun b hb => ?_) List.mem_cons_self (fun s' acc hmv hacc => ?_) (by omega)
    · show b < h5.objs.size
      rw [hsz5]
      rcases List.mem_cons.mp hb with rfl | hb
      · exact Nat.lt_succ_self _
      · rcases List.mem_cons.mp hb with rfl | hb
        · exact Nat.lt_succ_of_lt hag
        · exact Nat.lt_succ_of_lt (Nat.lt_trans (List.mem_range.mp hb) hag)
    · have old : ∀ b, b < s1.heap.objs.size → b ∉ [h3.objs.size, s1.heap.objs.size] := fun b hb z => by
        rcases List.mem_cons.mp z with e | z
        · rw [e] at hb; omega
        · rw [List.mem_singleton.mp z] at hb; exact Nat.lt_irrefl _ hb
      have keepT : ∀ b o, b ≠ P → s1.heap.get? b = some o → s'.heap.get? b = some o := fun b o hb e => hmv.heap b o (old b (Heap.lt_size e)) (hk5 b o (keep3 b o hb e))
      have tabT : s'.heap.get? P = some (PySem.W.tabObj ps') := hmv.heap P _ (old P hPlt) (hk5 P _ hP3)
      have vals : Vals ys acc.toList := by
        refine paired_ofGet (by have h1 := hacc.1; have h2 : acc.toList.length = acc.size := Array.length_toList; omega) fun i y z hy hz => ?_
        obtain ⟨j, hj, v, hv, r⟩ := hacc.2 i z (by simpa using hz)
        rw [List.getElem?_range (by have := (List.getElem?_eq_some_iff.mp hy).1; simp only [List.size_toArray]; omega)] at hj
        cases hj
        rw [hy] at hv; cases hv
        exact r
      obtain ⟨oa, _, _, hoa, _⟩ := hat.1
      have nA : a ∉ [h3.objs.size, s1.heap.objs.size] := fun z => by
        rcases List.mem_cons.mp z with e | z
        · exact absurd hag (by rw [e]; exact Nat.lt_irrefl _)
        · have e := List.mem_singleton.mp z
          exact absurd (Nat.lt_trans hsz13 hag) (by rw [e]; exact Nat.lt_irrefl _)
      have hsz1 : s1.heap.objs.size ≤ s'.heap.objs.size := Nat.le_of_lt (Nat.lt_trans (Nat.lt_trans hsz13 hag) (Heap.lt_size (hmv.heap a _ nA hoa)))
      have tn : s1.heap.get? s'.heap.objs.size = none := Heap.get?_none_of_le hsz1
      have H1n : H1 s'.heap.objs.size = none := I1.hok.fresh hsz1
      have tP : s'.heap.objs.size ≠ P := fun z => by rw [z, hP] at H1n; cases H1n
      obtain ⟨more, hmore⟩ := hmore
      have noP : ∀ b u, H1 b = some u → (∀ qs, u ≠ .tbl qs) → b ≠ P := fun b u e n z => by rw [z, hP] at e; cases e; exact n _ rfl
      have keepF : ∀ b o, b ≠ P → s1.heap.get? b = some o → (s'.heap.push { cls := .type "tuple", data := .seq acc }).get? b = some o := fun b o hb e => Heap.get?_push_of_some _ (keepT b o hb e)
      have get2 : ∀ b, b ≠ s'.heap.objs.size → b ≠ P → upd (upd H1 P (.tbl ps')) s'.heap.objs.size (.tup ys) b = H1 b := fun b h1 h2 => by rw [upd_ne h1, upd_ne h2]
      have ne1 : ∀ b u, H1 b = some u → b ≠ s'.heap.objs.size := fun b u e z => by rw [z, H1n] at e; cases e
      refine ⟨.ref s'.heap.objs.size, upd (upd H1 P (.tbl ps')) s'.heap.objs.size (.tup ys), ?_, rfl, kk _ _ H1n (fun b o hb e => by rw [get2 b (ne1 b o e) hb]; exact e) ⟨ps', by rw [upd_ne tP.symm, upd_same], htr'⟩ upd_same⟩
      refine I1.call' (ch := []) (show s'.os = s1.os from hmv.os) ⟨fun b o e n _ _ => ?_, fun b o e n _ _ => ?_, fun b o e n _ => ?_, fun b o e _ => ?_, fun b xs e => ?_, fun b o u e => ?_, fun b qs e => ?_⟩ (fun b u e => ?_) ?_ (fun b hb => absurd hb (by simp))
      · exact keepF b o (fun z => by rw [z, hP] at n; cases n) e
      · exact ⟨o.slots, keepF b o (fun z => by rw [z, hP] at n; cases n) e⟩
      · rw [get2 b (fun z => by rw [z, tn] at e; cases e) (fun z => by rw [z, hP] at n; cases n)]; exact n
      · by_cases hb : b = P
        · exact ⟨_, hb ▸ Heap.get?_push_of_some _ tabT⟩
        · exact ⟨o, keepF b o hb e⟩
      · rw [get2 b (ne1 b _ e) (noP b _ e fun _ z => by cases z)]; exact e
      · rw [get2 b (ne1 b _ e) (noP b _ e fun _ z => by cases z)]; exact e
      · by_cases hb : b = P
        · subst hb
          rw [hP] at e; cases e
          exact ⟨more, by rw [upd_ne tP.symm, upd_same, hmore]⟩
        · exact ⟨#[], by rw [get2 b (ne1 b _ e) hb, e]; simp⟩
      · by_cases hb : b = s'.heap.objs.size
        · subst hb
          rw [upd_same] at e; cases e
          refine ⟨by omega, acc.toList, vals, ?_⟩
          rw [Array.toArray_toList]
          exact IsTup.new _ _
        · rw [upd_ne hb] at e
          by_cases hbP : b = P
          · subst hbP
            rw [upd_same] at e; cases e
            exact Heap.get?_push_of_some _ tabT
          · rw [upd_ne hbP] at e
            refine (I1.hok b u e).stay (fun c v hc q => keepF c v ?_ q) (fun c q => ?_) fun c zs q => ?_
            · rcases hc with rfl | hc
              · exact hbP
              · exact noP c _ hc fun _ z => by cases z
            · rw [get2 c (ne1 c _ q) (noP c _ q fun _ z => by cases z)]; exact q
            · rw [get2 c (ne1 c _ q) (noP c _ q fun _ z => by cases z)]; exact q
      · exact hmv.gens.bare (I1.bare.push hgb)
end L2
set_option Elab.async false
set_option linter.all false
set_option maxRecDepth 100000
set_option maxHeartbeats 4000000
namespace L2
open PySem PySem.Spec PyProof.Rows
/-! ### None in a tuple of tuples and Nones -/
def isNonU : Value → Bool
  | .none => true
  | _ => false
/-- None, or a tuple -/
def NT (H : Hp) (x : V) : Prop := x = .non ∨ ∃ a xs, x = .ref a ∧ H a = some (.tup xs)
def rNoneIn : R2 := fun x y H Q => ∃ (p : Addr) (xs : List V), x = .non ∧ y = .ref p ∧ H p = some (.tup xs) ∧ (∀ z ∈ xs, NT H z) ∧ Q (.bl (decide (V.non ∈ xs))) H
theorem any_non {H : Hp} : ∀ {xs : List V} {us : List Value}, Vals xs us → (∀ z ∈ xs, NT H z) → us.any isNonU = decide (V.non ∈ xs)
  | _, _, .nil, _ => by simp
  | x :: xs, u :: us, .cons r t, h => by
    have ih := any_non t fun z hz => h z (List.mem_cons_of_mem _ hz)
    rw [List.any_cons, ih]
    rcases h x (List.mem_cons_self ..) with rfl | ⟨a, ys, rfl, _⟩
    · cases r
      simp [isNonU]
    · cases r
      simp [isNonU]
section
variable {X : Cx}
theorem op_in_none (hu : X.A.units + 64 < cLine) : OpR X (compareOp .In) rNoneIn := by
  intro pins s σ H x y v u Q I rx ry h
  obtain ⟨p, xs, rfl, rfl, hp, hn, q⟩ := h
  cases rx
  cases ry
  obtain ⟨its, r, pl, hz⟩ := I.tuple (SqT.of (K := X.K) hp)
  refine SeqAt.in_tupleAt isNonU pl (fun w hw => ?_) ⟨.bl _, H, I, rfl, ?_⟩
  · have hw : w ∈ its := by simpa using hw
    obtain ⟨i, hi⟩ := List.getElem?_of_mem hw
    have hil : i < xs.length := by
      have := (List.getElem?_eq_some_iff.mp hi).1
      have h2 := r.length
      omega
    obtain ⟨u, e1, e2⟩ := Vals.get (x := xs[i]) r (List.getElem?_eq_getElem hil)
    rw [hi] at e1; cases e1
    rcases hn xs[i] (List.getElem_mem hil) with e | ⟨a, ys, e, ha⟩
    · rw [e] at e2
      cases e2
      exact SeqAt.EqAt.same _
    · rw [e] at e2
      cases e2
      obtain ⟨_, _, pa, _⟩ := I.tuple (SqT.of (K := X.K) ha)
      exact SeqAt.EqAt.tuple_none pa (by rw [Around.in1_units]; omega)
  · rw [show its.toArray.any isNonU = its.any isNonU by simp, any_non r hn]
    exact q
end
/-! ### the first of a list, or None -/
def firstOr : Hp → V → V → Prop := fun H v y => ∃ b xs, v = .ref b ∧ H b = some (.lst xs) ∧ y = xs.headD .non
theorem el_first {P : Program} {w : World} {scope : Scope} {x : Str} {p1 p2 p3 p4 p5 p6 : Pos} {k1 k2 : Nat} {env : Env} (hk : scope.kind = .function) (hx : scope.names.lookup x = some .local) (hd : (x == ("__debug__" : Str)) = false)
    (C : Addr) (code : Value) (A' : Around) (E' : Value → Shared → Prop) (H1 : Hp) (u : Shared) (m : Str → Option Value) (v y : V) (uv : Value) (hA : A'.handled = none) (hok : ∀ b o, H1 b = some o → (∀ ps, o ≠ .tbl ps) → ObjOk P w H1 u.heap b o) (hn : u.heap.Ns C m) (hm : m x = some uv) (r : RelV v uv) (he : firstOr H1 v y) :
    wpAny (model P w) A' (eval (.IfExp (.Name x p1) (.Subscript (.Name x p2) (.Constant (.int 0) k1 p3) p4) (.Constant .none k2 p5) p6) (genEnv scope [] C code builtinsNs env)) (fun z s3 => RelV y z ∧ Keeps u s3) E' u := by
  obtain ⟨b, xs, rfl, hb, rfl⟩ := he
  cases r
  obtain ⟨hz, its, n, rv, hg⟩ := hok b _ hb (fun ps z => by cases z)
  have pl : PlainL u.heap b its.toArray := ⟨_, n, hg, rfl, rfl, rfl⟩
  have ld : ∀ {Q : Value → Shared → Prop} {p : Pos} {s : Shared}, s.heap = u.heap → Q (.ref b) s → wpAny (model P w) A' (eval (.Name x p) (genEnv scope [] C code builtinsNs env)) Q E' s := fun {Q p s} hs q =>
    wpAny_Name (wpAny_loadName_local hk hx (by rw [hs]; exact hn) hm q) hd
  have hlen := rv.length
  have hs63 := line63
  refine wpAny_IfExp (isTrue_plain (ld rfl (wpAny_truthy_list pl.isList (by simp only [List.size_toArray]; omega) ?_)) rfl)
  cases xs with
  | nil =>
    cases rv
    show if (false = true) then _ else _
    rw [if_neg (by decide)]
    exact Constant_none ⟨rfl, u.heap, _, rfl, fun _ _ e => e⟩
  | cons a xs =>
    cases rv with
    | @cons _ i0 _ its r0 rt =>
      show if (true = true) then _ else _
      rw [if_pos rfl]
      refine Subscript_ (ld rfl (wpAny_Constant_int ?_))
      refine item_listR (x := i0) (show Heap.IsList u.heap b (i0 :: its).toArray from pl.isList) (by decide) (by decide) rfl ⟨r0, u.heap, _, rfl, fun _ _ e => e⟩ rfl
end L2
set_option Elab.async false
set_option linter.all false
set_option maxRecDepth 100000
set_option maxHeartbeats 4000000
namespace L2
open PySem PySem.Spec PyProof.Rows
/-- a def whose code object is known (it makes lambdas or generators) -/
theorem Top1.okEC {P : Program} {w : World} {K : PySem.W.Frag} {mg : Str → Option Value} {base : Heap} {x qual : Str} {st : Stmt} {f c0 : Addr} {N ps : List Str} {k : Nat} {sp : Sp} (F : Top1 K x qual st f ps) (hc0 : ∃ o fd, K.lookup f = some o ∧ o.data = .func fd ∧ fd.code = .ref c0) (S : FnScope N ps (defScope st)) (len : ∀ vs H Q E, sp vs H Q E → vs.length = ps.length)
    (hbody : ∀ (A : Around) (outer : List Env) (s : Shared) (H : Hp) (vs : List V) (Q : VK) (E : XK), Room k (A.deeper (envOfC qual (defScope st) s.heap.objs.size f (.ref c0))) → sp vs H Q E →
      ∃ t, PSs (cxOf (CXe P w) P w K mg base N qual (defScope st) f (.ref c0) A outer s H E) (defBody st) t ∧ t { nx := fun _ H' => Q .non H', rt := Q } (start N vs) H) : ∃ fd, FnOk P w K mg base (CXe P w) (k + 1) f fd ps sp ∧ Binds K fd ps [] := by
  obtain ⟨fd, F1, b⟩ := F.ok
  obtain ⟨oc, od, kV, doc, pm, an, cdv, ct, osl, rfl, lk, hcd⟩ := F1.ex
  have hcd' : cdv = .ref c0 := by
    obtain ⟨o, fd, h2, h3, h4⟩ := hc0
    rw [lk] at h2
    cases h2
    cases h3
    exact h4
  subst hcd'
  exact ⟨_, fn_of lk hcd S len fun A outer s H vs Q E hr hsp => hbody A outer s H vs Q E hr hsp, b⟩
end L2
namespace Ho
open PySem L2
/-- all but one -/
def But (P : Addr) (H H' : Hp) : Prop := ∀ b o, b ≠ P → H b = some o → H' b = some o
theorem But.of {P : Addr} {H H' : Hp} (s : Same H H') : But P H H' := fun b o _ e => s b o e
theorem But.trans {P : Addr} {H H1 H2 : Hp} (a : But P H H1) (b : But P H1 H2) : But P H H2 := fun c o hc e => b c o hc (a c o hc e)
theorem _root_.L2.GTab.same {H H' : Hp} {P : Addr} (h : GTab H P) (s : Same H H') : GTab H' P := by
  obtain ⟨ps, h1, h2⟩ := h
  exact ⟨ps, s _ _ h1, h2⟩
theorem HouseAt.but {C : Addr} {H H' : Hp} {p d P : Addr} {b l o t : Int} {rs : List RowT} (h : HouseAt C H p d b l o t rs) (g : GTab H P) (s : But P H H') : HouseAt C H' p d b l o t rs := by
  obtain ⟨ps, g1, _⟩ := g
  obtain ⟨dx, n, fb, h1, h2⟩ := h.ob
  exact ⟨⟨dx, n, fb, s _ _ (fun z => by rw [z, g1] at h1; cases h1) h1, h2⟩, s _ _ (fun z => by have := h.dc; rw [z, g1] at this; cases this) h.dc, h.nd, h.sz, h.bb, h.lb, h.ob2, h.tb⟩
theorem pm_impS {α β : Type} {F G : α → β → Prop} : ∀ {l : List α} {m : List β}, (∀ a b, F a b → a ∈ l → G a b) → Paired F l m → Paired G l m
  | _, _, _, .nil => .nil
  | _ :: _, _ :: _, h, .cons r t => .cons (h _ _ r (List.mem_cons_self ..)) (pm_impS (fun a b f hm => h a b f (List.mem_cons_of_mem _ hm)) t)
/-- the wants of the others -/
def others (i : Int) (ws : List Want) : List Want := ws.filter fun w => !decide (w.1.1 = i)
def sp_price_left (C : Addr) : Sp := fun vs H Q _ => ∃ p d b l o t rs i, vs = [.ref p, .int i] ∧ HouseAt C H p d b l o t rs ∧ rs.length ≤ 900 ∧ ∀ H' rs', Same H H' → Srt rs' rs → Q (.int (o - ((others i (runP l t rs').1).length : Int))) H'
def sp_check_badge (C : Addr) : Sp := fun vs H Q _ => ∃ p d b l o t rs x, vs = [.ref p, .int x] ∧ HouseAt C H p d b l o t rs ∧ 0 ≤ x ∧ x < b ∧ ∀ H', Same H H' → Q .non H'
/-- a story, or None for none -/
def StoryV (H : Hp) (v : V) : List (List Int) → Prop
  | [] => v = .non
  | s :: _ => ∃ a, v = .ref a ∧ H a = some (.tup (s.map V.int))
theorem StoryV.same {H H' : Hp} {v : V} {P : Addr} {ss : List (List Int)} (h : StoryV H v ss) (s : But P H H') (g : GTab H P) : StoryV H' v ss := by
  cases ss with
  | nil => exact h
  | cons x xs =>
    obtain ⟨a, e, ha⟩ := h
    obtain ⟨ps, g1, _⟩ := g
    exact ⟨a, e, s _ _ (fun z => by rw [z, g1] at ha; cases ha) ha⟩
/-- the first story of a badge with a state at a moment, if there is one -/
def Fst (rs : List RowT) (l o t i : Int) (m : Nat) (ws : List Want) (s : Int) (ss : List (List Int)) : Prop := ∃ rr, Rests (through (stepsOf (lk rs i) l t t.toNat) m s) rr ∧ ss = firstS (o - ((others i ws).length : Int)) 1 (through (stepsOf (lk rs i) l t t.toNat) m s) rr
def Asked (C PT : Addr) (H : Hp) (vs : List V) (p d : Addr) (b l o t : Int) (rs : List RowT) (i : Int) (m : Nat) : Prop := vs = [.ref p, .int i, .int (m : Int)] ∧ HouseAt C H p d b l o t rs ∧ rs.length ≤ 900 ∧ 0 ≤ i ∧ i < b ∧ 1 ≤ m ∧ (m : Int) ≤ t ∧ (∀ rs', Srt rs' rs → soundW o (runP l t rs').1 = true) ∧ GTab H PT
def sp_stories_through (C PT : Addr) : Sp := fun vs H Q _ => ∃ p d b l o t rs i m, Asked C PT H vs p d b l o t rs i m ∧ ∀ H' rs' q v0 v1 ss0 ss1, But PT H H' → GTab H' PT → Srt rs' rs → Fst rs l o t i m (runP l t rs').1 0 ss0 → Fst rs l o t i m (runP l t rs').1 1 ss1 → H q = none → H' q = some (.tup [v0, v1]) → StoryV H' v0 ss0 → StoryV H' v1 ss1 → Q (.ref q) H'
def insV (ss0 ss1 : List (List Int)) : V := if ss0 = [] then .int 1 else if ss1 = [] then .int 0 else .non
def sp_inside (C PT : Addr) : Sp := fun vs H Q _ => ∃ p d b l o t rs i m, Asked C PT H vs p d b l o t rs i m ∧ ∀ H' rs' ss0 ss1, But PT H H' → GTab H' PT → Srt rs' rs → Fst rs l o t i m (runP l t rs').1 0 ss0 → Fst rs l o t i m (runP l t rs').1 1 ss1 → Q (insV ss0 ss1) H'
def sp_two (C PT : Addr) : Sp := fun vs H Q _ => ∃ p d b l o t rs i m, Asked C PT H vs p d b l o t rs i m ∧ ∀ H' rs' ss0 ss1, But PT H H' → GTab H' PT → Srt rs' rs → Fst rs l o t i m (runP l t rs').1 0 ss0 → Fst rs l o t i m (runP l t rs').1 1 ss1 →
  ((ss0 = [] ∨ ss1 = []) → Q .non H') ∧ ∀ q a0 a1 s0 s1 r0 r1, ss0 = s0 :: r0 → ss1 = s1 :: r1 → H q = none → H' q = some (.tup [.ref a0, .ref a1]) → H' a0 = some (.tup (s0.map V.int)) → H' a1 = some (.tup (s1.map V.int)) → Q (.ref q) H'
theorem StsAt.same {H H' : Hp} {q : Addr} {ss : List (List Int)} (h : StsAt H q ss) (s : Same H H') : StsAt H' q ss := by
  obtain ⟨qs, h1, h2⟩ := h
  exact ⟨qs, s _ _ h1, paired_imp (fun a x hx => s _ _ hx) h2⟩
theorem StsAt.put {H : Hp} {q D : Addr} {ss : List (List Int)} {ys zs : List V} (h : StsAt H q ss) (hq : q ≠ D) (hD : H D = some (.lst ys)) : StsAt (upd H D (.lst zs)) q ss := by
  obtain ⟨qs, h1, h2⟩ := h
  exact ⟨qs, by rw [upd_ne hq]; exact h1, paired_imp (fun a x hx => by rw [upd_ne (fun z => by rw [z, hD] at hx; cases hx)]; exact hx) h2⟩
theorem StsAt.first {H : Hp} {q : Addr} {ss : List (List Int)} (h : StsAt H q ss) : ∃ xs, H q = some (.lst xs) ∧ StoryV H (xs.headD .non) ss := by
  obtain ⟨qs, h1, h2⟩ := h
  refine ⟨_, h1, ?_⟩
  cases h2 with
  | nil => rfl
  | @cons a s qs ss r t => exact ⟨a, rfl, r⟩
section
variable {P : Program} {w : World} {K : PySem.W.Frag} {mg : Str → Option Value} {base : Heap} {k : Nat} {f C aW cBH cBR cBT : Addr}
theorem sc_price_left : FnScope ["house", "badge", "want"] ["house", "badge"] (defScope s_price_left) := ⟨rfl, rfl, rfl, by decide +kernel, rfl, by decide +kernel, by decide +kernel⟩
theorem ok_price_left (F : Top1 K "price_left" "price_left" s_price_left f ["house", "badge"]) (T : HouseT K mg C aW cBH cBR cBT) (G_wants : Fn P w K mg base k "wants" ["house"] (sp_wwants C)) :
    ∃ fd, FnOk P w K mg base (CXe P w) (k + 1) f fd ["house", "badge"] (sp_price_left C) ∧ Binds K fd ["house", "badge"] [] := by
  refine F.okN sc_price_left (fun vs H Q E h => ?_) (fun cdv A outer s H vs Q E hr h => ?_)
  · obtain ⟨_, _, _, _, _, _, _, _, rfl, _⟩ := h
    rfl
  · obtain ⟨p, d, b, l, o, t, rs, i, rfl, S, hsz, kk⟩ := h
    have nd := sc_price_left.nd
    obtain ⟨dx, n, fb, h1, _⟩ := S.ob
    refine ⟨_, (pss_one (ps_ret (pe_op op_sub (pe_fld (pv 0) rfl) (pe_callB call_len_seq (by rfl) T.b_len PySem.boot_len (pa_cons (pe_lc (own := [("want", 2)]) (g := gName 2) (tt := tTest (tOp rNe (tOp (rIxT K) (tVar 2) (tC (.int 0))) (tVar 1))) (te := tVar 2) rfl nd (pi_list (pcall G_wants hr (by rfl) passN (pa_cons (pv 0) pa_nil))) (blkOk_by (own := [("want", 2)]) (N := ["house", "badge", "want"]) (sc := defScope s_price_left) (by decide +kernel)) (fun _ _ _ _ _ => by exact (pg_name (i := 2) nd rfl (Or.inl rfl))) (fun _ _ _ _ _ => by exact (pts_one (pt_cmpR op_ne (pe_ix ix_tup (pv 2) pe_int (fun _ _ => rfl)) (pv 1) (nomark _)))) (fun _ _ _ _ _ => by exact (pv 2))) pa_nil))))), ?_⟩
    refine ⟨_, rfl, p, C, dx, _, _, rfl, h1, T.cl, T.n_lost, f_lost .., _, rfl, p, d, b, l, o, t, rs, rfl, S, hsz, fun H1 wq rs' s1 _ hS hW => ?_⟩
    have hrl : (runP l t rs').1.length ≤ 900 := Nat.le_trans (run_len rs') (Nat.le_trans (len_le hS.1 fun r hr => (hS.2 r).mp hr) hsz)
    obtain ⟨wqs, hwq, pwq⟩ := hW
    have hwl : wqs.length = (runP l t rs').1.length := Paired.length pwq
    refine ⟨wq, rfl, ⟨_, SqL.of hwq⟩, fun D hD => ?_⟩
    refine lc_list (K := K) (a := wq) (xs := wqs.map V.ref) (fun j H2 => Same H1 H2 ∧ ∃ zs : List Addr, H2 D = some (.lst (zs.map V.ref)) ∧ zs.length = (others i ((runP l t rs').1.take j)).length ∧ zs.length ≤ j) ⟨(Ext.new (S := []) hD).same, [], upd_same, rfl, Nat.le_refl _⟩ (fun j H2 _ h => SqL.of (h.1 _ _ hwq)) ?_ ?_
    · rintro j y H2 hj ⟨s2, zs, hD2, hz1, hz2⟩
      rw [List.getElem?_map] at hj
      cases eq : wqs[j]? with
      | none => rw [eq] at hj; cases hj
      | some wa =>
        rw [eq] at hj
        cases hj
        have hlt : j < wqs.length := (List.getElem?_eq_some_iff.mp eq).1
        obtain ⟨wn, hwn, hwa⟩ := paired_at pwq eq
        refine ⟨rfl, ?_⟩
        refine ⟨_, rfl, wa, _, _, _, rfl, rfl, SqT.of (s2 _ _ hwa), rfl, _, rfl, rfl, _, rfl, ?_⟩
        have et : others i ((runP l t rs').1.take (j + 1)) = others i ((runP l t rs').1.take j) ++ (if wn.1.1 = i then [] else [wn]) := by
          unfold others
          rw [List.take_succ, hwn, List.filter_append]
          congr 1
          by_cases h : wn.1.1 = i <;> simp [h]
        rw [et, List.length_append]
        by_cases h : wn.1.1 = i
        · rw [decide_eq_true (show V.int wn.1.1 = V.int i by rw [h]), if_pos h]
          exact iteF ⟨s2, zs, hD2, by simpa using hz1, by omega⟩
        · rw [decide_eq_false (show ¬ V.int wn.1.1 = V.int i from fun z => h (V.int.inj z)), if_neg h]
          refine iteT ⟨_, rfl, _, hD2, (by rw [List.length_map]; exact small1000 (by omega)), fun c oc hc => ?_, zs ++ [wa], ?_, ?_, ?_⟩
          · have nc : c ≠ D := fun z => by rw [z, hD] at hc; cases hc
            rw [upd_ne nc]; exact s2 _ _ hc
          · rw [upd_same, List.map_append]; rfl
          · rw [List.length_append, hz1]; rfl
          · rw [List.length_append]; simp only [List.length_cons, List.length_nil]; omega
    · rintro H2 ⟨s2, zs, hD2, hz1, hz2⟩
      rw [List.length_map, hwl, List.take_of_length_le (Nat.le_refl _)] at hz1
      refine ⟨D, _, rfl, .inl (SqL.of hD2), _, _, rfl, rfl, ?_⟩
      rw [List.length_map, hz1]
      exact kk H2 rs' (s1.trans s2) hS
theorem sc_check_badge : FnScope ["house", "badge"] ["house", "badge"] (defScope s_check_badge) := ⟨rfl, rfl, rfl, by decide +kernel, rfl, by decide +kernel, by decide +kernel⟩
theorem ok_check_badge (F : Top1 K "check_badge" "check_badge" s_check_badge f ["house", "badge"]) (T : HouseT K mg C aW cBH cBR cBT) :
    ∃ fd, FnOk P w K mg base (CXe P w) (k + 1) f fd ["house", "badge"] (sp_check_badge C) ∧ Binds K fd ["house", "badge"] [] := by
  refine F.okN sc_check_badge (fun vs H Q E h => ?_) (fun cdv A outer s H vs Q E hr h => ?_)
  · obtain ⟨_, _, _, _, _, _, _, _, rfl, _⟩ := h
    rfl
  · obtain ⟨p, d, b, l, o, t, rs, x, rfl, S, hm1, hm2, kk⟩ := h
    obtain ⟨dx, n, fb, h1, _⟩ := S.ob
    refine ⟨_, (pss_one (ps_if (pt_not (pt_chain op_le op_lt pe_int (pv 1) (pe_fld (pv 0) rfl))) pss_never pss_nil)), ?_⟩
    refine ⟨_, rfl, _, _, rfl, rfl, _, rfl, ?_⟩
    rw [decide_eq_true hm1]
    refine ⟨_, rfl, p, C, dx, _, _, rfl, h1, T.cl, T.n_badges, f_badges .., _, _, rfl, rfl, _, rfl, ?_⟩
    rw [decide_eq_true hm2]
    exact iteF (kk H (Same.refl _))
def NSt : List Str := ["house", "badge", "moment", "steps", "most", "found", "state"]
theorem sc_stories_through : FnScope NSt ["house", "badge", "moment"] (defScope s_stories_through) := ⟨rfl, rfl, rfl, by decide +kernel, rfl, by decide +kernel, by decide +kernel⟩
theorem ok_stories_through {c0 PT : Addr} (F : Top1 K "stories_through" "stories_through" s_stories_through f ["house", "badge", "moment"]) (L : LamTop base mg c0 PT) (hc0 : ∃ o fd, K.lookup f = some o ∧ o.data = .func fd ∧ fd.code = .ref c0) (T : HouseT K mg C aW cBH cBR cBT)
    (G_cb : Fn P w K mg base k "check_badge" ["house", "badge"] (sp_check_badge C)) (G_cm : Fn P w K mg base k "check_moment" ["house", "moment"] (sp_check_moment C)) (G_cs : Fn P w K mg base k "check_sound" ["house"] (sp_check_sound C)) (G_steps : Fn P w K mg base k "steps_of" ["house", "badge"] (sp_steps_of C)) (G_left : Fn P w K mg base k "price_left" ["house", "badge"] (sp_price_left C))
    (G_first : Fn P w K mg base k "first_stories" ["steps", "most", "many"] sp_first_stories) (G_thr : Fn P w K mg base k "steps_through" ["steps", "moment", "state"] sp_steps_through) :
    ∃ fd, FnOk P w K mg base (CXe P w) (k + 1) f fd ["house", "badge", "moment"] (sp_stories_through C PT) ∧ Binds K fd ["house", "badge", "moment"] [] := by
  refine F.okEC hc0 sc_stories_through (fun vs H Q E h => ?_) (fun A outer s H vs Q E hr h => ?_)
  · obtain ⟨_, _, _, _, _, _, _, _, _, ⟨rfl, _⟩, _⟩ := h
    rfl
  · obtain ⟨p, d, b, l, o, t, rs, i, m, ⟨rfl, S, hsz, hi0, hib, hm1, hm2, hsd, hG⟩, kk⟩ := h
    have nd := sc_stories_through.nd
    refine ⟨_, (pss_cons (ps_expr (pcall G_cb hr (by rfl) passN (pa_cons (pv 0) (pa_cons (pv 1) pa_nil))))
      (pss_cons (ps_expr (pcall G_cm hr (by rfl) passN (pa_cons (pv 0) (pa_cons (pv 2) pa_nil))))
      (pss_cons (ps_expr (pcall G_cs hr (by rfl) passN (pa_cons (pv 0) pa_nil)))
      (pss_cons (ps_set (i := 3) nd rfl (Or.inr rfl) (pcall G_steps hr (by rfl) passN (pa_cons (pv 0) (pa_cons (pv 1) pa_nil))))
      (pss_cons (ps_set (i := 4) nd rfl (Or.inr rfl) (pcall G_left hr (by rfl) passN (pa_cons (pv 0) (pa_cons (pv 1) pa_nil))))
      (pss_cons (ps_setLc (i := 5) (own := [("state", 6)]) (g := gName 6) (tt := tYes) (te := tCall sp_first_stories [] E0 (tCons (tCall sp_steps_through [] E0 (tCons (tVar 3) (tCons (tVar 2) (tCons (tVar 6) tNil)))) (tCons (tVar 4) (tCons (tC (.int 1)) tNil)))) rfl nd rfl rfl (sw_true rfl rfl rfl (by decide +kernel)) (pi_tup (pe_tup (pa_cons pe_int (pa_cons pe_int pa_nil)))) (blkOk_by (own := [("state", 6)]) (N := NSt) (sc := defScope s_stories_through) (by decide +kernel)) (fun _ _ _ _ _ => by exact (pg_name (i := 6) nd rfl (Or.inl rfl))) (fun _ _ _ _ _ => by exact pts_nil) (fun _ _ _ _ _ => by exact (pcall G_first hr (by rfl) passN (pa_cons (pcall G_thr hr (by rfl) passN (pa_cons (pv 3) (pa_cons (pv 2) (pa_cons (pv 6) pa_nil)))) (pa_cons (pv 4) (pa_cons pe_int pa_nil))))))
      (pss_one (ps_ret (pe_tupgen (el := firstOr) hr L rfl (by rfl) T.b_tuple (pv 5) (el_first rfl (by decide +kernel) (by decide))))))))))), ?_⟩
    generalize hσ : start NSt _ = σ0
    have e0 : σ0 = [some (.ref p), some (.int i), some (.int (m : Int)), none, none, none, none] := by rw [← hσ]; rfl
    clear hσ; subst e0
    have bb := S.bb
    have tb := S.tb
    refine ⟨_, rfl, _, rfl, p, d, b, l, o, t, rs, i, rfl, S, hi0, hib, fun H1 s1 => ?_⟩
    refine ⟨_, rfl, _, rfl, p, d, b, l, o, t, rs, (m : Int), rfl, S.same s1, by omega, hm2, fun H2 s2 => ?_⟩
    have S2 := (S.same s1).same s2
    refine ⟨_, rfl, p, d, b, l, o, t, rs, rfl, S2, hsz, hsd, fun H3 s3 => ?_⟩
    have S3 := S2.same s3
    refine ⟨_, rfl, _, rfl, p, d, b, l, o, t, rs, i, rfl, S3, hsz, fun H4 sq s4 _ hS4 => ?_⟩
    have S4 := S3.same s4
    refine ⟨_, rfl, _, rfl, p, d, b, l, o, t, rs, i, rfl, S4, hsz, fun H5 rs' s5 hSr => ?_⟩
    have s05 : Same H H5 := s1.trans (s2.trans (s3.trans (s4.trans s5)))
    have hsl := stepsOf_len (lk rs i) l t t.toNat
    have hst5 : StepsAt H5 sq (stepsOf (lk rs i) l t t.toNat) := by
      obtain ⟨qs, q1, q2⟩ := hS4
      refine ⟨qs, s5 _ _ q1, paired_imp (fun a x hx => ?_) q2⟩
      obtain ⟨us, u1, u2⟩ := hx
      exact ⟨us, s5 _ _ u1, paired_imp (fun a x hx => s5 _ _ hx) u2⟩
    generalize hmost : o - ((others i (runP l t rs').1).length : Int) = most
    have hFst : ∀ (st : Int) rr, Rests (through (stepsOf (lk rs i) l t t.toNat) m st) rr → Fst rs l o t i m (runP l t rs').1 st (firstS most 1 (through (stepsOf (lk rs i) l t t.toNat) m st) rr) := fun st rr h => ⟨rr, h, by rw [hmost]⟩
    refine ⟨(by show 2 ≤ sizeLine; decide), fun c6 hc6 => ?_⟩
    generalize hH6 : upd H5 c6 _ = H6
    have s6 : Same H5 H6 := by rw [← hH6]; exact (Ext.new (S := []) hc6).same
    have e6 : H6 c6 = some (.tup [.int 0, .int 1]) := by rw [← hH6]; exact upd_same
    clear hH6
    refine ⟨c6, rfl, ⟨_, SqT.of e6⟩, fun D hD => ?_⟩
    refine lc_tup (K := K) (a := c6) (xs := [.int 0, .int 1]) (fun j H7 => Same H6 H7 ∧ ∃ (zs : List Addr) (sss : List (List (List Int))), H7 D = some (.lst (zs.map V.ref)) ∧ zs.length = j ∧ Paired (StsAt H7) zs sss ∧ (∀ (n : Nat) ss, sss[n]? = some ss → Fst rs l o t i m (runP l t rs').1 (n : Int) ss) ∧ ∀ z ∈ zs, z ≠ D) ⟨(Ext.new (S := []) hD).same, [], [], upd_same, rfl, .nil, fun n ss h => (by simp at h), fun z hz => (by cases hz)⟩ (fun j H7 _ h => SqT.of (h.1 _ _ e6)) ?_ ?_
    · rintro j y H7 hj ⟨s7, zs, sss, hD7, hzl, p7, hf7, hzD⟩
      obtain ⟨st, rfl, hst⟩ : ∃ st : Int, y = .int st ∧ st = (j : Int) := by
        match j, hj with
        | 0, h => exact ⟨0, (Option.some.inj h).symm, rfl⟩
        | 1, h => exact ⟨1, (Option.some.inj h).symm, rfl⟩
        | j + 2, h => simp at h
      have hj2 : j < 2 := (List.getElem?_eq_some_iff.mp hj).1
      refine ⟨rfl, ?_⟩
      refine yes ?_
      have st7 : StepsAt H7 sq (stepsOf (lk rs i) l t t.toNat) := by
        have ss := s6.trans s7
        obtain ⟨qs, q1, q2⟩ := hst5
        refine ⟨qs, ss _ _ q1, paired_imp (fun a x hx => ?_) q2⟩
        obtain ⟨us, u1, u2⟩ := hx
        exact ⟨us, ss _ _ u1, paired_imp (fun a x hx => ss _ _ hx) u2⟩
      refine ⟨_, rfl, _, rfl, _, rfl, sq, _, m, st, rfl, st7, sm4_stepsOf _ _ _ _, by omega, hm1, by omega, fun H8 q8 s8 hq8 => ?_⟩
      refine ⟨_, rfl, q8, _, most, 1, rfl, hq8, sm4_through (sm4_stepsOf _ _ _ _) _ _, by rw [through_len hm1 (by omega)]; omega, by decide, by decide, fun H9 q9 rr s9 hn9 hR hst9 => ?_⟩
      have s79 := s8.trans s9
      have hD9 := s79 _ _ hD7
      have n9 : q9 ≠ D := fun z => by rw [z, s8 _ _ hD7] at hn9; cases hn9
      have hsl : sss.length = j := by rw [← Paired.length p7]; exact hzl
      refine ⟨_, hD9, (by rw [List.length_map]; exact small1000 (by omega)), fun c oc hc => ?_, zs ++ [q9], sss ++ [firstS most 1 (through (stepsOf (lk rs i) l t t.toNat) m st) rr], ?_, ?_, ?_, ?_, ?_⟩
      · have nc : c ≠ D := fun z => by rw [z, hD] at hc; cases hc
        rw [upd_ne nc]; exact s79 _ _ (s7 _ _ hc)
      · rw [upd_same, List.map_append]; rfl
      · rw [List.length_append, hzl]; rfl
      · refine paired_snoc ?_ (hst9.put n9 hD9)
        exact pm_impS (fun z ss h hz => (h.same s79).put (hzD z hz) hD9) p7
      · intro n ss h
        by_cases hn : n < sss.length
        · rw [List.getElem?_append_left hn] at h
          exact hf7 n ss h
        · have hn' : n = sss.length := by
            have := (List.getElem?_eq_some_iff.mp h).1
            rw [List.length_append] at this
            simp at this
            omega
          rw [hn'] at h
          simp at h
          rw [← h, hn', hsl, ← hst]
          exact hFst st rr hR
      · intro z hz
        rcases List.mem_append.mp hz with hz | hz
        · exact hzD z hz
        · rw [List.mem_singleton.mp hz]; exact n9
    · rintro H7 ⟨s7, zs, sss, hD7, hzl, p7, hf7, _⟩
      have s07 := s05.trans (s6.trans s7)
      match zs, sss, p7, hzl with
      | [z0, z1], [ss0, ss1], .cons r0 (.cons r1 .nil), _ =>
        obtain ⟨xs0, hx0, hv0⟩ := r0.first
        obtain ⟨xs1, hx1, hv1⟩ := r1.first
        refine ⟨_, rfl, D, _, [xs0.headD .non, xs1.headD .non], rfl, hD7, .cons ⟨z0, xs0, rfl, hx0, rfl⟩ (.cons ⟨z1, xs1, rfl, hx1, rfl⟩ .nil), hG.same s07, fun q H8 hq hB hG8 hq8 => ?_⟩
        have g7 := hG.same s07
        exact kk H8 rs' q _ _ ss0 ss1 ((But.of s07).trans hB) hG8 hSr (hf7 0 ss0 rfl) (hf7 1 ss1 rfl) (s07.free hq) hq8 (hv0.same hB g7) (hv1.same hB g7)
theorem sc_inside : FnScope ["house", "badge", "moment", "outside_story", "inside_story"] ["house", "badge", "moment"] (defScope s_inside) := ⟨rfl, rfl, rfl, by decide +kernel, rfl, by decide +kernel, by decide +kernel⟩
theorem ok_inside {PT : Addr} (F : Top1 K "inside" "inside" s_inside f ["house", "badge", "moment"]) (G : Fn P w K mg base k "stories_through" ["house", "badge", "moment"] (sp_stories_through C PT)) :
    ∃ fd, FnOk P w K mg base (CXe P w) (k + 1) f fd ["house", "badge", "moment"] (sp_inside C PT) ∧ Binds K fd ["house", "badge", "moment"] [] := by
  refine F.okN sc_inside (fun vs H Q E h => ?_) (fun cdv A outer s H vs Q E hr h => ?_)
  · obtain ⟨_, _, _, _, _, _, _, _, _, ⟨rfl, _⟩, _⟩ := h
    rfl
  · obtain ⟨p, d, b, l, o, t, rs, i, m, ⟨rfl, hA⟩, kk⟩ := h
    have nd := sc_inside.nd
    refine ⟨_, (pss_cons (ps_asg (pcall G hr (by rfl) passN (pa_cons (pv 0) (pa_cons (pv 1) (pa_cons (pv 2) pa_nil)))) (pg_tup rfl (pgs_cons (pg_name (i := 3) nd rfl (Or.inl rfl)) (pgs_cons (pg_name (i := 4) nd rfl (Or.inl rfl)) pgs_nil))))
      (pss_cons (ps_if (pt_cmp (pc_isN (pv 3))) (pss_one (ps_ret pe_int)) pss_nil)
      (pss_cons (ps_if (pt_cmp (pc_isN (pv 4))) (pss_one (ps_ret pe_int)) pss_nil)
      (pss_one (ps_ret pe_non))))), ?_⟩
    refine ⟨_, rfl, _, rfl, _, rfl, p, d, b, l, o, t, rs, i, m, ⟨rfl, hA⟩, fun H1 rs' q v0 v1 ss0 ss1 hB hG hS f0 f1 _ hq hv0 hv1 => ?_⟩
    refine ⟨q, _, rfl, SqT.of hq, rfl, _, _, rfl, _, _, rfl, rfl, ?_⟩
    have kk := kk H1 rs' ss0 ss1 hB hG hS f0 f1
    refine ⟨_, rfl, _, rfl, ?_⟩
    cases ss0 with
    | nil =>
      cases hv0
      exact iteT kk
    | cons s0 r0 =>
      obtain ⟨a0, rfl, _⟩ := hv0
      refine iteF ?_
      refine ⟨_, rfl, _, rfl, ?_⟩
      cases ss1 with
      | nil =>
        cases hv1
        exact iteT kk
      | cons s1 r1 =>
        obtain ⟨a1, rfl, _⟩ := hv1
        exact iteF kk
theorem sc_two : FnScope ["house", "badge", "moment", "both"] ["house", "badge", "moment"] (defScope s_two) := ⟨rfl, rfl, rfl, by decide +kernel, rfl, by decide +kernel, by decide +kernel⟩
theorem ok_two {PT : Addr} (F : Top1 K "two" "two" s_two f ["house", "badge", "moment"]) (G : Fn P w K mg base k "stories_through" ["house", "badge", "moment"] (sp_stories_through C PT)) :
    ∃ fd, FnOk P w K mg base (CXe P w) (k + 1) f fd ["house", "badge", "moment"] (sp_two C PT) ∧ Binds K fd ["house", "badge", "moment"] [] := by
  refine F.okN sc_two (fun vs H Q E h => ?_) (fun cdv A outer s H vs Q E hr h => ?_)
  · obtain ⟨_, _, _, _, _, _, _, _, _, ⟨rfl, _⟩, _⟩ := h
    rfl
  · obtain ⟨p, d, b, l, o, t, rs, i, m, ⟨rfl, hA⟩, kk⟩ := h
    have hu : (A.deeper (PyProof.Rows.envOfC "two" (defScope s_two) s.heap.objs.size f cdv)).units + 64 < cLine := by have := hr.un; omega
    have nd := sc_two.nd
    refine ⟨_, (pss_cons (ps_set (i := 3) nd rfl (Or.inl rfl) (pcall G hr (by rfl) passN (pa_cons (pv 0) (pa_cons (pv 1) (pa_cons (pv 2) pa_nil)))))
      (pss_cons (ps_if (pt_cmpR (op_in_none hu) pe_non (pv 3) (by with_unfolding_all rfl)) (pss_one (ps_ret pe_non)) pss_nil)
      (pss_one (ps_ret (pv 3))))), ?_⟩
    refine ⟨_, rfl, _, rfl, _, rfl, p, d, b, l, o, t, rs, i, m, ⟨rfl, hA⟩, fun H1 rs' q v0 v1 ss0 ss1 hB hG hS f0 f1 hqn hq hv0 hv1 => ?_⟩
    obtain ⟨k1, k2⟩ := kk H1 rs' ss0 ss1 hB hG hS f0 f1
    have nt : ∀ {v : V} {ss : List (List Int)}, StoryV H1 v ss → NT H1 v := fun {v ss} h => by
      cases ss with
      | nil => exact .inl h
      | cons s r =>
        obtain ⟨a, e, ha⟩ := h
        exact .inr ⟨a, _, e, ha⟩
    refine ⟨_, rfl, q, _, rfl, rfl, hq, fun z hz => ?_, _, rfl, ?_⟩
    · rcases List.mem_cons.mp hz with rfl | hz
      · exact nt hv0
      · rw [List.mem_singleton.mp hz]; exact nt hv1
    · cases ss0 with
      | nil =>
        cases hv0
        rw [decide_eq_true (List.mem_cons_self ..)]
        exact iteT (k1 (.inl rfl))
      | cons s0 r0 =>
        obtain ⟨a0, rfl, h0⟩ := hv0
        cases ss1 with
        | nil =>
          cases hv1
          rw [decide_eq_true (List.mem_cons_of_mem _ (List.mem_cons_self ..))]
          exact iteT (k1 (.inr rfl))
        | cons s1 r1 =>
          obtain ⟨a1, rfl, h1⟩ := hv1
          rw [decide_eq_false (by simp)]
          refine iteF ⟨_, rfl, k2 q a0 a1 s0 s1 r0 r1 rfl rfl hqn hq h0 h1⟩
end
end Ho
set_option Elab.async false
set_option linter.all false
set_option maxRecDepth 100000
set_option maxHeartbeats 4000000
namespace Ho
open PySem L2
def sp_l_is_story : Sp := fun vs H Q _ => ∃ (m q : Addr) (ds : List Addr) (l o t : Int) (rs : List RowT) (i : Nat) (sq : Addr) (st : List Bool) (mo : Nat) (wx : Int) (b : Bool) (c : Nat), vs = [.ref m, .int i, .ref sq, .int (mo : Int), .int wx] ∧ LawM H m q ds l o t rs ∧ i < ds.length ∧ rs.length ≤ 900 ∧ (∀ r ∈ rs, r.1.2 ≤ t ∧ (r.2 = "in" ∨ r.2 = "out")) ∧
  H sq = some (.tup (stV st)) ∧ st.length = t.toNat ∧ 1 ≤ mo ∧ (mo : Int) ≤ t ∧ (∃ b', st[mo - 1]? = some b' ∧ nI b' = wx) ∧ pF (lk rs i) l t st = some (b, c) ∧ (∀ rs', Srt rs' rs → (c : Int) + ((others (i : Int) (runP l t rs').1).length : Int) ≤ o) ∧ ∀ H', Same H H' → Q (.bl true) H'
section
variable {P : Program} {w : World} {K : PySem.W.Frag} {mg : Str → Option Value} {base : Heap} {k : Nat} {f C aW cBH cBR cBT : Addr}
def NIs : List Str := ["_law_m", "_law_badge", "_law_story", "_law_moment", "_law_state", "_law_one", "_law_price_here", "_law_others", "_law_want"]
theorem sc_l_is_story : FnScope NIs ["_law_m", "_law_badge", "_law_story", "_law_moment", "_law_state"] (defScope s_l_is_story) := ⟨rfl, rfl, rfl, by decide +kernel, rfl, by decide +kernel, by decide +kernel⟩
theorem ok_l_is_story (F : Top1 K "_law_is_story" "_law_is_story" s_l_is_story f ["_law_m", "_law_badge", "_law_story", "_law_moment", "_law_state"]) (T : Bl mg) (G_alike : Fn P w K mg base k "_law_alike" ["_law_found", "_law_due"] (sp_alike 0))
    (G_price : Fn P w K mg base k "_law_price" ["_law_m", "_law_badge", "_law_story"] sp_price) (G_lwants : Fn P w K mg base k "_law_wants" ["_law_m"] sp_lwants) :
    ∃ fd, FnOk P w K mg base (CXe P w) (k + 1) f fd ["_law_m", "_law_badge", "_law_story", "_law_moment", "_law_state"] sp_l_is_story ∧ Binds K fd ["_law_m", "_law_badge", "_law_story", "_law_moment", "_law_state"] [] := by
  refine F.okN sc_l_is_story (fun vs H Q E h => ?_) (fun cdv A outer s H vs Q E hr h => ?_)
  · obtain ⟨_, _, _, _, _, _, _, _, _, _, _, _, _, _, rfl, _⟩ := h
    rfl
  · obtain ⟨m, q, ds, l, o, t, rs, i, sq, st, mo, wx, b, c, rfl, M, hi, hsz, hrs, hsq, hlen, hmo1, hmo2, ⟨b', hb1, hb2⟩, hp, hle, kk⟩ := h
    have hu := hu_of hr
    have nd := sc_l_is_story.nd
    have tb := M.tb
    refine ⟨_, (pss_cons (ps_if (PW.pt (pw_or (pt_not (pt_val (pe_callB call_isi (by rfl) T.b_isinstance (by decide +kernel) (pa_cons (pv 2) (pa_cons (pe_bltn (by rfl) T.b_tuple (by decide +kernel) (v := .ty "tuple") rfl) pa_nil))))) (pw_or (pt_cmpR op_ne (pe_callB call_len_seq (by rfl) T.b_len PySem.boot_len (pa_cons (pv 2) pa_nil)) (pe_dget hu (pv 0) pe_str (fun _ _ => rfl)) (nomark _)) (pw_or1 (pt_cmpR op_ne (pe_ix ix_tup (pv 2) (pe_op op_sub (pv 3) pe_int) (fun _ _ => rfl)) (pv 4) (nomark _)))))) (pss_one (ps_ret pe_bl)) pss_nil)
      (pss_cons (ps_if (pt_cmpR (op_neD hr.units) (pe_lc (own := [("_law_one", 5)]) (g := gName 5) (tt := tOr (tNot (tB (tCall (sp_alike 0) [] E0 (tCons (tVar 5) (tCons (tCB (fun xs H Q => (∃ i, xs = [.int i] ∧ Q (.int i) H) ∨ ∃ k, xs = [.bl k] ∧ Q (.int (if k then 1 else 0)) H) (tCons (tVar 5) tNil)) tNil))))) (tTest (tOp (rIn K true) (tVar 5) (tTup (tCons (tC (.int 0)) (tCons (tC (.int 1)) tNil)))))) (te := tVar 5) rfl nd (pi_tup (pv 2)) (blkOk_by (own := [("_law_one", 5)]) (N := NIs) (sc := defScope s_l_is_story) (by decide +kernel)) (fun _ _ _ _ _ => by exact (pg_name (i := 5) nd rfl (Or.inl rfl))) (fun _ _ _ _ _ => by exact (pts_one (PW.pt (pw_or (pt_not (pt_val (pcall G_alike hr (by rfl) passN (pa_cons (pv 5) (pa_cons (pe_callTy call_int1 (by rfl) T.b_int (by decide +kernel) (pa_cons (pv 5) pa_nil)) pa_nil))))) (pw_or1 (pt_cmpR op_notIn_seq (pv 5) (pe_tup (pa_cons pe_int (pa_cons pe_int pa_nil))) (by rfl))))))) (fun _ _ _ _ _ => by exact (pv 5))) (pe_lst (pa_nil)) (nomark _)) (pss_one (ps_ret pe_bl)) pss_nil)
      (pss_cons (ps_set (i := 6) nd rfl (Or.inl rfl) (pcall G_price hr (by rfl) passN (pa_cons (pv 0) (pa_cons (pv 1) (pa_cons (pv 2) pa_nil)))))
      (pss_cons (ps_setLc (i := 7) (own := [("_law_want", 8)]) (g := gName 8) (tt := tTest (tOp rNe (tOp (rIxT K) (tVar 8) (tC (.int 0))) (tVar 1))) (te := tVar 8) rfl nd rfl rfl (sw_true rfl rfl rfl (by decide +kernel)) (pi_list (pcall G_lwants hr (by rfl) passN (pa_cons (pv 0) pa_nil))) (blkOk_by (own := [("_law_want", 8)]) (N := NIs) (sc := defScope s_l_is_story) (by decide +kernel)) (fun _ _ _ _ _ => by exact (pg_name (i := 8) nd rfl (Or.inl rfl))) (fun _ _ _ _ _ => by exact (pts_one (pt_cmpR op_ne (pe_ix ix_tup (pv 8) pe_int (fun _ _ => rfl)) (pv 1) (nomark _)))) (fun _ _ _ _ _ => by exact (pv 8)))
      (pss_one (ps_ret (pe_and (pe_cmp (pc_notN (pv 6)) rfl) (pe_one (pe_cmpR op_le (pe_op op_add (pv 6) (pe_callB call_len_seq (by rfl) T.b_len PySem.boot_len (pa_cons (pv 7) pa_nil))) (pe_dget hu (pv 0) pe_str (fun _ _ => rfl)) (nomark _)))))))))), ?_⟩
    generalize hσ : start NIs _ = σ0
    have e0 : σ0 = [some (.ref m), some (.int i), some (.ref sq), some (.int (mo : Int)), some (.int wx), none, none, none, none] := by rw [← hσ]; rfl
    clear hσ; subst e0
    have hstl : (stV st).length = st.length := by unfold stV; rw [List.length_map, List.length_map]
    have hat : atI (stV st) ((mo : Int) - 1) = some (.int wx) := by
      have e : (mo : Int) - 1 = ((mo - 1 : Nat) : Int) := by omega
      rw [e]
      refine atI_nat ?_
      unfold stV
      rw [List.getElem?_map, List.getElem?_map, hb1, ← hb2]; rfl
    refine ⟨_, rfl, _, _, _, _, rfl, .inl (.tup hsq), kt_rel kt_tt, _, rfl, ?_⟩
    refine iteF ⟨_, rfl, sq, _, rfl, .inr (SqT.of hsq), _, rfl, m, _, rfl, g_time M.ob, rfl, _, rfl, ?_⟩
    have ht : ((stV st).length : Int) = t := by rw [hstl, hlen]; omega
    rw [ht, decide_eq_true rfl]
    refine iteF ⟨_, rfl, _, rfl, _, _, rfl, rfl, sq, _, _, _, rfl, rfl, SqT.of hsq, hat, _, rfl, rfl, _, rfl, ?_⟩
    rw [decide_eq_true rfl]
    refine iteF ?_
    -- nothing odd in the story
    refine ⟨_, rfl, sq, rfl, ⟨_, SqT.of hsq⟩, fun D hD => ?_⟩
    refine lc_tup (K := K) (a := sq) (xs := stV st) (fun j H2 => Same H H2 ∧ H2 D = some (.lst [])) ⟨(Ext.new (S := []) hD).same, upd_same⟩ (fun j H2 _ h => SqT.of (h.1 _ _ hsq)) ?_ ?_
    · rintro j y H2 hj ⟨s2, hD2⟩
      obtain ⟨bb, rfl⟩ : ∃ bb : Bool, y = .int (nI bb) := by
        unfold stV at hj
        rw [List.getElem?_map, List.getElem?_map] at hj
        cases e : st[j]? with
        | none => rw [e] at hj; cases hj
        | some bb => rw [e] at hj; exact ⟨bb, (Option.some.inj hj).symm⟩
      refine ⟨rfl, ?_⟩
      refine ⟨_, rfl, _, rfl, .inl ⟨nI bb, rfl, .int (nI bb), .int (nI bb), rfl, ⟨rfl, .inr (.inr (.inl ⟨_, rfl⟩))⟩, fun H3 s3 => ⟨_, rfl, ?_⟩⟩⟩
      refine iteF ?_
      refine ⟨_, rfl, (by show 2 ≤ sizeLine; decide), fun c4 hc4 => ?_⟩
      generalize hH4 : upd H3 c4 _ = H4
      have s4 : Same H3 H4 := by rw [← hH4]; exact (Ext.new (S := []) hc4).same
      have e4 : H4 c4 = some (.tup [.int 0, .int 1]) := by rw [← hH4]; exact upd_same
      clear hH4
      refine ⟨c4, _, rfl, .inr (SqT.of e4), rfl, rfl, _, rfl, ?_⟩
      have hin : (if true = true then !inV (V.int (nI bb)) [.int 0, .int 1] else inV (V.int (nI bb)) [.int 0, .int 1]) = false := by cases bb <;> decide
      rw [hin]
      exact iteF ⟨s2.trans (s3.trans s4), s4 _ _ (s3 _ _ hD2)⟩
    · rintro H2 ⟨s2, hD2⟩
      refine ⟨Nat.zero_le _, fun c3 hc3 => ?_⟩
      generalize hH3 : upd H2 c3 _ = H3
      have s3 : Same H2 H3 := by rw [← hH3]; exact (Ext.new (S := []) hc3).same
      have e3 : H3 c3 = some (.lst []) := by rw [← hH3]; exact upd_same
      clear hH3
      refine ⟨.list [], .list [], .lst (SqL.of (s3 _ _ hD2)) .nil, .lst (SqL.of e3) .nil, by decide, by decide, _, rfl, ?_⟩
      have hev : (!PyData.eqv (.list []) (.list [])) = false := by decide
      rw [hev]
      refine iteF ?_
      have s03 := s2.trans s3
      refine ⟨_, rfl, _, rfl, _, rfl, m, q, ds, l, o, t, rs, i, sq, st, rfl, M.same s03, hi, hrs, s03 _ _ hsq, by omega, fun H4 s4 => ?_⟩
      rw [hp]
      have s04 := s03.trans s4
      refine ⟨_, rfl, m, q, ds, l, o, t, rs, rfl, M.same s04, hsz, hrs, fun H5 wq rs' s5 _ hS hW => ?_⟩
      have s05 := s04.trans s5
      have hrl : (runP l t rs').1.length ≤ 900 := Nat.le_trans (run_len rs') (Nat.le_trans (len_le hS.1 fun r hr => (hS.2 r).mp hr) hsz)
      obtain ⟨wqs, hwq, pwq⟩ := hW
      have hwl : wqs.length = (runP l t rs').1.length := Paired.length pwq
      refine ⟨wq, rfl, ⟨_, SqL.of hwq⟩, fun D2 hD2' => ?_⟩
      refine lc_list (K := K) (a := wq) (xs := wqs.map V.ref) (fun j H6 => Same H5 H6 ∧ ∃ zs : List Addr, H6 D2 = some (.lst (zs.map V.ref)) ∧ zs.length = (others (i : Int) ((runP l t rs').1.take j)).length ∧ zs.length ≤ j) ⟨(Ext.new (S := []) hD2').same, [], upd_same, rfl, Nat.le_refl _⟩ (fun j H6 _ h => SqL.of (h.1 _ _ hwq)) ?_ ?_
      · rintro j y H6 hj ⟨s6, zs, hD6, hz1, hz2⟩
        rw [List.getElem?_map] at hj
        cases eq : wqs[j]? with
        | none => rw [eq] at hj; cases hj
        | some wa =>
          rw [eq] at hj
          cases hj
          have hlt : j < wqs.length := (List.getElem?_eq_some_iff.mp eq).1
          obtain ⟨wn, hwn, hwa⟩ := paired_at pwq eq
          refine ⟨rfl, ?_⟩
          refine ⟨_, rfl, wa, _, _, _, rfl, rfl, SqT.of (s6 _ _ hwa), rfl, _, rfl, rfl, _, rfl, ?_⟩
          have et : others (i : Int) ((runP l t rs').1.take (j + 1)) = others (i : Int) ((runP l t rs').1.take j) ++ (if wn.1.1 = (i : Int) then [] else [wn]) := by
            unfold others
            rw [List.take_succ, hwn, List.filter_append]
            congr 1
            by_cases h : wn.1.1 = (i : Int) <;> simp [h]
          rw [et, List.length_append]
          by_cases h : wn.1.1 = (i : Int)
          · rw [decide_eq_true (show V.int wn.1.1 = V.int (i : Int) by rw [h]), if_pos h]
            exact iteF ⟨s6, zs, hD6, by simpa using hz1, by omega⟩
          · rw [decide_eq_false (show ¬ V.int wn.1.1 = V.int (i : Int) from fun z => h (V.int.inj z)), if_neg h]
            refine iteT ⟨_, rfl, _, hD6, (by rw [List.length_map]; exact small1000 (by omega)), fun c oc hc => ?_, zs ++ [wa], ?_, ?_, ?_⟩
            · have nc : c ≠ D2 := fun z => by rw [z, hD2'] at hc; cases hc
              rw [upd_ne nc]; exact s6 _ _ hc
            · rw [upd_same, List.map_append]; rfl
            · rw [List.length_append, hz1]; rfl
            · rw [List.length_append]; simp only [List.length_cons, List.length_nil]; omega
      · rintro H6 ⟨s6, zs, hD6, hz1, hz2⟩
        rw [List.length_map, hwl, List.take_of_length_le (Nat.le_refl _)] at hz1
        have s06 := s05.trans s6
        refine ⟨_, rfl, _, rfl, ?_⟩
        refine iteT ⟨_, rfl, _, rfl, D2, _, rfl, .inl (SqL.of hD6), _, _, rfl, rfl, _, rfl, m, _, rfl, g_lost (M.same s06).ob, _, _, rfl, rfl, ?_⟩
        rw [List.length_map, hz1]
        have hd := decide_eq_true (hle rs' hS)
        show Q (V.bl (decide ((c : Int) + ((others (i : Int) (runP l t rs').1).length : Int) ≤ o))) H6
        rw [hd]
        exact kk H6 s06
end
end Ho
set_option Elab.async false
set_option linter.all false
set_option maxRecDepth 100000
set_option maxHeartbeats 4000000
namespace Ho
open PySem L2
/-! ### the law's own least prices, moment by moment -/
def lVal (w : Option Str) (pr : Int) (g : Int → Bool) (s here other : Int) : Int :=
  match w with
  | none => if g s = true then min (other + pr) here else 99
  | some wd => if stW s = wd ∧ g s = true then other else 99
def lStep (w : Option Str) (pr : Int) (g : Int → Bool) (P : Int × Int) : Int × Int := (lVal w pr g 0 P.1 P.2, lVal w pr g 1 P.2 P.1)
def gAt (mo at' wd : Int) : Int → Bool := fun s => !decide (mo = at') || decide (s = wd)
def lF (f : Int → Option Str) (l t at' wd : Int) : Nat → Int × Int
  | 0 => (0, 99)
  | j + 1 => lStep (f ((j : Int) + 1)) (prL l t ((j : Int) + 1)) (gAt ((j : Int) + 1) at' wd) (lF f l t at' wd j)
def lLeast (f : Int → Option Str) (l t at' wd : Int) (n : Nat) : Int := min (min (lF f l t at' wd n).1 (lF f l t at' wd n).2) 99
end Ho
set_option Elab.async false
set_option linter.all false
set_option maxRecDepth 100000
set_option maxHeartbeats 4000000
namespace Ho
open PySem L2
def sp_l_least : Sp := fun vs H Q _ => ∃ (m q : Addr) (ds : List Addr) (l o t : Int) (rs : List RowT) (i : Nat) (at' wd : Int), vs = [.ref m, .int i, .int at', .int wd] ∧ LawM H m q ds l o t rs ∧ i < ds.length ∧ ∀ H', Same H H' → Q (.int (lLeast (lk rs i) l t at' wd t.toNat)) H'
section
variable {P : Program} {w : World} {K : PySem.W.Frag} {mg : Str → Option Value} {base : Heap} {k : Nat} {f C aW cBH cBR cBT : Addr}
theorem sc_l_least : FnScope ["_law_m", "_law_badge", "_law_at", "_law_wanted", "_law_prices", "_law_moment", "_law_word", "_law_lost", "_law_found", "_law_state", "_law_some", "_law_good"] ["_law_m", "_law_badge", "_law_at", "_law_wanted"] (defScope s_l_least) := ⟨rfl, rfl, rfl, by decide +kernel, rfl, by decide +kernel, by decide +kernel⟩
theorem ok_l_least (F : Top1 K "_law_least" "_law_least" s_l_least f ["_law_m", "_law_badge", "_law_at", "_law_wanted"]) (T : Bl mg) :
    ∃ fd, FnOk P w K mg base (CXe P w) (k + 1) f fd ["_law_m", "_law_badge", "_law_at", "_law_wanted"] sp_l_least ∧ Binds K fd ["_law_m", "_law_badge", "_law_at", "_law_wanted"] [] := by
  refine F.okN sc_l_least (fun vs H Q E h => ?_) (fun cdv A outer s H vs Q E hr h => ?_)
  · obtain ⟨_, _, _, _, _, _, _, _, _, _, rfl, _⟩ := h
    rfl
  · obtain ⟨m, q, ds, l, o, t, rs, i, ax, wx, rfl, M, hi, kk⟩ := h
    have hu := hu_of hr
    have nd := sc_l_least.nd
    refine ⟨_, (pss_cons (ps_set (i := 4) nd rfl (Or.inl rfl) (pe_lst (pa_cons pe_int (pa_cons pe_int pa_nil))))
      (pss_cons (ps_for PassesOwn.never rfl (pi_range2 rfl T.b_range (pa_cons pe_int (pa_cons (pe_op op_add (pe_dget hu (pv 0) pe_str (fun _ _ => rfl)) pe_int) pa_nil))) (pg_name (i := 5) nd rfl (Or.inl rfl))
        (pss_cons (ps_set (i := 6) nd rfl (Or.inl rfl) (pe_dget1 hu (pe_ix ix_list (pe_dget hu (pv 0) pe_str (fun _ _ => rfl)) (pv 1) (fun _ _ => rfl)) (pv 5) ⟨rfl, rfl, rfl, rfl⟩))
        (pss_cons (ps_set (i := 7) nd rfl (Or.inl rfl) (pe_callTy call_int1 (by rfl) T.b_int (by decide +kernel) (pa_cons (pe_and (pe_cmp (pc_isN (pv 6))) (pe_one (pe_cmpR op_lt (pe_op op_add (pv 5) (pe_dget hu (pv 0) pe_str (fun _ _ => rfl))) (pe_dget hu (pv 0) pe_str (fun _ _ => rfl)) (nomark _)))) pa_nil)))
        (pss_cons (ps_set (i := 8) nd rfl (Or.inl rfl) (pe_lst pa_nil))
        (pss_cons (ps_for PassesOwn.never rfl (pi_range1 rfl T.b_range (pa_cons pe_int pa_nil)) (pg_name (i := 9) nd rfl (Or.inl rfl))
          (pss_cons (ps_set (i := 10) nd rfl (Or.inl rfl) (pe_op op_cat (pe_lst (pa_cons (pe_op op_add (pe_ix ix_list (pv 4) (pe_op op_sub pe_int (pv 9)) (fun _ _ => rfl)) (pv 7)) pa_nil)) (pe_op op_rep (pe_lst (pa_cons (pe_ix ix_list (pv 4) (pv 9) (fun _ _ => rfl)) pa_nil)) (pe_callTy call_int1 (by rfl) T.b_int (by decide +kernel) (pa_cons (pe_cmp (pc_isN (pv 6))) pa_nil)))))
          (pss_cons (ps_set (i := 11) nd rfl (Or.inl rfl) (pe_or (pe_cmp (pc_isN (pv 6))) (pe_one (pe_cmpR op_eq (pe_ix ix_list (pe_lst (pa_cons pe_str (pa_cons pe_str pa_nil))) (pv 9) (fun _ _ => rfl)) (pv 6) (nomark _)))))
          (pss_one (ps_expr (pe_bm PySem.F.plainAttrs_list PySem.F.slot_list_append PySem.F.type_list_append mt_append (pv 8) (pa_cons (pe_ifExp (PW.pt (pw_and (pt_val (pv 11)) (pw_and1 (PW.pt (pw_or (pt_cmpR op_ne (pv 5) (pv 2) (nomark _)) (pw_or1 (pt_cmpR op_eq (pv 9) (pv 3) (nomark _)))))))) (pe_callB (cr_min rfl) (by rfl) T.b_min (by decide +kernel) (pa_cons (pv 10) pa_nil)) pe_int) pa_nil)))))))
        (pss_one (ps_set (i := 4) nd rfl (Or.inl rfl) (pv 8))))))))
      (pss_one (ps_ret (pe_callB (cr_min rfl) (by rfl) T.b_min (by decide +kernel) (pa_cons (pe_op op_cat (pv 4) (pe_lst (pa_cons pe_int pa_nil))) pa_nil)))))), ?_⟩
    have tb := M.tb
    have lb := M.lb
    obtain ⟨a, ha⟩ : ∃ a, ds[i]? = some a := ⟨_, List.getElem?_eq_getElem hi⟩
    have hat : atI (ds.map V.ref) (i : Int) = some (.ref a) := atI_nat (by rw [List.getElem?_map, ha]; rfl)
    have two : (2 : Nat) ≤ sizeLine := by decide
    have one : (1 : Nat) ≤ sizeLine := by decide
    refine ⟨two, fun p0 hp0 => ?_⟩
    generalize hH1 : upd H p0 _ = H1
    have s1 : Same H H1 := by rw [← hH1]; exact (Ext.new (S := []) hp0).same
    have e1 : H1 p0 = some (.lst [.int 0, .int 99]) := by rw [← hH1]; exact upd_same
    clear hH1
    have M1 := M.same s1
    refine ⟨_, rfl, m, _, rfl, g_time M1.ob, _, _, rfl, rfl, _, _, rfl, ⟨by decide, by decide, (by show _ ≤ t + 1; omega), (by show t + 1 < _; omega)⟩, ?_⟩
    refine for_range (lo := 1) (n := (t + 1 - 1).toNat) (fun j σ H3 => ∃ pq v5 v6 v7 v8 v9 v10 v11, σ = [some (.ref m), some (.int i), some (.int ax), some (.int wx), some (.ref pq), v5, v6, v7, v8, v9, v10, v11] ∧ Same H H3 ∧ H3 pq = some (.lst [.int (lF (lk rs i) l t ax wx j).1, .int (lF (lk rs i) l t ax wx j).2])) ?_ ?_ ?_
    · exact ⟨p0, none, none, none, none, none, none, none, rfl, s1, e1⟩
    · rintro j σ H3 hj ⟨pq, v5, v6, v7, v8, v9, v10, v11, rfl, s3, hpq⟩
      have M3 := M.same s3
      have e1j : (1 : Int) + (j : Int) = (j : Int) + 1 := by omega
      have dg : DGet H3 a (.int (1 + (j : Int))) ((lk rs i ((j : Int) + 1)).map V.str) := by
        have := DGet.k (k := Sum.inl (1 + (j : Int))) (M3.dc i a ha)
        rw [lk_kd M.kd, e1j] at this
        rw [e1j]
        exact this
      refine ⟨_, rfl, m, _, rfl, g_known M3.ob, _, rfl, q, _, _, _, rfl, rfl, SqL.of M3.kn, hat, a, rfl, .inl ⟨_, .inl (M3.dc i a ha)⟩, _, rfl, _, dg, ?_⟩
      have els : lF (lk rs i) l t ax wx (j + 1) = lStep (lk rs i ((j : Int) + 1)) (prL l t ((j : Int) + 1)) (gAt ((j : Int) + 1) ax wx) (lF (lk rs i) l t ax wx j) := rfl
      generalize lF (lk rs i) l t ax wx j = PP at hpq els
      have hpr : (if decide (1 + (j : Int) + l < t) = true then (1 : Int) else 0) = prL l t ((j : Int) + 1) := by
        unfold prL
        rw [e1j]
        by_cases h : (j : Int) + 1 + l < t <;> simp [h]
      cases ew : lk rs i ((j : Int) + 1) with
      | none =>
        refine ⟨_, rfl, _, rfl, iteT ?_⟩
        refine ⟨_, rfl, _, rfl, m, _, rfl, g_late M3.ob, _, _, rfl, rfl, _, rfl, m, _, rfl, g_time M3.ob, _, _, rfl, rfl, .inr ⟨_, rfl, ?_⟩⟩
        rw [hpr]
        rw [ew] at els
        rw [show ((none : Option Str).map V.str).getD V.non = V.non from rfl]
        refine ⟨Nat.zero_le _, fun fq hfq => ?_⟩
        generalize hH4 : upd H3 fq _ = H4
        have s4 : Same H3 H4 := by rw [← hH4]; exact (Ext.new (S := []) hfq).same
        have e4 : H4 fq = some (.lst []) := by rw [← hH4]; exact upd_same
        clear hH4
        have nq : pq ≠ fq := fun z => by rw [← z, hpq] at hfq; cases hfq
        have hfH : H fq = none := s3.free hfq
        refine ⟨_, rfl, (by decide), (by decide), ?_⟩
        refine for_range (n := 2) (fun jj σ H5 => ∃ v9 v10 v11, σ = [some (.ref m), some (.int i), some (.int ax), some (.int wx), some (.ref pq), some (.int (1 + (j : Int))), some (.non), some (.int (prL l t ((j : Int) + 1))), some (.ref fq), v9, v10, v11] ∧ Ext [fq] H4 H5 ∧ H5 fq = some (.lst ((([(lStep (none) (prL l t ((j : Int) + 1)) (gAt ((j : Int) + 1) ax wx) PP).1, (lStep (none) (prL l t ((j : Int) + 1)) (gAt ((j : Int) + 1) ax wx) PP).2] : List Int).take jj).map V.int))) ?_ ?_ ?_
        · exact ⟨v9, v10, v11, rfl, Ext.refl _ _, e4⟩
        · rintro jj σ H5 hjj ⟨v9, v10, v11, rfl, x5, hf5⟩
          rw [Int.zero_add]
          have hpq5 := x5 _ _ (s4 _ _ hpq) (by simpa using nq)
          have hj01 : jj = 0 ∨ jj = 1 := by omega
          obtain ⟨hv, ov, hatH, hatO, ehv⟩ : ∃ hv ov, atI [V.int PP.1, .int PP.2] (jj : Int) = some (.int hv) ∧ atI [V.int PP.1, .int PP.2] (1 - (jj : Int)) = some (.int ov) ∧ ([(lStep (none) (prL l t ((j : Int) + 1)) (gAt ((j : Int) + 1) ax wx) PP).1, (lStep (none) (prL l t ((j : Int) + 1)) (gAt ((j : Int) + 1) ax wx) PP).2] : List Int)[jj]? = some (lVal (none) (prL l t ((j : Int) + 1)) (gAt ((j : Int) + 1) ax wx) (jj : Int) hv ov) := by
            rcases hj01 with h | h <;> subst h
            · exact ⟨_, _, rfl, rfl, rfl⟩
            · exact ⟨_, _, rfl, rfl, rfl⟩
          generalize ([(lStep (none) (prL l t ((j : Int) + 1)) (gAt ((j : Int) + 1) ax wx) PP).1, (lStep (none) (prL l t ((j : Int) + 1)) (gAt ((j : Int) + 1) ax wx) PP).2] : List Int) = vals at hf5 ehv ⊢
          have hvl : (vals.take jj).length ≤ 1 := by rw [List.length_take]; omega
          have hst : atI [V.str "out", .str "in"] (jj : Int) = some (.str (stW (jj : Int))) := by
            rcases hj01 with h | h <;> subst h <;> rfl
          have etk : (vals.take (jj + 1)).map V.int = (vals.take jj).map V.int ++ [V.int (lVal (none) (prL l t ((j : Int) + 1)) (gAt ((j : Int) + 1) ax wx) (jj : Int) hv ov)] := by
            rw [List.take_succ, ehv, List.map_append]; rfl
          -- some
          refine ⟨_, rfl, _, rfl, _, _, rfl, rfl, pq, _, _, _, rfl, rfl, SqL.of hpq5, hatO, _, rfl, _, _, rfl, rfl, one, fun p1 hp1 => ?_⟩
          generalize hH6 : upd H5 p1 _ = H6
          have s6 : Same H5 H6 := by rw [← hH6]; exact (Ext.new (S := []) hp1).same
          have e6 : H6 p1 = some (.lst [.int (ov + (prL l t ((j : Int) + 1)))]) := by rw [← hH6]; exact upd_same
          clear hH6
          refine ⟨_, rfl, _, rfl, pq, _, _, _, rfl, rfl, SqL.of (s6 _ _ hpq5), hatH, one, fun p2 hp2 => ?_⟩
          generalize hH7 : upd H6 p2 _ = H7
          have s7 : Same H6 H7 := by rw [← hH7]; exact (Ext.new (S := []) hp2).same
          have e7 : H7 p2 = some (.lst [.int hv]) := by rw [← hH7]; exact upd_same
          clear hH7
          refine ⟨_, rfl, .inr ⟨_, rfl, ?_⟩⟩
          refine ⟨p2, 1, _, rfl, rfl, e7, by decide, by decide, one, fun p3 hp3 => ?_⟩
          generalize hH8 : upd H7 p3 _ = H8
          have s8 : Same H7 H8 := by rw [← hH8]; exact (Ext.new (S := []) hp3).same
          have e8 : H8 p3 = some (.lst [.int hv]) := by rw [← hH8]; exact upd_same
          clear hH8
          refine ⟨p1, p3, _, _, rfl, rfl, s8 _ _ (s7 _ _ e6), e8, two, fun p4 hp4 => ?_⟩
          generalize hH9 : upd H8 p4 _ = H9
          have s9 : Same H8 H9 := by rw [← hH9]; exact (Ext.new (S := []) hp4).same
          have e9 : H9 p4 = some (.lst [.int (ov + prL l t ((j : Int) + 1)), .int hv]) := by rw [← hH9]; exact upd_same
          clear hH9
          have s59 := s6.trans (s7.trans (s8.trans s9))
          have hf9 := s59 _ _ hf5
          -- good
          refine ⟨_, rfl, _, rfl, iteT ?_⟩
          refine ⟨_, rfl, (.inl ⟨rfl, _, SqL.of hf9⟩), ?_⟩
          have fin : ∀ v, v = lVal none (prL l t ((j : Int) + 1)) (gAt ((j : Int) + 1) ax wx) (jj : Int) hv ov → (Ext [fq] H4 (upd H9 fq (.lst ((vals.take jj).map V.int ++ [.int v]))) ∧ (upd H9 fq (.lst ((vals.take jj).map V.int ++ [.int v]))) fq = some (.lst ((vals.take (jj + 1)).map V.int))) := fun v hv' => by
            subst hv'
            refine ⟨fun c oc hc hn => ?_, by rw [upd_same, etk]⟩
            rw [upd_ne (by simpa using hn)]; exact s59 _ _ (x5 _ _ hc hn)
          have sml : ((vals.take jj).map V.int).length < sizeLine := by rw [List.length_map]; exact small1000 (by omega)
          refine ⟨_, rfl, _, rfl, iteT ?_⟩
          refine ⟨_, rfl, _, rfl, rfl, _, rfl, ?_⟩
          by_cases hm : (1 + (j : Int)) = ax
          · rw [decide_eq_true (show V.int (1 + (j : Int)) = V.int ax by rw [hm])]
            refine iteF ⟨_, rfl, _, rfl, rfl, _, rfl, ?_⟩
            by_cases hs : (jj : Int) = wx
            · rw [decide_eq_true (show V.int (jj : Int) = V.int wx by rw [hs])]
              refine iteT ⟨_, rfl, p4, [ov + prL l t ((j : Int) + 1), hv], rfl, SqL.of e9, (by show 0 < 2; decide), fun mm h1 h2 => ?_⟩
              obtain ⟨k1, k2⟩ := fin mm (by
                have : gAt ((j : Int) + 1) ax wx (jj : Int) = true := by unfold gAt; rw [decide_eq_true hs, Bool.or_true]
                show mm = if _ then _ else _
                rw [if_pos this]
                have a1 := h2 _ (List.mem_cons_self ..)
                have a2 := h2 _ (List.mem_cons_of_mem _ (List.mem_cons_self ..))
                simp only [List.mem_cons, List.not_mem_nil, or_false] at h1
                omega)
              exact ⟨fq, _, _, rfl, rfl, hf9, sml, _, _, _, rfl, k1, k2⟩
            · rw [decide_eq_false (show ¬ V.int (jj : Int) = V.int wx from fun z => hs (V.int.inj z))]
              obtain ⟨k1, k2⟩ := fin 99 (by
                have : gAt ((j : Int) + 1) ax wx (jj : Int) = false := by unfold gAt; rw [decide_eq_false hs, decide_eq_true (show (j : Int) + 1 = ax by omega)]; rfl
                show (99 : Int) = if _ then _ else _
                rw [this, if_neg (by decide)])
              exact iteF ⟨fq, _, _, rfl, rfl, hf9, sml, _, _, _, rfl, k1, k2⟩
          · rw [decide_eq_false (show ¬ V.int (1 + (j : Int)) = V.int ax from fun z => hm (V.int.inj z))]
            refine iteT ⟨_, rfl, p4, [ov + prL l t ((j : Int) + 1), hv], rfl, SqL.of e9, (by show 0 < 2; decide), fun mm h1 h2 => ?_⟩
            obtain ⟨k1, k2⟩ := fin mm (by
              have : gAt ((j : Int) + 1) ax wx (jj : Int) = true := by unfold gAt; rw [decide_eq_false (show ¬ (j : Int) + 1 = ax by omega)]; rfl
              show mm = if _ then _ else _
              rw [if_pos this]
              have a1 := h2 _ (List.mem_cons_self ..)
              have a2 := h2 _ (List.mem_cons_of_mem _ (List.mem_cons_self ..))
              simp only [List.mem_cons, List.not_mem_nil, or_false] at h1
              omega)
            exact ⟨fq, _, _, rfl, rfl, hf9, sml, _, _, _, rfl, k1, k2⟩
        · rintro σ H5 ⟨v9, v10, v11, rfl, x5, hf5⟩
          refine ⟨_, rfl, fq, _, _, _, _, _, _, _, rfl, fun c oc hc => x5 _ _ (s4 _ _ (s3 _ _ hc)) (by simpa using ne_of_none hc hfH), ?_⟩
          rw [els]; exact hf5
      | some wd =>
        refine ⟨_, rfl, _, rfl, iteF ?_⟩
        refine .inr ⟨_, rfl, ?_⟩
        rw [show (if false = true then (1 : Int) else 0) = 0 from rfl]
        rw [ew] at els
        rw [show ((some wd).map V.str).getD V.non = V.str wd from rfl]
        refine ⟨Nat.zero_le _, fun fq hfq => ?_⟩
        generalize hH4 : upd H3 fq _ = H4
        have s4 : Same H3 H4 := by rw [← hH4]; exact (Ext.new (S := []) hfq).same
        have e4 : H4 fq = some (.lst []) := by rw [← hH4]; exact upd_same
        clear hH4
        have nq : pq ≠ fq := fun z => by rw [← z, hpq] at hfq; cases hfq
        have hfH : H fq = none := s3.free hfq
        refine ⟨_, rfl, (by decide), (by decide), ?_⟩
        refine for_range (n := 2) (fun jj σ H5 => ∃ v9 v10 v11, σ = [some (.ref m), some (.int i), some (.int ax), some (.int wx), some (.ref pq), some (.int (1 + (j : Int))), some (.str wd), some (.int (0)), some (.ref fq), v9, v10, v11] ∧ Ext [fq] H4 H5 ∧ H5 fq = some (.lst ((([(lStep (some wd) (prL l t ((j : Int) + 1)) (gAt ((j : Int) + 1) ax wx) PP).1, (lStep (some wd) (prL l t ((j : Int) + 1)) (gAt ((j : Int) + 1) ax wx) PP).2] : List Int).take jj).map V.int))) ?_ ?_ ?_
        · exact ⟨v9, v10, v11, rfl, Ext.refl _ _, e4⟩
        · rintro jj σ H5 hjj ⟨v9, v10, v11, rfl, x5, hf5⟩
          rw [Int.zero_add]
          have hpq5 := x5 _ _ (s4 _ _ hpq) (by simpa using nq)
          have hj01 : jj = 0 ∨ jj = 1 := by omega
          obtain ⟨hv, ov, hatH, hatO, ehv⟩ : ∃ hv ov, atI [V.int PP.1, .int PP.2] (jj : Int) = some (.int hv) ∧ atI [V.int PP.1, .int PP.2] (1 - (jj : Int)) = some (.int ov) ∧ ([(lStep (some wd) (prL l t ((j : Int) + 1)) (gAt ((j : Int) + 1) ax wx) PP).1, (lStep (some wd) (prL l t ((j : Int) + 1)) (gAt ((j : Int) + 1) ax wx) PP).2] : List Int)[jj]? = some (lVal (some wd) (prL l t ((j : Int) + 1)) (gAt ((j : Int) + 1) ax wx) (jj : Int) hv ov) := by
            rcases hj01 with h | h <;> subst h
            · exact ⟨_, _, rfl, rfl, rfl⟩
            · exact ⟨_, _, rfl, rfl, rfl⟩
          generalize ([(lStep (some wd) (prL l t ((j : Int) + 1)) (gAt ((j : Int) + 1) ax wx) PP).1, (lStep (some wd) (prL l t ((j : Int) + 1)) (gAt ((j : Int) + 1) ax wx) PP).2] : List Int) = vals at hf5 ehv ⊢
          have hvl : (vals.take jj).length ≤ 1 := by rw [List.length_take]; omega
          have hst : atI [V.str "out", .str "in"] (jj : Int) = some (.str (stW (jj : Int))) := by
            rcases hj01 with h | h <;> subst h <;> rfl
          have etk : (vals.take (jj + 1)).map V.int = (vals.take jj).map V.int ++ [V.int (lVal (some wd) (prL l t ((j : Int) + 1)) (gAt ((j : Int) + 1) ax wx) (jj : Int) hv ov)] := by
            rw [List.take_succ, ehv, List.map_append]; rfl
          -- some
          refine ⟨_, rfl, _, rfl, _, _, rfl, rfl, pq, _, _, _, rfl, rfl, SqL.of hpq5, hatO, _, rfl, _, _, rfl, rfl, one, fun p1 hp1 => ?_⟩
          generalize hH6 : upd H5 p1 _ = H6
          have s6 : Same H5 H6 := by rw [← hH6]; exact (Ext.new (S := []) hp1).same
          have e6 : H6 p1 = some (.lst [.int (ov + (0))]) := by rw [← hH6]; exact upd_same
          clear hH6
          refine ⟨_, rfl, _, rfl, pq, _, _, _, rfl, rfl, SqL.of (s6 _ _ hpq5), hatH, one, fun p2 hp2 => ?_⟩
          generalize hH7 : upd H6 p2 _ = H7
          have s7 : Same H6 H7 := by rw [← hH7]; exact (Ext.new (S := []) hp2).same
          have e7 : H7 p2 = some (.lst [.int hv]) := by rw [← hH7]; exact upd_same
          clear hH7
          refine ⟨_, rfl, .inr ⟨_, rfl, ?_⟩⟩
          refine ⟨p2, 0, _, rfl, rfl, e7, by decide, by decide, Nat.zero_le _, fun p3 hp3 => ?_⟩
          generalize hH8 : upd H7 p3 _ = H8
          have s8 : Same H7 H8 := by rw [← hH8]; exact (Ext.new (S := []) hp3).same
          have e8 : H8 p3 = some (.lst []) := by rw [← hH8]; exact upd_same
          clear hH8
          refine ⟨p1, p3, _, _, rfl, rfl, s8 _ _ (s7 _ _ e6), e8, one, fun p4 hp4 => ?_⟩
          generalize hH9 : upd H8 p4 _ = H9
          have s9 : Same H8 H9 := by rw [← hH9]; exact (Ext.new (S := []) hp4).same
          have e9 : H9 p4 = some (.lst [.int (ov + 0)]) := by rw [← hH9]; exact upd_same
          clear hH9
          -- good
          refine ⟨_, rfl, _, rfl, iteF ?_⟩
          refine ⟨two, fun p5 hp5 => ?_⟩
          generalize hH10 : upd H9 p5 _ = H10
          have s10 : Same H9 H10 := by rw [← hH10]; exact (Ext.new (S := []) hp5).same
          have e10 : H10 p5 = some (.lst [.str "out", .str "in"]) := by rw [← hH10]; exact upd_same
          clear hH10
          have e9 := s10 _ _ e9
          have s59 := s6.trans (s7.trans (s8.trans (s9.trans s10)))
          have hf9 := s59 _ _ hf5
          refine ⟨_, rfl, p5, _, _, _, rfl, rfl, SqL.of e10, hst, _, rfl, rfl, ?_⟩
          refine ⟨_, rfl, (.inl ⟨rfl, _, SqL.of hf9⟩), ?_⟩
          have fin : ∀ v, v = lVal (some wd) (prL l t ((j : Int) + 1)) (gAt ((j : Int) + 1) ax wx) (jj : Int) hv ov → (Ext [fq] H4 (upd H10 fq (.lst ((vals.take jj).map V.int ++ [.int v]))) ∧ (upd H10 fq (.lst ((vals.take jj).map V.int ++ [.int v]))) fq = some (.lst ((vals.take (jj + 1)).map V.int))) := fun v hv' => by
            subst hv'
            refine ⟨fun c oc hc hn => ?_, by rw [upd_same, etk]⟩
            rw [upd_ne (by simpa using hn)]; exact s59 _ _ (x5 _ _ hc hn)
          have sml : ((vals.take jj).map V.int).length < sizeLine := by rw [List.length_map]; exact small1000 (by omega)
          refine ⟨_, rfl, _, rfl, ?_⟩
          by_cases hw : stW (jj : Int) = wd
          · rw [decide_eq_true (show V.str (stW (jj : Int)) = V.str wd by rw [hw])]
            refine iteT ⟨_, rfl, _, rfl, rfl, _, rfl, ?_⟩
            by_cases hm : (1 + (j : Int)) = ax
            · rw [decide_eq_true (show V.int (1 + (j : Int)) = V.int ax by rw [hm])]
              refine iteF ⟨_, rfl, _, rfl, rfl, _, rfl, ?_⟩
              by_cases hs : (jj : Int) = wx
              · rw [decide_eq_true (show V.int (jj : Int) = V.int wx by rw [hs])]
                refine iteT ⟨_, rfl, p4, [ov + 0], rfl, SqL.of e9, (by show 0 < 1; decide), fun mm h1 h2 => ?_⟩
                obtain ⟨k1, k2⟩ := fin mm (by
                  have : gAt ((j : Int) + 1) ax wx (jj : Int) = true := by unfold gAt; rw [decide_eq_true hs, Bool.or_true]
                  show mm = if _ then _ else _
                  rw [if_pos ⟨hw, this⟩]
                  rw [List.mem_singleton.mp h1, Int.add_zero])
                exact ⟨fq, _, _, rfl, rfl, hf9, sml, _, _, _, rfl, k1, k2⟩
              · rw [decide_eq_false (show ¬ V.int (jj : Int) = V.int wx from fun z => hs (V.int.inj z))]
                obtain ⟨k1, k2⟩ := fin 99 (by
                  have : gAt ((j : Int) + 1) ax wx (jj : Int) = false := by unfold gAt; rw [decide_eq_false hs, decide_eq_true (show (j : Int) + 1 = ax by omega)]; rfl
                  show (99 : Int) = if _ then _ else _
                  rw [this, if_neg (fun z => by cases z.2)])
                exact iteF ⟨fq, _, _, rfl, rfl, hf9, sml, _, _, _, rfl, k1, k2⟩
            · rw [decide_eq_false (show ¬ V.int (1 + (j : Int)) = V.int ax from fun z => hm (V.int.inj z))]
              refine iteT ⟨_, rfl, p4, [ov + 0], rfl, SqL.of e9, (by show 0 < 1; decide), fun mm h1 h2 => ?_⟩
              obtain ⟨k1, k2⟩ := fin mm (by
                have : gAt ((j : Int) + 1) ax wx (jj : Int) = true := by unfold gAt; rw [decide_eq_false (show ¬ (j : Int) + 1 = ax by omega)]; rfl
                show mm = if _ then _ else _
                rw [if_pos ⟨hw, this⟩]
                rw [List.mem_singleton.mp h1, Int.add_zero])
              exact ⟨fq, _, _, rfl, rfl, hf9, sml, _, _, _, rfl, k1, k2⟩
          · rw [decide_eq_false (show ¬ V.str (stW (jj : Int)) = V.str wd from fun z => hw (V.str.inj z))]
            obtain ⟨k1, k2⟩ := fin 99 (by
              show (99 : Int) = if _ then _ else _
              rw [if_neg (fun z => hw z.1)])
            exact iteF (iteF ⟨fq, _, _, rfl, rfl, hf9, sml, _, _, _, rfl, k1, k2⟩)
        · rintro σ H5 ⟨v9, v10, v11, rfl, x5, hf5⟩
          refine ⟨_, rfl, fq, _, _, _, _, _, _, _, rfl, fun c oc hc => x5 _ _ (s4 _ _ (s3 _ _ hc)) (by simpa using ne_of_none hc hfH), ?_⟩
          rw [els]; exact hf5
    · rintro σ H3 ⟨pq, v5, v6, v7, v8, v9, v10, v11, rfl, s3, hpq⟩
      have et : (t + 1 - 1).toNat = t.toNat := by congr 1; omega
      rw [et] at hpq
      refine ⟨_, rfl, one, fun p1 hp1 => ?_⟩
      generalize hH4 : upd H3 p1 _ = H4
      have s4 : Same H3 H4 := by rw [← hH4]; exact (Ext.new (S := []) hp1).same
      have e4 : H4 p1 = some (.lst [.int 99]) := by rw [← hH4]; exact upd_same
      clear hH4
      refine ⟨pq, p1, _, _, rfl, rfl, s4 _ _ hpq, e4, (by show 3 ≤ sizeLine; decide), fun p2 hp2 => ?_⟩
      generalize hH5 : upd H4 p2 _ = H5
      have s5 : Same H4 H5 := by rw [← hH5]; exact (Ext.new (S := []) hp2).same
      have e5 : H5 p2 = some (.lst [.int (lF (lk rs i) l t ax wx t.toNat).1, .int (lF (lk rs i) l t ax wx t.toNat).2, .int 99]) := by rw [← hH5]; exact upd_same
      clear hH5
      refine ⟨p2, [(lF (lk rs i) l t ax wx t.toNat).1, (lF (lk rs i) l t ax wx t.toNat).2, 99], rfl, SqL.of e5, (by show 0 < 3; decide), fun mm h1 h2 => ?_⟩
      have : mm = lLeast (lk rs i) l t ax wx t.toNat := by
        unfold lLeast
        have a1 := h2 _ (List.mem_cons_self ..)
        have a2 := h2 _ (List.mem_cons_of_mem _ (List.mem_cons_self ..))
        have a3 := h2 _ (List.mem_cons_of_mem _ (List.mem_cons_of_mem _ (List.mem_cons_self ..)))
        simp only [List.mem_cons, List.not_mem_nil, or_false] at h1
        omega
      rw [this]
      exact kk _ (s3.trans (s4.trans s5))
end
end Ho
set_option Elab.async false
set_option linter.all false
set_option maxRecDepth 100000
set_option maxHeartbeats 4000000
namespace Ho
open PySem L2
/-- the least price of all, behind its rests -/
def LeastW (oss : List (List Sp3)) (v : Int) : Prop := ∃ r rr, Rests oss (r :: rr) ∧ v = r.1
end Ho
set_option Elab.async false
set_option linter.all false
set_option maxRecDepth 100000
set_option maxHeartbeats 4000000
namespace Ho
open PySem L2
/-- a path through the steps: from a state, of a price, to a state -/
inductive PathE : List (List Sp3) → Int → Int → Int → Prop
  | nil (s : Int) : PathE [] s 0 s
  | cons {os : List Sp3} {oss : List (List Sp3)} {b a p c e : Int} : (b, a, p) ∈ os → PathE oss a c e → PathE (os :: oss) b (p + c) e
theorem path_snoc {oss : List (List Sp3)} {os : List Sp3} : ∀ {s c e : Int}, PathE (oss ++ [os]) s c e ↔ ∃ c1 m p, PathE oss s c1 m ∧ (m, e, p) ∈ os ∧ c = c1 + p := by
  induction oss with
  | nil =>
    intro s c e
    constructor
    · intro h
      cases h with
      | cons h1 h2 =>
        cases h2
        exact ⟨0, s, _, .nil s, h1, by omega⟩
    · rintro ⟨c1, m, p, h1, h2, rfl⟩
      cases h1
      have := PathE.cons h2 (PathE.nil e)
      rwa [Int.add_comm] at this
  | cons o oss ih =>
    intro s c e
    constructor
    · intro h
      cases h with
      | cons h1 h2 =>
        obtain ⟨c1, m, p, g1, g2, rfl⟩ := ih.mp h2
        exact ⟨_, m, p, .cons h1 g1, g2, by omega⟩
    · rintro ⟨c1, m, p, h1, h2, rfl⟩
      cases h1 with
      | cons g1 g2 =>
        have := PathE.cons g1 (ih.mpr ⟨_, m, p, g2, h2, rfl⟩)
        rwa [← Int.add_assoc] at this
/-- what rests tell -/
theorem rests_path {oss : List (List Sp3)} {rr : List (Int × Int)} (h : Rests oss rr) : (∀ os ∈ oss, OkO os) → ∀ r rs, rr = r :: rs → ∀ s, (s = 0 ∨ s = 1) → (∀ c e, PathE oss s c e → rAt r s ≤ c) ∧ (rAt r s < 1000 → ∃ e, PathE oss s (rAt r s) e) := by
  induction h with
  | nil =>
    intro _ r rs h s hs
    cases h
    have : rAt (0, 0) s = 0 := by rcases hs with rfl | rfl <;> rfl
    rw [this]
    exact ⟨fun c e h => (by cases h; exact Int.le_refl _), fun _ => ⟨s, .nil s⟩⟩
  | @cons os oss r r' rr h1 m0 m1 ih =>
    intro ok q qs he s hs
    cases he
    have ih := ih (fun os h => ok os (List.mem_cons_of_mem _ h)) r rr rfl
    have hb := h1.bound (fun os h => ok os (List.mem_cons_of_mem _ h)) r (List.mem_cons_self ..)
    have hm : MinD (onFrom s os r) (rAt r' s) := by
      rcases hs with rfl | rfl
      · exact m0
      · exact m1
    have mem : ∀ {a p : Int}, (s, a, p) ∈ os → p + rAt r a ∈ onFrom s os r := fun {a p} h => by
      unfold onFrom
      exact List.mem_map.mpr ⟨(s, a, p), List.mem_filter.mpr ⟨h, by simp⟩, rfl⟩
    constructor
    · intro c e h
      cases h with
      | @cons _ _ _ a p c1 _ h1 h2 =>
        have ha := (ok os (List.mem_cons_self ..) _ h1).2.1
        have l1 := (ih a ha).1 _ _ h2
        rcases hm with ⟨g, _⟩ | ⟨_, g⟩
        · have := mem h1
          rw [g] at this; cases this
        · have := g _ (mem h1)
          omega
    · intro hlt
      rcases hm with ⟨_, g⟩ | ⟨g, _⟩
      · omega
      · unfold onFrom at g
        obtain ⟨o, ho, e⟩ := List.mem_map.mp g
        obtain ⟨h2, h3⟩ := List.mem_filter.mp ho
        have h3 : o.1 = s := by simpa using h3
        have hok := ok os (List.mem_cons_self ..) _ h2
        have hp : 0 ≤ o.2.2 := by have := hok.2.2; omega
        obtain ⟨e', h4⟩ := (ih o.2.1 hok.2.1).2 (by omega)
        refine ⟨e', ?_⟩
        rw [← e]
        refine .cons (a := o.2.1) ?_ h4
        rw [← h3]; exact h2
theorem least_path {oss : List (List Sp3)} {v : Int} (ok : ∀ os ∈ oss, OkO os) (h : LeastW oss v) : (∀ c e, PathE oss 0 c e → v ≤ c) ∧ (v < 1000 → ∃ e, PathE oss 0 v e) := by
  obtain ⟨r, rr, hR, rfl⟩ := h
  exact rests_path hR ok r rr rfl 0 (.inl rfl)
/-- a path of so many steps, of prices 0 and 1, costs no more than these -/
theorem path_cost {oss : List (List Sp3)} (ok : ∀ os ∈ oss, OkO os) {s c e : Int} (h : PathE oss s c e) : 0 ≤ c ∧ c ≤ oss.length := by
  induction h with
  | nil => simp
  | @cons os oss b a p c e h1 h2 ih =>
    have ih := ih fun os h => ok os (List.mem_cons_of_mem _ h)
    have h3 : p = 0 ∨ p = 1 := (ok _ (List.mem_cons_self ..) _ h1).2.2
    simp only [List.length_cons]
    omega
theorem path_end {oss : List (List Sp3)} (ok : ∀ os ∈ oss, OkO os) {s c e : Int} (h : PathE oss s c e) : (s = 0 ∨ s = 1) → (e = 0 ∨ e = 1) := by
  induction h with
  | nil => exact id
  | cons h1 h2 ih => exact fun _ => ih (fun os h => ok os (List.mem_cons_of_mem _ h)) (ok _ (List.mem_cons_self ..) _ h1).2.1
/-- the steps with a state asked at a moment -/
def optsC (f : Int → Option Str) (l t at' wd : Int) (j : Nat) : List Sp3 := (optsOf (f ((j : Int) + 1)) (prL l t ((j : Int) + 1))).filter fun o => gAt ((j : Int) + 1) at' wd o.2.1
def stepsC (f : Int → Option Str) (l t at' wd : Int) (n : Nat) : List (List Sp3) := (List.range n).map (optsC f l t at' wd)
theorem stepsC_succ {f : Int → Option Str} {l t at' wd : Int} {n : Nat} : stepsC f l t at' wd (n + 1) = stepsC f l t at' wd n ++ [optsC f l t at' wd n] := by
  unfold stepsC
  rw [List.range_succ, List.map_append]; rfl
theorem stepsC_len {f : Int → Option Str} {l t at' wd : Int} {n : Nat} : (stepsC f l t at' wd n).length = n := by unfold stepsC; rw [List.length_map, List.length_range]
theorem gAt_ne {mo at' wd s : Int} (h : mo ≠ at') : gAt mo at' wd s = true := by unfold gAt; rw [decide_eq_false h]; rfl
theorem gAt_eq {mo wd s : Int} : gAt mo mo wd s = decide (s = wd) := by unfold gAt; rw [decide_eq_true rfl]; rfl
theorem optsC_ne {f : Int → Option Str} {l t at' wd : Int} {j : Nat} (h : (j : Int) + 1 ≠ at') : optsC f l t at' wd j = optsOf (f ((j : Int) + 1)) (prL l t ((j : Int) + 1)) := by
  unfold optsC
  exact List.filter_eq_self.mpr fun o _ => gAt_ne h
theorem through_eq {f : Int → Option Str} {l t s : Int} {n m : Nat} (h1 : 1 ≤ m) (h2 : m ≤ n) : through (stepsOf f l t n) m s = stepsC f l t (m : Int) s n := by
  have hl := stepsOf_len f l t n
  have hg : ∀ i : Nat, i < n → (stepsOf f l t n)[i]? = some (optsOf (f ((i : Int) + 1)) (prL l t ((i : Int) + 1))) := fun i hi => by
    unfold stepsOf
    rw [List.getElem?_map, List.getElem?_range hi]; rfl
  have hc : ∀ i : Nat, i < n → (stepsC f l t (m : Int) s n)[i]? = some (optsC f l t (m : Int) s i) := fun i hi => by
    unfold stepsC
    rw [List.getElem?_map, List.getElem?_range hi]; rfl
  refine List.ext_getElem? fun i => ?_
  by_cases hi : i < n
  · rw [hc i hi]
    unfold through
    have hlt : ((stepsOf f l t n).take (m - 1)).length = m - 1 := by rw [List.length_take]; omega
    by_cases h3 : i < m - 1
    · rw [List.getElem?_append_left (by rw [List.length_append, hlt]; omega), List.getElem?_append_left (by omega), List.getElem?_take_of_lt h3, hg i hi, optsC_ne (by omega)]
    · by_cases h4 : i = m - 1
      · subst h4
        rw [List.getElem?_append_left (by rw [List.length_append, hlt]; simp), List.getElem?_append_right (by omega), hlt, Nat.sub_self]
        have e : ((m - 1 : Nat) : Int) + 1 = (m : Int) := by omega
        rw [List.getD_eq_getElem?_getD, hg _ hi]
        unfold optsC
        rw [e]
        have : (fun o : Sp3 => gAt (m : Int) (m : Int) s o.2.1) = fun o => decide (o.2.1 = s) := funext fun o => gAt_eq
        rw [this]; rfl
      · rw [List.getElem?_append_right (by rw [List.length_append, hlt]; simp; omega), List.length_append, hlt, List.getElem?_drop]
        have e : m + (i - (m - 1 + ([(fun o : Sp3 => decide (o.2.1 = s))].length))) = i := by simp; omega
        rw [show m + (i - (m - 1 + [List.filter (fun o : Sp3 => decide (o.2.1 = s)) ((stepsOf f l t n).getD (m - 1) [])].length)) = i by simp; omega, hg i hi, optsC_ne (by omega)]
  · rw [List.getElem?_eq_none (by rw [through_len h1 (by omega)]; omega), List.getElem?_eq_none (by rw [stepsC_len]; omega)]
theorem ok_stepsC (f : Int → Option Str) (l t at' wd : Int) (n : Nat) : ∀ os ∈ stepsC f l t at' wd n, OkO os := fun os hos => by
  unfold stepsC at hos
  obtain ⟨j, _, rfl⟩ := List.mem_map.mp hos
  intro o ho
  exact ok_optsOf _ (prL01 _ _ _) o (List.mem_filter.mp ho).1
end Ho
set_option Elab.async false
set_option linter.all false
set_option maxRecDepth 100000
set_option maxHeartbeats 4000000
namespace Ho
open PySem L2
theorem mem_optsN {pr b s p : Int} (hs : s = 0 ∨ s = 1) : (b, s, p) ∈ optsOf none pr ↔ (b = s ∧ p = 0) ∨ (b = 1 - s ∧ p = pr) := by
  have e : optsOf none pr = [(0, 0, 0), (0, 1, pr), (1, 0, pr), (1, 1, 0)] := rfl
  rw [e]
  simp only [List.mem_cons, List.not_mem_nil, or_false, Prod.mk.injEq]
  omega
theorem mem_optsS {wd : Str} {pr b s p : Int} (hw : wd = "in" ∨ wd = "out") (hs : s = 0 ∨ s = 1) : (b, s, p) ∈ optsOf (some wd) pr ↔ stW s = wd ∧ b = 1 - s ∧ p = 0 := by
  rcases hw with rfl | rfl
  · have e : optsOf (some "in") pr = [(0, 1, 0)] := rfl
    rw [e]
    simp only [List.mem_cons, List.not_mem_nil, or_false, Prod.mk.injEq]
    rcases hs with rfl | rfl
    · constructor
      · rintro ⟨_, h, _⟩; omega
      · rintro ⟨h, _⟩; exact absurd h (by decide)
    · constructor
      · rintro ⟨h, _, h2⟩; exact ⟨rfl, by omega, h2⟩
      · rintro ⟨_, h, h2⟩; exact ⟨by omega, rfl, h2⟩
  · have e : optsOf (some "out") pr = [(1, 0, 0)] := rfl
    rw [e]
    simp only [List.mem_cons, List.not_mem_nil, or_false, Prod.mk.injEq]
    rcases hs with rfl | rfl
    · constructor
      · rintro ⟨h, _, h2⟩; exact ⟨rfl, by omega, h2⟩
      · rintro ⟨_, h, h2⟩; exact ⟨by omega, rfl, h2⟩
    · constructor
      · rintro ⟨_, h, _⟩; omega
      · rintro ⟨h, _⟩; exact absurd h (by decide)
/-- v is the least price of a path to e; 99 or more where there is none -/
def FwV (oss : List (List Sp3)) (e v : Int) : Prop := 0 ≤ v ∧ (∀ c, PathE oss 0 c e → v ≤ c) ∧ (v < 99 → PathE oss 0 v e)
theorem fw_step {f : Int → Option Str} {l t ax wx : Int} {n : Nat} {s here other : Int} (hf : ∀ m w, f m = some w → w = "in" ∨ w = "out") (hs : s = 0 ∨ s = 1) (h1 : FwV (stepsC f l t ax wx n) s here) (h2 : FwV (stepsC f l t ax wx n) (1 - s) other) (hn : n ≤ 60) :
    FwV (stepsC f l t ax wx (n + 1)) s (lVal (f ((n : Int) + 1)) (prL l t ((n : Int) + 1)) (gAt ((n : Int) + 1) ax wx) s here other) := by
  rw [stepsC_succ]
  have hpr := prL01 l t ((n : Int) + 1)
  have cost : ∀ {c e : Int}, PathE (stepsC f l t ax wx n) 0 c e → 0 ≤ c ∧ c ≤ 60 := fun {c e} h => by
    have := path_cost (ok_stepsC f l t ax wx n) h
    rw [stepsC_len] at this
    omega
  have mem : ∀ {b p : Int}, (b, s, p) ∈ optsC f l t ax wx n ↔ (b, s, p) ∈ optsOf (f ((n : Int) + 1)) (prL l t ((n : Int) + 1)) ∧ gAt ((n : Int) + 1) ax wx s = true := fun {b p} => by
    unfold optsC
    rw [List.mem_filter]
  generalize optsC f l t ax wx n = os at mem ⊢
  generalize gAt ((n : Int) + 1) ax wx = g at mem ⊢
  generalize prL l t ((n : Int) + 1) = pr at hpr mem ⊢
  have hfw := hf ((n : Int) + 1)
  generalize f ((n : Int) + 1) = w at mem hfw ⊢
  obtain ⟨a1, a2, a3⟩ := h1
  obtain ⟨b1, b2, b3⟩ := h2
  cases w with
  | none =>
    by_cases hg : g s = true
    · have e : lVal none pr g s here other = min (other + pr) here := by show (if _ then _ else _) = _; rw [if_pos hg]
      rw [e]
      refine ⟨by omega, fun c h => ?_, fun h => ?_⟩
      · obtain ⟨c1, m, p, g1, g2, rfl⟩ := path_snoc.mp h
        rcases (mem_optsN hs).mp (mem.mp g2).1 with ⟨rfl, rfl⟩ | ⟨rfl, rfl⟩
        · have := a2 _ g1; omega
        · have := b2 _ g1; omega
      · by_cases hle : here ≤ other + pr
        · refine path_snoc.mpr ⟨here, s, 0, a3 (by omega), mem.mpr ⟨(mem_optsN hs).mpr (.inl ⟨rfl, rfl⟩), hg⟩, by omega⟩
        · refine path_snoc.mpr ⟨other, 1 - s, pr, b3 (by omega), mem.mpr ⟨(mem_optsN hs).mpr (.inr ⟨rfl, rfl⟩), hg⟩, by omega⟩
    · have e : lVal none pr g s here other = 99 := by show (if _ then _ else _) = _; rw [if_neg hg]
      rw [e]
      refine ⟨by omega, fun c h => ?_, fun h => (by omega)⟩
      obtain ⟨c1, m, p, g1, g2, rfl⟩ := path_snoc.mp h
      exact (hg (mem.mp g2).2).elim
  | some wd =>
    have hw := hfw wd rfl
    by_cases hg : stW s = wd ∧ g s = true
    · have e : lVal (some wd) pr g s here other = other := by show (if _ then _ else _) = _; rw [if_pos hg]
      rw [e]
      refine ⟨b1, fun c h => ?_, fun h => ?_⟩
      · obtain ⟨c1, m, p, g1, g2, rfl⟩ := path_snoc.mp h
        obtain ⟨_, rfl, rfl⟩ := (mem_optsS hw hs).mp (mem.mp g2).1
        have := b2 _ g1; omega
      · exact path_snoc.mpr ⟨other, 1 - s, 0, b3 h, mem.mpr ⟨(mem_optsS hw hs).mpr ⟨hg.1, rfl, rfl⟩, hg.2⟩, by omega⟩
    · have e : lVal (some wd) pr g s here other = 99 := by show (if _ then _ else _) = _; rw [if_neg hg]
      rw [e]
      refine ⟨by omega, fun c h => ?_, fun h => (by omega)⟩
      obtain ⟨c1, m, p, g1, g2, rfl⟩ := path_snoc.mp h
      exact (hg ⟨((mem_optsS hw hs).mp (mem.mp g2).1).1, (mem.mp g2).2⟩).elim
theorem fw_all {f : Int → Option Str} {l t ax wx : Int} (hf : ∀ m w, f m = some w → w = "in" ∨ w = "out") : ∀ n : Nat, n ≤ 60 → FwV (stepsC f l t ax wx n) 0 (lF f l t ax wx n).1 ∧ FwV (stepsC f l t ax wx n) 1 (lF f l t ax wx n).2
  | 0, _ => by
    refine ⟨⟨Int.le_refl _, fun c h => ?_, fun _ => .nil 0⟩, ⟨(by show (0 : Int) ≤ 99; decide), fun c h => ?_, fun h => absurd h (by show ¬ (99 : Int) < 99; decide)⟩⟩
    · cases h; exact Int.le_refl _
    · cases h
  | n + 1, hn => by
    obtain ⟨h0, h1⟩ := fw_all (l := l) (t := t) (ax := ax) (wx := wx) hf n (by omega)
    exact ⟨fw_step hf (.inl rfl) h0 h1 (by omega), fw_step hf (.inr rfl) h1 h0 (by omega)⟩
/-- the law's least price is the program's, or there is none -/
theorem least_eq {f : Int → Option Str} {l t ax wx v : Int} {n : Nat} (hf : ∀ m w, f m = some w → w = "in" ∨ w = "out") (hn : n ≤ 60) (h : LeastW (stepsC f l t ax wx n) v) : (v = lLeast f l t ax wx n ∧ 0 ≤ v ∧ v ≤ 60) ∨ (lLeast f l t ax wx n = 99 ∧ 1000 ≤ v) := by
  obtain ⟨g1, g2⟩ := least_path (ok_stepsC f l t ax wx n) h
  obtain ⟨⟨a1, a2, a3⟩, ⟨b1, b2, b3⟩⟩ := fw_all (l := l) (t := t) (ax := ax) (wx := wx) hf n hn
  unfold lLeast
  generalize lF f l t ax wx n = PP at a1 a2 a3 b1 b2 b3 ⊢
  by_cases hv : v < 1000
  · obtain ⟨e, hp⟩ := g2 hv
    have hc := path_cost (ok_stepsC f l t ax wx n) hp
    rw [stepsC_len] at hc
    refine .inl ⟨?_, hc.1, by omega⟩
    have he := path_end (ok_stepsC f l t ax wx n) hp (.inl rfl)
    have k1 : PP.1 < 99 → v ≤ PP.1 := fun h => g1 _ _ (a3 h)
    have k2 : PP.2 < 99 → v ≤ PP.2 := fun h => g1 _ _ (b3 h)
    rcases he with rfl | rfl
    · have := a2 _ hp; omega
    · have := b2 _ hp; omega
  · refine .inr ⟨?_, by omega⟩
    have k1 : ¬ PP.1 < 99 := fun h => by
      have h2 := a3 h
      have := g1 _ _ h2
      omega
    have k2 : ¬ PP.2 < 99 := fun h => by
      have h2 := b3 h
      have := g1 _ _ h2
      omega
    omega
theorem path_same {f : Int → Option Str} {l t wx wx' : Int} {ax : Nat} : ∀ {n : Nat} {c e : Int}, n < ax → PathE (stepsC f l t 0 wx' n) 0 c e → PathE (stepsC f l t (ax : Int) wx n) 0 c e
  | 0, _, _, _, h => h
  | n + 1, c, e, hn, h => by
    rw [stepsC_succ] at h ⊢
    obtain ⟨c1, m, p, g1, g2, rfl⟩ := path_snoc.mp h
    refine path_snoc.mpr ⟨c1, m, p, path_same (by omega) g1, ?_, rfl⟩
    rw [optsC_ne (by omega)] at g2 ⊢
    exact g2
/-- each path has a state at the moment -/
theorem path_split {f : Int → Option Str} {l t wx : Int} {ax : Nat} (h1 : 1 ≤ ax) : ∀ {n : Nat} {c e : Int}, ax ≤ n → PathE (stepsC f l t 0 wx n) 0 c e → PathE (stepsC f l t (ax : Int) 0 n) 0 c e ∨ PathE (stepsC f l t (ax : Int) 1 n) 0 c e
  | 0, _, _, hn, _ => by omega
  | n + 1, c, e, hn, h => by
    rw [stepsC_succ] at h
    obtain ⟨c1, m, p, g1, g2, rfl⟩ := path_snoc.mp h
    rw [optsC_ne (by omega)] at g2
    by_cases hx : ax = n + 1
    · have he : e = 0 ∨ e = 1 := (ok_optsOf _ (prL01 _ _ _) _ g2).2.1
      have key : ∀ wx', e = wx' → PathE (stepsC f l t (ax : Int) wx' (n + 1)) 0 (c1 + p) e := fun wx' h => by
        rw [stepsC_succ]
        refine path_snoc.mpr ⟨c1, m, p, path_same (by omega) g1, ?_, rfl⟩
        unfold optsC
        refine List.mem_filter.mpr ⟨g2, ?_⟩
        have : (n : Int) + 1 = (ax : Int) := by omega
        rw [this, gAt_eq]
        exact decide_eq_true h
      rcases he with h | h
      · exact .inl (key 0 h)
      · exact .inr (key 1 h)
    · have key : ∀ wx', PathE (stepsC f l t (ax : Int) wx' n) 0 c1 m → PathE (stepsC f l t (ax : Int) wx' (n + 1)) 0 (c1 + p) e := fun wx' h => by
        rw [stepsC_succ]
        refine path_snoc.mpr ⟨c1, m, p, h, ?_, rfl⟩
        rw [optsC_ne (by omega)]
        exact g2
      rcases path_split h1 (by omega) g1 with h | h
      · exact .inl (key 0 h)
      · exact .inr (key 1 h)
/-- paths are stories -/
theorem path_story {f : Int → Option Str} {l t wx : Int} (hf : ∀ m w, f m = some w → w = "in" ∨ w = "out") : ∀ {n : Nat} {c e : Int}, PathE (stepsC f l t 0 wx n) 0 c e ↔ ∃ (st : List Bool) (b : Bool) (c' : Nat), st.length = n ∧ pF f l t st = some (b, c') ∧ c = (c' : Int) ∧ e = (if b then 1 else 0) := by
  intro n
  induction n with
  | zero =>
    intro c e
    constructor
    · intro h
      cases h
      exact ⟨[], false, 0, rfl, rfl, rfl, rfl⟩
    · rintro ⟨st, b, c', h1, h2, rfl, rfl⟩
      rw [List.length_eq_zero_iff.mp h1] at h2
      cases h2
      exact .nil 0
  | succ n ih =>
    intro c e
    rw [stepsC_succ, path_snoc, optsC_ne (by omega)]
    have hfn := hf ((n : Int) + 1)
    constructor
    · rintro ⟨c1, m, p, g1, g2, rfl⟩
      obtain ⟨st, b, c', h1, h2, rfl, rfl⟩ := ih.mp g1
      have he : e = 0 ∨ e = 1 := (ok_optsOf _ (prL01 _ _ _) _ g2).2.1
      refine ⟨st ++ [decide (e = 1)], decide (e = 1), c' + p.toNat, by rw [List.length_append, h1]; rfl, ?_, ?_, ?_⟩
      · rw [pF_snoc, h2, h1]
        unfold pS
        cases ew : f ((n : Int) + 1) with
        | none =>
          rw [ew] at g2
          show some (decide (e = 1), if decide (e = 1) ≠ b ∧ (n : Int) + 1 + l < t then c' + 1 else c') = _
          rcases (mem_optsN he).mp g2 with ⟨k1, rfl⟩ | ⟨k1, rfl⟩
          · have hb : decide (e = 1) = b := by rw [← k1]; cases b <;> rfl
            rw [hb]; simp
          · have hb : decide (e = 1) = !b := by
              have : e = 1 - (if b = true then 1 else 0) := by omega
              rw [this]; cases b <;> rfl
            rw [hb]
            unfold prL
            by_cases hlt : (n : Int) + 1 + l < t
            · rw [if_pos hlt]; cases b <;> simp [hlt]
            · rw [if_neg hlt]; cases b <;> simp [hlt]
        | some w =>
          rw [ew] at g2
          obtain ⟨k1, k2, rfl⟩ := (mem_optsS (hfn w ew) he).mp g2
          subst k1
          cases b <;> rcases he with rfl | rfl <;> first | rfl | (exact absurd k2 (by decide))
      · have : 0 ≤ p := by have := (ok_optsOf _ (prL01 _ _ _) _ g2).2.2; have h3 : p = 0 ∨ p = 1 := this; omega
        omega
      · rcases he with rfl | rfl <;> rfl
    · rintro ⟨st, b, c', h1, h2, rfl, rfl⟩
      obtain ⟨st', b', rfl, hl⟩ := snoc_of h1
      rw [pF_snoc, hl] at h2
      cases hp : pF f l t st' with
      | none => rw [hp] at h2; cases h2
      | some sc =>
        obtain ⟨s0, c0⟩ := sc
        rw [hp] at h2
        have hs0 : ((if b = true then 1 else 0 : Int) = 0 ∨ (if b = true then 1 else 0 : Int) = 1) := by cases b <;> simp
        have base := ih.mpr ⟨st', s0, c0, hl, hp, rfl, rfl⟩
        unfold pS at h2
        cases ew : f ((n : Int) + 1) with
        | none =>
          rw [ew] at h2
          have h2 := Option.some.inj h2
          obtain ⟨rfl, h3⟩ := Prod.mk.inj h2
          refine ⟨_, _, (c' : Int) - (c0 : Int), base, (mem_optsN hs0).mpr ?_, by omega⟩
          by_cases hb : b' = s0
          · subst hb
            rw [if_neg (fun z => z.1 rfl)] at h3
            exact .inl ⟨rfl, by omega⟩
          · refine .inr ⟨?_, ?_⟩
            · cases b' <;> cases s0 <;> first | rfl | exact absurd rfl hb
            · unfold prL
              by_cases hlt : (n : Int) + 1 + l < t
              · rw [if_pos ⟨hb, hlt⟩] at h3
                rw [if_pos hlt]; omega
              · rw [if_neg (fun z => hlt z.2)] at h3
                rw [if_neg hlt]; omega
        | some w =>
          rw [ew] at h2
          have h2 : (if b' ≠ s0 ∧ wI b' = w then some (b', c0) else none) = some (b, c') := h2
          by_cases hc : b' ≠ s0 ∧ wI b' = w
          · rw [if_pos hc] at h2
            obtain ⟨rfl, rfl⟩ := Prod.mk.inj (Option.some.inj h2)
            refine ⟨_, _, 0, base, (mem_optsS (hfn w ew) hs0).mpr ⟨?_, ?_, rfl⟩, by omega⟩
            · rw [← hc.2]; cases b' <;> rfl
            · have := hc.1
              cases b' <;> cases s0 <;> simp_all
          · rw [if_neg hc] at h2; cases h2
end Ho
set_option Elab.async false
set_option linter.all false
set_option maxRecDepth 100000
set_option maxHeartbeats 4000000
namespace Ho
open PySem L2
/-! ### the first stories: whether there are any, and what they are -/
theorem cutB_nil {most : Int} {many : Nat} : ∀ {oss : List (List Sp3)} {rr : List (Int × Int)}, cutB most many oss rr [] = []
  | [], rr => by cases rr <;> rfl
  | os :: oss, [] => rfl
  | os :: oss, [r] => rfl
  | os :: oss, r :: q :: rr => by
    show cutB most many oss (q :: rr) ((longer [] os q most).take many) = []
    rw [show (longer [] os q most).take many = [] by unfold longer; simp]
    exact cutB_nil
theorem canEnd_take {r : Int × Int} {most : Int} {bs : List Bg} {many : Nat} (h : CanEnd r most bs) : CanEnd r most (bs.take many) := fun x hx => h x (List.mem_of_mem_take hx)
theorem cutB_ne {most : Int} {many : Nat} (hm : most < 1000) (h1 : 1 ≤ many) : ∀ {oss : List (List Sp3)} {rr : List (Int × Int)} {r : Int × Int} {bs : List Bg}, Rests oss (r :: rr) → (∀ os ∈ oss, OkO os) → CanEnd r most bs → bs ≠ [] → cutB most many oss (r :: rr) bs ≠ []
  | [], rr, r, bs, h, _, _, hne => by cases h; exact hne
  | os :: oss, rr, r, bs, h, ok, hc, hne => by
    cases h with
    | @cons _ _ q _ rr h2 m0 m1 =>
      show cutB most many oss (q :: rr) ((longer bs os q most).take many) ≠ []
      refine cutB_ne hm h1 h2 (fun o ho => ok o (List.mem_cons_of_mem _ ho)) (canEnd_take (longer_can (ok os (List.mem_cons_self ..)) fun x hx => (hc x hx).2.2)) ?_
      cases bs with
      | nil => exact (hne rfl).elim
      | cons x bs =>
        have hx := hc x (List.mem_cons_self ..)
        have := lon1_ne m0 m1 hm hx.1 hx.2.1 hx.2.2
        intro z
        have z2 : longer (x :: bs) os q most = [] := by
          cases many with
          | zero => omega
          | succ n =>
            rcases List.take_eq_nil_iff.mp z with z | z
            · omega
            · exact z
        unfold longer at z2
        rw [List.flatMap_cons] at z2
        exact this (List.append_eq_nil_iff.mp z2).1
theorem first_iff {most : Int} {many : Nat} {oss : List (List Sp3)} {r : Int × Int} {rr : List (Int × Int)} (hm : most < 1000) (h1 : 1 ≤ many) (hne : oss ≠ []) (h : Rests oss (r :: rr)) (ok : ∀ os ∈ oss, OkO os) : firstS most many oss (r :: rr) = [] ↔ most < r.1 := by
  unfold firstS
  rw [List.map_eq_nil_iff]
  constructor
  · intro z
    by_cases hle : r.1 ≤ most
    · exact absurd z (cutB_ne hm h1 h ok (fun x hx => by rw [List.mem_singleton.mp hx]; exact ⟨.inl rfl, by show 0 + r.1 ≤ most; omega, Int.le_refl _⟩) (by simp))
    · omega
  · intro hlt
    cases h with
    | nil => exact (hne rfl).elim
    | @cons os oss q _ rr h2 m0 m1 =>
      show cutB most many oss (q :: rr) ((longer [([], 0, 0)] os q most).take many) = []
      have : longer [([], 0, 0)] os q most = [] := by
        unfold longer lon1
        rw [List.flatMap_cons, List.flatMap_nil, List.append_nil, List.map_eq_nil_iff, List.filter_eq_nil_iff]
        intro o ho z
        have z := of_decide_eq_true z
        have z1 : o.1 = 0 := z.1
        have z2 : 0 + o.2.2 + rAt q o.2.1 ≤ most := z.2
        have hmem : o.2.2 + rAt q o.2.1 ∈ onFrom 0 os q := by
          unfold onFrom
          exact List.mem_map.mpr ⟨o, List.mem_filter.mpr ⟨ho, decide_eq_true z1⟩, rfl⟩
        rcases m0 with ⟨e, _⟩ | ⟨_, g⟩
        · rw [e] at hmem; cases hmem
        · have := g _ hmem
          omega
      rw [this, List.take_nil]
      exact cutB_nil
theorem cut_price {most : Int} {many : Nat} : ∀ {oss : List (List Sp3)} {rr : List (Int × Int)} {r : Int × Int} {bs : List Bg}, Rests oss (r :: rr) → (∀ os ∈ oss, OkO os) → CanEnd r most bs → ∀ x ∈ cutB most many oss (r :: rr) bs, x.2.2 ≤ most
  | [], rr, r, bs, h, _, hc => by
    cases h
    intro x hx
    have := hc x hx
    have e : rAt (0, 0) x.2.1 = 0 := by unfold rAt; split <;> rfl
    rw [e] at this
    omega
  | os :: oss, rr, r, bs, h, ok, hc => by
    cases h with
    | @cons _ _ q _ rr h2 m0 m1 =>
      show ∀ x ∈ cutB most many oss (q :: rr) ((longer bs os q most).take many), _
      exact cut_price h2 (fun o ho => ok o (List.mem_cons_of_mem _ ho)) (canEnd_take (longer_can (ok os (List.mem_cons_self ..)) fun x hx => (hc x hx).2.2))
/-- a story begun is a story, of its state and its price, and has the state that is asked -/
def Good (f : Int → Option Str) (l t ax wx : Int) (j : Nat) (x : Bg) : Prop := ∃ (st : List Bool) (b : Bool) (c : Nat), st.length = j ∧ x.1 = st.map nI ∧ pF f l t st = some (b, c) ∧ x.2.1 = nI b ∧ x.2.2 = (c : Int) ∧ ∀ (q : Nat) b', st[q]? = some b' → (q : Int) + 1 = ax → nI b' = wx
theorem good_step {f : Int → Option Str} {l t ax wx : Int} {j : Nat} {x : Bg} {o : Sp3} (hf : ∀ m w, f m = some w → w = "in" ∨ w = "out") (h : Good f l t ax wx j x) (ho : o ∈ optsC f l t ax wx j) (h1 : o.1 = x.2.1) : Good f l t ax wx (j + 1) (x.1 ++ [o.2.1], o.2.1, x.2.2 + o.2.2) := by
  obtain ⟨st, b, c, hl, hx, hp, hb, hc, hq⟩ := h
  unfold optsC at ho
  obtain ⟨ho, hgt⟩ := List.mem_filter.mp ho
  have hok := ok_optsOf _ (prL01 _ _ _) o ho
  have he : o.2.1 = 0 ∨ o.2.1 = 1 := hok.2.1
  have hfn := hf ((j : Int) + 1)
  have hn : o.2.1 = nI (decide (o.2.1 = 1)) := by rcases he with e | e <;> rw [e] <;> rfl
  have ho' : (nI b, o.2.1, o.2.2) ∈ optsOf (f ((j : Int) + 1)) (prL l t ((j : Int) + 1)) := by
    have : (nI b, o.2.1, o.2.2) = o := Prod.ext (by rw [h1, hb]) rfl
    rw [this]; exact ho
  have hp0 : 0 ≤ o.2.2 := by have := hok.2.2; omega
  refine ⟨st ++ [decide (o.2.1 = 1)], decide (o.2.1 = 1), c + o.2.2.toNat, by rw [List.length_append, hl]; rfl, ?_, ?_, hn, ?_, ?_⟩
  · show x.1 ++ [o.2.1] = _
    rw [hx, List.map_append]
    show _ = _ ++ [nI (decide (o.2.1 = 1))]
    rw [← hn]
  · rw [pF_snoc, hp, hl]
    unfold pS
    cases ew : f ((j : Int) + 1) with
    | none =>
      rw [ew] at ho'
      show some (decide (o.2.1 = 1), if decide (o.2.1 = 1) ≠ b ∧ (j : Int) + 1 + l < t then c + 1 else c) = _
      rcases (mem_optsN he).mp ho' with ⟨k1, k2⟩ | ⟨k1, k2⟩
      · have hbb : decide (o.2.1 = 1) = b := by rw [← k1]; cases b <;> rfl
        rw [hbb, k2]; simp
      · have hbb : decide (o.2.1 = 1) = !b := by
          have : o.2.1 = 1 - nI b := by omega
          rw [this]; cases b <;> rfl
        rw [hbb, k2]
        unfold prL
        by_cases hlt : (j : Int) + 1 + l < t
        · rw [if_pos hlt]; cases b <;> simp [hlt]
        · rw [if_neg hlt]; cases b <;> simp [hlt]
    | some wd =>
      rw [ew] at ho'
      obtain ⟨k1, k2, k3⟩ := (mem_optsS (hfn wd ew) he).mp ho'
      rw [k3]
      subst k1
      rcases he with e | e <;> rw [e] at k2 ⊢ <;> cases b <;> first | rfl | (exact absurd k2 (by decide))
  · show x.2.2 + o.2.2 = _
    rw [hc]; omega
  · intro q b' hqb hqa
    by_cases hlt : q < st.length
    · rw [List.getElem?_append_left hlt] at hqb
      exact hq q b' hqb hqa
    · have hqe : q = st.length := by
        have := (List.getElem?_eq_some_iff.mp hqb).1
        rw [List.length_append] at this
        simp at this
        omega
      rw [hqe] at hqb
      simp at hqb
      rw [← hqb, ← hn]
      have e : (j : Int) + 1 = ax := by rw [hqe, hl] at hqa; exact hqa
      rw [e, gAt_eq] at hgt
      exact of_decide_eq_true hgt
theorem good_cut {f : Int → Option Str} {l t ax wx most : Int} {many : Nat} (hf : ∀ m w, f m = some w → w = "in" ∨ w = "out") : ∀ {oss : List (List Sp3)} {rr : List (Int × Int)} {bs : List Bg} {j : Nat}, rr.length = oss.length + 1 → (∀ (n : Nat) os, oss[n]? = some os → os = optsC f l t ax wx (j + n)) → (∀ x ∈ bs, Good f l t ax wx j x) → ∀ x ∈ cutB most many oss rr bs, Good f l t ax wx (j + oss.length) x
  | [], rr, bs, j, _, _, hb => by
    intro x hx
    have : cutB most many [] rr bs = bs := by cases rr <;> rfl
    rw [this] at hx
    exact hb x hx
  | os :: oss, [], bs, j, h, _, _ => by simp at h
  | os :: oss, [r], bs, j, h, _, _ => by simp at h
  | os :: oss, r :: q :: rr, bs, j, h, hs, hb => by
    show ∀ x ∈ cutB most many oss (q :: rr) ((longer bs os q most).take many), _
    have e : j + (os :: oss).length = (j + 1) + oss.length := by rw [List.length_cons]; omega
    rw [e]
    refine good_cut hf (by simpa using h) (fun n os' h' => ?_) (fun y hy => ?_)
    · have := hs (n + 1) os' (by simpa using h')
      rw [this]
      congr 1
      omega
    · have hy := List.mem_of_mem_take hy
      unfold longer lon1 at hy
      obtain ⟨x, hx, hy⟩ := List.mem_flatMap.mp hy
      obtain ⟨o, ho, rfl⟩ := List.mem_map.mp hy
      obtain ⟨k1, k2⟩ := List.mem_filter.mp ho
      have k2 := of_decide_eq_true k2
      refine good_step hf (hb x hx) ?_ k2.1
      have := hs 0 os rfl
      rw [Nat.add_zero] at this
      rw [← this]; exact k1
theorem stepsC_get {f : Int → Option Str} {l t ax wx : Int} {n i : Nat} {os : List Sp3} (h : (stepsC f l t ax wx n)[i]? = some os) : os = optsC f l t ax wx i := by
  unfold stepsC at h
  rw [List.getElem?_map] at h
  cases e : (List.range n)[i]? with
  | none => rw [e] at h; cases h
  | some j =>
    rw [e] at h
    have hi : i < n := by have := (List.getElem?_eq_some_iff.mp e).1; simpa using this
    rw [List.getElem?_range hi] at e
    cases e
    exact (Option.some.inj h).symm
/-- what the first story is -/
theorem fst_story {rs : List RowT} {l o t i wx : Int} {m : Nat} {ws : List Want} {ss : List (List Int)} (hf : ∀ m w, lk rs i m = some w → w = "in" ∨ w = "out") (tb : 0 ≤ t ∧ t ≤ 60) (ob : o ≤ 6) (hm1 : 1 ≤ m) (hm2 : (m : Int) ≤ t) (h : Fst rs l o t i m ws wx ss) :
    (∃ v, LeastW (stepsC (lk rs i) l t (m : Int) wx t.toNat) v ∧ (ss = [] ↔ o - ((others i ws).length : Int) < v)) ∧ ∀ s ∈ ss, ∃ (st : List Bool) (b : Bool) (c : Nat), st.length = t.toNat ∧ s = st.map nI ∧ pF (lk rs i) l t st = some (b, c) ∧ (c : Int) ≤ o - ((others i ws).length : Int) ∧ (∃ b', st[m - 1]? = some b' ∧ nI b' = wx) := by
  obtain ⟨rr, hR, e⟩ := h
  rw [through_eq hm1 (by omega)] at hR e
  generalize hmo : o - ((others i ws).length : Int) = most at e
  have hmost : most < 1000 := by omega
  have ok := ok_stepsC (lk rs i) l t (m : Int) wx t.toNat
  have hlen := stepsC_len (f := lk rs i) (l := l) (t := t) (at' := (m : Int)) (wd := wx) (n := t.toNat)
  have hne : stepsC (lk rs i) l t (m : Int) wx t.toNat ≠ [] := fun z => by rw [z] at hlen; simp at hlen; omega
  cases rr with
  | nil => have := hR.len; simp at this
  | cons r rr =>
    have hi := first_iff (many := 1) hmost (Nat.le_refl _) hne hR ok
    rw [← e] at hi
    refine ⟨⟨r.1, ⟨r, rr, hR, rfl⟩, hi⟩, fun s hs => ?_⟩
    have hle : r.1 ≤ most := by
      by_cases hlt : most < r.1
      · rw [hi.mpr hlt] at hs; cases hs
      · omega
    rw [e] at hs
    unfold firstS at hs
    obtain ⟨x, hx, rfl⟩ := List.mem_map.mp hs
    have hp := cut_price (many := 1) hR ok (fun y hy => by rw [List.mem_singleton.mp hy]; exact ⟨.inl rfl, by show 0 + r.1 ≤ most; omega, Int.le_refl _⟩) x hx
    obtain ⟨st, b, c, g1, g2, g3, g4, g5, g6⟩ := good_cut (f := lk rs i) (l := l) (t := t) (ax := (m : Int)) (wx := wx) (j := 0) (many := 1) (most := most) hf hR.len (fun n os h => by rw [Nat.zero_add]; exact stepsC_get h) (fun y hy => by
      rw [List.mem_singleton.mp hy]
      exact ⟨[], false, 0, rfl, rfl, rfl, rfl, rfl, fun q b' h => by simp at h⟩) x hx
    rw [Nat.zero_add, hlen] at g1
    have hml : m - 1 < st.length := by omega
    refine ⟨st, b, c, g1, g2, g3, by omega, st[m - 1], List.getElem?_eq_getElem hml, g6 (m - 1) _ (List.getElem?_eq_getElem hml) (by omega)⟩
/-! ### the wants of one badge and of the others -/
theorem wU_own {f : Int → Option Str} {l t i : Int} : ∀ (j : Nat), ∀ w ∈ (wU f l t i j).1, w.1.1 = i
  | 0 => fun w h => (by cases h)
  | j + 1 => by
    have ih := wU_own (f := f) (l := l) (t := t) (i := i) j
    show ∀ w ∈ (match f ((j : Int) + 1) with | none => wU f l t i j | some w => ((wU f l t i j).1 ++ stepW l t (wU f l t i j).2 ((i, (j : Int) + 1), w), ((j : Int) + 1, w))).1, _
    cases f ((j : Int) + 1) with
    | none => exact ih
    | some wd =>
      intro w hw
      rcases List.mem_append.mp hw with hw | hw
      · exact ih w hw
      · unfold stepW at hw
        split at hw
        · split at hw
          · rw [List.mem_singleton.mp hw]
          · cases hw
        · cases hw
theorem others_wA {g : Int → Int → Option Str} {l t : Int} {n : Nat} {i : Nat} : ∀ {b : Nat}, ((others (i : Int) (wA g l t n b)).length : Int) = ((wA g l t n b).length : Int) - (if i < b then ((wU (g (i : Int)) l t (i : Int) n).1.length : Int) else 0)
  | 0 => by rfl
  | b + 1 => by
    have ih := others_wA (g := g) (l := l) (t := t) (n := n) (i := i) (b := b)
    have e : others (i : Int) (wA g l t n (b + 1)) = others (i : Int) (wA g l t n b) ++ others (i : Int) (wU (g (b : Int)) l t (b : Int) n).1 := List.filter_append ..
    have e2 : wA g l t n (b + 1) = wA g l t n b ++ (wU (g (b : Int)) l t (b : Int) n).1 := rfl
    rw [e, e2, List.length_append, List.length_append]
    by_cases hb : i = b
    · subst hb
      have z : others (i : Int) (wU (g (i : Int)) l t (i : Int) n).1 = [] := List.filter_eq_nil_iff.mpr fun w hw => by simp [wU_own n w hw]
      rw [z, if_pos (by omega)]
      rw [if_neg (by omega)] at ih
      simp only [List.length_nil]
      omega
    · have z : others (i : Int) (wU (g (b : Int)) l t (b : Int) n).1 = (wU (g (b : Int)) l t (b : Int) n).1 := List.filter_eq_self.mpr fun w hw => by
        rw [wU_own n w hw]
        simp
        omega
      rw [z]
      by_cases hi : i < b
      · rw [if_pos hi] at ih
        rw [if_pos (by omega)]
        omega
      · rw [if_neg hi] at ih
        rw [if_neg (by omega)]
        omega
theorem wA_twI {rs : List RowT} {l t : Int} {n : Nat} {i : Nat} : ∀ {b : Nat}, i < b → tw (wU (lk rs (i : Int)) l t (i : Int) n).1 → tw (wA (lk rs) l t n b)
  | 0, h, _ => by omega
  | b + 1, h, z => by
    show ("twice" : Str) ∈ (wA (lk rs) l t n b ++ (wU (lk rs (b : Int)) l t (b : Int) n).1).map (·.2)
    rw [List.map_append, List.mem_append]
    by_cases hb : i < b
    · exact .inl (wA_twI hb z)
    · have : i = b := by omega
      subst this
      exact .inr z
/-- in a sound house one state at least is had -/
theorem fst_some {rs : List RowT} {l o t : Int} {i n m : Nat} {ss0 ss1 : List (List Int)} (hf : ∀ (i : Int) m w, lk rs i m = some w → w = "in" ∨ w = "out") (tb : 0 ≤ t ∧ t ≤ 60) (ob : o ≤ 6) (hin : i < n) (hm1 : 1 ≤ m) (hm2 : (m : Int) ≤ t) (sd : soundW o (wA (lk rs) l t t.toNat n) = true)
    (h0 : Fst rs l o t (i : Int) m (wA (lk rs) l t t.toNat n) 0 ss0) (h1 : Fst rs l o t (i : Int) m (wA (lk rs) l t t.toNat n) 1 ss1) : ss0 ≠ [] ∨ ss1 ≠ [] := by
  obtain ⟨⟨v0, l0, i0⟩, _⟩ := fst_story (hf i) tb ob hm1 hm2 h0
  obtain ⟨⟨v1, l1, i1⟩, _⟩ := fst_story (hf i) tb ob hm1 hm2 h1
  have nt : ¬ tw (wU (lk rs (i : Int)) l t (i : Int) t.toNat).1 := fun z => by
    have z2 := wA_twI (rs := rs) (l := l) (t := t) (n := t.toNat) hin z
    unfold soundW at sd
    rw [decide_eq_true (show ("twice" : Str) ∈ (wA (lk rs) l t t.toNat n).map (·.2) from z2)] at sd
    simp at sd
  have hW : ((wA (lk rs) l t t.toNat n).length : Int) ≤ o := by
    unfold soundW at sd
    exact of_decide_eq_true (Bool.and_eq_true _ _ ▸ sd).2
  have hoth := others_wA (g := lk rs) (l := l) (t := t) (n := t.toNat) (i := i) (b := n)
  rw [if_pos hin] at hoth
  -- the cheapest story of all
  have A := at_all (l := l) (t := t) (i := (i : Int)) (hf i) t.toNat
  obtain ⟨st, g1, g2⟩ := A.h1 nt
  have p1 := (path_story (wx := 0) (hf i)).mpr ⟨st, _, _, g1, g2, rfl, rfl⟩
  have q0 := (least_path (ok_stepsC _ _ _ _ _ _) l0).1
  have q1 := (least_path (ok_stepsC _ _ _ _ _ _) l1).1
  rcases path_split hm1 (by omega) p1 with hp | hp
  · have := q0 _ _ hp
    refine .inl fun z => ?_
    have := i0.mp z
    omega
  · have := q1 _ _ hp
    refine .inr fun z => ?_
    have := i1.mp z
    omega
end Ho
set_option Elab.async false
set_option linter.all false
set_option maxRecDepth 100000
set_option maxHeartbeats 4000000
namespace L2
open PySem PySem.Spec PyProof.Rows
theorem Top1.okN3 {P : Program} {w : World} {K : PySem.W.Frag} {mg : Str → Option Value} {base : Heap} {x qual : Str} {st : Stmt} {f : Addr} {N ps : List Str} {k : Nat} {sp : Sp} (F : Top1 K x qual st f ps) (S : FnScope N ps (defScope st)) (len : ∀ vs H Q E, sp vs H Q E → vs.length = ps.length)
    (hbody : ∀ (cdv : Value) (A : Around) (outer : List Env) (s : Shared) (H : Hp) (vs : List V) (Q : VK) (E : XK), Room k (A.deeper (envOfC qual (defScope st) s.heap.objs.size f cdv)) → sp vs H Q E →
      ∃ t, PSs (cxOf (CXe P w) P w K mg base N qual (defScope st) f cdv A outer s H E).nox (defBody st) t ∧ t { nx := fun _ H' => Q .non H', rt := Q } (start N vs) H) : ∃ fd, FnOk P w K mg base (CXe P w) (k + 1) f fd ps sp ∧ Binds K fd ps [] ∧ ∃ o, K.lookup f = some o ∧ o.data = .func fd := by
  obtain ⟨fd, F1, b⟩ := F.ok
  obtain ⟨oc, od, kV, doc, pm, an, cdv, ct, osl, rfl, lk, hcd⟩ := F1.ex
  refine ⟨_, fn_of lk hcd S len fun A outer s H vs Q E hr hsp => ?_, b, _, lk, rfl⟩
  obtain ⟨t, h, q⟩ := hbody cdv A outer s H vs Q E hr hsp
  exact ⟨t, h.nox, q⟩
theorem tIf_val {tA : TT} {ta tb : TE} {σ : St} {H : Hp} {Q : VK} (x : V) (h : ∀ Q' : VK, Q' x H → tIf tA ta tb σ H Q') (q : Q x H) : tIf tA ta tb σ H Q := h Q q
end L2
namespace Ho
open PySem L2
theorem But.ext {P : Addr} {H H' : Hp} (s : But P H H') : Ext [P] H H' := fun b o e n => s b o (fun z => n (by rw [z]; simp)) e
theorem kind_gtab {H : Hp} {P : Addr} (g : GTab H P) : Kinds H [P] [5] := fun x hx => by
  obtain ⟨ps, h, _⟩ := g
  rw [List.mem_singleton.mp hx]
  exact ⟨_, h, by simp [kd]⟩
/-- what stands through a turn of the law -/
structure St5 (K : PySem.W.Frag) (C PT a : Addr) (ns : List Int) (r p d m qk : Addr) (ds : List Addr) (l o t : Int) (rs : List RowT) (H : Hp) : Prop where
  R : Rw K a ns H r
  B : Built C H p d m qk ds l o t rs
  G : GTab H PT
section
variable {K : PySem.W.Frag} {C PT a : Addr} {ns : List Int} {r p d m qk : Addr} {ds : List Addr} {l o t : Int} {rs : List RowT} {H H' : Hp}
theorem St5.same (h : St5 K C PT a ns r p d m qk ds l o t rs H) (s : Same H H') : St5 K C PT a ns r p d m qk ds l o t rs H' := ⟨h.R.same s, h.B.same s, h.G.same s⟩
theorem St5.but (h : St5 K C PT a ns r p d m qk ds l o t rs H) (s : But PT H H') (g : GTab H' PT) : St5 K C PT a ns r p d m qk ds l o t rs H' :=
  ⟨h.R.kx s.ext (kind_gtab h.G) (by decide) (by decide), ⟨h.B.S.kx s.ext (kind_gtab h.G) (by decide) (by decide), h.B.M.kx s.ext (kind_gtab h.G) (by decide) (by decide), h.B.mo, h.B.ln⟩, g⟩
end
def sp_law (K : PySem.W.Frag) (PT : Addr) : Sp := fun vs H Q _ => ∃ (a : Addr) (ns : List Int), vs = [.ref a] ∧ SqL K H a (ns.map V.int) ∧ ns.length ≤ 1000 ∧ GTab H PT ∧ ∀ H', Q (.bl true) H'
def NLw : List Str := ["_law_script", "_law_row", "_law_turn", "_law_house", "_law_m", "_law_badge", "_law_others", "_law_want", "_law_moment", "_law_some", "_law_k", "_law_told"]
theorem sc_law : FnScope NLw ["_law_script"] (defScope s_law) := ⟨rfl, rfl, rfl, by decide +kernel, rfl, by decide +kernel, by decide +kernel⟩
section
variable {P : Program} {w : World} {K : PySem.W.Frag} {mg : Str → Option Value} {base : Heap} {k : Nat} {f C aW cBH cBR cBT PT : Addr}
theorem ok_law (F : Top1 K "law" "law" s_law f ["_law_script"]) (T : HouseT K mg C aW cBH cBR cBT) (G_built0 : ∀ a ns, Fn P w K mg base k "_law_built" ["_law_row", "_law_badges", "_law_most"] (sp_built K C a ns))
    (G_lsound : Fn P w K mg base k "_law_is_sound" ["_law_m"] sp_lsound) (G_lwants : Fn P w K mg base k "_law_wants" ["_law_m"] sp_lwants) (G_least : Fn P w K mg base k "_law_least" ["_law_m", "_law_badge", "_law_at", "_law_wanted"] sp_l_least)
    (G_alike : Fn P w K mg base k "_law_alike" ["_law_found", "_law_due"] (sp_alike 0)) (G_story : Fn P w K mg base k "_law_is_story" ["_law_m", "_law_badge", "_law_story", "_law_moment", "_law_state"] sp_l_is_story)
    (G_inside : Fn P w K mg base k "inside" ["house", "badge", "moment"] (sp_inside C PT)) (G_two : Fn P w K mg base k "two" ["house", "badge", "moment"] (sp_two C PT)) :
    ∃ fd, FnOk P w K mg base (CXe P w) (k + 1) f fd ["_law_script"] (sp_law K PT) ∧ Binds K fd ["_law_script"] [] ∧ ∃ o, K.lookup f = some o ∧ o.data = .func fd := by
  refine F.okN3 sc_law (fun vs H Q E h => ?_) (fun cdv A outer s H vs Q E hr h => ?_)
  · obtain ⟨_, _, rfl, _⟩ := h
    rfl
  · obtain ⟨a, ns, rfl, hS, hln, hG, kk⟩ := h
    have hu := hu_of hr
    have nd := sc_law.nd
    have G_built := G_built0 a ns
    refine ⟨_, (pss_cons (ps_set (i := 1) nd rfl (Or.inl rfl) (pe_lst (pa_cons (pv 0) (pa_cons pe_int (pa_cons pe_int (pa_cons pe_int pa_nil))))))
      (pss_cons (ps_for PassesOwn.never rfl (pi_range1 rfl T.b_range (pa_cons pe_int pa_nil)) (pg_name (i := 2) nd rfl (Or.inl rfl))
        (pss_cons (ps_asg (pcall G_built hr (by rfl) passN (pa_cons (pv 1) (pa_cons pe_int (pa_cons pe_int pa_nil)))) (pg_tup rfl (pgs_cons (pg_name (i := 3) nd rfl (Or.inl rfl)) (pgs_cons (pg_name (i := 4) nd rfl (Or.inr rfl)) pgs_nil))))
        (pss_one (ps_for PassesOwn.never rfl (pi_range1 rfl T.b_range (pa_cons (pe_op op_mul (pe_callB call_len_seq (by rfl) T.b_len PySem.boot_len (pa_cons (pe_dget hu (pv 4) pe_str (fun _ _ => rfl)) pa_nil)) (pe_callTy call_int1 (by rfl) T.b_int (by decide +kernel) (pa_cons (pcall G_lsound hr (by rfl) passN (pa_cons (pv 4) pa_nil)) pa_nil))) pa_nil)) (pg_name (i := 5) nd rfl (Or.inr rfl))
          (pss_cons (ps_set (i := 6) nd rfl (Or.inr rfl) (pe_callB call_len_seq (by rfl) T.b_len PySem.boot_len (pa_cons (pe_lc (own := [("_law_want", 7)]) (g := gName 7) (tt := tTest (tOp rNe (tOp (rIxT K) (tVar 7) (tC (.int 0))) (tVar 5))) (te := tVar 7) rfl nd (pi_list (pcall G_lwants hr (by rfl) passN (pa_cons (pv 4) pa_nil))) (blkOk_by (own := [("_law_want", 7)]) (N := NLw) (sc := defScope s_law) (by decide +kernel)) (fun _ _ _ _ _ => by exact (pg_name (i := 7) nd rfl (Or.inl rfl))) (fun _ _ _ _ _ => by exact (pts_one (pt_cmpR op_ne (pe_ix ix_tup (pv 7) pe_int (fun _ _ => rfl)) (pv 5) (nomark _)))) (fun _ _ _ _ _ => by exact (pv 7))) pa_nil)))
          (pss_one (ps_for PassesOwn.never rfl (pi_range2 rfl T.b_range (pa_cons pe_int (pa_cons (pe_op op_add (pe_dget hu (pv 4) pe_str (fun _ _ => rfl)) pe_int) pa_nil))) (pg_name (i := 8) nd rfl (Or.inr rfl))
            (pss_cons (ps_setLc (i := 9) (own := [("_law_k", 10)]) (g := gName 10) (tt := tTest (tOp (rI0 fun i j => .bl (decide (i ≤ j))) (tOp rAdd (tCall sp_l_least [] E0 (tCons (tVar 4) (tCons (tVar 5) (tCons (tVar 8) (tCons (tVar 10) tNil))))) (tVar 6)) (tDGet (tVar 4) (tC (.str "lost"))))) (te := tVar 10) rfl nd rfl rfl (sw_true rfl rfl rfl (by decide +kernel)) (pi_range1 rfl T.b_range (pa_cons pe_int pa_nil)) (blkOk_by (own := [("_law_k", 10)]) (N := NLw) (sc := defScope s_law) (by decide +kernel)) (fun _ _ _ _ _ => by exact (pg_name (i := 10) nd rfl (Or.inl rfl))) (fun _ _ _ _ _ => by exact (pts_one (pt_cmpR op_le (pe_op op_add (pcall G_least hr (by rfl) passN (pa_cons (pv 4) (pa_cons (pv 5) (pa_cons (pv 8) (pa_cons (pv 10) pa_nil))))) (pv 6)) (pe_dget hu (pv 4) pe_str (fun _ _ => rfl)) (nomark _)))) (fun _ _ _ _ _ => by exact (pv 10)))
            (pss_cons (ps_if (pt_not (pt_val (pcall G_alike hr (by rfl) passN (pa_cons (pcall G_inside hr (by rfl) passN (pa_cons (pv 3) (pa_cons (pv 5) (pa_cons (pv 8) pa_nil)))) (pa_cons (pe_ifExp (pt_cmpR op_eq (pe_callB call_len_seq (by rfl) T.b_len PySem.boot_len (pa_cons (pv 9) pa_nil)) pe_int (nomark _)) (pe_ix ix_list (pv 9) pe_int (fun _ _ => rfl)) pe_non) pa_nil))))) (pss_one (ps_ret pe_bl)) pss_nil)
            (pss_cons (ps_set (i := 11) nd rfl (Or.inl rfl) (pcall G_two hr (by rfl) passN (pa_cons (pv 3) (pa_cons (pv 5) (pa_cons (pv 8) pa_nil)))))
            (pss_cons (ps_if (PW.pt (pw_or (pt_cmpR op_ne (pe_cmp (pc_isN (pv 11)) rfl) (pe_cmpR op_eq (pe_callB call_len_seq (by rfl) T.b_len PySem.boot_len (pa_cons (pv 9) pa_nil)) pe_int (nomark _)) (nomark _)) (pw_or1 (PW.pt (pw_and (pt_cmp (pc_notN (pv 11))) (pw_and1 (pt_not (pt_val (pe_callB call_isi (by rfl) T.b_isinstance (by decide +kernel) (pa_cons (pv 11) (pa_cons (pe_bltn (by rfl) T.b_tuple (by decide +kernel) (v := .ty "tuple") rfl) pa_nil))))))))))) (pss_one (ps_ret pe_bl)) pss_nil)
            (pss_cons (ps_if (PW.pt (pw_and (pt_cmp (pc_notN (pv 11))) (pw_and1 (pt_cmpR op_ne (pe_callB call_len_seq (by rfl) T.b_len PySem.boot_len (pa_cons (pv 11) pa_nil)) pe_int (nomark _))))) (pss_one (ps_ret pe_bl)) pss_nil)
            (pss_cons (ps_if (PW.pt (pw_and (pt_cmp (pc_notN (pv 11))) (pw_and1 (pt_not (pt_val (pcall G_story hr (by rfl) passN (pa_cons (pv 4) (pa_cons (pv 5) (pa_cons (pe_ix ix_tup (pv 11) pe_int (fun _ _ => rfl)) (pa_cons (pv 8) (pa_cons pe_int pa_nil))))))))))) (pss_one (ps_ret pe_bl)) pss_nil)
            (pss_one (ps_if (PW.pt (pw_and (pt_cmp (pc_notN (pv 11))) (pw_and1 (pt_not (pt_val (pcall G_story hr (by rfl) passN (pa_cons (pv 4) (pa_cons (pv 5) (pa_cons (pe_ix ix_tup (pv 11) pe_int (fun _ _ => rfl)) (pa_cons (pv 8) (pa_cons pe_int pa_nil))))))))))) (pss_one (ps_ret pe_bl)) pss_nil)))))))))))))))
      (pss_one (ps_ret pe_bl)))), ?_⟩
    generalize hσ : start NLw _ = σ0
    have e0 : σ0 = [some (.ref a), none, none, none, none, none, none, none, none, none, none, none] := by rw [← hσ]; rfl
    clear hσ; subst e0
    refine ⟨_, rfl, (by show 4 ≤ sizeLine; decide), fun r hr0 => ?_⟩
    generalize hH1 : upd H r _ = H1
    have s1 : Same H H1 := by rw [← hH1]; exact (Ext.new (S := []) hr0).same
    have e1 : H1 r = some (.lst [.ref a, .int 0, .int 0, .int 0]) := by rw [← hH1]; exact upd_same
    clear hH1
    have R1 : Rw K a ns H1 r := ⟨⟨0, 0, 0, e1, by decide, by decide, by decide, by decide⟩, (Scr.of hS).same s1, hln⟩
    have G1 := hG.same s1
    refine ⟨_, rfl, (by decide), (by decide), ?_⟩
    refine for_range (n := 3) (fun j σ H2 => ∃ v2 v3 v4 v5 v6 v8 v9 v11, σ = [some (.ref a), some (.ref r), v2, v3, v4, v5, v6, none, v8, v9, none, v11] ∧ Rw K a ns H2 r ∧ GTab H2 PT) ⟨none, none, none, none, none, none, none, none, rfl, R1, G1⟩ ?_ ?_
    · rintro j σ H2 hj ⟨v2, v3, v4, v5, v6, v8, v9, v11, rfl, R2, G2⟩
      refine ⟨_, rfl, r, 6, 40, rfl, R2, (by decide), (by decide), (by decide), (by decide), fun H3 q3 p d m qk ds l o t rs R3 x3 hq3 B3 ht => ?_⟩
      have G3 : GTab H3 PT := by
        obtain ⟨ps, g1, g2⟩ := G2
        obtain ⟨_, _, _, h1, _⟩ := R2.st
        exact ⟨ps, x3 _ _ g1 (fun z => by rw [List.mem_singleton.mp z, h1] at g1; cases g1), g2⟩
      refine ⟨q3, _, rfl, SqT.of hq3, rfl, _, _, rfl, _, _, rfl, rfl, ?_⟩
      have b6 := B3.M.b6
      have tb := B3.M.tb
      have ob := B3.M.ob2
      have hsz : rs.length ≤ 900 := by have := B3.ln; omega
      have hf : ∀ (i : Int) m w, lk rs i m = some w → w = "in" ∨ w = "out" := fun i m w h => (B3.mo _ ((lk_some B3.M.kd).mp h)).2
      have X3 : St5 K C PT a ns r p d m qk ds l o t rs H3 := ⟨R3, B3, G3⟩
      refine ⟨_, rfl, m, _, rfl, g_known B3.M.ob, qk, _, rfl, .inl (SqL.of B3.M.kn), _, rfl, m, qk, ds, l, o, t, rs, rfl, B3.M, hsz, B3.mo, fun H4 rs4 s4 hS4 => .inr ⟨_, rfl, _, _, rfl, rfl, ?_⟩⟩
      have hrun := run_split (l := l) (t := t) (n := t.toNat) (b := ds.length) B3.M.kd hS4 (fun r hr => ⟨⟨(B3.M.rg r hr).1, (B3.M.rg r hr).2.1⟩, (B3.M.rg r hr).2.2.1, by have := (B3.mo r hr).1; omega⟩)
      have hll : ((ds.map V.ref).length : Int) = (ds.length : Int) := by rw [List.length_map]
      rw [hll]
      refine ⟨.inl ⟨by omega, by omega⟩, ?_⟩
      have X4 := X3.same s4
      generalize hsd : soundW o (runP l t rs4).1 = sd
      have hn : (ds.length : Int) * (if sd = true then 1 else 0) = if sd = true then (ds.length : Int) else 0 := by cases sd <;> simp
      refine ⟨_, rfl, (by show _ ≤ (ds.length : Int) * (if sd = true then 1 else 0); rw [hn]; cases sd <;> simp <;> omega), (by show (ds.length : Int) * (if sd = true then 1 else 0) < _; rw [hn]; cases sd <;> simp <;> omega), ?_⟩
      refine for_range (fun i σ H5 => ∃ v5 v6 v8 v9 v11, σ = [some (.ref a), some (.ref r), some (.int (0 + (j : Int))), some (.ref p), some (.ref m), v5, v6, none, v8, v9, none, v11] ∧ St5 K C PT a ns r p d m qk ds l o t rs H5) ⟨_, _, _, _, _, rfl, X4⟩ ?_ ?_
      · rintro i σ H5 hi ⟨v5, v6, v8, v9, v11, rfl, X5⟩
        have hi : i < ((ds.length : Int) * (if sd = true then 1 else 0)).toNat := hi
        rw [hn] at hi
        have hsdt : sd = true := by
          cases sd with
          | true => rfl
          | false => simp at hi
        subst hsdt
        have hil : i < ds.length := by simp at hi; omega
        rw [Int.zero_add]
        have hsound : ∀ rs', Srt rs' rs → soundW o (runP l t rs').1 = true := fun rs' h => by rw [h.uniq hS4]; exact hsd
        -- the others' wants
        refine ⟨_, rfl, m, qk, ds, l, o, t, rs, rfl, X5.B.M, hsz, B3.mo, fun H6 wq rs' s6 _ hS6 hW => ?_⟩
        obtain rfl := hS6.uniq hS4
        have X6 := X5.same s6
        have hrl : (runP l t rs').1.length ≤ 900 := Nat.le_trans (run_len rs') (Nat.le_trans (len_le hS6.1 fun r hr => (hS6.2 r).mp hr) hsz)
        obtain ⟨wqs, hwq, pwq⟩ := hW
        have hwl : wqs.length = (runP l t rs').1.length := Paired.length pwq
        refine ⟨wq, rfl, ⟨_, SqL.of hwq⟩, fun D hD => ?_⟩
        refine lc_list (K := K) (a := wq) (xs := wqs.map V.ref) (fun j H7 => Same H6 H7 ∧ ∃ zs : List Addr, H7 D = some (.lst (zs.map V.ref)) ∧ zs.length = (others (i : Int) ((runP l t rs').1.take j)).length ∧ zs.length ≤ j) ⟨(Ext.new (S := []) hD).same, [], upd_same, rfl, Nat.le_refl _⟩ (fun j H7 _ h => SqL.of (h.1 _ _ hwq)) ?_ ?_
        · rintro j y H7 hj ⟨s7, zs, hD7, hz1, hz2⟩
          rw [List.getElem?_map] at hj
          cases eq : wqs[j]? with
          | none => rw [eq] at hj; cases hj
          | some wa =>
            rw [eq] at hj
            cases hj
            have hlt : j < wqs.length := (List.getElem?_eq_some_iff.mp eq).1
            obtain ⟨wn, hwn, hwa⟩ := paired_at pwq eq
            refine ⟨rfl, ?_⟩
            refine ⟨_, rfl, wa, _, _, _, rfl, rfl, SqT.of (s7 _ _ hwa), rfl, _, rfl, rfl, _, rfl, ?_⟩
            have et : others (i : Int) ((runP l t rs').1.take (j + 1)) = others (i : Int) ((runP l t rs').1.take j) ++ (if wn.1.1 = (i : Int) then [] else [wn]) := by
              unfold others
              rw [List.take_succ, hwn, List.filter_append]
              congr 1
              by_cases h : wn.1.1 = (i : Int) <;> simp [h]
            rw [et, List.length_append]
            by_cases h : wn.1.1 = (i : Int)
            · rw [decide_eq_true (show V.int wn.1.1 = V.int (i : Int) by rw [h]), if_pos h]
              exact iteF ⟨s7, zs, hD7, by simpa using hz1, by omega⟩
            · rw [decide_eq_false (show ¬ V.int wn.1.1 = V.int (i : Int) from fun z => h (V.int.inj z)), if_neg h]
              refine iteT ⟨_, rfl, _, hD7, (by rw [List.length_map]; exact small1000 (by omega)), fun c oc hc => ?_, zs ++ [wa], ?_, ?_, ?_⟩
              · have nc : c ≠ D := fun z => by rw [z, hD] at hc; cases hc
                rw [upd_ne nc]; exact s7 _ _ hc
              · rw [upd_same, List.map_append]; rfl
              · rw [List.length_append, hz1]; rfl
              · rw [List.length_append]; simp only [List.length_cons, List.length_nil]; omega
        · rintro H7 ⟨s7, zs, hD7, hz1, hz2⟩
          rw [List.length_map, hwl, List.take_of_length_le (Nat.le_refl _)] at hz1
          have X7 := X6.same s7
          refine ⟨D, _, rfl, .inl (SqL.of hD7), ?_⟩
          rw [List.length_map, hz1]
          generalize hoth : ((others (i : Int) (runP l t rs').1).length : Int) = oth
          have hoth0 : 0 ≤ oth := by rw [← hoth]; exact Int.natCast_nonneg _
          refine ⟨_, rfl, m, _, rfl, g_time X7.B.M.ob, _, _, rfl, rfl, _, _, rfl, ⟨by decide, by decide, (by show _ ≤ t + 1; omega), (by show t + 1 < _; omega)⟩, ?_⟩
          refine for_range (lo := 1) (n := (t + 1 - 1).toNat) (fun q σ H8 => ∃ v8 v9 v11, σ = [some (.ref a), some (.ref r), some (.int (0 + (j : Int))), some (.ref p), some (.ref m), some (.int (i : Int)), some (.int oth), none, v8, v9, none, v11] ∧ St5 K C PT a ns r p d m qk ds l o t rs H8) ⟨_, _, _, rfl, X7⟩ ?_ ?_
          · rintro q σ H8 hq ⟨v8, v9, v11, rfl, X8⟩
            have emo : (1 : Int) + (q : Int) = ((q + 1 : Nat) : Int) := by omega
            rw [emo]
            generalize hmo : q + 1 = mo
            have hm1 : 1 ≤ mo := by omega
            have hm2 : (mo : Int) ≤ t := by omega
            have hn60 : t.toNat ≤ 60 := by omega
            -- which states are had
            generalize hokk : (fun kx : Int => decide (lLeast (lk rs (i : Int)) l t (mo : Int) kx t.toNat + oth ≤ o)) = okk
            have hfst : ∀ (kx : Int) ss, Fst rs l o t (i : Int) mo (runP l t rs').1 kx ss → (okk kx = true ↔ ss ≠ []) := fun kx ss h => by
              obtain ⟨⟨v, lv, iv⟩, _⟩ := fst_story (hf i) tb ob.2 hm1 hm2 h
              rw [hoth] at iv
              have hle := least_eq (hf i) hn60 lv
              rw [← hokk]
              show decide _ = true ↔ _
              rw [decide_eq_true_iff, Ne, iv]
              omega
            refine ⟨_, rfl, (by decide), (by decide), fun D2 hD2 => ?_⟩
            refine lc_range (n := 2) (fun y H9 => Same H8 H9 ∧ H9 D2 = some (.lst ((((List.range y).map fun x : Nat => (x : Int)).filter okk).map V.int))) ⟨(Ext.new (S := []) hD2).same, upd_same⟩ ?_ ?_
            · rintro y H9 hy ⟨s9, hD9⟩
              have X9 := X8.same s9
              rw [Int.zero_add]
              refine ⟨rfl, ?_⟩
              refine ⟨_, rfl, _, rfl, _, rfl, _, rfl, m, qk, ds, l, o, t, rs, i, (mo : Int), (y : Int), rfl, X9.B.M, hil, fun H10 s10 => ?_⟩
              have X10 := X9.same s10
              refine ⟨_, rfl, _, _, rfl, rfl, _, rfl, m, _, rfl, g_lost X10.B.M.ob, _, _, rfl, rfl, _, rfl, ?_⟩
              have ek : decide (lLeast (lk rs (i : Int)) l t (mo : Int) (y : Int) t.toNat + oth ≤ o) = okk (y : Int) := by rw [← hokk]
              rw [ek, List.range_succ, List.map_append, List.filter_append]
              have hfl : ((((List.range y).map fun x : Nat => (x : Int)).filter okk).map V.int).length ≤ 2 := by
                rw [List.length_map]
                refine Nat.le_trans (List.length_filter_le _ _) ?_
                rw [List.length_map, List.length_range]; omega
              cases hk : okk (y : Int) with
              | true =>
                refine iteT ⟨_, rfl, _, s10 _ _ hD9, (small1000 (by omega)), fun c oc hc => ?_, ?_⟩
                · have nc : c ≠ D2 := fun z => by rw [z, hD2] at hc; cases hc
                  rw [upd_ne nc]; exact s10 _ _ (s9 _ _ hc)
                · rw [upd_same]
                  simp [hk]
              | false =>
                refine iteF ⟨s9.trans s10, ?_⟩
                rw [s10 _ _ hD9]
                simp [hk]
            · rintro H9 ⟨s9, hD9⟩
              have X9 := X8.same s9
              have hr2 : ((List.range 2).map fun x : Nat => (x : Int)) = [0, 1] := rfl
              rw [hr2] at hD9
              generalize hks : [(0 : Int), 1].filter okk = ks at hD9
              -- inside
              refine ⟨_, rfl, _, rfl, _, rfl, p, d, (ds.length : Int), l, o, t, rs, (i : Int), mo, ⟨rfl, X9.B.S, hsz, by omega, by omega, hm1, hm2, hsound, X9.G⟩, fun H10 rs10 ss0 ss1 hB10 hG10 hS10 f0 f1 => ?_⟩
              obtain rfl := hS10.uniq hS6
              have X10 := X9.but hB10 hG10
              have nD : D2 ≠ PT := fun z => by
                obtain ⟨ps, g1, _⟩ := X9.G
                rw [← z, hD9] at g1; cases g1
              have hD10 := hB10 _ _ nD hD9
              have ho0 := hfst 0 ss0 f0
              have ho1 := hfst 1 ss1 f1
              have hsome : ss0 ≠ [] ∨ ss1 ≠ [] := by
                have := hsd
                rw [hrun] at f0 f1 this
                exact fst_some hf tb ob.2 hil hm1 hm2 this f0 f1
              refine tIf_val (insV ss0 ss1) (fun Q' q' => ?_) ?_
              · refine ⟨_, rfl, D2, _, rfl, .inl (SqL.of hD10), rfl, _, rfl, ?_⟩
                rw [List.length_map]
                cases h0 : okk 0 with
                | true =>
                  have n0 := ho0.mp h0
                  cases h1 : okk 1 with
                  | true =>
                    have n1 := ho1.mp h1
                    have e : ks = [0, 1] := by rw [← hks]; simp [h0, h1]
                    subst e
                    have ev : insV ss0 ss1 = .non := by unfold insV; rw [if_neg n0, if_neg n1]
                    rw [ev] at q'
                    exact iteF q'
                  | false =>
                    have n1 : ss1 = [] := Classical.byContradiction fun z => by rw [ho1.mpr z] at h1; cases h1
                    have e : ks = [0] := by rw [← hks]; simp [h0, h1]
                    subst e
                    have ev : insV ss0 ss1 = .int 0 := by unfold insV; rw [if_neg n0, if_pos n1]
                    rw [ev] at q'
                    exact iteT ⟨_, rfl, D2, _, _, _, rfl, rfl, SqL.of hD10, rfl, q'⟩
                | false =>
                  have n0 : ss0 = [] := Classical.byContradiction fun z => by rw [ho0.mpr z] at h0; cases h0
                  have n1 : ss1 ≠ [] := hsome.resolve_left fun z => z n0
                  have h1 := ho1.mpr n1
                  have e : ks = [1] := by rw [← hks]; simp [h0, h1]
                  subst e
                  have ev : insV ss0 ss1 = .int 1 := by unfold insV; rw [if_pos n0]
                  rw [ev] at q'
                  exact iteT ⟨_, rfl, D2, _, _, _, rfl, rfl, SqL.of hD10, rfl, q'⟩
              have flat : insV ss0 ss1 = .non ∨ (∃ b, insV ss0 ss1 = .bl b) ∨ (∃ i, insV ss0 ss1 = .int i) ∨ ∃ s, insV ss0 ss1 = .str s := by
                unfold insV
                split
                · exact .inr (.inr (.inl ⟨_, rfl⟩))
                · split
                  · exact .inr (.inr (.inl ⟨_, rfl⟩))
                  · exact .inl rfl
              refine ⟨_, _, rfl, ⟨rfl, flat⟩, fun H11 s11 => ⟨_, rfl, ?_⟩⟩
              refine iteF ?_
              have X11 := X10.same s11
              have hD11 := s11 _ _ hD10
              -- two
              refine ⟨_, rfl, _, rfl, _, rfl, p, d, (ds.length : Int), l, o, t, rs, (i : Int), mo, ⟨rfl, X11.B.S, hsz, by omega, by omega, hm1, hm2, hsound, X11.G⟩, fun H12 rs12 tt0 tt1 hB12 hG12 hS12 g0 g1 => ?_⟩
              obtain rfl := hS12.uniq hS6
              have X12 := X11.but hB12 hG12
              have hD12 := hB12 _ _ nD hD11
              have hp0 := hfst 0 tt0 g0
              have hp1 := hfst 1 tt1 g1
              refine ⟨fun hnone => ?_, fun tq a0 a1 u0 u1 w0 w1 e0 e1 _ htq ha0 ha1 => ?_⟩
              · have hk1 : (ks.map V.int).length = 1 := by
                  rw [List.length_map, ← hks]
                  have hs2 : okk 0 = true ∨ okk 1 = true := hsome.imp ho0.mpr ho1.mpr
                  have hn2 : ¬ (okk 0 = true ∧ okk 1 = true) := fun z => by
                    rcases hnone with z0 | z1
                    · exact hp0.mp z.1 z0
                    · exact hp1.mp z.2 z1
                  cases h0 : okk 0 with
                  | true =>
                    cases h1 : okk 1 with
                    | true => exact (hn2 ⟨h0, h1⟩).elim
                    | false => simp [h0, h1]
                  | false =>
                    cases h1 : okk 1 with
                    | true => simp [h0, h1]
                    | false =>
                      rcases hs2 with z | z
                      · rw [h0] at z; cases z
                      · rw [h1] at z; cases z
                refine ⟨_, rfl, _, rfl, D2, _, rfl, .inl (SqL.of hD12), rfl, rfl, _, rfl, ?_⟩
                rw [hk1]
                refine iteF ⟨_, rfl, _, rfl, ?_⟩
                refine iteF ?_
                refine iteF ?_
                refine ⟨_, rfl, _, rfl, ?_⟩
                refine iteF ?_
                refine iteF ?_
                refine ⟨_, rfl, _, rfl, ?_⟩
                refine iteF ?_
                refine iteF ?_
                refine ⟨_, rfl, _, rfl, ?_⟩
                refine iteF ?_
                refine iteF ?_
                exact ⟨_, _, _, rfl, X12⟩
              · have n0 : tt0 ≠ [] := by rw [e0]; exact List.cons_ne_nil _ _
                have n1 : tt1 ≠ [] := by rw [e1]; exact List.cons_ne_nil _ _
                have hk2 : (ks.map V.int).length = 2 := by
                  rw [List.length_map, ← hks]
                  have h0 := hp0.mpr n0
                  have h1 := hp1.mpr n1
                  simp [h0, h1]
                obtain ⟨_, st0⟩ := fst_story (hf i) tb ob.2 hm1 hm2 g0
                obtain ⟨_, st1⟩ := fst_story (hf i) tb ob.2 hm1 hm2 g1
                obtain ⟨st, b, c, k1, k2, k3, k4, k5⟩ := st0 u0 (by rw [e0]; exact List.mem_cons_self ..)
                obtain ⟨st', b', c', k1', k2', k3', k4', k5'⟩ := st1 u1 (by rw [e1]; exact List.mem_cons_self ..)
                rw [hoth] at k4 k4'
                have hle0 : ∀ rs'', Srt rs'' rs → (c : Int) + ((others (i : Int) (runP l t rs'').1).length : Int) ≤ o := fun rs'' h => by
                  rw [h.uniq hS6, hoth]; omega
                have hle1 : ∀ rs'', Srt rs'' rs → (c' : Int) + ((others (i : Int) (runP l t rs'').1).length : Int) ≤ o := fun rs'' h => by
                  rw [h.uniq hS6, hoth]; omega
                refine ⟨_, rfl, _, rfl, D2, _, rfl, .inl (SqL.of hD12), rfl, rfl, _, rfl, ?_⟩
                rw [hk2]
                refine iteF ⟨_, rfl, _, rfl, ?_⟩
                refine iteT ⟨_, rfl, _, _, _, _, rfl, .inl (.tup htq), kt_rel kt_tt, _, rfl, ?_⟩
                refine iteF ?_
                refine ⟨_, rfl, _, rfl, ?_⟩
                refine iteT ⟨_, rfl, tq, _, rfl, .inr (SqT.of htq), rfl, _, rfl, ?_⟩
                refine iteF ?_
                refine ⟨_, rfl, _, rfl, ?_⟩
                refine iteT ⟨_, rfl, _, rfl, _, rfl, tq, _, _, _, rfl, rfl, SqT.of htq, rfl, _, rfl, m, qk, ds, l, o, t, rs, i, a0, st, mo, 0, b, c, rfl, X12.B.M, hil, hsz, B3.mo, (by rw [ha0, k2]; rfl), k1, hm1, hm2, k5, k3, hle0, fun H13 s13 => ⟨_, rfl, ?_⟩⟩
                refine iteF ?_
                have X13 := X12.same s13
                refine ⟨_, rfl, _, rfl, ?_⟩
                refine iteT ⟨_, rfl, _, rfl, _, rfl, tq, _, _, _, rfl, rfl, SqT.of (s13 _ _ htq), rfl, _, rfl, m, qk, ds, l, o, t, rs, i, a1, st', mo, 1, b', c', rfl, X13.B.M, hil, hsz, B3.mo, (by rw [s13 _ _ ha1, k2']; rfl), k1', hm1, hm2, k5', k3', hle1, fun H14 s14 => ⟨_, rfl, ?_⟩⟩
                refine iteF ?_
                exact ⟨_, _, _, rfl, X13.same s14⟩
          · rintro σ H8 ⟨v8, v9, v11, rfl, X8⟩
            exact ⟨_, _, _, _, _, rfl, X8⟩
      · rintro σ H5 ⟨v5, v6, v8, v9, v11, rfl, X5⟩
        exact ⟨_, _, _, _, _, _, _, _, rfl, X5.R, X5.G⟩
    · rintro σ H2 _
      exact kk H2
end
end Ho
set_option Elab.async false
set_option linter.all false
set_option maxRecDepth 100000
set_option maxHeartbeats 4000000
namespace Ho
open PySem PyProof.Rows L2
def sp_end (K : PySem.W.Frag) : List (Addr × Addr) → Sp
  | [(_, PT)] => sp_law K PT
  | _ => fun _ _ _ _ => True
theorem all_mk {l : PySem.W.OpenLaw} {q : Program} {w : World} {K : PySem.W.Frag} {h : Heap} {mg : Str → Option Value} {fa C aW cBH cBR cBT cW PT f0 f1 f2 f3 f4 f5 f6 f7 f8 f9 f10 f11 f12 f13 f14 f15 f16 f17 f18 f19 f20 f21 f22 f23 f24 f25 f26 f27 f28 f29 f30 f31 f32 f33 f34 f35 f36 f37 f38 : Addr} (X : K.In h) (G : h.Ns mainGlobals mg) (hfa : mg "law" = some (.ref fa))
    {oc0 kV0 dc0 pm0 cd0 ct0 : Value} {od0 an0 : Option Addr} {sl0 : Array (Option Value)}
    {oc1 kV1 dc1 pm1 cd1 ct1 : Value} {od1 an1 : Option Addr} {sl1 : Array (Option Value)}
    {oc2 kV2 dc2 pm2 cd2 ct2 : Value} {od2 an2 : Option Addr} {sl2 : Array (Option Value)}
    {oc3 kV3 dc3 pm3 cd3 ct3 : Value} {od3 an3 : Option Addr} {sl3 : Array (Option Value)}
    {oc4 kV4 dc4 pm4 cd4 ct4 : Value} {od4 an4 : Option Addr} {sl4 : Array (Option Value)}
    {oc5 kV5 dc5 pm5 cd5 ct5 : Value} {od5 an5 : Option Addr} {sl5 : Array (Option Value)}
    {oc6 kV6 dc6 pm6 cd6 ct6 : Value} {od6 an6 : Option Addr} {sl6 : Array (Option Value)}
    {oc7 kV7 dc7 pm7 cd7 ct7 : Value} {od7 an7 : Option Addr} {sl7 : Array (Option Value)}
    {oc8 kV8 dc8 pm8 cd8 ct8 : Value} {od8 an8 : Option Addr} {sl8 : Array (Option Value)}
    {oc9 kV9 dc9 pm9 cd9 ct9 : Value} {od9 an9 : Option Addr} {sl9 : Array (Option Value)}
    {oc10 kV10 dc10 pm10 cd10 ct10 : Value} {od10 an10 : Option Addr} {sl10 : Array (Option Value)}
    {oc11 kV11 dc11 pm11 cd11 ct11 : Value} {od11 an11 : Option Addr} {sl11 : Array (Option Value)}
    {oc12 kV12 dc12 pm12 cd12 ct12 : Value} {od12 an12 : Option Addr} {sl12 : Array (Option Value)}
    {oc13 kV13 dc13 pm13 cd13 ct13 : Value} {od13 an13 : Option Addr} {sl13 : Array (Option Value)}
    {oc14 kV14 dc14 pm14 cd14 ct14 : Value} {od14 an14 : Option Addr} {sl14 : Array (Option Value)}
    {oc15 kV15 dc15 pm15 cd15 ct15 : Value} {od15 an15 : Option Addr} {sl15 : Array (Option Value)}
    {oc16 kV16 dc16 pm16 ct16 : Value} {od16 an16 : Option Addr} {sl16 : Array (Option Value)}
    {oc17 kV17 dc17 pm17 cd17 ct17 : Value} {od17 an17 : Option Addr} {sl17 : Array (Option Value)}
    {oc18 kV18 dc18 pm18 cd18 ct18 : Value} {od18 an18 : Option Addr} {sl18 : Array (Option Value)}
    {oc19 kV19 dc19 pm19 cd19 ct19 : Value} {od19 an19 : Option Addr} {sl19 : Array (Option Value)}
    {oc20 kV20 dc20 pm20 cd20 ct20 : Value} {od20 an20 : Option Addr} {sl20 : Array (Option Value)}
    {oc21 kV21 dc21 pm21 cd21 ct21 : Value} {od21 an21 : Option Addr} {sl21 : Array (Option Value)}
    {oc22 kV22 dc22 pm22 cd22 ct22 : Value} {od22 an22 : Option Addr} {sl22 : Array (Option Value)}
    {oc23 kV23 dc23 pm23 cd23 ct23 : Value} {od23 an23 : Option Addr} {sl23 : Array (Option Value)}
    {oc24 kV24 dc24 pm24 cd24 ct24 : Value} {od24 an24 : Option Addr} {sl24 : Array (Option Value)}
    {oc25 kV25 dc25 pm25 cd25 ct25 : Value} {od25 an25 : Option Addr} {sl25 : Array (Option Value)}
    {oc26 kV26 dc26 pm26 cd26 ct26 : Value} {od26 an26 : Option Addr} {sl26 : Array (Option Value)}
    {oc27 kV27 dc27 pm27 cd27 ct27 : Value} {od27 an27 : Option Addr} {sl27 : Array (Option Value)}
    {oc28 kV28 dc28 pm28 cd28 ct28 : Value} {od28 an28 : Option Addr} {sl28 : Array (Option Value)}
    {oc29 kV29 dc29 pm29 cd29 ct29 : Value} {od29 an29 : Option Addr} {sl29 : Array (Option Value)}
    {oc30 kV30 dc30 pm30 cd30 ct30 : Value} {od30 an30 : Option Addr} {sl30 : Array (Option Value)}
    {oc31 kV31 dc31 pm31 cd31 ct31 : Value} {od31 an31 : Option Addr} {sl31 : Array (Option Value)}
    {oc32 kV32 dc32 pm32 cd32 ct32 : Value} {od32 an32 : Option Addr} {sl32 : Array (Option Value)}
    {oc33 kV33 dc33 pm33 cd33 ct33 : Value} {od33 an33 : Option Addr} {sl33 : Array (Option Value)}
    {oc34 kV34 dc34 pm34 cd34 ct34 : Value} {od34 an34 : Option Addr} {sl34 : Array (Option Value)}
    {oc35 kV35 dc35 pm35 cd35 ct35 : Value} {od35 an35 : Option Addr} {sl35 : Array (Option Value)}
    {oc36 kV36 dc36 pm36 cd36 ct36 : Value} {od36 an36 : Option Addr} {sl36 : Array (Option Value)}
    {oc37 kV37 dc37 pm37 cd37 ct37 : Value} {od37 an37 : Option Addr} {sl37 : Array (Option Value)}
    {oc38 kV38 dc38 pm38 cd38 ct38 : Value} {od38 an38 : Option Addr} {sl38 : Array (Option Value)}
    {tI0 : Tok}
    {tI1 : Tok}
    {tI2 : Tok}
    {tI3 : Tok}
    {tI4 : Tok}
    {tw1 tw2 : Tok} {nW : Nat} {odW : Option Addr} {slW : Array (Option Value)}
    {uW : Value} {vW : Option Addr} {wW : Array Value} {yW : Array (Option Value)}
    (r2 : ∃ e, (recsOf q).find? (fun e => e.name == ("stories_through" : Str)) = some e)
    (aC : PySem.W.nsIn K mainGlobals "House" = some (some (.ref C)))
    (a0 : PySem.W.nsIn K mainGlobals "wants_among" = some (some (.ref f0)))
    (l0 : K.lookup f0 = some ⟨oc0, od0, .func (PySem.W.fnOf "wants_among" "wants_among" (defArgs s_wants) (defBody s_wants) (defScope s_wants) .none kV0 dc0 pm0 an0 cd0 ct0), sl0⟩)
    (c0 : PySem.W.codeIn K cd0 "wants_among" = true)
    (k0 : PySem.W.keepIn K (.ref f0) = true)
    (a1 : PySem.W.nsIn K mainGlobals "fault_between" = some (some (.ref f1)))
    (l1 : K.lookup f1 = some ⟨oc1, od1, .func (PySem.W.fnOf "fault_between" "fault_between" (defArgs s_fault) (defBody s_fault) (defScope s_fault) .none kV1 dc1 pm1 an1 cd1 ct1), sl1⟩)
    (c1 : PySem.W.codeIn K cd1 "fault_between" = true)
    (k1 : PySem.W.keepIn K (.ref f1) = true)
    (a2 : PySem.W.nsIn K mainGlobals "can_stand" = some (some (.ref f2)))
    (l2 : K.lookup f2 = some ⟨oc2, od2, .func (PySem.W.fnOf "can_stand" "can_stand" (defArgs s_stand) (defBody s_stand) (defScope s_stand) .none kV2 dc2 pm2 an2 cd2 ct2), sl2⟩)
    (c2 : PySem.W.codeIn K cd2 "can_stand" = true)
    (k2 : PySem.W.keepIn K (.ref f2) = true)
    (a3 : PySem.W.nsIn K mainGlobals "wants" = some (some (.ref f3)))
    (l3 : K.lookup f3 = some ⟨oc3, od3, .func (PySem.W.fnOf "wants" "wants" (defArgs s_wwants) (defBody s_wwants) (defScope s_wwants) .none kV3 dc3 pm3 an3 cd3 ct3), sl3⟩)
    (c3 : PySem.W.codeIn K cd3 "wants" = true)
    (k3 : PySem.W.keepIn K (.ref f3) = true)
    (a4 : PySem.W.nsIn K mainGlobals "is_sound" = some (some (.ref f4)))
    (l4 : K.lookup f4 = some ⟨oc4, od4, .func (PySem.W.fnOf "is_sound" "is_sound" (defArgs s_wsound) (defBody s_wsound) (defScope s_wsound) .none kV4 dc4 pm4 an4 cd4 ct4), sl4⟩)
    (c4 : PySem.W.codeIn K cd4 "is_sound" = true)
    (k4 : PySem.W.keepIn K (.ref f4) = true)
    (a5 : PySem.W.nsIn K mainGlobals "_law_taken" = some (some (.ref f5)))
    (l5 : K.lookup f5 = some ⟨oc5, od5, .func (PySem.W.fnOf "_law_taken" "_law_taken" (defArgs s_taken) (defBody s_taken) (defScope s_taken) .none kV5 dc5 pm5 an5 cd5 ct5), sl5⟩)
    (c5 : PySem.W.codeIn K cd5 "_law_taken" = true)
    (k5 : PySem.W.keepIn K (.ref f5) = true)
    (a6 : PySem.W.nsIn K mainGlobals "_law_alike" = some (some (.ref f6)))
    (l6 : K.lookup f6 = some ⟨oc6, od6, .func (PySem.W.fnOf "_law_alike" "_law_alike" (defArgs s_alike) (defBody s_alike) (defScope s_alike) .none kV6 dc6 pm6 an6 cd6 ct6), sl6⟩)
    (c6 : PySem.W.codeIn K cd6 "_law_alike" = true)
    (k6 : PySem.W.keepIn K (.ref f6) = true)
    (a7 : PySem.W.nsIn K mainGlobals "_law_deeds" = some (some (.ref f7)))
    (l7 : K.lookup f7 = some ⟨oc7, od7, .func (PySem.W.fnOf "_law_deeds" "_law_deeds" (defArgs s_deeds) (defBody s_deeds) (defScope s_deeds) .none kV7 dc7 pm7 an7 cd7 ct7), sl7⟩)
    (c7 : PySem.W.codeIn K cd7 "_law_deeds" = true)
    (k7 : PySem.W.keepIn K (.ref f7) = true)
    (a8 : PySem.W.nsIn K mainGlobals "_law_fresh" = some (some (.ref f8)))
    (l8 : K.lookup f8 = some ⟨oc8, od8, .func (PySem.W.fnOf "_law_fresh" "_law_fresh" (defArgs s_fresh) (defBody s_fresh) (defScope s_fresh) .none kV8 dc8 pm8 an8 cd8 ct8), sl8⟩)
    (c8 : PySem.W.codeIn K cd8 "_law_fresh" = true)
    (k8 : PySem.W.keepIn K (.ref f8) = true)
    (a9 : PySem.W.nsIn K mainGlobals "_law_do" = some (some (.ref f9)))
    (l9 : K.lookup f9 = some ⟨oc9, od9, .func (PySem.W.fnOf "_law_do" "_law_do" (defArgs s_do) (defBody s_do) (defScope s_do) .none kV9 dc9 pm9 an9 cd9 ct9), sl9⟩)
    (c9 : PySem.W.codeIn K cd9 "_law_do" = true)
    (k9 : PySem.W.keepIn K (.ref f9) = true)
    (a10 : PySem.W.nsIn K mainGlobals "_law_built" = some (some (.ref f10)))
    (l10 : K.lookup f10 = some ⟨oc10, od10, .func (PySem.W.fnOf "_law_built" "_law_built" (defArgs s_built) (defBody s_built) (defScope s_built) .none kV10 dc10 pm10 an10 cd10 ct10), sl10⟩)
    (c10 : PySem.W.codeIn K cd10 "_law_built" = true)
    (k10 : PySem.W.keepIn K (.ref f10) = true)
    (a11 : PySem.W.nsIn K mainGlobals "inside" = some (some (.ref f11)))
    (l11 : K.lookup f11 = some ⟨oc11, od11, .func (PySem.W.fnOf "inside" "inside" (defArgs s_inside) (defBody s_inside) (defScope s_inside) .none kV11 dc11 pm11 an11 cd11 ct11), sl11⟩)
    (c11 : PySem.W.codeIn K cd11 "inside" = true)
    (k11 : PySem.W.keepIn K (.ref f11) = true)
    (a12 : PySem.W.nsIn K mainGlobals "two" = some (some (.ref f12)))
    (l12 : K.lookup f12 = some ⟨oc12, od12, .func (PySem.W.fnOf "two" "two" (defArgs s_two) (defBody s_two) (defScope s_two) .none kV12 dc12 pm12 an12 cd12 ct12), sl12⟩)
    (c12 : PySem.W.codeIn K cd12 "two" = true)
    (k12 : PySem.W.keepIn K (.ref f12) = true)
    (a13 : PySem.W.nsIn K mainGlobals "check_badge" = some (some (.ref f13)))
    (l13 : K.lookup f13 = some ⟨oc13, od13, .func (PySem.W.fnOf "check_badge" "check_badge" (defArgs s_check_badge) (defBody s_check_badge) (defScope s_check_badge) .none kV13 dc13 pm13 an13 cd13 ct13), sl13⟩)
    (c13 : PySem.W.codeIn K cd13 "check_badge" = true)
    (k13 : PySem.W.keepIn K (.ref f13) = true)
    (a14 : PySem.W.nsIn K mainGlobals "check_moment" = some (some (.ref f14)))
    (l14 : K.lookup f14 = some ⟨oc14, od14, .func (PySem.W.fnOf "check_moment" "check_moment" (defArgs s_check_moment) (defBody s_check_moment) (defScope s_check_moment) .none kV14 dc14 pm14 an14 cd14 ct14), sl14⟩)
    (c14 : PySem.W.codeIn K cd14 "check_moment" = true)
    (k14 : PySem.W.keepIn K (.ref f14) = true)
    (a15 : PySem.W.nsIn K mainGlobals "check_sound" = some (some (.ref f15)))
    (l15 : K.lookup f15 = some ⟨oc15, od15, .func (PySem.W.fnOf "check_sound" "check_sound" (defArgs s_check_sound) (defBody s_check_sound) (defScope s_check_sound) .none kV15 dc15 pm15 an15 cd15 ct15), sl15⟩)
    (c15 : PySem.W.codeIn K cd15 "check_sound" = true)
    (k15 : PySem.W.keepIn K (.ref f15) = true)
    (a16 : PySem.W.nsIn K mainGlobals "stories_through" = some (some (.ref f16)))
    (l16 : K.lookup f16 = some ⟨oc16, od16, .func (PySem.W.fnOf "stories_through" "stories_through" (defArgs s_stories_through) (defBody s_stories_through) (defScope s_stories_through) .none kV16 dc16 pm16 an16 (.ref cW) ct16), sl16⟩)
    (c16 : PySem.W.codeIn K (.ref cW) "stories_through" = true)
    (k16 : PySem.W.keepIn K (.ref f16) = true)
    (a17 : PySem.W.nsIn K mainGlobals "price_left" = some (some (.ref f17)))
    (l17 : K.lookup f17 = some ⟨oc17, od17, .func (PySem.W.fnOf "price_left" "price_left" (defArgs s_price_left) (defBody s_price_left) (defScope s_price_left) .none kV17 dc17 pm17 an17 cd17 ct17), sl17⟩)
    (c17 : PySem.W.codeIn K cd17 "price_left" = true)
    (k17 : PySem.W.keepIn K (.ref f17) = true)
    (a18 : PySem.W.nsIn K mainGlobals "steps_of" = some (some (.ref f18)))
    (l18 : K.lookup f18 = some ⟨oc18, od18, .func (PySem.W.fnOf "steps_of" "steps_of" (defArgs s_steps_of) (defBody s_steps_of) (defScope s_steps_of) .none kV18 dc18 pm18 an18 cd18 ct18), sl18⟩)
    (c18 : PySem.W.codeIn K cd18 "steps_of" = true)
    (k18 : PySem.W.keepIn K (.ref f18) = true)
    (a19 : PySem.W.nsIn K mainGlobals "steps_in" = some (some (.ref f19)))
    (l19 : K.lookup f19 = some ⟨oc19, od19, .func (PySem.W.fnOf "steps_in" "steps_in" (defArgs s_steps_in) (defBody s_steps_in) (defScope s_steps_in) .none kV19 dc19 pm19 an19 cd19 ct19), sl19⟩)
    (c19 : PySem.W.codeIn K cd19 "steps_in" = true)
    (k19 : PySem.W.keepIn K (.ref f19) = true)
    (a20 : PySem.W.nsIn K mainGlobals "steps_through" = some (some (.ref f20)))
    (l20 : K.lookup f20 = some ⟨oc20, od20, .func (PySem.W.fnOf "steps_through" "steps_through" (defArgs s_steps_through) (defBody s_steps_through) (defScope s_steps_through) .none kV20 dc20 pm20 an20 cd20 ct20), sl20⟩)
    (c20 : PySem.W.codeIn K cd20 "steps_through" = true)
    (k20 : PySem.W.keepIn K (.ref f20) = true)
    (a21 : PySem.W.nsIn K mainGlobals "rests_of" = some (some (.ref f21)))
    (l21 : K.lookup f21 = some ⟨oc21, od21, .func (PySem.W.fnOf "rests_of" "rests_of" (defArgs s_rests_of) (defBody s_rests_of) (defScope s_rests_of) .none kV21 dc21 pm21 an21 cd21 ct21), sl21⟩)
    (c21 : PySem.W.codeIn K cd21 "rests_of" = true)
    (k21 : PySem.W.keepIn K (.ref f21) = true)
    (a22 : PySem.W.nsIn K mainGlobals "rest_from" = some (some (.ref f22)))
    (l22 : K.lookup f22 = some ⟨oc22, od22, .func (PySem.W.fnOf "rest_from" "rest_from" (defArgs s_rest_from) (defBody s_rest_from) (defScope s_rest_from) .none kV22 dc22 pm22 an22 cd22 ct22), sl22⟩)
    (c22 : PySem.W.codeIn K cd22 "rest_from" = true)
    (k22 : PySem.W.keepIn K (.ref f22) = true)
    (a23 : PySem.W.nsIn K mainGlobals "first_stories" = some (some (.ref f23)))
    (l23 : K.lookup f23 = some ⟨oc23, od23, .func (PySem.W.fnOf "first_stories" "first_stories" (defArgs s_first_stories) (defBody s_first_stories) (defScope s_first_stories) .none kV23 dc23 pm23 an23 cd23 ct23), sl23⟩)
    (c23 : PySem.W.codeIn K cd23 "first_stories" = true)
    (k23 : PySem.W.keepIn K (.ref f23) = true)
    (a24 : PySem.W.nsIn K mainGlobals "longer_ones" = some (some (.ref f24)))
    (l24 : K.lookup f24 = some ⟨oc24, od24, .func (PySem.W.fnOf "longer_ones" "longer_ones" (defArgs s_longer_ones) (defBody s_longer_ones) (defScope s_longer_ones) .none kV24 dc24 pm24 an24 cd24 ct24), sl24⟩)
    (c24 : PySem.W.codeIn K cd24 "longer_ones" = true)
    (k24 : PySem.W.keepIn K (.ref f24) = true)
    (a25 : PySem.W.nsIn K mainGlobals "_law_wants" = some (some (.ref f25)))
    (l25 : K.lookup f25 = some ⟨oc25, od25, .func (PySem.W.fnOf "_law_wants" "_law_wants" (defArgs s_lwants) (defBody s_lwants) (defScope s_lwants) .none kV25 dc25 pm25 an25 cd25 ct25), sl25⟩)
    (c25 : PySem.W.codeIn K cd25 "_law_wants" = true)
    (k25 : PySem.W.keepIn K (.ref f25) = true)
    (a26 : PySem.W.nsIn K mainGlobals "_law_is_sound" = some (some (.ref f26)))
    (l26 : K.lookup f26 = some ⟨oc26, od26, .func (PySem.W.fnOf "_law_is_sound" "_law_is_sound" (defArgs s_lsound) (defBody s_lsound) (defScope s_lsound) .none kV26 dc26 pm26 an26 cd26 ct26), sl26⟩)
    (c26 : PySem.W.codeIn K cd26 "_law_is_sound" = true)
    (k26 : PySem.W.keepIn K (.ref f26) = true)
    (a27 : PySem.W.nsIn K mainGlobals "_law_price" = some (some (.ref f27)))
    (l27 : K.lookup f27 = some ⟨oc27, od27, .func (PySem.W.fnOf "_law_price" "_law_price" (defArgs s_price) (defBody s_price) (defScope s_price) .none kV27 dc27 pm27 an27 cd27 ct27), sl27⟩)
    (c27 : PySem.W.codeIn K cd27 "_law_price" = true)
    (k27 : PySem.W.keepIn K (.ref f27) = true)
    (a28 : PySem.W.nsIn K mainGlobals "_law_least" = some (some (.ref f28)))
    (l28 : K.lookup f28 = some ⟨oc28, od28, .func (PySem.W.fnOf "_law_least" "_law_least" (defArgs s_l_least) (defBody s_l_least) (defScope s_l_least) .none kV28 dc28 pm28 an28 cd28 ct28), sl28⟩)
    (c28 : PySem.W.codeIn K cd28 "_law_least" = true)
    (k28 : PySem.W.keepIn K (.ref f28) = true)
    (a29 : PySem.W.nsIn K mainGlobals "_law_is_story" = some (some (.ref f29)))
    (l29 : K.lookup f29 = some ⟨oc29, od29, .func (PySem.W.fnOf "_law_is_story" "_law_is_story" (defArgs s_l_is_story) (defBody s_l_is_story) (defScope s_l_is_story) .none kV29 dc29 pm29 an29 cd29 ct29), sl29⟩)
    (c29 : PySem.W.codeIn K cd29 "_law_is_story" = true)
    (k29 : PySem.W.keepIn K (.ref f29) = true)
    (a30 : PySem.W.nsIn K mainGlobals "law" = some (some (.ref f30)))
    (l30 : K.lookup f30 = some ⟨oc30, od30, .func (PySem.W.fnOf "law" "law" (defArgs s_law) (defBody s_law) (defScope s_law) .none kV30 dc30 pm30 an30 cd30 ct30), sl30⟩)
    (c30 : PySem.W.codeIn K cd30 "law" = true)
    (k30 : PySem.W.keepIn K (.ref f30) = true)
    (a31 : PySem.W.findIn K (.ref C) "__init__" = some (some (.ref f31)))
    (i31 : PySem.W.isFn K (.ref f31) = true)
    (l31 : K.lookup f31 = some ⟨oc31, od31, .func (PySem.W.fnOf "__init__" "House.__init__" (defArgs s_init) (defBody s_init) (defScope s_init) .none kV31 dc31 pm31 an31 cd31 ct31), sl31⟩)
    (c31 : PySem.W.codeIn K cd31 "House.__init__" = true)
    (k31 : PySem.W.keepIn K (.ref f31) = true)
    (a32 : PySem.W.findIn K (.ref C) "come" = some (some (.ref f32)))
    (i32 : PySem.W.isFn K (.ref f32) = true)
    (l32 : K.lookup f32 = some ⟨oc32, od32, .func (PySem.W.fnOf "come" "House.come" (defArgs s_come) (defBody s_come) (defScope s_come) .none kV32 dc32 pm32 an32 cd32 ct32), sl32⟩)
    (c32 : PySem.W.codeIn K cd32 "House.come" = true)
    (k32 : PySem.W.keepIn K (.ref f32) = true)
    (a33 : PySem.W.findIn K (.ref C) "tick" = some (some (.ref f33)))
    (i33 : PySem.W.isFn K (.ref f33) = true)
    (l33 : K.lookup f33 = some ⟨oc33, od33, .func (PySem.W.fnOf "tick" "House.tick" (defArgs s_tick) (defBody s_tick) (defScope s_tick) .none kV33 dc33 pm33 an33 cd33 ct33), sl33⟩)
    (c33 : PySem.W.codeIn K cd33 "House.tick" = true)
    (k33 : PySem.W.keepIn K (.ref f33) = true)
    (a34 : PySem.W.findIn K (.ref C) "time" = some (some (.ref f34)))
    (i34 : PySem.W.isFn K (.ref f34) = true)
    (l34 : K.lookup f34 = some ⟨oc34, od34, .func (PySem.W.fnOf "time" "House.time" (defArgs s_time) (defBody s_time) (defScope s_time) .none kV34 dc34 pm34 an34 cd34 ct34), sl34⟩)
    (c34 : PySem.W.codeIn K cd34 "House.time" = true)
    (k34 : PySem.W.keepIn K (.ref f34) = true)
    (a35 : PySem.W.findIn K (.ref C) "rows" = some (some (.ref f35)))
    (i35 : PySem.W.isFn K (.ref f35) = true)
    (l35 : K.lookup f35 = some ⟨oc35, od35, .func (PySem.W.fnOf "rows" "House.rows" (defArgs s_rows) (defBody s_rows) (defScope s_rows) .none kV35 dc35 pm35 an35 cd35 ct35), sl35⟩)
    (c35 : PySem.W.codeIn K cd35 "House.rows" = true)
    (k35 : PySem.W.keepIn K (.ref f35) = true)
    (a36 : PySem.W.findIn K (.ref C) "time_fault" = some (some (.ref f36)))
    (i36 : PySem.W.isFn K (.ref f36) = true)
    (l36 : K.lookup f36 = some ⟨oc36, od36, .func (PySem.W.fnOf "time_fault" "House.time_fault" (defArgs s_tf) (defBody s_tf) (defScope s_tf) .none kV36 dc36 pm36 an36 cd36 ct36), sl36⟩)
    (c36 : PySem.W.codeIn K cd36 "House.time_fault" = true)
    (k36 : PySem.W.keepIn K (.ref f36) = true)
    (a37 : PySem.W.findIn K (.ref C) "row_fault" = some (some (.ref f37)))
    (i37 : PySem.W.isFn K (.ref f37) = true)
    (l37 : K.lookup f37 = some ⟨oc37, od37, .func (PySem.W.fnOf "row_fault" "House.row_fault" (defArgs s_rf) (defBody s_rf) (defScope s_rf) .none kV37 dc37 pm37 an37 cd37 ct37), sl37⟩)
    (c37 : PySem.W.codeIn K cd37 "House.row_fault" = true)
    (k37 : PySem.W.keepIn K (.ref f37) = true)
    (a38 : PySem.W.findIn K (.ref C) "move_on" = some (some (.ref f38)))
    (i38 : PySem.W.isFn K (.ref f38) = true)
    (l38 : K.lookup f38 = some ⟨oc38, od38, .func (PySem.W.fnOf "move_on" "House.move_on" (defArgs s_mo) (defBody s_mo) (defScope s_mo) .none kV38 dc38 pm38 an38 cd38 ct38), sl38⟩)
    (c38 : PySem.W.codeIn K cd38 "House.move_on" = true)
    (k38 : PySem.W.keepIn K (.ref f38) = true)
    (pg : PySem.W.plainGet K C Str.empty = true)
    (hd : PySem.W.hasDictIn K C = true)
    (po : PySem.W.plainOver K C = true)
    (sa : PySem.W.findIn K (.ref C) "__setattr__" = some (some (.builtin "object.__setattr__")))
    (mk : PySem.W.makesIn K C = true)
    (kc : PySem.W.keepIn K (.ref C) = true)
    (n_badges : PySem.W.findIn K (.ref C) "badges" = some none)
    (n_late : PySem.W.findIn K (.ref C) "late" = some none)
    (n_lost : PySem.W.findIn K (.ref C) "lost" = some none)
    (n_now : PySem.W.findIn K (.ref C) "now" = some none)
    (n_words : PySem.W.findIn K (.ref C) "words" = some none)
    (n_taken : PySem.W.findIn K (.ref C) "taken" = some none)
    (n_first_break : PySem.W.findIn K (.ref C) "first_break" = some none)
    (b_len : PySem.W.nsIn K mainGlobals "len" = some none)
    (b_range : PySem.W.nsIn K mainGlobals "range" = some none)
    (b_sorted : PySem.W.nsIn K mainGlobals "sorted" = some none)
    (b_isinstance : PySem.W.nsIn K mainGlobals "isinstance" = some none)
    (b_int : PySem.W.nsIn K mainGlobals "int" = some none)
    (b_str : PySem.W.nsIn K mainGlobals "str" = some none)
    (b_bool : PySem.W.nsIn K mainGlobals "bool" = some none)
    (b_list : PySem.W.nsIn K mainGlobals "list" = some none)
    (b_tuple : PySem.W.nsIn K mainGlobals "tuple" = some none)
    (b_max : PySem.W.nsIn K mainGlobals "max" = some none)
    (b_min : PySem.W.nsIn K mainGlobals "min" = some none)
    (b_reversed : PySem.W.nsIn K mainGlobals "reversed" = some none)
    (b_enumerate : PySem.W.nsIn K mainGlobals "enumerate" = some none)
    (m0 : PySem.W.nsIn K mainGlobals "MOST_BADGES" = some (some (.int 6 tI0)))
    (m1 : PySem.W.nsIn K mainGlobals "MOST_LATE" = some (some (.int 9 tI1)))
    (m2 : PySem.W.nsIn K mainGlobals "MOST_LOST" = some (some (.int 6 tI2)))
    (m3 : PySem.W.nsIn K mainGlobals "LAST_TIME" = some (some (.int 60 tI3)))
    (m4 : PySem.W.nsIn K mainGlobals "NEVER" = some (some (.int 1000 tI4)))
    (aWo : PySem.W.nsIn K mainGlobals "WORDS" = some (some (.ref aW)))
    (lW : K.lookup aW = some ⟨.type "tuple", odW, .seq #[.str "in" tw1, .str "out" tw2] nW, slW⟩)
    (e_BadRow : PySem.W.nsIn K mainGlobals "BadRow" = some (some (.ref cBR)))
    (e_BadTime : PySem.W.nsIn K mainGlobals "BadTime" = some (some (.ref cBT)))
    (e_BadHouse : PySem.W.nsIn K mainGlobals "BadHouse" = some (some (.ref cBH)))
    (x_BadRow : PySem.W.excIn K cBR [.type "ValueError", .type "Exception", .type "BaseException", .type "object"] "ValueError.__new__" = true)
    (x_BadTime : PySem.W.excIn K cBT [.type "ValueError", .type "Exception", .type "BaseException", .type "object"] "ValueError.__new__" = true)
    (x_BadHouse : PySem.W.excIn K cBH [.type "ValueError", .type "Exception", .type "BaseException", .type "object"] "ValueError.__new__" = true)
    (tW : K.lookup cW = some ⟨uW, vW, .fields wW, yW⟩)
    (pT : (wW[11]? : Option Value) = some (.ref PT)) :
    ∃ (fd : FuncData) (ts : List (Str × Addr × Addr)), (∀ t ∈ ts, PySem.W.tabIn K t.1 = some t.2 ∧ ∃ e, (recsOf q).find? (fun e => e.name == t.1) = some e) ∧ (∀ (s : Shared) (u : Value), BindsTo s fd ⟨[u], []⟩ [("_law_script", u)]) ∧
      ∀ base : Heap, K.In base → base.Ns mainGlobals mg → (∀ t ∈ ts.map (·.2), LamTop base mg t.1 t.2) → FnOk l.prog w K mg base (CXe l.prog w) 8 fa fd ["_law_script"] (sp_end K (ts.map (·.2))) := by
  have e := hfa.symm.trans (PySem.W.mg_of X G a30)
  have e2 : f30 = fa := by cases e; rfl
  subst e2
  have N : ∀ {x : Str}, PySem.W.nsIn K mainGlobals x = some none → mg x = none := fun z => PySem.W.mg_none_of X G z
  have F0 : Top1 K "wants_among" "wants_among" s_wants f0 ["rows", "late", "time"] := ⟨_, fun_mk (st := s_wants) l0 c0 k0, (fun_mk (st := s_wants) l0 c0 k0).binds fun _ _ _ _ _ _ us hl => match us, hl with | [_, _, _], _ => rfl⟩
  have g0 : mg "wants_among" = some (.ref f0) := PySem.W.mg_of X G a0
  have F1 : Top1 K "fault_between" "fault_between" s_fault f1 ["start", "end", "late", "time"] := ⟨_, fun_mk (st := s_fault) l1 c1 k1, (fun_mk (st := s_fault) l1 c1 k1).binds fun _ _ _ _ _ _ us hl => match us, hl with | [_, _, _, _], _ => rfl⟩
  have g1 : mg "fault_between" = some (.ref f1) := PySem.W.mg_of X G a1
  have F2 : Top1 K "can_stand" "can_stand" s_stand f2 ["wants", "lost"] := ⟨_, fun_mk (st := s_stand) l2 c2 k2, (fun_mk (st := s_stand) l2 c2 k2).binds fun _ _ _ _ _ _ us hl => match us, hl with | [_, _], _ => rfl⟩
  have g2 : mg "can_stand" = some (.ref f2) := PySem.W.mg_of X G a2
  have F3 : Top1 K "wants" "wants" s_wwants f3 ["house"] := ⟨_, fun_mk (st := s_wwants) l3 c3 k3, (fun_mk (st := s_wwants) l3 c3 k3).binds fun _ _ _ _ _ _ us hl => match us, hl with | [_], _ => rfl⟩
  have g3 : mg "wants" = some (.ref f3) := PySem.W.mg_of X G a3
  have F4 : Top1 K "is_sound" "is_sound" s_wsound f4 ["house"] := ⟨_, fun_mk (st := s_wsound) l4 c4 k4, (fun_mk (st := s_wsound) l4 c4 k4).binds fun _ _ _ _ _ _ us hl => match us, hl with | [_], _ => rfl⟩
  have g4 : mg "is_sound" = some (.ref f4) := PySem.W.mg_of X G a4
  have F5 : Top1 K "_law_taken" "_law_taken" s_taken f5 ["_law_row", "_law_many"] := ⟨_, fun_mk (st := s_taken) l5 c5 k5, (fun_mk (st := s_taken) l5 c5 k5).binds fun _ _ _ _ _ _ us hl => match us, hl with | [_, _], _ => rfl⟩
  have g5 : mg "_law_taken" = some (.ref f5) := PySem.W.mg_of X G a5
  have F6 : Top1 K "_law_alike" "_law_alike" s_alike f6 ["_law_found", "_law_due"] := ⟨_, fun_mk (st := s_alike) l6 c6 k6, (fun_mk (st := s_alike) l6 c6 k6).binds fun _ _ _ _ _ _ us hl => match us, hl with | [_, _], _ => rfl⟩
  have g6 : mg "_law_alike" = some (.ref f6) := PySem.W.mg_of X G a6
  have F7 : Top1 K "_law_deeds" "_law_deeds" s_deeds f7 ["_law_row", "_law_m", "_law_most"] := ⟨_, fun_mk (st := s_deeds) l7 c7 k7, (fun_mk (st := s_deeds) l7 c7 k7).binds fun _ _ _ _ _ _ us hl => match us, hl with | [_, _, _], _ => rfl⟩
  have g7 : mg "_law_deeds" = some (.ref f7) := PySem.W.mg_of X G a7
  have F8 : Top1 K "_law_fresh" "_law_fresh" s_fresh f8 ["_law_row", "_law_most"] := ⟨_, fun_mk (st := s_fresh) l8 c8 k8, (fun_mk (st := s_fresh) l8 c8 k8).binds fun _ _ _ _ _ _ us hl => match us, hl with | [_, _], _ => rfl⟩
  have g8 : mg "_law_fresh" = some (.ref f8) := PySem.W.mg_of X G a8
  have F9 : Top1 K "_law_do" "_law_do" s_do f9 ["_law_house", "_law_m", "_law_deed"] := ⟨_, fun_mk (st := s_do) l9 c9 k9, (fun_mk (st := s_do) l9 c9 k9).binds fun _ _ _ _ _ _ us hl => match us, hl with | [_, _, _], _ => rfl⟩
  have g9 : mg "_law_do" = some (.ref f9) := PySem.W.mg_of X G a9
  have F10 : Top1 K "_law_built" "_law_built" s_built f10 ["_law_row", "_law_badges", "_law_most"] := ⟨_, fun_mk (st := s_built) l10 c10 k10, (fun_mk (st := s_built) l10 c10 k10).binds fun _ _ _ _ _ _ us hl => match us, hl with | [_, _, _], _ => rfl⟩
  have g10 : mg "_law_built" = some (.ref f10) := PySem.W.mg_of X G a10
  have F11 : Top1 K "inside" "inside" s_inside f11 ["house", "badge", "moment"] := ⟨_, fun_mk (st := s_inside) l11 c11 k11, (fun_mk (st := s_inside) l11 c11 k11).binds fun _ _ _ _ _ _ us hl => match us, hl with | [_, _, _], _ => rfl⟩
  have g11 : mg "inside" = some (.ref f11) := PySem.W.mg_of X G a11
  have F12 : Top1 K "two" "two" s_two f12 ["house", "badge", "moment"] := ⟨_, fun_mk (st := s_two) l12 c12 k12, (fun_mk (st := s_two) l12 c12 k12).binds fun _ _ _ _ _ _ us hl => match us, hl with | [_, _, _], _ => rfl⟩
  have g12 : mg "two" = some (.ref f12) := PySem.W.mg_of X G a12
  have F13 : Top1 K "check_badge" "check_badge" s_check_badge f13 ["house", "badge"] := ⟨_, fun_mk (st := s_check_badge) l13 c13 k13, (fun_mk (st := s_check_badge) l13 c13 k13).binds fun _ _ _ _ _ _ us hl => match us, hl with | [_, _], _ => rfl⟩
  have g13 : mg "check_badge" = some (.ref f13) := PySem.W.mg_of X G a13
  have F14 : Top1 K "check_moment" "check_moment" s_check_moment f14 ["house", "moment"] := ⟨_, fun_mk (st := s_check_moment) l14 c14 k14, (fun_mk (st := s_check_moment) l14 c14 k14).binds fun _ _ _ _ _ _ us hl => match us, hl with | [_, _], _ => rfl⟩
  have g14 : mg "check_moment" = some (.ref f14) := PySem.W.mg_of X G a14
  have F15 : Top1 K "check_sound" "check_sound" s_check_sound f15 ["house"] := ⟨_, fun_mk (st := s_check_sound) l15 c15 k15, (fun_mk (st := s_check_sound) l15 c15 k15).binds fun _ _ _ _ _ _ us hl => match us, hl with | [_], _ => rfl⟩
  have g15 : mg "check_sound" = some (.ref f15) := PySem.W.mg_of X G a15
  have F16 : Top1 K "stories_through" "stories_through" s_stories_through f16 ["house", "badge", "moment"] := ⟨_, fun_mk (st := s_stories_through) l16 c16 k16, (fun_mk (st := s_stories_through) l16 c16 k16).binds fun _ _ _ _ _ _ us hl => match us, hl with | [_, _, _], _ => rfl⟩
  have g16 : mg "stories_through" = some (.ref f16) := PySem.W.mg_of X G a16
  have F17 : Top1 K "price_left" "price_left" s_price_left f17 ["house", "badge"] := ⟨_, fun_mk (st := s_price_left) l17 c17 k17, (fun_mk (st := s_price_left) l17 c17 k17).binds fun _ _ _ _ _ _ us hl => match us, hl with | [_, _], _ => rfl⟩
  have g17 : mg "price_left" = some (.ref f17) := PySem.W.mg_of X G a17
  have F18 : Top1 K "steps_of" "steps_of" s_steps_of f18 ["house", "badge"] := ⟨_, fun_mk (st := s_steps_of) l18 c18 k18, (fun_mk (st := s_steps_of) l18 c18 k18).binds fun _ _ _ _ _ _ us hl => match us, hl with | [_, _], _ => rfl⟩
  have g18 : mg "steps_of" = some (.ref f18) := PySem.W.mg_of X G a18
  have F19 : Top1 K "steps_in" "steps_in" s_steps_in f19 ["word", "price"] := ⟨_, fun_mk (st := s_steps_in) l19 c19 k19, (fun_mk (st := s_steps_in) l19 c19 k19).binds fun _ _ _ _ _ _ us hl => match us, hl with | [_, _], _ => rfl⟩
  have g19 : mg "steps_in" = some (.ref f19) := PySem.W.mg_of X G a19
  have F20 : Top1 K "steps_through" "steps_through" s_steps_through f20 ["steps", "moment", "state"] := ⟨_, fun_mk (st := s_steps_through) l20 c20 k20, (fun_mk (st := s_steps_through) l20 c20 k20).binds fun _ _ _ _ _ _ us hl => match us, hl with | [_, _, _], _ => rfl⟩
  have g20 : mg "steps_through" = some (.ref f20) := PySem.W.mg_of X G a20
  have F21 : Top1 K "rests_of" "rests_of" s_rests_of f21 ["steps"] := ⟨_, fun_mk (st := s_rests_of) l21 c21 k21, (fun_mk (st := s_rests_of) l21 c21 k21).binds fun _ _ _ _ _ _ us hl => match us, hl with | [_], _ => rfl⟩
  have g21 : mg "rests_of" = some (.ref f21) := PySem.W.mg_of X G a21
  have F22 : Top1 K "rest_from" "rest_from" s_rest_from f22 ["state", "options", "rest"] := ⟨_, fun_mk (st := s_rest_from) l22 c22 k22, (fun_mk (st := s_rest_from) l22 c22 k22).binds fun _ _ _ _ _ _ us hl => match us, hl with | [_, _, _], _ => rfl⟩
  have g22 : mg "rest_from" = some (.ref f22) := PySem.W.mg_of X G a22
  have F23 : Top1 K "first_stories" "first_stories" s_first_stories f23 ["steps", "most", "many"] := ⟨_, fun_mk (st := s_first_stories) l23 c23 k23, (fun_mk (st := s_first_stories) l23 c23 k23).binds fun _ _ _ _ _ _ us hl => match us, hl with | [_, _, _], _ => rfl⟩
  have g23 : mg "first_stories" = some (.ref f23) := PySem.W.mg_of X G a23
  have F24 : Top1 K "longer_ones" "longer_ones" s_longer_ones f24 ["begun", "options", "rest", "most"] := ⟨_, fun_mk (st := s_longer_ones) l24 c24 k24, (fun_mk (st := s_longer_ones) l24 c24 k24).binds fun _ _ _ _ _ _ us hl => match us, hl with | [_, _, _, _], _ => rfl⟩
  have g24 : mg "longer_ones" = some (.ref f24) := PySem.W.mg_of X G a24
  have F25 : Top1 K "_law_wants" "_law_wants" s_lwants f25 ["_law_m"] := ⟨_, fun_mk (st := s_lwants) l25 c25 k25, (fun_mk (st := s_lwants) l25 c25 k25).binds fun _ _ _ _ _ _ us hl => match us, hl with | [_], _ => rfl⟩
  have g25 : mg "_law_wants" = some (.ref f25) := PySem.W.mg_of X G a25
  have F26 : Top1 K "_law_is_sound" "_law_is_sound" s_lsound f26 ["_law_m"] := ⟨_, fun_mk (st := s_lsound) l26 c26 k26, (fun_mk (st := s_lsound) l26 c26 k26).binds fun _ _ _ _ _ _ us hl => match us, hl with | [_], _ => rfl⟩
  have g26 : mg "_law_is_sound" = some (.ref f26) := PySem.W.mg_of X G a26
  have F27 : Top1 K "_law_price" "_law_price" s_price f27 ["_law_m", "_law_badge", "_law_story"] := ⟨_, fun_mk (st := s_price) l27 c27 k27, (fun_mk (st := s_price) l27 c27 k27).binds fun _ _ _ _ _ _ us hl => match us, hl with | [_, _, _], _ => rfl⟩
  have g27 : mg "_law_price" = some (.ref f27) := PySem.W.mg_of X G a27
  have F28 : Top1 K "_law_least" "_law_least" s_l_least f28 ["_law_m", "_law_badge", "_law_at", "_law_wanted"] := ⟨_, fun_mk (st := s_l_least) l28 c28 k28, (fun_mk (st := s_l_least) l28 c28 k28).binds fun _ _ _ _ _ _ us hl => match us, hl with | [_, _, _, _], _ => rfl⟩
  have g28 : mg "_law_least" = some (.ref f28) := PySem.W.mg_of X G a28
  have F29 : Top1 K "_law_is_story" "_law_is_story" s_l_is_story f29 ["_law_m", "_law_badge", "_law_story", "_law_moment", "_law_state"] := ⟨_, fun_mk (st := s_l_is_story) l29 c29 k29, (fun_mk (st := s_l_is_story) l29 c29 k29).binds fun _ _ _ _ _ _ us hl => match us, hl with | [_, _, _, _, _], _ => rfl⟩
  have g29 : mg "_law_is_story" = some (.ref f29) := PySem.W.mg_of X G a29
  have F30 : Top1 K "law" "law" s_law f30 ["_law_script"] := ⟨_, fun_mk (st := s_law) l30 c30 k30, (fun_mk (st := s_law) l30 c30 k30).binds fun _ _ _ _ _ _ us hl => match us, hl with | [_], _ => rfl⟩
  have g30 : mg "law" = some (.ref f30) := PySem.W.mg_of X G a30
  have F31 : Top1 K "__init__" "House.__init__" s_init f31 ["self", "badges", "late", "lost"] := ⟨_, fun_mk (st := s_init) l31 c31 k31, (fun_mk (st := s_init) l31 c31 k31).binds fun _ _ _ _ _ _ us hl => match us, hl with | [_, _, _, _], _ => rfl⟩
  have F32 : Top1 K "come" "House.come" s_come f32 ["self", "time", "badge", "moment", "word"] := ⟨_, fun_mk (st := s_come) l32 c32 k32, (fun_mk (st := s_come) l32 c32 k32).binds fun _ _ _ _ _ _ us hl => match us, hl with | [_, _, _, _, _], _ => rfl⟩
  have F33 : Top1 K "tick" "House.tick" s_tick f33 ["self", "time"] := ⟨_, fun_mk (st := s_tick) l33 c33 k33, (fun_mk (st := s_tick) l33 c33 k33).binds fun _ _ _ _ _ _ us hl => match us, hl with | [_, _], _ => rfl⟩
  have F34 : Top1 K "time" "House.time" s_time f34 ["self"] := ⟨_, fun_mk (st := s_time) l34 c34 k34, (fun_mk (st := s_time) l34 c34 k34).binds fun _ _ _ _ _ _ us hl => match us, hl with | [_], _ => rfl⟩
  have F35 : Top1 K "rows" "House.rows" s_rows f35 ["self"] := ⟨_, fun_mk (st := s_rows) l35 c35 k35, (fun_mk (st := s_rows) l35 c35 k35).binds fun _ _ _ _ _ _ us hl => match us, hl with | [_], _ => rfl⟩
  have F36 : Top1 K "time_fault" "House.time_fault" s_tf f36 ["self", "time"] := ⟨_, fun_mk (st := s_tf) l36 c36 k36, (fun_mk (st := s_tf) l36 c36 k36).binds fun _ _ _ _ _ _ us hl => match us, hl with | [_, _], _ => rfl⟩
  have F37 : Top1 K "row_fault" "House.row_fault" s_rf f37 ["self", "time", "badge", "moment", "word"] := ⟨_, fun_mk (st := s_rf) l37 c37 k37, (fun_mk (st := s_rf) l37 c37 k37).binds fun _ _ _ _ _ _ us hl => match us, hl with | [_, _, _, _, _], _ => rfl⟩
  have F38 : Top1 K "move_on" "House.move_on" s_mo f38 ["self", "time"] := ⟨_, fun_mk (st := s_mo) l38 c38 k38, (fun_mk (st := s_mo) l38 c38 k38).binds fun _ _ _ _ _ _ us hl => match us, hl with | [_, _], _ => rfl⟩
  have B : Bl mg := ⟨N b_len, N b_range, N b_sorted, N b_isinstance, N b_int, N b_str, N b_bool, N b_list, N b_tuple, N b_max, N b_min⟩
  have qW : ∀ H, SqT K H aW [.str "in", .str "out"] := fun H => .inr ⟨_, _, _, lW, rfl, rfl, by show 2 ≤ sizeLine; decide, .cons ⟨_, rfl⟩ (.cons ⟨_, rfl⟩ .nil)⟩
  have T : HouseT K mg C aW cBH cBR cBT := ⟨B, ⟨pg, hd, po, sa⟩, n_badges, n_late, n_lost, n_now, n_words, n_taken, n_first_break,
    ⟨_, PySem.W.mg_of X G m0⟩, ⟨_, PySem.W.mg_of X G m1⟩, ⟨_, PySem.W.mg_of X G m2⟩, ⟨_, PySem.W.mg_of X G m3⟩, PySem.W.mg_of X G aWo, qW,
    ⟨PySem.W.mg_of X G e_BadHouse, x_BadHouse⟩, ⟨PySem.W.mg_of X G e_BadRow, x_BadRow⟩, ⟨PySem.W.mg_of X G e_BadTime, x_BadTime⟩⟩
  have W : WorldT mg := ⟨⟨_, PySem.W.mg_of X G m4⟩, N b_reversed⟩
  refine ⟨PySem.W.fnOf "law" "law" (defArgs s_law) (defBody s_law) (defScope s_law) .none kV30 dc30 pm30 an30 cd30 ct30, [("stories_through", cW, PT)], fun t ht => ?_, fun s v => .of_eq rfl, fun base _ _ hT => ?_⟩
  · simp only [List.mem_cons, List.not_mem_nil, or_false] at ht
    subst ht
    exact ⟨tab_mk a16 l16 rfl tW pT, r2⟩
  · have LW : LamTop base mg cW PT := hT (cW, PT) (by simp)
    have G_fault : Fn l.prog w K mg base 1 "fault_between" ["start", "end", "late", "time"] sp_fault := by
      obtain ⟨fd, h, b⟩ := ok_fault (P := l.prog) (w := w) (mg := mg) (base := base) (k := 0) F1
      exact ⟨_, fd, h, b, g1, k1⟩
    have M_time : Mt l.prog w K mg base 1 C "time" ["self"] (sp_time C) := by
      obtain ⟨fd, h, b⟩ := ok_time (P := l.prog) (w := w) (base := base) (k := 0) F34 T
      exact ⟨_, fd, h, b, ⟨a34, i34, k34⟩⟩
    have M_tf : Mt l.prog w K mg base 1 C "time_fault" ["self", "time"] (sp_tf C) := by
      obtain ⟨fd, h, b⟩ := ok_tf (P := l.prog) (w := w) (base := base) (k := 0) F36 T
      exact ⟨_, fd, h, b, ⟨a36, i36, k36⟩⟩
    have M_rf : Mt l.prog w K mg base 2 C "row_fault" ["self", "time", "badge", "moment", "word"] (sp_rf C) := by
      obtain ⟨fd, h, b⟩ := ok_rf F37 T M_tf
      exact ⟨_, fd, h, b, ⟨a37, i37, k37⟩⟩
    have M_rows : Mt l.prog w K mg base 1 C "rows" ["self"] (sp_rows C) := by
      obtain ⟨fd, h, b⟩ := ok_rows (P := l.prog) (w := w) (base := base) (k := 0) F35 T
      exact ⟨_, fd, h, b, ⟨a35, i35, k35⟩⟩
    have G_stand : Fn l.prog w K mg base 1 "can_stand" ["wants", "lost"] sp_stand := by
      obtain ⟨fd, h, b⟩ := ok_stand (P := l.prog) (w := w) (base := base) (k := 0) F2 T.toBl
      exact ⟨_, fd, h, b, g2, k2⟩
    have G_wants : Fn l.prog w K mg base 2 "wants_among" ["rows", "late", "time"] sp_wants := by
      obtain ⟨fd, h, b⟩ := ok_wants F0 G_fault
      exact ⟨_, fd, h, b, g0, k0⟩
    have M_mo : Mt l.prog w K mg base 3 C "move_on" ["self", "time"] (sp_mo C) := by
      obtain ⟨fd, h, b⟩ := ok_mo F38 T (M_rows.mono (by decide)) G_wants (G_stand.mono (by decide))
      exact ⟨_, fd, h, b, ⟨a38, i38, k38⟩⟩
    have M_tick : Mt l.prog w K mg base 4 C "tick" ["self", "time"] (sp_tick C cBT) := by
      obtain ⟨fd, h, b⟩ := ok_tick F33 T (M_tf.mono (by decide)) M_mo
      exact ⟨_, fd, h, b, ⟨a33, i33, k33⟩⟩
    have M_come : Mt l.prog w K mg base 4 C "come" ["self", "time", "badge", "moment", "word"] (sp_come C cBR) := by
      obtain ⟨fd, h, b⟩ := ok_come F32 T (M_rf.mono (by decide)) M_mo
      exact ⟨_, fd, h, b, ⟨a32, i32, k32⟩⟩
    have G_taken : ∀ a ns, Fn l.prog w K mg base 1 "_law_taken" ["_law_row", "_law_many"] (sp_taken K a ns) := fun a ns => by
      obtain ⟨fd, h, b⟩ := ok_taken (P := l.prog) (w := w) (base := base) (k := 0) (a := a) (ns := ns) F5 T.toBl
      exact ⟨_, fd, h, b, g5, k5⟩
    have G_alike : Fn l.prog w K mg base 1 "_law_alike" ["_law_found", "_law_due"] (sp_alike 0) := fn_alike F6 T.toBl g6 k6 0
    have MK : MkH l.prog w K mg base 1 C cBH := by
      obtain ⟨fd, h, b⟩ := ok_init (P := l.prog) (w := w) (base := base) (k := 0) F31 T
      exact ⟨_, fd, ⟨mk, a31, i31, kc⟩, h, b, PySem.W.mg_of X G aC⟩
    have G_do : Fn l.prog w K mg base 5 "_law_do" ["_law_house", "_law_m", "_law_deed"] (sp_do C) := by
      obtain ⟨fd, h, b⟩ := ok_do F9 T M_tick M_come
      exact ⟨_, fd, h, b, g9, k9⟩
    have G_wwants : Fn l.prog w K mg base 3 "wants" ["house"] (sp_wwants C) := by
      obtain ⟨fd, h, b⟩ := ok_wwants F3 T (M_rows.mono (by decide)) (M_time.mono (by decide)) G_wants
      exact ⟨_, fd, h, b, g3, k3⟩
    have G_wsound : Fn l.prog w K mg base 4 "is_sound" ["house"] (sp_wsound C) := by
      obtain ⟨fd, h, b⟩ := ok_wsound F4 T G_wwants (G_stand.mono (by decide))
      exact ⟨_, fd, h, b, g4, k4⟩
    have G_fresh : ∀ a ns, Fn l.prog w K mg base 2 "_law_fresh" ["_law_row", "_law_most"] (sp_fresh K a ns) := fun a ns => by
      obtain ⟨fd, h, b⟩ := ok_fresh F8 T.toBl (G_taken a ns)
      exact ⟨_, fd, h, b, g8, k8⟩
    have G_deeds : ∀ a ns, Fn l.prog w K mg base 2 "_law_deeds" ["_law_row", "_law_m", "_law_most"] (sp_deeds K a ns) := fun a ns => by
      obtain ⟨fd, h, b⟩ := ok_deeds F7 T.toBl (G_taken a ns)
      exact ⟨_, fd, h, b, g7, k7⟩
    have G_built : ∀ a ns, Fn l.prog w K mg base 6 "_law_built" ["_law_row", "_law_badges", "_law_most"] (sp_built K C a ns) := fun a ns => by
      obtain ⟨fd, h, b⟩ := ok_built (k := 5) (kI := 1) F10 T MK (by decide) ((G_fresh a ns).mono (by decide)) ((G_deeds a ns).mono (by decide)) G_do
      exact ⟨_, fd, h, b, g10, k10⟩
    have G_lwants : Fn l.prog w K mg base 1 "_law_wants" ["_law_m"] sp_lwants := by
      obtain ⟨fd, h, b⟩ := ok_lwants (P := l.prog) (w := w) (base := base) (k := 0) F25 T.toBl
      exact ⟨_, fd, h, b, g25, k25⟩
    have G_lsound : Fn l.prog w K mg base 2 "_law_is_sound" ["_law_m"] sp_lsound := by
      obtain ⟨fd, h, b⟩ := ok_lsound F26 T.toBl G_lwants
      exact ⟨_, fd, h, b, g26, k26⟩
    have G_in : Fn l.prog w K mg base 1 "steps_in" ["word", "price"] sp_steps_in := by
      obtain ⟨fd, h, b⟩ := ok_steps_in (P := l.prog) (w := w) (mg := mg) (base := base) (k := 0) F19
      exact ⟨_, fd, h, b, g19, k19⟩
    have G_of : Fn l.prog w K mg base 2 "steps_of" ["house", "badge"] (sp_steps_of C) := by
      obtain ⟨fd, h, b⟩ := ok_steps_of F18 T M_rows M_time G_in
      exact ⟨_, fd, h, b, g18, k18⟩
    have G_rest : Fn l.prog w K mg base 1 "rest_from" ["state", "options", "rest"] sp_rest_from := by
      obtain ⟨fd, h, b⟩ := ok_rest_from (P := l.prog) (w := w) (base := base) (k := 0) F22 T.toBl W
      exact ⟨_, fd, h, b, g22, k22⟩
    have G_rests : Fn l.prog w K mg base 2 "rests_of" ["steps"] sp_rests_of := by
      obtain ⟨fd, h, b⟩ := ok_rests_of F21 T.toBl W G_rest
      exact ⟨_, fd, h, b, g21, k21⟩
    have G_th : Fn l.prog w K mg base 1 "steps_through" ["steps", "moment", "state"] sp_steps_through := by
      obtain ⟨fd, h, b⟩ := ok_steps_through (P := l.prog) (w := w) (mg := mg) (base := base) (k := 0) F20
      exact ⟨_, fd, h, b, g20, k20⟩
    have G_lon : Fn l.prog w K mg base 1 "longer_ones" ["begun", "options", "rest", "most"] sp_longer_ones := by
      obtain ⟨fd, h, b⟩ := ok_longer_ones (P := l.prog) (w := w) (mg := mg) (base := base) (k := 0) F24
      exact ⟨_, fd, h, b, g24, k24⟩
    have G_fst : Fn l.prog w K mg base 3 "first_stories" ["steps", "most", "many"] sp_first_stories := by
      obtain ⟨fd, h, b⟩ := ok_first_stories (k := 2) F23 (N b_enumerate) G_rests (G_lon.mono (by decide))
      exact ⟨_, fd, h, b, g23, k23⟩
    have G_left : Fn l.prog w K mg base 4 "price_left" ["house", "badge"] (sp_price_left C) := by
      obtain ⟨fd, h, b⟩ := ok_price_left F17 T G_wwants
      exact ⟨_, fd, h, b, g17, k17⟩
    have G_cb : Fn l.prog w K mg base 1 "check_badge" ["house", "badge"] (sp_check_badge C) := by
      obtain ⟨fd, h, b⟩ := ok_check_badge (P := l.prog) (w := w) (base := base) (k := 0) F13 T
      exact ⟨_, fd, h, b, g13, k13⟩
    have G_cm : Fn l.prog w K mg base 2 "check_moment" ["house", "moment"] (sp_check_moment C) := by
      obtain ⟨fd, h, b⟩ := ok_check_moment F14 T M_time
      exact ⟨_, fd, h, b, g14, k14⟩
    have G_cs : Fn l.prog w K mg base 5 "check_sound" ["house"] (sp_check_sound C) := by
      obtain ⟨fd, h, b⟩ := ok_check_sound (C := C) F15 G_wsound
      exact ⟨_, fd, h, b, g15, k15⟩
    have G_st : Fn l.prog w K mg base 6 "stories_through" ["house", "badge", "moment"] (sp_stories_through C PT) := by
      obtain ⟨fd, h, b⟩ := ok_stories_through (k := 5) F16 LW ⟨_, _, l16, rfl, rfl⟩ T (G_cb.mono (by decide)) (G_cm.mono (by decide)) G_cs (G_of.mono (by decide)) (G_left.mono (by decide)) (G_fst.mono (by decide)) (G_th.mono (by decide))
      exact ⟨_, fd, h, b, g16, k16⟩
    have G_ins : Fn l.prog w K mg base 7 "inside" ["house", "badge", "moment"] (sp_inside C PT) := by
      obtain ⟨fd, h, b⟩ := ok_inside (C := C) F11 G_st
      exact ⟨_, fd, h, b, g11, k11⟩
    have G_two : Fn l.prog w K mg base 7 "two" ["house", "badge", "moment"] (sp_two C PT) := by
      obtain ⟨fd, h, b⟩ := ok_two (C := C) F12 G_st
      exact ⟨_, fd, h, b, g12, k12⟩
    have G_price : Fn l.prog w K mg base 1 "_law_price" ["_law_m", "_law_badge", "_law_story"] sp_price := by
      obtain ⟨fd, h, b⟩ := ok_price (P := l.prog) (w := w) (base := base) (k := 0) F27 T.toBl
      exact ⟨_, fd, h, b, g27, k27⟩
    have G_lleast : Fn l.prog w K mg base 1 "_law_least" ["_law_m", "_law_badge", "_law_at", "_law_wanted"] sp_l_least := by
      obtain ⟨fd, h, b⟩ := ok_l_least (P := l.prog) (w := w) (base := base) (k := 0) F28 T.toBl
      exact ⟨_, fd, h, b, g28, k28⟩
    have G_story : Fn l.prog w K mg base 2 "_law_is_story" ["_law_m", "_law_badge", "_law_story", "_law_moment", "_law_state"] sp_l_is_story := by
      obtain ⟨fd, h, b⟩ := ok_l_is_story F29 T.toBl G_alike G_price G_lwants
      exact ⟨_, fd, h, b, g29, k29⟩
    obtain ⟨fd, h, _, o, ho, hd2⟩ := ok_law (k := 7) F30 T (fun a ns => (G_built a ns).mono (by decide)) (G_lsound.mono (by decide)) (G_lwants.mono (by decide)) (G_lleast.mono (by decide)) (G_alike.mono (by decide)) (G_story.mono (by decide)) G_ins G_two
    rw [l30] at ho
    cases ho
    cases hd2
    exact h
theorem walk {l : PySem.W.OpenLaw} {q : Program} {loose : List Str} {XP : (Str → Option Value) → Heap → Prop} {YP : World → Heap → Prop} {d : DefRec} {K : Params → PySem.W.Frag} (hn : l.most = some 63) (hdf : d.params.defaults = [])
    (hY : ∀ (w : World) (h : Heap), YP w h → (K w.params).In h) (hK : ∀ w : World, PySem.W.noTabs (K w.params) = true)
    (F : ∀ (w : World) (mg : Str → Option Value) (fa : Addr) (h : Heap), (K w.params).In h → h.Ns mainGlobals mg → mg d.name = some (.ref fa) →
      ∃ (fd : FuncData) (ts : List (Str × Addr × Addr)), (∀ t ∈ ts, PySem.W.tabIn (K w.params) t.1 = some t.2 ∧ ∃ e, (recsOf q).find? (fun e => e.name == t.1) = some e) ∧ (∀ (s : Shared) (u : Value), BindsTo s fd ⟨[u], []⟩ [("_law_script", u)]) ∧
        ∀ base : Heap, (K w.params).In base → base.Ns mainGlobals mg → (∀ t ∈ ts.map (·.2), LamTop base mg t.1 t.2) → FnOk l.prog w (K w.params) mg base (CXe l.prog w) 8 fa fd ["_law_script"] (sp_end (K w.params) (ts.map (·.2)))) :
    PySem.W.WalkO q loose XP YP l.row.toRowW d [] (fun f vs => PySem.call f vs) :=
  L2.walk_ofT (n := 63) (k := 8) (x := "_law_script") (CX := fun w => CXe l.prog w) (sp := fun w ts => sp_end (K w.params) ts) hn (by decide) hdf ⟨rfl, by decide, by decide⟩ hY hK F
    (fun w H a ns ts hl hO hS => by
      unfold sp_end
      split
      · rename_i c1 PT
        exact ⟨a, ns, rfl, hS, by omega, ⟨#[], hO.2 (c1, PT) (by simp), trivial⟩, fun _ => rfl⟩
      · trivial) fun _ _ _ _ _ ⟨_, _, _, _, _, h⟩ => h
end Ho
open PySem PySem.W PyProof.Rows
set_option maxRecDepth 100000 in
set_option maxHeartbeats 0 in
theorem PySem.Challenge.cw_insidecount_k05_whole_two_worlds_holds : PySem.Challenge.rw_insidecount_k05_whole_two_worlds.Holds := by
  w_on; o_law; k_head; (case hw => w_witness2)
  k_fill
  refine Ho.walk (l := PySem.Challenge.rw_insidecount_k05_whole_two_worlds) rfl rfl (fun w h Y => by first | exact PySem.W.kIn_of Y | exact PySem.W.km_in_of Y) (fun w => by kernel_rfl) ?F
  case F =>
    intro w mg fa h KX G hmg
    refine' Ho.all_mk KX G hmg ?r2 ?aC ?a0 ?l0 ?c0 ?k0 ?a1 ?l1 ?c1 ?k1 ?a2 ?l2 ?c2 ?k2 ?a3 ?l3 ?c3 ?k3 ?a4 ?l4 ?c4 ?k4 ?a5 ?l5 ?c5 ?k5 ?a6 ?l6 ?c6 ?k6 ?a7 ?l7 ?c7 ?k7 ?a8 ?l8 ?c8 ?k8 ?a9 ?l9 ?c9 ?k9 ?a10 ?l10 ?c10 ?k10 ?a11 ?l11 ?c11 ?k11 ?a12 ?l12 ?c12 ?k12 ?a13 ?l13 ?c13 ?k13 ?a14 ?l14 ?c14 ?k14 ?a15 ?l15 ?c15 ?k15 ?a16 ?l16 ?c16 ?k16 ?a17 ?l17 ?c17 ?k17 ?a18 ?l18 ?c18 ?k18 ?a19 ?l19 ?c19 ?k19 ?a20 ?l20 ?c20 ?k20 ?a21 ?l21 ?c21 ?k21 ?a22 ?l22 ?c22 ?k22 ?a23 ?l23 ?c23 ?k23 ?a24 ?l24 ?c24 ?k24 ?a25 ?l25 ?c25 ?k25 ?a26 ?l26 ?c26 ?k26 ?a27 ?l27 ?c27 ?k27 ?a28 ?l28 ?c28 ?k28 ?a29 ?l29 ?c29 ?k29 ?a30 ?l30 ?c30 ?k30 ?a31 ?i31 ?l31 ?c31 ?k31 ?a32 ?i32 ?l32 ?c32 ?k32 ?a33 ?i33 ?l33 ?c33 ?k33 ?a34 ?i34 ?l34 ?c34 ?k34 ?a35 ?i35 ?l35 ?c35 ?k35 ?a36 ?i36 ?l36 ?c36 ?k36 ?a37 ?i37 ?l37 ?c37 ?k37 ?a38 ?i38 ?l38 ?c38 ?k38 ?pg ?hd ?po ?sa ?mk ?kc ?n_badges ?n_late ?n_lost ?n_now ?n_words ?n_taken ?n_first_break ?b_len ?b_range ?b_sorted ?b_isinstance ?b_int ?b_str ?b_bool ?b_list ?b_tuple ?b_max ?b_min ?b_reversed ?b_enumerate ?m0 ?m1 ?m2 ?m3 ?m4 ?aWo ?lW ?e_BadRow ?e_BadTime ?e_BadHouse ?x_BadRow ?x_BadTime ?x_BadHouse ?tW ?pT
    (case r2 => exact ⟨_, rfl⟩)
    (case aC => k_is); (case a0 => k_is); (case l0 => k_is); (case c0 => k_is); (case k0 => k_is); (case a1 => k_is)
    (case l1 => k_is); (case c1 => k_is); (case k1 => k_is); (case a2 => k_is); (case l2 => k_is); (case c2 => k_is)
    (case k2 => k_is); (case a3 => k_is); (case l3 => k_is); (case c3 => k_is); (case k3 => k_is); (case a4 => k_is)
    (case l4 => k_is); (case c4 => k_is); (case k4 => k_is); (case a5 => k_is); (case l5 => k_is); (case c5 => k_is)
    (case k5 => k_is); (case a6 => k_is); (case l6 => k_is); (case c6 => k_is); (case k6 => k_is); (case a7 => k_is)
    (case l7 => k_is); (case c7 => k_is); (case k7 => k_is); (case a8 => k_is); (case l8 => k_is); (case c8 => k_is)
    (case k8 => k_is); (case a9 => k_is); (case l9 => k_is); (case c9 => k_is); (case k9 => k_is); (case a10 => k_is)
    (case l10 => k_is); (case c10 => k_is); (case k10 => k_is); (case a11 => k_is); (case l11 => k_is); (case c11 => k_is)
    (case k11 => k_is); (case a12 => k_is); (case l12 => k_is); (case c12 => k_is); (case k12 => k_is); (case a13 => k_is)
    (case l13 => k_is); (case c13 => k_is); (case k13 => k_is); (case a14 => k_is); (case l14 => k_is); (case c14 => k_is)
    (case k14 => k_is); (case a15 => k_is); (case l15 => k_is); (case c15 => k_is); (case k15 => k_is); (case a16 => k_is)
    (case l16 => k_is); (case c16 => k_is); (case k16 => k_is); (case a17 => k_is); (case l17 => k_is); (case c17 => k_is)
    (case k17 => k_is); (case a18 => k_is); (case l18 => k_is); (case c18 => k_is); (case k18 => k_is); (case a19 => k_is)
    (case l19 => k_is); (case c19 => k_is); (case k19 => k_is); (case a20 => k_is); (case l20 => k_is); (case c20 => k_is)
    (case k20 => k_is); (case a21 => k_is); (case l21 => k_is); (case c21 => k_is); (case k21 => k_is); (case a22 => k_is)
    (case l22 => k_is); (case c22 => k_is); (case k22 => k_is); (case a23 => k_is); (case l23 => k_is); (case c23 => k_is)
    (case k23 => k_is); (case a24 => k_is); (case l24 => k_is); (case c24 => k_is); (case k24 => k_is); (case a25 => k_is)
    (case l25 => k_is); (case c25 => k_is); (case k25 => k_is); (case a26 => k_is); (case l26 => k_is); (case c26 => k_is)
    (case k26 => k_is); (case a27 => k_is); (case l27 => k_is); (case c27 => k_is); (case k27 => k_is); (case a28 => k_is)
    (case l28 => k_is); (case c28 => k_is); (case k28 => k_is); (case a29 => k_is); (case l29 => k_is); (case c29 => k_is)
    (case k29 => k_is); (case a30 => k_is); (case l30 => k_is); (case c30 => k_is); (case k30 => k_is); (case a31 => k_is)
    (case i31 => k_is); (case l31 => k_is); (case c31 => k_is); (case k31 => k_is); (case a32 => k_is); (case i32 => k_is)
    (case l32 => k_is); (case c32 => k_is); (case k32 => k_is); (case a33 => k_is); (case i33 => k_is); (case l33 => k_is)
    (case c33 => k_is); (case k33 => k_is); (case a34 => k_is); (case i34 => k_is); (case l34 => k_is); (case c34 => k_is)
    (case k34 => k_is); (case a35 => k_is); (case i35 => k_is); (case l35 => k_is); (case c35 => k_is); (case k35 => k_is)
    (case a36 => k_is); (case i36 => k_is); (case l36 => k_is); (case c36 => k_is); (case k36 => k_is); (case a37 => k_is)
    (case i37 => k_is); (case l37 => k_is); (case c37 => k_is); (case k37 => k_is); (case a38 => k_is); (case i38 => k_is)
    (case l38 => k_is); (case c38 => k_is); (case k38 => k_is); (case pg => k_is); (case hd => k_is); (case po => k_is)
    (case sa => k_is); (case mk => k_is); (case kc => k_is); (case n_badges => k_is); (case n_late => k_is); (case n_lost => k_is)
    (case n_now => k_is); (case n_words => k_is); (case n_taken => k_is); (case n_first_break => k_is); (case b_len => k_is); (case b_range => k_is)
    (case b_sorted => k_is); (case b_isinstance => k_is); (case b_int => k_is); (case b_str => k_is); (case b_bool => k_is); (case b_list => k_is)
    (case b_tuple => k_is); (case b_max => k_is); (case b_min => k_is); (case b_reversed => k_is); (case b_enumerate => k_is); (case m0 => k_is)
    (case m1 => k_is); (case m2 => k_is); (case m3 => k_is); (case m4 => k_is); (case aWo => k_is); (case lW => k_is)
    (case e_BadRow => k_is); (case e_BadTime => k_is); (case e_BadHouse => k_is); (case x_BadRow => k_exc); (case x_BadTime => k_exc); (case x_BadHouse => k_exc)
    (case tW => k_is); (case pT => rfl)
