import PyProof.Rows.All
import Wide.All
import OpenK.AllK
import Wide.FinOn
import PyProof.EqAt
import PyProof.EqKinds
import PyProof.TupleCall
import KE.BitLaws
import PyProof.WalkInts
import KE.KStar
import KE.KSortTupUse
import KE.KDictSum
import PyProof.Rows.SortShellAny
import PyProof.TupleOfSeq
import PyProof.ListRange
import KE.KMinBuiltin
import KE.KListLetter
import PyProof.Rows.CallKwBuiltin
import PySem.Challenge.RW_outlasts_k70_truths_looked_at
set_option Elab.async false
set_option linter.all false
set_option maxRecDepth 100000
/-! THE HAND LAYER, for ints, bools, texts, own classes, lists, tuples, dicts, comprehensions, walks over dicts, enumerate, zip, reversed, texts, calls, loops. Paste it whole ahead of your own text; what your proof does not reach may be deleted. -/
namespace L2
open PySem PySem.Spec PyProof.Rows

/-- a key: an int or a str -/
abbrev Key := Sum Int Str
def keyIs : Key → Value → Bool
  | .inl k, v => Value.isInt k v
  | .inr x, v => Value.isStrOf x v
def keyH (w : World) : Key → Int
  | .inl k => hashInt k
  | .inr x => hashStr w x
theorem keyIs_shape : ∀ {k : Key} {v : Value}, keyIs k v = true → (∃ i t, k = Sum.inl i ∧ v = Value.int i t) ∨ (∃ x t, k = Sum.inr x ∧ v = Value.str x t)
  | .inl i, v, h => by
    obtain ⟨t, e⟩ := Value.isInt_shape (k := i) (v := v) h
    exact .inl ⟨i, t, rfl, e⟩
  | .inr x, v, h => by
    obtain ⟨t, e⟩ := Value.isStrOf_shape (x := x) (v := v) h
    exact .inr ⟨x, t, rfl, e⟩
theorem keyIs_int (i : Int) (t : Tok) : keyIs (.inl i) (.int i t) = true := by simp [keyIs, Value.isInt]
theorem keyIs_str (x : Str) (t : Tok) : keyIs (.inr x) (.str x t) = true := by simp [keyIs, Value.isStrOf]
theorem key_ll (a b : Int) : decide ((Sum.inl a : Key) = Sum.inl b) = (a == b) := by
  by_cases e : a = b
  · subst e; simp
  · have h : ¬ (Sum.inl a : Key) = Sum.inl b := fun q => e (Sum.inl.inj q)
    rw [decide_eq_false h]
    exact (beq_eq_false_iff_ne.mpr e).symm
theorem key_rr (a b : Str) : decide ((Sum.inr a : Key) = Sum.inr b) = decide (a = b) := by
  by_cases e : a = b
  · subst e; simp
  · have h : ¬ (Sum.inr a : Key) = Sum.inr b := fun q => e (Sum.inr.inj q)
    rw [decide_eq_false h, decide_eq_false e]
theorem key_lr (a : Int) (b : Str) : decide ((Sum.inl a : Key) = Sum.inr b) = false := decide_eq_false (fun q => nomatch q)
theorem key_rl (a : Str) (b : Int) : decide ((Sum.inr a : Key) = Sum.inl b) = false := decide_eq_false (fun q => nomatch q)

def mixKind (prog : Program) (w : World) : PySem.KeyKind prog w Key where
  is := keyIs
  hash := keyH w
  inj := fun v a b ha hb => by
    rcases keyIs_shape ha with ⟨i, t, rfl, rfl⟩ | ⟨x, t, rfl, rfl⟩
    · rcases keyIs_shape hb with ⟨j, u, rfl, e⟩ | ⟨y, u, rfl, e⟩
      · injection e with e1 _; rw [e1]
      · exact nomatch e
    · rcases keyIs_shape hb with ⟨j, u, rfl, e⟩ | ⟨y, u, rfl, e⟩
      · exact nomatch e
      · injection e with e1 _; rw [e1]
  byValue := fun k v h => by
    rcases keyIs_shape h with ⟨i, t, rfl, rfl⟩ | ⟨x, t, rfl, rfl⟩ <;> rfl
  pyHash := fun hv h => by
    rcases keyIs_shape hv with ⟨i, t, rfl, rfl⟩ | ⟨x, t, rfl, rfl⟩
    · exact wpAny_pyHash_int h
    · exact wpAny_pyHash_str h
  eqBool := fun hu hv h => by
    rcases keyIs_shape hu with ⟨i, t, rfl, rfl⟩ | ⟨x, t, rfl, rfl⟩
    · rcases keyIs_shape hv with ⟨j, u, rfl, rfl⟩ | ⟨y, u, rfl, rfl⟩
      · rw [key_ll] at h; exact wpAny_eqBool_int h
      · rw [key_lr] at h; exact SeqAt.EqAt.int_str i t y u _ _ _ _ h
    · rcases keyIs_shape hv with ⟨j, u, rfl, rfl⟩ | ⟨y, u, rfl, rfl⟩
      · rw [key_rl] at h; exact SeqAt.EqAt.str_int x t j u _ _ _ _ h
      · rw [key_rr] at h; exact wpAny_eqBool_str h
  «strs» := fun k x t v h => by
    rcases keyIs_shape h with ⟨i, u, rfl, e⟩ | ⟨y, u, rfl, e⟩
    · exact nomatch e
    · injection e with e1 _
      subst e1
      cases v <;> rfl

theorem mixKind_int (prog : Program) (w : World) (i : Int) (t : Tok) : (mixKind prog w).is (.inl i) (.int i t) = true := keyIs_int i t
theorem mixKind_str (prog : Program) (w : World) (x : Str) (t : Tok) : (mixKind prog w).is (.inr x) (.str x t) = true := keyIs_str x t
end L2

namespace L2
open PySem PySem.Spec PyProof.Rows

/-- a value, without the heap -/
inductive V where
  | non | bl (b : Bool) | int (i : Int) | str (x : Str) | byt (b : Array UInt8) | flt (b : UInt64) | ref (a : Addr) | ty (n : String)
  deriving DecidableEq

def RelV : V → Value → Prop
  | .non, u => u = Value.none
  | .bl b, u => u = Value.bool b
  | .int i, u => ∃ t, u = Value.int i t
  | .str x, u => ∃ t, u = Value.str x t
  | .byt b, u => ∃ t, u = Value.bytes b t
  | .flt b, u => ∃ t, u = Value.float b t
  | .ref a, u => u = Value.ref a
  | .ty n, u => u = Value.type n

abbrev Vals : List V → List Value → Prop := Paired RelV
theorem Vals.length {xs : List V} {us : List Value} (r : Vals xs us) : xs.length = us.length := Paired.length r
theorem Vals.get : ∀ {xs : List V} {us : List Value} {i : Nat} {x : V}, Vals xs us → xs[i]? = some x → ∃ u, us[i]? = some u ∧ RelV x u
  | _, _, _, _, .nil, e => by simp at e
  | _, _, 0, _, .cons r _, e => by simp at e; subst e; exact ⟨_, rfl, r⟩
  | _, _, i + 1, x, .cons _ t, e => by
    obtain ⟨u, h1, h2⟩ := Vals.get (i := i) (x := x) t (by simpa using e)
    exact ⟨u, by simpa using h1, h2⟩
theorem Vals.set {x : V} {u : Value} (r : RelV x u) : ∀ {xs : List V} {us : List Value} (i : Nat), Vals xs us → Vals (xs.set i x) (us.set i u)
  | _, _, _, .nil => .nil
  | _, _, 0, .cons _ t => .cons r t
  | _, _, i + 1, .cons q t => .cons q (Vals.set r i t)
theorem Vals.append : ∀ {xs ys : List V} {us ws : List Value}, Vals xs us → Vals ys ws → Vals (xs ++ ys) (us ++ ws)
  | _, _, _, _, .nil, s => s
  | _, _, _, _, .cons r t, s => .cons r (Vals.append t s)
theorem Vals.take : ∀ {xs : List V} {us : List Value} (n : Nat), Vals xs us → Vals (xs.take n) (us.take n)
  | _, _, 0, _ => .nil
  | _, _, _ + 1, .nil => .nil
  | _, _, n + 1, .cons r t => .cons r (Vals.take n t)
theorem Vals.drop : ∀ {xs : List V} {us : List Value} (n : Nat), Vals xs us → Vals (xs.drop n) (us.drop n)
  | _, _, 0, r => r
  | _, _, _ + 1, .nil => .nil
  | _, _, n + 1, .cons _ t => Vals.drop n t
theorem Vals.none_of : ∀ {xs : List V} {us : List Value} {i : Nat}, Vals xs us → xs[i]? = none → us[i]? = none := fun {xs us i} r e => by
  have h1 := r.length
  have h2 : xs.length ≤ i := List.getElem?_eq_none_iff.mp e
  exact List.getElem?_eq_none_iff.mpr (by omega)

def RelO : Option V → Option Value → Prop
  | some v, some u => RelV v u
  | none, none => True
  | _, _ => False
def KV {κ : Type} : List (κ × V) → List (κ × Value) → Prop := Paired fun (p : κ × V) (q : κ × Value) => p.1 = q.1 ∧ RelV p.2 q.2

/-- a key of a dict (00_mix): an int or a text -/
def kV : Key → V
  | .inl i => .int i
  | .inr x => .str x

/-- what stands at a tracked address -/
inductive HO where
  /-- a list -/
  | lst (xs : List V)
  /-- a tuple (never changes) -/
  | tup (xs : List V)
  /-- a dict whose keys are ints and texts; one whose keys are tuples of ints and texts (the empty one is both) -/
  | dK (kvs : List (Key × V)) | dT (kvs : List (List Key × V))
  /-- a set of ints: its members, its size -/
  | set (S : Int → Bool) (n : Nat)
  /-- an instance of the class at C, its dict at dx, its attributes -/
  | ins (C dx : Addr) (fs : List (Str × V))
  /-- the dict of the instance at x -/
  | own (x : Addr)
  /-- the dict of an exception -/
  | xd (fs : List (Str × V))
  /-- a bound method, f of x -/
  | met (f x : Addr)
  /-- a range object lo, lo + 1, .. below hi -/
  | rng (lo hi : Int)
  /-- a thing that is known to the object (the script; a dict while a loop walks it): read, never written while it is so -/
  | frz (o : Obj) (u : HO)
  /-- a code object's table -/
  | tbl (ps : Array Value)
  /-- any other thing, by what is true of its one object (a def of one's own: SetO a S n := HO.ext fun h => ..) -/
  | ext (φ : Heap → Prop)

abbrev Hp := Addr → Option HO
def upd (H : Hp) (a : Addr) (o : HO) : Hp := fun b => if b = a then some o else H b
theorem upd_same {H : Hp} {a : Addr} {o : HO} : upd H a o a = some o := by unfold upd; rw [if_pos rfl]
theorem upd_ne {H : Hp} {a b : Addr} {o : HO} (h : b ≠ a) : upd H a o b = H b := by unfold upd; rw [if_neg h]
theorem upd_upd {H : Hp} {a : Addr} {o u : HO} : upd (upd H a o) a u = upd H a u := by
  funext b; unfold upd; split <;> rfl
/-- two objects of different content stand apart -/
theorem ne_of {H : Hp} {a b : Addr} {o u : HO} (h : H a = some o) (h' : H b = some u) (d : o ≠ u) : a ≠ b := by
  intro e; subst e; rw [h] at h'; exact d (Option.some.inj h')
theorem ne_of_none {H : Hp} {a b : Addr} {o : HO} (h : H a = some o) (h' : H b = none) : a ≠ b := by
  intro e; subst e; rw [h] at h'; cases h'

section
variable (P : Program) (w : World)
def ObjOk (H : Hp) (h : Heap) (a : Addr) : HO → Prop
  | .lst xs => xs.length ≤ sizeLine ∧ ∃ (its : List Value) (n : Nat), Vals xs its ∧ h.get? a = some { cls := .type "list", data := .seq its.toArray n }
  | .tup xs => xs.length ≤ sizeLine ∧ ∃ its : List Value, Vals xs its ∧ IsTup h a its.toArray
  | .dK kvs => kvs.length ≤ sizeLine ∧ (a == sysModules) = false ∧ ∃ vs, KV kvs vs ∧ h.DictOf (mixKind P w) a vs
  | .dT kvs => kvs.length ≤ sizeLine ∧ (a == sysModules) = false ∧ ∃ xs : List (List Key × Addr × Value),
      Paired (fun (p : List Key × V) (q : List Key × Addr × Value) => p.1 = q.1 ∧ H q.2.1 = some (.tup (p.1.map kV)) ∧ RelV p.2 q.2.2) kvs xs ∧
      ∃ o es ep, h.get? a = some o ∧ o.ExactDict ∧ o.data = .dict es ep ∧ es.toList = xs.map (entryOfKey (tupleKind (mixKind P w))) ∧ (xs.map (·.1)).Nodup
  | .set S n => h.SetOf (intKind P w) a S n
  | .ins C dx fs => H dx = some (.own a) ∧ fs.length ≤ 1000 ∧ dx ≠ a ∧ h.get? a = some (PySem.W.instObj C dx) ∧
      ∃ mA, h.Ns1 dx mA ∧ (∀ f, RelO (fs.lookup f) (mA f)) ∧ PySem.Within mA (fs.map (·.1))
  | .own _ => ∃ o, h.get? a = some o
  | .xd fs => ∃ mA, h.Ns1 a mA ∧ ∀ f, RelO (fs.lookup f) (mA f)
  | .rng lo hi => ∃ t u v, h.get? a = some { cls := .type "range", data := .fields #[.int lo t, .int hi u, .int 1 v] }
  | .frz o u => h.get? a = some o ∧ ObjOk H h a u
  | .tbl ps => h.get? a = some { cls := .none, data := .fields ps }
  | .met f x => h.get? a = some (PySem.W.methodObj (.ref f) (.ref x))
  | .ext φ => φ h ∧ (∃ o, h.get? a = some o) ∧ ∀ h1 h2 : Heap, φ h1 → (∀ o, h1.get? a = some o → h2.get? a = some o) → φ h2
/-- the abstract heap is held -/
def HOk (H : Hp) (h : Heap) : Prop := ∀ a o, H a = some o → ObjOk P w H h a o
end

section
variable {P : Program} {w : World} {H H' : Hp} {h h' : Heap} {a : Addr} {o : HO}
theorem ObjOk.lt (x : ObjOk P w H h a o) : a < h.objs.size := by
  cases o with
  | lst xs => obtain ⟨_, _, _, _, e⟩ := x; exact Heap.lt_size e
  | tup xs => obtain ⟨_, _, _, p⟩ := x; exact p.lt
  | dK kvs => obtain ⟨_, _, _, _, o, _, _, e, _⟩ := x; exact Heap.lt_size e
  | dT kvs => obtain ⟨_, _, _, _, o, _, _, e, _⟩ := x; exact Heap.lt_size e
  | set S n => obtain ⟨o, _, _, _, e, _⟩ := x; exact Heap.lt_size e
  | ins C dx fs => obtain ⟨_, _, _, e, _⟩ := x; exact Heap.lt_size e
  | own y => obtain ⟨_, e⟩ := x; exact Heap.lt_size e
  | xd fs => obtain ⟨_, ⟨_, _, _, e, _⟩, _⟩ := x; exact Heap.lt_size e
  | rng lo hi => obtain ⟨_, _, _, e⟩ := x; exact Heap.lt_size e
  | frz ob u => obtain ⟨e, _⟩ := x; exact Heap.lt_size e
  | tbl ps => exact Heap.lt_size (show h.get? a = some _ from x)
  | met f y => exact Heap.lt_size (show h.get? a = some _ from x)
  | ext φ => obtain ⟨_, ⟨_, e⟩, _⟩ := x; exact Heap.lt_size e
theorem Paired.mapP {α β : Type} {F G : α → β → Prop} : ∀ {l₁ : List α} {l₂ : List β}, Paired F l₁ l₂ → (∀ a b, F a b → G a b) → Paired G l₁ l₂
  | _, _, .nil, _ => .nil
  | _, _, .cons r t, f => .cons (f _ _ r) (Paired.mapP t f)
/-- what an object's description leans on: its own object, its own dict, the tuples -/
theorem ObjOk.stay (x : ObjOk P w H h a o) (k : ∀ b u, (b = a ∨ H b = some (.own a)) → h.get? b = some u → h'.get? b = some u)
    (ho : ∀ b, H b = some (.own a) → H' b = some (.own a)) (ht : ∀ b xs, H b = some (.tup xs) → H' b = some (.tup xs)) : ObjOk P w H' h' a o := by
  induction o with
  | lst xs => obtain ⟨z, its, n, r, e⟩ := x; exact ⟨z, its, n, r, k _ _ (.inl rfl) e⟩
  | tup xs => obtain ⟨z, its, r, ob, e, c⟩ := x; exact ⟨z, its, r, ob, k _ _ (.inl rfl) e, c⟩
  | dK kvs => obtain ⟨z, y, vs, r, ob, es, ep, e, c⟩ := x; exact ⟨z, y, vs, r, ob, es, ep, k _ _ (.inl rfl) e, c⟩
  | dT kvs =>
    obtain ⟨z, y, xs, r, ob, es, ep, e, c⟩ := x
    exact ⟨z, y, xs, Paired.mapP r fun p q z => ⟨z.1, ht _ _ z.2.1, z.2.2⟩, ob, es, ep, k _ _ (.inl rfl) e, c⟩
  | set S n => obtain ⟨ob, es, ep, t, e, c⟩ := x; exact ⟨ob, es, ep, t, k _ _ (.inl rfl) e, c⟩
  | ins C dx fs =>
    obtain ⟨d, z, ne, e, mA, ⟨od, es, ep, e2, c⟩, r⟩ := x
    exact ⟨ho _ d, z, ne, k _ _ (.inl rfl) e, mA, ⟨od, es, ep, k _ _ (.inr d) e2, c⟩, r⟩
  | own y => obtain ⟨ob, e⟩ := x; exact ⟨ob, k _ _ (.inl rfl) e⟩
  | xd fs => obtain ⟨mA, ⟨od, es, ep, e, c⟩, r⟩ := x; exact ⟨mA, ⟨od, es, ep, k _ _ (.inl rfl) e, c⟩, r⟩
  | rng lo hi => obtain ⟨t, u, v, e⟩ := x; exact ⟨t, u, v, k _ _ (.inl rfl) e⟩
  | frz ob u ih => obtain ⟨e, q⟩ := x; exact ⟨k _ _ (.inl rfl) e, ih q⟩
  | tbl ps =>
    have e : h.get? a = some { cls := .none, data := .fields ps } := x
    show h'.get? a = some { cls := .none, data := .fields ps }
    exact k a _ (.inl rfl) e
  | met f y =>
    have e : h.get? a = some (PySem.W.methodObj (.ref f) (.ref y)) := x
    show h'.get? a = some (PySem.W.methodObj (.ref f) (.ref y))
    exact k a _ (.inl rfl) e
  | ext φ => obtain ⟨p, ⟨o, e⟩, st⟩ := x; exact ⟨st _ _ p fun o q => k _ _ (.inl rfl) q, ⟨o, k _ _ (.inl rfl) e⟩, st⟩
theorem HOk.lt (x : HOk P w H h) (e : H a = some o) : a < h.objs.size := (x a o e).lt
theorem HOk.fresh (x : HOk P w H h) (e : h.objs.size ≤ a) : H a = none := by
  cases q : H a with
  | none => rfl
  | some u => exact absurd (Nat.lt_of_lt_of_le (x.lt q) e) (Nat.lt_irrefl _)
/-- every object of the heap is kept -/
theorem HOk.kept (x : HOk P w H h) (k : ∀ b u, h.get? b = some u → h'.get? b = some u) : HOk P w H h' := fun a o e =>
  (x a o e).stay (fun b u _ q => k b u q) (fun _ q => q) fun _ _ q => q
/-- a new object is laid and tracked -/
theorem HOk.laid (x : HOk P w H h) (k : ∀ b u, h.get? b = some u → h'.get? b = some u) (hp : h.objs.size ≤ a) (new : ObjOk P w (upd H a o) h' a o) : HOk P w (upd H a o) h' := fun b u e => by
  have hn := x.fresh hp
  by_cases hb : b = a
  · subst hb; rw [upd_same] at e; cases e; exact new
  · rw [upd_ne hb] at e
    exact (x b u e).stay (fun c v _ q => k c v q) (fun c q => by rw [upd_ne (ne_of_none q hn)]; exact q) fun c xs q => by rw [upd_ne (ne_of_none q hn)]; exact q
end

/-- what may be read as u: it is u, or a known u -/
def Rd (H : Hp) (a : Addr) (u : HO) : Prop := H a = some u ∨ ∃ o, H a = some (.frz o u)
theorem Rd.of {H : Hp} {a : Addr} {u : HO} (h : H a = some u) : Rd H a u := .inl h
theorem Rd.ok {P : Program} {w : World} {H : Hp} {h : Heap} {a : Addr} {u : HO} (r : Rd H a u) (x : HOk P w H h) : ObjOk P w H h a u := by
  rcases r with r | ⟨o, r⟩
  · exact x a u r
  · obtain ⟨_, q⟩ := x a _ r
    exact q
/-- what may be written -/
def Mut : Option HO → Prop
  | some (.lst _) => True
  | some (.dK _) => True
  | some (.dT _) => True
  | some (.set _ _) => True
  | some (.ins _ _ _) => True
  | some (.ext _) => True
  | _ => False
section
variable {P : Program} {w : World} {H : Hp} {h h' : Heap} {x e : Addr} {o' : HO}
/-- the object at e is changed: x itself, or the dict of the instance x -/
theorem HOk.write (ok : HOk P w H h) (mu : Mut (H x)) (he : e = x ∨ H e = some (.own x)) (k : ∀ b u, b ≠ e → h.get? b = some u → h'.get? b = some u) (heo : ∃ u, h'.get? e = some u)
    (new : ObjOk P w (upd H x o') h' x o') : HOk P w (upd H x o') h' := fun b u q => by
  have nown : ∀ c y, H c = some (.own y) → c ≠ x := fun c y r z => by subst z; rw [r] at mu; exact mu
  have ntup : ∀ c xs, H c = some (.tup xs) → c ≠ x := fun c xs r z => by subst z; rw [r] at mu; exact mu
  by_cases hb : b = x
  · subst hb; rw [upd_same] at q; cases q; exact new
  · rw [upd_ne hb] at q
    by_cases hbe : b = e
    · have q' : H b = some (.own x) := by
        rcases he with z | z
        · exact absurd (hbe.trans z) hb
        · rw [hbe]; exact z
      rw [q] at q'; cases q'
      obtain ⟨v, hv⟩ := heo
      exact ⟨v, by rw [hbe]; exact hv⟩
    · refine (ok b u q).stay (fun c v hc r => k c v ?_ r) (fun c r => by rw [upd_ne (nown c b r)]; exact r) fun c xs r => by rw [upd_ne (ntup c xs r)]; exact r
      rcases hc with rfl | hc
      · exact hbe
      · rintro rfl
        rcases he with z | z
        · exact nown c b hc z
        · rw [hc] at z; cases z; exact hb rfl
end

/-! ### kept unless tracked; of the frames at fs (the callers') the slots may change (an exception that passes writes there); of the records at ex (iterators) nothing is said -/
structure Un (fs ex : List Addr) (H H' : Hp) (h h' : Heap) : Prop where
  keep : ∀ b o, h.get? b = some o → H b = none → b ∉ fs → b ∉ ex → h'.get? b = some o
  slot : ∀ b o, h.get? b = some o → H b = none → b ∈ fs → b ∉ ex → ∃ sl, h'.get? b = some { o with slots := sl }
  free : ∀ b o, h.get? b = some o → H b = none → b ∉ ex → H' b = none
  there : ∀ b o, h.get? b = some o → b ∉ ex → ∃ o', h'.get? b = some o'
  tups : ∀ b xs, H b = some (.tup xs) → H' b = some (.tup xs)
  frzs : ∀ b o u, H b = some (.frz o u) → H' b = some (.frz o u)
  tbls : ∀ b ps, H b = some (.tbl ps) → ∃ more, H' b = some (.tbl (ps ++ more))
section
variable {fs fs' ex ex' : List Addr} {H H1 H2 : Hp} {h h1 h2 h' : Heap} {a x e : Addr} {o : HO}
theorem Un.any (u : Un fs ex H H1 h h1) {b : Addr} {ob : Obj} (q : h.get? b = some ob) (n : H b = none) (hx : b ∉ ex) : ∃ sl, h1.get? b = some { ob with slots := sl } := by
  by_cases hb : b ∈ fs
  · exact u.slot b ob q n hb hx
  · exact ⟨ob.slots, u.keep b ob q n hb hx⟩
theorem Un.trans (a : Un fs ex H H1 h h1) (b : Un fs ex H1 H2 h1 h2) : Un fs ex H H2 h h2 where
  keep := fun c ob q n hc hx => b.keep c ob (a.keep c ob q n hc hx) (a.free c ob q n hx) hc hx
  slot := fun c ob q n hc hx => by
    obtain ⟨sl, e1⟩ := a.slot c ob q n hc hx
    obtain ⟨sl', e2⟩ := b.slot c _ e1 (a.free c ob q n hx) hc hx
    exact ⟨sl', e2⟩
  free := fun c ob q n hx => by
    obtain ⟨o', e1⟩ := a.there c ob q hx
    exact b.free c o' e1 (a.free c ob q n hx) hx
  there := fun c ob q hx => by
    obtain ⟨o', e1⟩ := a.there c ob q hx
    exact b.there c o' e1 hx
  tups := fun c xs q => b.tups c xs (a.tups c xs q)
  frzs := fun c ob xs q => b.frzs c ob xs (a.frzs c ob xs q)
  tbls := fun c ps q => by
    obtain ⟨m1, e1⟩ := a.tbls c ps q
    obtain ⟨m2, e2⟩ := b.tbls c _ e1
    exact ⟨m1 ++ m2, by rw [e2, Array.append_assoc]⟩
theorem Un.kept (k : ∀ b u, h.get? b = some u → h'.get? b = some u) : Un fs ex H H h h' :=
  ⟨fun b ob q _ _ _ => k b ob q, fun b ob q _ _ _ => ⟨ob.slots, k b ob q⟩, fun _ _ _ n _ => n, fun b ob q _ => ⟨ob, k b ob q⟩, fun _ _ q => q, fun _ _ _ q => q, fun _ ps q => ⟨#[], by rw [q]; simp⟩⟩
theorem Un.refl : Un fs ex H H h h := Un.kept fun _ _ q => q
theorem Un.laid (k : ∀ b u, h.get? b = some u → h'.get? b = some u) (hp : h.objs.size ≤ a) (hn : H a = none) : Un fs ex H (upd H a o) h h' where
  keep := fun b u q _ _ _ => k b u q
  slot := fun b u q _ _ _ => ⟨u.slots, k b u q⟩
  free := fun b u q n _ => by rw [upd_ne (Nat.ne_of_lt (Nat.lt_of_lt_of_le (Heap.lt_size q) hp))]; exact n
  there := fun b u q _ => ⟨u, k b u q⟩
  tups := fun b xs q => by rw [upd_ne (ne_of_none q hn)]; exact q
  frzs := fun b u xs q => by rw [upd_ne (ne_of_none q hn)]; exact q
  tbls := fun b ps q => ⟨#[], by rw [upd_ne (ne_of_none q hn), q]; simp⟩
theorem Un.write (mu : Mut (H x)) (he : e = x ∨ H e = some (.own x)) (k : ∀ b u, b ≠ e → h.get? b = some u → h'.get? b = some u) (heo : ∃ u, h'.get? e = some u) : Un fs ex H (upd H x o) h h' := by
  have hx : ∀ b, H b = none → b ≠ x := fun b n z => by subst z; rw [n] at mu; exact mu
  have hb : ∀ b, H b = none → b ≠ e := fun b n z => by
    subst z
    rcases he with r | r
    · exact hx b n r
    · rw [n] at r; cases r
  have hm : ∀ b u, H b = some u → ¬ Mut (some u) → b ≠ x := fun b u q nm z => by subst z; rw [q] at mu; exact nm mu
  refine ⟨fun b u q n _ _ => k b u (hb b n) q, fun b u q n _ _ => ⟨u.slots, k b u (hb b n) q⟩, fun b u q n _ => by rw [upd_ne (hx b n)]; exact n, fun b u q _ => ?_,
    fun b xs q => by rw [upd_ne (hm b _ q fun z => z)]; exact q, fun b u xs q => by rw [upd_ne (hm b _ q fun z => z)]; exact q, fun b ps q => ⟨#[], by rw [upd_ne (hm b _ q fun z => z), q]; simp⟩⟩
  by_cases hbe : b = e
  · subst hbe; exact heo
  · exact ⟨u, k b u hbe q⟩
theorem Un.mono (u : Un fs ex H H1 h h1) (hs : ∀ b ∈ fs, b ∈ fs') (hx : ∀ b ∈ ex, b ∈ ex') : Un fs' ex' H H1 h h1 :=
  ⟨fun b ob q n hb he => u.keep b ob q n (fun z => hb (hs b z)) fun z => he (hx b z), fun _ _ q n _ he => u.any q n fun z => he (hx _ z), fun b ob q n he => u.free b ob q n fun z => he (hx b z), fun b ob q he => u.there b ob q fun z => he (hx b z), u.tups, u.frzs, u.tbls⟩
end

/-! ### the heap without what is tracked -/
def trk (h : Heap) (H : Hp) : List Addr := (List.range h.objs.size).filter fun a => (H a).isSome
def hidT (h : Heap) (H : Hp) : Heap := PySem.W.hideAll h (trk h H)
theorem hidT_size (h : Heap) (H : Hp) : (hidT h H).objs.size = h.objs.size := PySem.W.hideAll_size _ _
theorem hidT_get {h : Heap} {H : Hp} {b : Addr} {o : Obj} (e : h.get? b = some o) (n : H b = none) : (hidT h H).get? b = some o :=
  PySem.W.hideAll_get _ e fun hm => by
    have q : (H b).isSome = true := (List.mem_filter.mp hm).2
    rw [n] at q; simp at q
theorem of_hidT {h : Heap} {H : Hp} {b : Addr} {o : Obj} (e : (hidT h H).get? b = some o) : h.get? b = some o ∧ H b = none := by
  have e' : h.get? b = some o := PySem.W.of_hideAll (trk h H) e
  refine ⟨e', ?_⟩
  cases q : H b with
  | none => rfl
  | some x =>
    have hm : b ∈ trk h H := List.mem_filter.mpr ⟨List.mem_range.mpr (Heap.lt_size e'), by simp [q]⟩
    have z : (hidT h H).get? b = none := PySem.W.hideAll_none (trk h H) hm
    rw [z] at e; cases e

/-! ### OpenK's ledger, filled with every new object but one -/
def allNews (g h : Heap) (L : Addr) : List (Addr × Obj) := (List.range h.objs.size).filterMap fun a => if a = L ∨ (g.get? a).isSome = true then none else (h.get? a).map fun o => (a, o)
def rest (g h : Heap) (L d : Addr) : List (Addr × Obj) := (allNews g h L).filter fun p => decide (p.1 ≠ d)
end L2

namespace L2
open PySem PySem.Spec PyProof.Rows

/-- the module's facts, over the base: the heap at the law's entry without what is tracked there -/
structure Mod (K : PySem.W.Frag) (mg : Str → Option Value) (base : Heap) : Prop where
  kin : K.In base
  glob : base.Ns mainGlobals mg
  blt : ∃ mb, base.Ns builtinsNs mb ∧ ∀ x : Str, x ≠ "__name__" → mb x = bootBuiltins x
  nolimit : base.NoLimit
  sys : ∃ o, base.get? sysModules = some o

/-- the context: a def's body (or a comprehension's block) running. base: fixed through the whole law; s₀, H₀: the entry; outer: the frames whose slots others may change (a def's callers); stack: all frames that run;
   ex: iterators that were made ahead of the entry and are walked here (a comprehension's); fn: the names whose cells were made at the entry (a def: all; a comprehension's block: its own); calm: not within an except suite; pn: pins that every state bears; xe: what is wanted of an exception that leaves the code -/
structure Cx where
  prog : Program
  w : World
  K : PySem.W.Frag
  mg : Str → Option Value
  base : Heap
  A : Around
  N : List Str
  s_0 : Shared
  H_0 : Hp
  env : Env
  outer : List Env
  stack : List Env
  ex : List Addr
  fn : Str → Bool
  calm : Bool
  pn : List (Addr × Obj)
  xe : Value → Shared → Prop
/-- the callers' frames -/
def frs (l : List Env) : List Addr := l.filterMap (·.frame)
abbrev Cx.fs (X : Cx) : List Addr := frs X.outer

def Vis (sc : Scope) (x : Str) : Prop := sc.names.lookup x = some .local ∨ sc.names.lookup x = some .cell ∨ sc.names.lookup x = some .free
def Loc (sc : Scope) (x : Str) : Prop := sc.names.lookup x = some .local ∨ sc.names.lookup x = some .cell
def Look (env : Env) (h : Heap) (m : Str → Option Value) (x : Str) (u : Value) : Prop :=
  (env.kindOf x = some .local ∧ m x = some u) ∨ ((env.kindOf x = some .cell ∨ env.kindOf x = some .free) ∧ ∃ c, env.cells.lookup x = some c ∧ h.IsCell c (some u))

structure Cx.Ok (X : Cx) : Prop where
  mod : Mod X.K X.mg X.base
  kind : X.env.scope.kind = .function
  glob : X.env.globals = mainGlobals
  blt : X.env.builtins = builtinsNs
  above : X.s_0.heap.objs.size ≤ X.env.locals
  inj : ∀ x y c, X.env.cells.lookup x = some c → X.env.cells.lookup y = some c → x = y
  has : ∀ x, (X.env.kindOf x = some .cell ∨ X.env.kindOf x = some .free) → ∃ c, X.env.cells.lookup x = some c
  cab : ∀ x c, X.fn x = true → X.env.cells.lookup x = some c → X.s_0.heap.objs.size ≤ c
  hd : X.calm = true → X.A.handled = none
  frames : X.A.frames = some X.stack
  stk : X.stack = X.outer ∨ (X.stack = X.env :: X.outer ∧ X.env.frame = some X.env.locals)
  exf : ∀ b ∈ X.ex, b ≠ X.env.locals ∧ ∀ x c, X.env.cells.lookup x = some c → c ≠ b
  bs : ∀ b o, X.base.get? b = some o → X.s_0.heap.get? b = some o ∧ X.H_0 b = none
  bsz : X.base.objs.size ≤ X.s_0.heap.objs.size
  noex : ∀ b o, X.base.get? b = some o → b ∉ X.ex
  exfs : ∀ b ∈ X.ex, b ∉ X.fs
  funs : X.s_0.heap.FunFrames X.base X.outer
  frf : ∀ b ∈ X.fs, X.H_0 b = none

structure Inv (X : Cx) (pins : List (Addr × Obj)) (σ : List (Option V)) (H : Hp) (s : Shared) : Prop where
  ok : X.Ok
  os : s.os = X.s_0.os
  bare : AllBare s.gens
  base : Un X.fs X.ex X.H_0 H X.s_0.heap s.heap
  loc : ∃ m, s.heap.Ns X.env.locals m ∧ ∀ (i : Nat) (x : Str) (v : V), X.N[i]? = some x → σ[i]? = some (some v) → Vis X.env.scope x → ∃ u, RelV v u ∧ Look X.env s.heap m x u
  cell : ∀ x c, X.env.cells.lookup x = some c → ∃ v, s.heap.IsCell c v
  free : H X.env.locals = none
  freeC : ∀ x c, X.env.cells.lookup x = some c → H c = none
  pin : ∀ p ∈ X.pn ++ pins, s.heap.get? p.1 = some p.2 ∧ H p.1 = none ∧ p.1 ≠ X.env.locals ∧ p.1 ∉ X.fs ∧ ∀ v, p.2.data ≠ .cell v
  hok : HOk X.prog X.w H s.heap
  len : σ.length = X.N.length

section
variable {X : Cx} {pins : List (Addr × Obj)} {σ : List (Option V)} {H H' : Hp} {s : Shared} {h' : Heap}

theorem Cx.Ok.nofr (ok : X.Ok) {b : Addr} {o : Obj} (e : X.base.get? b = some o) : b ∉ X.fs := fun hb => by
  have := (ok.funs.mem hb).1
  rw [e] at this; cases this
theorem Inv.bs (I : Inv X pins σ H s) : ∀ b o, X.base.get? b = some o → s.heap.get? b = some o ∧ H b = none := fun b o e =>
  ⟨I.base.keep b o (I.ok.bs b o e).1 (I.ok.bs b o e).2 (I.ok.nofr e) (I.ok.noex b o e), I.base.free b o (I.ok.bs b o e).1 (I.ok.bs b o e).2 (I.ok.noex b o e)⟩
theorem Inv.bk (I : Inv X pins σ H s) : ∀ b o, X.base.get? b = some o → s.heap.get? b = some o := fun b o e => (I.bs b o e).1
theorem Inv.mod (I : Inv X pins σ H s) : Mod X.K X.mg X.base := I.ok.mod
theorem Inv.kIn (I : Inv X pins σ H s) : X.K.In s.heap := I.ok.mod.kin.keeps I.bk
theorem Inv.nolimit (I : Inv X pins σ H s) : s.heap.NoLimit := I.ok.mod.nolimit.keeps I.bk
/-- the frame over the base: for OpenK's rules (K.In X.base is I.mod.kin) -/
theorem Inv.fr (I : Inv X pins σ H s) : ∃ m, Fr X.base X.env.locals s.heap m :=
  let ⟨m, hn, _⟩ := I.loc
  ⟨m, hn, I.bk, Nat.le_trans I.ok.bsz I.ok.above⟩
theorem Inv.lt (I : Inv X pins σ H s) : X.env.locals < s.heap.objs.size := let ⟨_, hn, _⟩ := I.loc; hn.lt
theorem Inv.sz (I : Inv X pins σ H s) : X.s_0.heap.objs.size ≤ s.heap.objs.size := Nat.le_trans I.ok.above (Nat.le_of_lt I.lt)
theorem Inv.nofs (I : Inv X pins σ H s) {a : Addr} (h : s.heap.objs.size ≤ a) : a ∉ X.fs := fun hb => by
  obtain ⟨_, o, ho, _⟩ := I.ok.funs.mem hb
  exact absurd (Nat.lt_of_lt_of_le (Heap.lt_size ho) (Nat.le_trans I.sz h)) (Nat.lt_irrefl _)
theorem Inv.cne (I : Inv X pins σ H s) : ∀ x c, X.env.cells.lookup x = some c → c ≠ X.env.locals := fun x c e z => by
  obtain ⟨v, o, ho, hd⟩ := I.cell x c e
  obtain ⟨m, ⟨o', es, ep, ho', hd', _⟩, _⟩ := I.loc
  rw [z, ho'] at ho; cases ho; rw [hd'] at hd; cases hd
theorem Inv.funs (I : Inv X pins σ H s) : s.heap.FunFrames X.base X.outer := by
  have all : ∀ (l : List Env), (∀ b ∈ frs l, b ∈ X.fs) → X.s_0.heap.FunFrames X.base l → s.heap.FunFrames X.base l := by
    intro l
    induction l with
    | nil => intro _ _; trivial
    | cons env r ih =>
      intro hs hl
      obtain ⟨hk, ⟨L, o, hf, hn, ho, hd⟩, hr⟩ := hl
      have hL : L ∈ X.fs := hs L (by unfold frs; rw [List.filterMap_cons, hf]; exact List.mem_cons_self)
      obtain ⟨sl, e⟩ := I.base.slot L o ho (I.ok.frf L hL) hL fun z => I.ok.exfs L z hL
      exact ⟨hk, ⟨L, _, hf, hn, e, hd⟩, ih (fun b hb => hs b (by unfold frs; rw [List.filterMap_cons, hf]; exact List.mem_cons_of_mem _ hb)) hr⟩
  exact all X.outer (fun _ hb => hb) I.ok.funs

/-- the frames that run, for a call -/
theorem Inv.stack (I : Inv X pins σ H s) : s.heap.FunFrames X.base X.stack := by
  rcases I.ok.stk with e | ⟨e, hf⟩
  · rw [e]; exact I.funs
  · rw [e]
    obtain ⟨m, hn, _⟩ := I.loc
    refine .cons (by rw [I.ok.kind]; decide) hf hn ?_ I.funs
    exact Heap.get?_none_of_le (Nat.le_trans I.ok.bsz I.ok.above)
theorem Inv.stkSub (I : Inv X pins σ H s) : ∀ b ∈ frs X.stack, b ∈ X.env.locals :: X.fs := fun b hb => by
  rcases I.ok.stk with e | ⟨e, hf⟩
  · rw [e] at hb; exact List.mem_cons_of_mem _ hb
  · rw [e] at hb
    unfold frs at hb
    rw [List.filterMap_cons, hf] at hb
    exact hb
theorem Inv.stkFree (I : Inv X pins σ H s) : ∀ b ∈ frs X.stack, H b = none := fun b hb => by
  rcases List.mem_cons.mp (I.stkSub b hb) with e | hb
  · rw [e]; exact I.free
  · obtain ⟨_, o, ho, _⟩ := I.ok.funs.mem hb
    exact I.base.free b o ho (I.ok.frf b hb) fun z => I.ok.exfs b z hb

/-- THE STEP: the untracked objects but the frame and the records at ch are kept (the callers' frames up to slots), the frame's map is kept, the new abstract heap is held -/
theorem Inv.step {g' : Array GenState} {t' : Nat} {d' : Drawn} {ch : List Addr} (I : Inv X pins σ H s)
    (hch : ∀ b ∈ ch, (b ∈ X.ex ∨ X.s_0.heap.objs.size ≤ b) ∧ b ≠ X.env.locals ∧ (∀ x c, X.env.cells.lookup x = some c → c ≠ b) ∧ ∀ p ∈ X.pn ++ pins, p.1 ≠ b)
    (keep : ∀ b o, b ≠ X.env.locals → b ∉ X.fs → b ∉ ch → s.heap.get? b = some o → H b = none → h'.get? b = some o)
    (slot : ∀ b o, b ≠ X.env.locals → b ∈ X.fs → b ∉ ch → s.heap.get? b = some o → H b = none → ∃ sl, h'.get? b = some { o with slots := sl }) (free : ∀ b o, b ∉ ch → s.heap.get? b = some o → H b = none → H' b = none)
    (there : ∀ b o, b ∉ ch → s.heap.get? b = some o → ∃ o', h'.get? b = some o')
    (tups : ∀ b xs, H b = some (.tup xs) → H' b = some (.tup xs)) (frzs : ∀ b o u, H b = some (.frz o u) → H' b = some (.frz o u)) (tbls : ∀ b ps, H b = some (.tbl ps) → ∃ more, H' b = some (.tbl (ps ++ more)))
    (ns : ∀ m, s.heap.Ns X.env.locals m → h'.Ns X.env.locals m) (hok : HOk X.prog X.w H' h') (hg : AllBare g') :
    Inv X pins σ H' { s with heap := h', gens := g', drawn := d', toks := t' } := by
  have neL : ∀ b o, X.s_0.heap.get? b = some o → b ≠ X.env.locals := fun b o e => Nat.ne_of_lt (Nat.lt_of_lt_of_le (Heap.lt_size e) I.ok.above)
  have neC : ∀ b o, X.s_0.heap.get? b = some o → b ∉ X.ex → b ∉ ch := fun b o e hx hb => by
    rcases (hch b hb).1 with z | z
    · exact hx z
    · exact absurd (Nat.lt_of_lt_of_le (Heap.lt_size e) z) (Nat.lt_irrefl _)
  have cellK : ∀ x c, X.env.cells.lookup x = some c → ∀ v, s.heap.IsCell c v → h'.IsCell c v := fun x c e v ⟨o, ho, hd⟩ => by
    have nch : c ∉ ch := fun z => (hch c z).2.2.1 x c e rfl
    by_cases hc : c ∈ X.fs
    · obtain ⟨sl, q⟩ := slot c o (I.cne x c e) hc nch ho (I.freeC x c e)
      exact ⟨_, q, hd⟩
    · exact ⟨o, keep c o (I.cne x c e) hc nch ho (I.freeC x c e), hd⟩
  refine ⟨I.ok, I.os, hg, ⟨fun b o e n hb hx => ?_, fun b o e n hb hx => ?_, fun b o e n hx => ?_, fun b o e hx => ?_, fun b xs e => tups b xs (I.base.tups b xs e), fun b o xs e => frzs b o xs (I.base.frzs b o xs e), fun b ps e => ?_⟩, ?_, fun x c e => ?_, ?_, fun x c e => ?_, fun p hp => ?_, hok, I.len⟩
  · exact keep b o (neL b o e) hb (neC b o e hx) (I.base.keep b o e n hb hx) (I.base.free b o e n hx)
  · obtain ⟨sl, e1⟩ := I.base.slot b o e n hb hx
    obtain ⟨sl', e2⟩ := slot b _ (neL b o e) hb (neC b o e hx) e1 (I.base.free b o e n hx)
    exact ⟨sl', e2⟩
  · obtain ⟨o', e1⟩ := I.base.there b o e hx
    exact free b o' (neC b o e hx) e1 (I.base.free b o e n hx)
  · obtain ⟨o', e1⟩ := I.base.there b o e hx
    exact there b o' (neC b o e hx) e1
  · obtain ⟨m1, e1⟩ := I.base.tbls b ps e
    obtain ⟨m2, e2⟩ := tbls b _ e1
    exact ⟨m1 ++ m2, by rw [e2, Array.append_assoc]⟩
  · obtain ⟨m, hn, hl⟩ := I.loc
    refine ⟨m, ns m hn, fun i x v e1 e2 e3 => ?_⟩
    obtain ⟨u, r, l⟩ := hl i x v e1 e2 e3
    refine ⟨u, r, ?_⟩
    rcases l with l | ⟨k, c, e, z⟩
    · exact .inl l
    · exact .inr ⟨k, c, e, cellK x c e _ z⟩
  · obtain ⟨v, z⟩ := I.cell x c e
    exact ⟨v, cellK x c e v z⟩
  · obtain ⟨m, ⟨o, _, _, ho, _⟩, _⟩ := I.loc
    exact free _ o (fun z => (hch _ z).2.1 rfl) ho I.free
  · obtain ⟨v, o, ho, hd⟩ := I.cell x c e
    exact free c o (fun z => (hch c z).2.2.1 x c e rfl) ho (I.freeC x c e)
  · obtain ⟨e, n, ne, nf, d⟩ := I.pin p hp
    have nch : p.1 ∉ ch := fun z => (hch p.1 z).2.2.2 p hp rfl
    exact ⟨keep p.1 p.2 ne nf nch e n, free p.1 p.2 nch e n, ne, nf, d⟩
/-- .. where the frame's own object is kept too -/
theorem Inv.un {t' : Nat} (I : Inv X pins σ H s) (u : Un X.fs [] H H' s.heap h') (hok : HOk X.prog X.w H' h') : Inv X pins σ H' { s with heap := h', toks := t' } := by
  obtain ⟨m, ⟨o, es, ep, ho, r⟩, _⟩ := id I.loc
  obtain ⟨sl, hL⟩ := u.any ho I.free (by simp)
  exact I.step (g' := s.gens) (d' := s.drawn) (ch := []) (fun _ z => nomatch z) (fun b o _ hb _ e n => u.keep b o e n hb (by simp)) (fun b o _ hb _ e n => u.slot b o e n hb (by simp)) (fun b o _ e n => u.free b o e n (by simp)) (fun b o _ e => u.there b o e (by simp)) u.tups u.frzs u.tbls (fun m' hm => by
    obtain ⟨o', es', ep', ho', r'⟩ := hm
    rw [ho] at ho'; cases ho'
    exact ⟨_, es', ep', hL, r'⟩) hok I.bare
/-- behind a call (or a comprehension's block): the slots of this frame may have changed too, the records at ch may have turned -/
theorem Inv.call {g' : Array GenState} {t' : Nat} {d' : Drawn} {ch : List Addr} (I : Inv X pins σ H s) (u : Un (frs X.stack) ch H H' s.heap h') (hok : HOk X.prog X.w H' h') (hg : AllBare g')
    (hch : ∀ b ∈ ch, (b ∈ X.ex ∨ X.s_0.heap.objs.size ≤ b) ∧ b ≠ X.env.locals ∧ (∀ x c, X.env.cells.lookup x = some c → c ≠ b) ∧ ∀ p ∈ X.pn ++ pins, p.1 ≠ b) :
    Inv X pins σ H' { s with heap := h', gens := g', drawn := d', toks := t' } := by
  obtain ⟨m, ⟨o, es, ep, ho, r⟩, _⟩ := id I.loc
  obtain ⟨sl, hL⟩ := u.any ho I.free fun z => (hch _ z).2.1 rfl
  exact I.step (ch := ch) hch (fun b o hL hb hc e n => u.keep b o e n (fun z => (List.mem_cons.mp (I.stkSub b z)).elim hL hb) hc) (fun b o _ _ hc e n => u.any e n hc) (fun b o hc e n => u.free b o e n hc) (fun b o hc e => u.there b o e hc) u.tups u.frzs u.tbls (fun m' hm => by
    obtain ⟨o', es', ep', ho', r'⟩ := hm
    rw [ho] at ho'; cases ho'
    exact ⟨_, es', ep', hL, r'⟩) hok hg
/-- an untracked record of ours (an iterator) has turned -/
theorem Inv.turned {t' : Nat} {it : Addr} (I : Inv X pins σ H s) (k : ∀ b o, b ≠ it → s.heap.get? b = some o → h'.get? b = some o) (hn : H it = none) (hL : it ≠ X.env.locals)
    (h1 : it ∈ X.ex ∨ X.s_0.heap.objs.size ≤ it) (h2 : ∀ x c, X.env.cells.lookup x = some c → c ≠ it) (h3 : ∀ p ∈ X.pn ++ pins, p.1 ≠ it) : Inv X pins σ H { s with heap := h', toks := t' } := by
  have nit : ∀ b u, H b = some u → b ≠ it := fun b u e z => by rw [z, hn] at e; cases e
  refine I.step (g' := s.gens) (d' := s.drawn) (ch := [it]) (fun b hb => ?_) (fun b o _ _ hc e _ => k b o (fun z => hc (by simp [z])) e) (fun b o _ _ hc e _ => ⟨o.slots, k b o (fun z => hc (by simp [z])) e⟩) (fun _ _ _ _ n => n)
    (fun b o hc e => ⟨o, k b o (fun z => hc (by simp [z])) e⟩) (fun _ _ e => e) (fun _ _ _ e => e) (fun b ps e => ⟨#[], by rw [e]; simp⟩) (fun m hm => ?_) (fun b u e => ?_) I.bare
  · have e : b = it := by simpa using hb
    subst e
    exact ⟨h1, hL, h2, h3⟩
  · obtain ⟨o, es, ep, ho, r⟩ := hm
    exact ⟨o, es, ep, k _ o (Ne.symm hL) ho, r⟩
  · refine (I.hok b u e).stay (fun c v hc q => k c v ?_ q) (fun _ q => q) fun _ _ q => q
    rcases hc with z | z
    · rw [z]; exact nit b u e
    · exact nit c _ z
theorem Inv.tok (I : Inv X pins σ H s) (t : Nat) : Inv X pins σ H { s with toks := t } := I.un (h' := s.heap) (t' := t) Un.refl I.hok
/-- all objects kept -/
theorem Inv.kept {t' : Nat} (I : Inv X pins σ H s) (k : ∀ b u, s.heap.get? b = some u → h'.get? b = some u) : Inv X pins σ H { s with heap := h', toks := t' } := I.un (Un.kept k) (I.hok.kept k)
/-- a new object laid and tracked -/
theorem Inv.laid {a : Addr} {o : HO} {t' : Nat} (I : Inv X pins σ H s) (k : ∀ b u, s.heap.get? b = some u → h'.get? b = some u) (hp : s.heap.objs.size ≤ a) (new : ObjOk X.prog X.w (upd H a o) h' a o) :
    Inv X pins σ (upd H a o) { s with heap := h', toks := t' } := I.un (Un.laid k hp (I.hok.fresh hp)) (I.hok.laid k hp new)
/-- an object written -/
theorem Inv.write {x e : Addr} {o : HO} {t' : Nat} (I : Inv X pins σ H s) (mu : Mut (H x)) (he : e = x ∨ H e = some (.own x)) (k : ∀ b u, b ≠ e → s.heap.get? b = some u → h'.get? b = some u) (heo : ∃ u, h'.get? e = some u)
    (new : ObjOk X.prog X.w (upd H x o) h' x o) : Inv X pins σ (upd H x o) { s with heap := h', toks := t' } := I.un (Un.write mu he k heo) (I.hok.write mu he k heo new)
/-- forgetting slots, pins -/
theorem Inv.weak {σ' : List (Option V)} (I : Inv X pins σ H s) (hl : σ'.length = σ.length) (w : ∀ (i : Nat) v, σ'[i]? = some (some v) → σ[i]? = some (some v)) : Inv X pins σ' H s :=
  ⟨I.ok, I.os, I.bare, I.base, let ⟨m, hn, hl'⟩ := I.loc; ⟨m, hn, fun i x v e1 e2 e3 => hl' i x v e1 (w i v e2) e3⟩, I.cell, I.free, I.freeC, I.pin, I.hok, hl.trans I.len⟩
theorem Inv.pins_of {pins' : List (Addr × Obj)} (I : Inv X pins σ H s) (h : ∀ p ∈ pins', s.heap.get? p.1 = some p.2 ∧ H p.1 = none ∧ p.1 ≠ X.env.locals ∧ p.1 ∉ X.fs ∧ ∀ v, p.2.data ≠ .cell v) : Inv X pins' σ H s :=
  ⟨I.ok, I.os, I.bare, I.base, I.loc, I.cell, I.free, I.freeC, fun p hp => (List.mem_append.mp hp).elim (fun z => I.pin p (List.mem_append_left _ z)) (h p), I.hok, I.len⟩

theorem nodup_ix {N : List Str} (hN : N.Nodup) {i j : Nat} {x : Str} (a : N[i]? = some x) (b : N[j]? = some x) : i = j := by
  obtain ⟨h1, e1⟩ := List.getElem?_eq_some_iff.mp a
  obtain ⟨h2, e2⟩ := List.getElem?_eq_some_iff.mp b
  exact (List.getElem_inj hN).mp (e1.trans e2.symm)

/-- a name is stored; what changed -/
theorem store_ok2 {M : Model} {A : Around} {E : Value → Shared → Prop} {i : Nat} {x : Str} {v : V} {u : Value} {Q : Unit → Shared → Prop} (I : Inv X pins σ H s) (hN : X.N.Nodup) (hi : X.N[i]? = some x) (hx : Loc X.env.scope x) (r : RelV v u)
    (h : ∀ s', Inv X pins (σ.set i (some v)) H s' → (∃ a, Heap.SameBut a s.heap s'.heap ∧ (a = X.env.locals ∨ X.env.cells.lookup x = some a)) → Q () s') (hf : X.fn x = true ∨ X.env.scope.names.lookup x = some .local := by first | exact .inl rfl | exact .inr rfl | assumption) : wpAny M A (storeName X.env x u) Q E s := by
  obtain ⟨m, hn, hl⟩ := id I.loc
  have hcls : (X.env.scope.kind == .class || (X.env.scope.kind == .module && X.env.locals != X.env.globals)) = false := by rw [I.ok.kind]; rfl
  have hiσ : i < σ.length := by rw [I.len]; exact (List.getElem?_eq_some_iff.mp hi).1
  have cne := I.cne
  have tracked : ∀ {a : Addr} {h' : Heap}, (∃ o, s.heap.get? a = some o ∧ H a = none) → Heap.SameBut a s.heap h' → HOk X.prog X.w H h' := fun {a h'} ha hs b ob e => by
    obtain ⟨_, _, hfree⟩ := ha
    refine (I.hok b ob e).stay (fun c w' hc q => (hs.2 c ?_).trans q) (fun _ q => q) fun _ _ q => q
    rintro rfl
    rcases hc with rfl | hc
    · rw [hfree] at e; cases e
    · rw [hfree] at hc; cases hc
  rcases hx with hk | hk
  · refine wpAny_storeName_local hk hn (fun h' hn' hs => ?_) hcls
    obtain ⟨oL, _, _, hoL, _⟩ := id hn
    refine h _ ⟨I.ok, I.os, I.bare, ⟨fun b o e n hb hx => ?_, fun b o e n hb hx => ?_, I.base.free, fun b o e hx => ?_, I.base.tups, I.base.frzs, I.base.tbls⟩, ⟨_, hn', fun j y v' e1 e2 e3 => ?_⟩, fun y c e => ?_, I.free, I.freeC, fun p hp => ?_, tracked ⟨oL, hoL, I.free⟩ hs, by simpa using I.len⟩ ⟨_, hs, .inl rfl⟩
    · exact (hs.2 b (Nat.ne_of_lt (Nat.lt_of_lt_of_le (Heap.lt_size e) I.ok.above))).trans (I.base.keep b o e n hb hx)
    · obtain ⟨sl, e1⟩ := I.base.slot b o e n hb hx
      exact ⟨sl, (hs.2 b (Nat.ne_of_lt (Nat.lt_of_lt_of_le (Heap.lt_size e) I.ok.above))).trans e1⟩
    · obtain ⟨o', e1⟩ := I.base.there b o e hx
      exact ⟨o', (hs.2 b (Nat.ne_of_lt (Nat.lt_of_lt_of_le (Heap.lt_size e) I.ok.above))).trans e1⟩
    · by_cases hj : j = i
      · subst hj
        rw [hi] at e1; cases e1
        rw [List.getElem?_set_self hiσ] at e2
        cases e2
        exact ⟨u, r, .inl ⟨hk, by simp⟩⟩
      · rw [List.getElem?_set_ne (Ne.symm hj)] at e2
        obtain ⟨u', r', q⟩ := hl j y v' e1 e2 e3
        refine ⟨u', r', ?_⟩
        rcases q with ⟨k, e⟩ | ⟨k, c, e, z⟩
        · refine .inl ⟨k, ?_⟩
          have : y ≠ x := fun e => hj (nodup_ix hN e1 (e ▸ hi))
          simp [this, e]
        · exact .inr ⟨k, c, e, z.sameBut hs (cne y c e)⟩
    · obtain ⟨w', z⟩ := I.cell y c e
      exact ⟨w', z.sameBut hs (cne y c e)⟩
    · obtain ⟨e, n, ne, nf, d⟩ := I.pin p hp
      exact ⟨(hs.2 p.1 ne).trans e, n, ne, nf, d⟩
  · have hfn : X.fn x = true := by
      rcases hf with z | z
      · exact z
      · rw [z] at hk; cases hk
    obtain ⟨c, hc⟩ := I.ok.has x (.inl hk)
    obtain ⟨w', z⟩ := I.cell x c hc
    refine wpAny_storeName_cell I.ok.kind hk hc z (fun h' hc' hs => ?_)
    obtain ⟨oc, hoc, hocd⟩ := id z
    refine h { s with heap := h' } ⟨I.ok, I.os, I.bare, ⟨fun b o e n hb hx => ?_, fun b o e n hb hx => ?_, I.base.free, fun b o e hx => ?_, I.base.tups, I.base.frzs, I.base.tbls⟩, ⟨m, hn.sameBut hs (Ne.symm (cne x c hc)), fun j y v' e1 e2 e3 => ?_⟩, fun y c' e => ?_, I.free, I.freeC, fun p hp => ?_, tracked ⟨oc, hoc, I.freeC x c hc⟩ hs, by simpa using I.len⟩ ⟨c, hs, .inr hc⟩
    · exact (hs.2 b (Nat.ne_of_lt (Nat.lt_of_lt_of_le (Heap.lt_size e) (I.ok.cab x c hfn hc)))).trans (I.base.keep b o e n hb hx)
    · obtain ⟨sl, e1⟩ := I.base.slot b o e n hb hx
      exact ⟨sl, (hs.2 b (Nat.ne_of_lt (Nat.lt_of_lt_of_le (Heap.lt_size e) (I.ok.cab x c hfn hc)))).trans e1⟩
    · obtain ⟨o', e1⟩ := I.base.there b o e hx
      exact ⟨o', (hs.2 b (Nat.ne_of_lt (Nat.lt_of_lt_of_le (Heap.lt_size e) (I.ok.cab x c hfn hc)))).trans e1⟩
    · by_cases hj : j = i
      · subst hj
        rw [hi] at e1; cases e1
        rw [List.getElem?_set_self hiσ] at e2
        cases e2
        exact ⟨u, r, .inr ⟨.inl hk, c, hc, hc'⟩⟩
      · rw [List.getElem?_set_ne (Ne.symm hj)] at e2
        obtain ⟨u', r', q⟩ := hl j y v' e1 e2 e3
        refine ⟨u', r', ?_⟩
        rcases q with q | ⟨k, c', e, z'⟩
        · exact .inl q
        · refine .inr ⟨k, c', e, z'.sameBut hs ?_⟩
          rintro rfl
          exact hj (nodup_ix hN e1 (I.ok.inj _ _ _ e hc ▸ hi))
    · by_cases hcc : c' = c
      · subst hcc; exact ⟨_, hc'⟩
      · obtain ⟨w2, z2⟩ := I.cell y c' e
        exact ⟨w2, z2.sameBut hs hcc⟩
    · obtain ⟨e, n, ne, nf, d⟩ := I.pin p hp
      refine ⟨(hs.2 p.1 ?_).trans e, n, ne, nf, d⟩
      intro q
      rw [q, hoc] at e
      have q' : oc = p.2 := Option.some.inj e
      exact d w' (by rw [← q']; exact hocd)
theorem store_ok {M : Model} {A : Around} {E : Value → Shared → Prop} {i : Nat} {x : Str} {v : V} {u : Value} {Q : Unit → Shared → Prop} (I : Inv X pins σ H s) (hN : X.N.Nodup) (hi : X.N[i]? = some x) (hx : Loc X.env.scope x) (r : RelV v u)
    (h : ∀ s', Inv X pins (σ.set i (some v)) H s' → Q () s') (hf : X.fn x = true ∨ X.env.scope.names.lookup x = some .local := by first | exact .inl rfl | exact .inr rfl | assumption) : wpAny M A (storeName X.env x u) Q E s :=
  store_ok2 I hN hi hx r (fun s' I' _ => h s' I') hf
/-- behind a call or a block, the state as it is -/
theorem Inv.call' {s' : Shared} {ch : List Addr} (I : Inv X pins σ H s) (ho : s'.os = s.os) (u : Un (frs X.stack) ch H H' s.heap s'.heap) (hok : HOk X.prog X.w H' s'.heap) (hg : AllBare s'.gens)
    (hch : ∀ b ∈ ch, (b ∈ X.ex ∨ X.s_0.heap.objs.size ≤ b) ∧ b ≠ X.env.locals ∧ (∀ x c, X.env.cells.lookup x = some c → c ≠ b) ∧ ∀ p ∈ X.pn ++ pins, p.1 ≠ b) : Inv X pins σ H' s' := by
  obtain ⟨h', g', d', t', o'⟩ := s'
  have e : o' = s.os := ho
  subst e
  exact I.call (g' := g') (t' := t') (d' := d') u hok hg hch
end

/-! ### the judgements -/
/-- an exception: its class, its own dict's address (where it has one), the abstract heap behind it -/
abbrev XK := Value → Option Addr → Hp → Prop
abbrev St := List (Option V)
abbrev VK := V → Hp → Prop
/-- an expression's reading; a test's; an argument list's -/
abbrev TE := St → Hp → VK → Prop
abbrev TT := St → Hp → (Bool → Hp → Prop) → Prop
abbrev TA := St → Hp → (List V → Hp → Prop) → Prop
/-- what is wanted behind a statement -/
structure Ends where
  nx : St → Hp → Prop
  rt : VK
  bk : St → Hp → Prop := fun _ _ => False
  ct : St → Hp → Prop := fun _ _ => False
abbrev TS := Ends → St → Hp → Prop

def EP (X : Cx) (pins : List (Addr × Obj)) (σ : St) (Q : VK) (u : Value) (s' : Shared) : Prop := ∃ v H', Inv X pins σ H' s' ∧ RelV v u ∧ Q v H'
def TP (X : Cx) (pins : List (Addr × Obj)) (σ : St) (Q : Bool → Hp → Prop) (b : Bool) (s' : Shared) : Prop := ∃ H', Inv X pins σ H' s' ∧ Q b H'
def AP (X : Cx) (pins : List (Addr × Obj)) (σ : St) (Q : List V → Hp → Prop) (us : List Value) (s' : Shared) : Prop := ∃ vs H', Inv X pins σ H' s' ∧ Vals vs us ∧ Q vs H'
def SP (X : Cx) (pins : List (Addr × Obj)) (D : Ends) (f : Flow) (s' : Shared) : Prop :=
  match f with
  | .next => ∃ σ' H', Inv X pins σ' H' s' ∧ D.nx σ' H'
  | .brk => ∃ σ' H', Inv X pins σ' H' s' ∧ D.bk σ' H'
  | .cont => ∃ σ' H', Inv X pins σ' H' s' ∧ D.ct σ' H'
  | .ret u => ∃ v σ' H', Inv X pins σ' H' s' ∧ RelV v u ∧ D.rt v H'

def PE (X : Cx) (e : Expr) (t : TE) : Prop :=
  ∀ (pins : List (Addr × Obj)) (s : Shared) (σ : St) (H : Hp) (Q : VK), Inv X pins σ H s → t σ H Q → wpAny (model X.prog X.w) X.A (eval e X.env) (EP X pins σ Q) X.xe s
def PT (X : Cx) (e : Expr) (t : TT) : Prop :=
  ∀ (pins : List (Addr × Obj)) (s : Shared) (σ : St) (H : Hp) (Q : Bool → Hp → Prop), Inv X pins σ H s → t σ H Q → wpAny (model X.prog X.w) X.A (isTrue e X.env (eval e X.env)) (TP X pins σ Q) X.xe s
/-- a test whatever its 'whole' is (and, or) -/
def PW (X : Cx) (e : Expr) (t : TT) : Prop :=
  ∀ (whole : Sem Value) (pins : List (Addr × Obj)) (s : Shared) (σ : St) (H : Hp) (Q : Bool → Hp → Prop), Inv X pins σ H s → t σ H Q → wpAny (model X.prog X.w) X.A (isTrue e X.env whole) (TP X pins σ Q) X.xe s
theorem PW.pt {X : Cx} {e : Expr} {t : TT} (h : PW X e t) : PT X e t := h _
/-- an argument list (no star), from the left -/
def PA (X : Cx) (es : List Expr) (t : TA) : Prop :=
  ∀ (pos : Pos) (pins : List (Addr × Obj)) (s : Shared) (σ : St) (H : Hp) (Q : List V → Hp → Prop), Inv X pins σ H s → t σ H Q → wpAny (model X.prog X.w) X.A (spliced (backTo pos (starEach es X.env))) (AP X pins σ Q) X.xe s
def PS (X : Cx) (st : Stmt) (t : TS) : Prop :=
  ∀ (pins : List (Addr × Obj)) (s : Shared) (σ : St) (H : Hp) (D : Ends), Inv X pins σ H s → t D σ H → wpAny (model X.prog X.w) X.A (exec st X.env) (SP X pins D) X.xe s
def PSs (X : Cx) (st : List Stmt) (t : TS) : Prop :=
  ∀ (pins : List (Addr × Obj)) (s : Shared) (σ : St) (H : Hp) (D : Ends), Inv X pins σ H s → t D σ H → wpAny (model X.prog X.w) X.A (execs st X.env) (SP X pins D) X.xe s
/-- weaken the end -/
theorem thn {α : Type} {t : Sem α} {Q Q' : α → Shared → Prop} {M : Model} {A : Around} {E : Value → Shared → Prop} {s : Shared} (h : wpAny M A t Q E s) (hQ : ∀ a s, Q a s → Q' a s) : wpAny M A t Q' E s := wpAny_mono h hQ fun _ _ x => x
end L2

namespace L2
open PySem PySem.Spec PyProof.Rows
section
variable {X : Cx}

/-- two expressions in a row -/
theorem bin {a b : Expr} {ta tb : TE} (ha : PE X a ta) (hb : PE X b tb) {pins : List (Addr × Obj)} {s : Shared} {σ : St} {H : Hp} {R : V → V → Hp → Prop} (I : Inv X pins σ H s) (h : ta σ H fun x H1 => tb σ H1 fun y H2 => R x y H2)
    {α : Type} {Q : α → Shared → Prop} {f : Value → Value → Sem α}
    (hf : ∀ v u s2 x y H2, Inv X pins σ H2 s2 → RelV x v → RelV y u → R x y H2 → wpAny (model X.prog X.w) X.A (f v u) Q X.xe s2) :
    wpAny (model X.prog X.w) X.A (eval a X.env) (fun v s₁ => wpAny (model X.prog X.w) X.A (eval b X.env) (fun u s₂ => wpAny (model X.prog X.w) X.A (f v u) Q X.xe s₂) X.xe s₁) X.xe s := by
  refine thn (ha pins s σ H _ I h) fun v s1 ⟨x, H1, I1, r1, q1⟩ => ?_
  refine thn (hb pins s1 σ H1 _ I1 q1) fun u s2 ⟨y, H2, I2, r2, q2⟩ => ?_
  exact hf v u s2 x y H2 I2 r1 r2 q2

/-! ### names and constants -/
def tVar (i : Nat) : TE := fun σ H Q => ∃ v, σ[i]? = some (some v) ∧ Q v H
def tC (v : V) : TE := fun _ H Q => Q v H
theorem pe_var {i : Nat} {x : Str} {pos : Pos} (hN : X.N[i]? = some x) (hv : Vis X.env.scope x) (hd : (x == ("__debug__" : Str)) = false := by decide) (hcd : (x == ("__classdict__" : Str)) = false := by decide) : PE X (.Name x pos) (tVar i) := by
  intro pins s σ H Q I h
  obtain ⟨v, e, h⟩ := h
  obtain ⟨m, hn, hl⟩ := I.loc
  obtain ⟨u, r, l⟩ := hl i x v hN e hv
  have fin : EP X pins σ Q u s := ⟨v, H, I, r, h⟩
  rcases l with ⟨hk, hm⟩ | ⟨hk, c, hc, hcell⟩
  · exact wpAny_Name (wpAny_loadName_local I.ok.kind hk hn hm fin) hd
  · rcases hk with hk | hk
    · exact wpAny_Name (wpAny_loadName_cell I.ok.kind hk hc hcell fin) hd
    · exact wpAny_Name (wpAny_loadName_free I.ok.kind hk hc hcell fin hcd) hd
theorem pe_int {i j pos} : PE X (.Constant (.int i) j pos) (tC (.int i)) := fun _ _ _ H _ I h => wpAny_Constant_int ⟨.int i, H, I.tok _, ⟨_, rfl⟩, h⟩
theorem pe_bl {b j pos} : PE X (.Constant (.bool b) j pos) (tC (.bl b)) := fun _ _ _ H _ I h => Constant_bool ⟨.bl b, H, I, rfl, h⟩
theorem pe_non {j pos} : PE X (.Constant .none j pos) (tC .non) := fun _ _ _ H _ I h => Constant_none ⟨.non, H, I, rfl, h⟩
theorem pe_str {x j pos} : PE X (.Constant (.str x) j pos) (tC (.str x)) := fun _ _ _ H _ I h => Calls.Constant_str ⟨.str x, H, I.tok _, ⟨_, rfl⟩, h⟩

/-- a global name of the def -/
def Gl (X : Cx) (x : Str) : Prop := X.env.kindOf x = some .globalImplicit
theorem ld_glob {E : Value → Shared → Prop} {pins : List (Addr × Obj)} {s : Shared} {σ : St} {H : Hp} {x : Str} {u : Value} {pos : Pos} {Q : Value → Shared → Prop} (I : Inv X pins σ H s) (hg : Gl X x) (hm : X.mg x = some u) (h : Q u s)
    (hd : (x == ("__debug__" : Str)) = false := by decide) : wpAny (model X.prog X.w) X.A (eval (.Name x pos) X.env) Q E s :=
  Calls.Name_function_global I.ok.kind hg (Calls.loadGlobal_global (by rw [I.ok.glob]; exact I.mod.glob.keeps I.bk) hm h) hd
theorem ld_blt {E : Value → Shared → Prop} {pins : List (Addr × Obj)} {s : Shared} {σ : St} {H : Hp} {x : Str} {u : Value} {pos : Pos} {Q : Value → Shared → Prop} (I : Inv X pins σ H s) (hg : Gl X x) (hm : X.mg x = none) (hv : bootBuiltins x = some u) (h : Q u s)
    (hn : x ≠ "__name__" := by decide) (hd : (x == ("__debug__" : Str)) = false := by decide) : wpAny (model X.prog X.w) X.A (eval (.Name x pos) X.env) Q E s := by
  obtain ⟨mb, h1, h2⟩ := I.mod.blt
  exact Calls.Name_function_global I.ok.kind hg (Calls.loadGlobal_builtin (by rw [I.ok.glob]; exact I.mod.glob.keeps I.bk) hm (by rw [I.ok.blt]; exact h1.keeps I.bk) ((h2 x hn).trans hv) h) hd
/-- a module's constant, a class, a function, as a value -/
theorem pe_glob {x : Str} {v : V} {u : Value} {pos : Pos} (hg : Gl X x) (hm : X.mg x = some u) (r : RelV v u) (hd : (x == ("__debug__" : Str)) = false := by decide) : PE X (.Name x pos) (tC v) :=
  fun _ _ _ H _ I h => ld_glob I hg hm ⟨v, H, I, r, h⟩ hd
theorem pe_bltn {x : Str} {v : V} {u : Value} {pos : Pos} (hg : Gl X x) (hm : X.mg x = none) (hv : bootBuiltins x = some u) (r : RelV v u) (hn : x ≠ "__name__" := by decide) (hd : (x == ("__debug__" : Str)) = false := by decide) : PE X (.Name x pos) (tC v) :=
  fun _ _ _ H _ I h => ld_blt I hg hm hv ⟨v, H, I, r, h⟩ hn hd

/-! ### arithmetic -/
/-- two ints -/
def t2I (ta tb : TE) (k : Int → Int → Hp → Prop) : St → Hp → Prop := fun σ H => ta σ H fun x H1 => tb σ H1 fun y H2 => ∃ i j, x = .int i ∧ y = .int j ∧ k i j H2
def tAdd (ta tb : TE) : TE := fun σ H Q => t2I ta tb (fun i j H2 => Q (.int (i + j)) H2) σ H
def tSub (ta tb : TE) : TE := fun σ H Q => t2I ta tb (fun i j H2 => Q (.int (i - j)) H2) σ H
/-- the left factor below 2^64 -/
def tMul (ta tb : TE) : TE := fun σ H Q => t2I ta tb (fun i j H2 => (-(2 ^ 64) < i ∧ i < 2 ^ 64) ∧ Q (.int (i * j)) H2) σ H
variable {a b : Expr} {ta tb : TE} {pos : Pos}
/-! ### comparisons -/
def PC (X : Cx) (op : CmpOp) (a b : Expr) (t : TE) : Prop :=
  ∀ (pins : List (Addr × Obj)) (s : Shared) (σ : St) (H : Hp) (Q : VK), Inv X pins σ H s → t σ H Q →
    wpAny (model X.prog X.w) X.A (eval a X.env) (fun v s₁ => wpAny (model X.prog X.w) X.A (eval b X.env) (fun u s₂ => wpAny (model X.prog X.w) X.A (compareOp op v u) (EP X pins σ Q) X.xe s₂) X.xe s₁) X.xe s
def tCmp (p : Int → Int → Bool) (ta tb : TE) : TE := fun σ H Q => t2I ta tb (fun i j H2 => Q (.bl (p i j)) H2) σ H
abbrev tLt : TE → TE → TE := tCmp fun i j => decide (i < j)
abbrev tLe : TE → TE → TE := tCmp fun i j => decide (i ≤ j)
abbrev tGt : TE → TE → TE := tCmp fun i j => decide (j < i)
abbrev tGe : TE → TE → TE := tCmp fun i j => decide (j ≤ i)
abbrev tEqI : TE → TE → TE := tCmp fun i j => decide (i = j)
abbrev tNeI : TE → TE → TE := tCmp fun i j => !decide (i = j)
/-- is None -/
def tIsN (ta : TE) : TE := fun σ H Q => ta σ H fun x H1 => Q (.bl (decide (x = .non))) H1
def tNotN (ta : TE) : TE := fun σ H Q => ta σ H fun x H1 => Q (.bl (!decide (x = .non))) H1
/-- a comparison as a value, as a test -/
def tB (t : TE) : TT := fun σ H Q => t σ H fun x H1 => ∃ c, x = .bl c ∧ Q c H1
/-- an expression whose value is a bool, as a test -/
theorem pt_val {e : Expr} {t : TE} (h : PE X e t) (he : ∀ whole, isTrue e X.env whole = (do let v ← whole; standAt e.pos; holding [v] (truthy v)) := by intro _; rfl) : PT X e (tB t) := by
  intro pins s σ H Q I hw
  refine isTrue_plain (thn (h pins s σ H _ I hw) fun v s1 ⟨x, H1, I1, r1, q1⟩ => ?_) (he _)
  obtain ⟨d, rfl, q⟩ := q1
  cases r1
  exact wpAny_truthy_bool ⟨H1, I1, q⟩

/-! ### and, or, not -/
variable {tA tB' : TT} {rest : List Expr}
def tAnd (t u : TT) : TT := fun σ H Q => t σ H fun c H1 => if c = true then u σ H1 Q else Q false H1
def tOr (t u : TT) : TT := fun σ H Q => t σ H fun c H1 => if c = true then Q true H1 else u σ H1 Q
def tNot (t : TT) : TT := fun σ H Q => t σ H fun c H1 => Q (!c) H1
theorem pw_and1 (ha : PT X a tA) : PW X (.BoolOp .And [a] pos) tA := by
  intro wh pins s σ H Q I h
  refine isTrue_and (thn (ha pins s σ H Q I h) fun c s1 e => ?_)
  cases c with
  | true => exact isTrue_and_nil e
  | false => exact e
theorem pw_or1 (ha : PT X a tA) : PW X (.BoolOp .Or [a] pos) tA := by
  intro wh pins s σ H Q I h
  refine isTrue_or (thn (ha pins s σ H Q I h) fun c s1 e => ?_)
  cases c with
  | false => exact isTrue_or_nil e
  | true => exact e
theorem pw_and (ha : PT X a tA) (hb : PW X (.BoolOp .And (b :: rest) pos) tB') : PW X (.BoolOp .And (a :: b :: rest) pos) (tAnd tA tB') := by
  intro wh pins s σ H Q I h
  refine isTrue_and (thn (ha pins s σ H _ I h) fun c s1 ⟨H1, I1, q1⟩ => ?_)
  cases c with
  | true => exact hb wh pins s1 σ H1 Q I1 q1
  | false => exact ⟨H1, I1, q1⟩
theorem pw_or (ha : PT X a tA) (hb : PW X (.BoolOp .Or (b :: rest) pos) tB') : PW X (.BoolOp .Or (a :: b :: rest) pos) (tOr tA tB') := by
  intro wh pins s σ H Q I h
  refine isTrue_or (thn (ha pins s σ H _ I h) fun c s1 ⟨H1, I1, q1⟩ => ?_)
  cases c with
  | true => exact ⟨H1, I1, q1⟩
  | false => exact hb wh pins s1 σ H1 Q I1 q1
theorem pt_not (ha : PT X a tA) : PT X (.UnaryOp .Not a pos) (tNot tA) := by
  intro pins s σ H Q I h
  exact isTrue_not (ha pins s σ H (fun c H1 => Q (!c) H1) I h)
/-- .. as values (bools) -/
def tAndV (ta tb : TE) : TE := fun σ H Q => ta σ H fun x H1 => ∃ c, x = .bl c ∧ if c = true then tb σ H1 Q else Q (.bl false) H1
def tOrV (ta tb : TE) : TE := fun σ H Q => ta σ H fun x H1 => ∃ c, x = .bl c ∧ if c = true then Q (.bl true) H1 else tb σ H1 Q
def tNotV (ta : TE) : TE := fun σ H Q => ta σ H fun x H1 => ∃ c, x = .bl c ∧ Q (.bl (!c)) H1
theorem pe_one {op} {t : TE} (h : PE X a t) : PE X (.BoolOp op [a] pos) t := fun pins s σ H Q I hw => BoolOp_one (h pins s σ H Q I hw)
theorem pe_and (ha : PE X a ta) (hb : PE X (.BoolOp .And (b :: rest) pos) tb) : PE X (.BoolOp .And (a :: b :: rest) pos) (tAndV ta tb) := by
  intro pins s σ H Q I h
  refine BoolOp_and (thn (ha pins s σ H _ I h) fun v s1 ⟨x, H1, I1, r1, q1⟩ => ?_)
  obtain ⟨c, rfl, q1⟩ := q1
  cases r1
  refine wpAny_truthy_bool ?_
  cases c with
  | true => exact hb pins s1 σ H1 Q I1 q1
  | false => exact ⟨.bl false, H1, I1, rfl, q1⟩
theorem pe_or (ha : PE X a ta) (hb : PE X (.BoolOp .Or (b :: rest) pos) tb) : PE X (.BoolOp .Or (a :: b :: rest) pos) (tOrV ta tb) := by
  intro pins s σ H Q I h
  refine BoolOp_or (thn (ha pins s σ H _ I h) fun v s1 ⟨x, H1, I1, r1, q1⟩ => ?_)
  obtain ⟨c, rfl, q1⟩ := q1
  cases r1
  refine wpAny_truthy_bool ?_
  cases c with
  | false => exact hb pins s1 σ H1 Q I1 q1
  | true => exact ⟨.bl true, H1, I1, rfl, q1⟩
theorem pe_not (ha : PE X a ta) : PE X (.UnaryOp .Not a pos) (tNotV ta) := by
  intro pins s σ H Q I h
  refine UnaryOp_ (thn (ha pins s σ H _ I h) fun v s1 ⟨x, H1, I1, r1, q1⟩ => ?_)
  obtain ⟨c, rfl, q1⟩ := q1
  cases r1
  exact not_of (wpAny_truthy_bool ⟨.bl (!c), H1, I1, rfl, q1⟩)
/-- a if t else b -/
def tIf (t : TT) (ta tb : TE) : TE := fun σ H Q => t σ H fun c H1 => if c = true then ta σ H1 Q else tb σ H1 Q
theorem pe_ifExp {c : Expr} (hc : PT X c tA) (ha : PE X a ta) (hb : PE X b tb) : PE X (.IfExp c a b pos) (tIf tA ta tb) := by
  intro pins s σ H Q I h
  refine wpAny_IfExp (thn (hc pins s σ H _ I h) fun d s1 ⟨H1, I1, q1⟩ => ?_)
  cases d with
  | true => exact ha pins s1 σ H1 Q I1 q1
  | false => exact hb pins s1 σ H1 Q I1 q1
end
end L2

namespace L2
open PySem PySem.Spec PyProof.Rows

/-! ### a list, a tuple that is read: tracked, frozen, or an object of the module -/
def SqL (K : PySem.W.Frag) (H : Hp) (a : Addr) (xs : List V) : Prop :=
  Rd H a (.lst xs) ∨
    ∃ (o : Obj) (its : Array Value) (n : Nat), K.lookup a = some o ∧ o.cls = .type "list" ∧ o.dict = none ∧ o.data = .seq its n ∧ its.size ≤ sizeLine ∧ Vals xs its.toList
def SqT (K : PySem.W.Frag) (H : Hp) (a : Addr) (xs : List V) : Prop :=
  Rd H a (.tup xs) ∨
    ∃ (o : Obj) (its : Array Value) (n : Nat), K.lookup a = some o ∧ o.cls = .type "tuple" ∧ o.data = .seq its n ∧ its.size ≤ sizeLine ∧ Vals xs its.toList
def absV : Value → Option V
  | .none => some .non
  | .bool b => some (.bl b)
  | .int i _ => some (.int i)
  | .str x _ => some (.str x)
  | .bytes b _ => some (.byt b)
  | .float b _ => some (.flt b)
  | .ref a => some (.ref a)
  | .type n => some (.ty n)
  | _ => none
theorem RelV.abs {x : V} {u : Value} (r : RelV x u) : absV u = some x := by
  cases x with
  | non => cases r; rfl
  | bl _ => cases r; rfl
  | int _ => obtain ⟨t, rfl⟩ := r; rfl
  | str _ => obtain ⟨t, rfl⟩ := r; rfl
  | byt _ => obtain ⟨t, rfl⟩ := r; rfl
  | flt _ => obtain ⟨t, rfl⟩ := r; rfl
  | ref _ => cases r; rfl
  | ty _ => cases r; rfl
theorem RelV.inj {x y : V} {u : Value} (r : RelV x u) (q : RelV y u) : x = y := Option.some.inj (r.abs.symm.trans q.abs)
theorem Vals.inj : ∀ {xs ys : List V} {us : List Value}, Vals xs us → Vals ys us → xs = ys
  | _, _, _, .nil, .nil => rfl
  | _, _, _, .cons r t, .cons r' t' => by rw [r.inj r', Vals.inj t t']
section
variable {X : Cx} {pins : List (Addr × Obj)} {σ : St} {H : Hp} {s : Shared} {a : Addr} {xs ys : List V}
theorem SqL.of {K : PySem.W.Frag} (h : H a = some (.lst xs)) : SqL K H a xs := .inl (.inl h)
theorem SqT.of {K : PySem.W.Frag} (h : H a = some (.tup xs)) : SqT K H a xs := .inl (.inl h)
theorem Inv.list (I : Inv X pins σ H s) (h : SqL X.K H a xs) : ∃ its : List Value, Vals xs its ∧ PlainL s.heap a its.toArray ∧ xs.length ≤ sizeLine := by
  rcases h with h | ⟨o, its, n, hk, hc, hd, hs, hz, r⟩
  · obtain ⟨z, its, n, r, e⟩ := h.ok I.hok
    exact ⟨its, r, ⟨_, n, e, rfl, rfl, rfl⟩, z⟩
  · refine ⟨its.toList, r, ⟨o, n, I.kIn a o hk, hc, hd, by simpa using hs⟩, ?_⟩
    have e := r.length
    simp only [Array.length_toList] at e
    omega
theorem Inv.tuple (I : Inv X pins σ H s) (h : SqT X.K H a xs) : ∃ its : List Value, Vals xs its ∧ IsTup s.heap a its.toArray ∧ xs.length ≤ sizeLine := by
  rcases h with h | ⟨o, its, n, hk, hc, hs, hz, r⟩
  · obtain ⟨z, its, r, p⟩ := h.ok I.hok
    exact ⟨its, r, p, z⟩
  · refine ⟨its.toList, r, ⟨o, I.kIn a o hk, hc, n, by simpa using hs⟩, ?_⟩
    have e := r.length
    simp only [Array.length_toList] at e
    omega
theorem Inv.list_inj (I : Inv X pins σ H s) (h : SqL X.K H a xs) (h' : SqL X.K H a ys) : xs = ys := by
  obtain ⟨its, r, ⟨o, n, e, _, _, d⟩, _⟩ := I.list h
  obtain ⟨its', r', ⟨o', n', e', _, _, d'⟩, _⟩ := I.list h'
  rw [e] at e'; cases e'
  rw [d] at d'
  injection d' with d1 _
  have : its = its' := by simpa using congrArg Array.toList d1
  subst this
  exact r.inj r'
theorem Inv.tuple_inj (I : Inv X pins σ H s) (h : SqT X.K H a xs) (h' : SqT X.K H a ys) : xs = ys := by
  obtain ⟨its, r, ⟨o, e, _, n, d⟩, _⟩ := I.tuple h
  obtain ⟨its', r', ⟨o', e', _, n', d'⟩, _⟩ := I.tuple h'
  rw [e] at e'; cases e'
  rw [d] at d'
  injection d' with d1 _
  have : its = its' := by simpa using congrArg Array.toList d1
  subst this
  exact r.inj r'
end

/-! ### another wish about exceptions -/
abbrev Cx.wish (X : Cx) (E : Value → Shared → Prop) : Cx := { X with xe := E }
/-- no exception leaves -/
abbrev Cx.nox (X : Cx) : Cx := X.wish fun _ _ => False
theorem Cx.Ok.wish {X : Cx} (ok : X.Ok) (E : Value → Shared → Prop) : (X.wish E).Ok :=
  ⟨ok.mod, ok.kind, ok.glob, ok.blt, ok.above, ok.inj, ok.has, ok.cab, ok.hd, ok.frames, ok.stk, ok.exf, ok.bs, ok.bsz, ok.noex, ok.exfs, ok.funs, ok.frf⟩
theorem Cx.Ok.unwish {X : Cx} {E : Value → Shared → Prop} (ok : (X.wish E).Ok) : X.Ok :=
  ⟨ok.mod, ok.kind, ok.glob, ok.blt, ok.above, ok.inj, ok.has, ok.cab, ok.hd, ok.frames, ok.stk, ok.exf, ok.bs, ok.bsz, ok.noex, ok.exfs, ok.funs, ok.frf⟩
section
variable {X : Cx} {pins : List (Addr × Obj)} {σ : St} {H : Hp} {s : Shared} {E : Value → Shared → Prop}
theorem Inv.wish (I : Inv X pins σ H s) (E : Value → Shared → Prop) : Inv (X.wish E) pins σ H s := ⟨I.ok.wish E, I.os, I.bare, I.base, I.loc, I.cell, I.free, I.freeC, I.pin, I.hok, I.len⟩
theorem Inv.unwish (I : Inv (X.wish E) pins σ H s) : Inv X pins σ H s := ⟨I.ok.unwish, I.os, I.bare, I.base, I.loc, I.cell, I.free, I.freeC, I.pin, I.hok, I.len⟩
theorem SP.unwish {D : Ends} {f : Flow} {s' : Shared} (h : SP (X.wish E) pins D f s') : SP X pins D f s' := by
  cases f with
  | next => obtain ⟨σ', H', I, q⟩ := h; exact ⟨σ', H', I.unwish, q⟩
  | brk => obtain ⟨σ', H', I, q⟩ := h; exact ⟨σ', H', I.unwish, q⟩
  | cont => obtain ⟨σ', H', I, q⟩ := h; exact ⟨σ', H', I.unwish, q⟩
  | ret u => obtain ⟨v, σ', H', I, r, q⟩ := h; exact ⟨v, σ', H', I.unwish, r, q⟩
theorem PE.nox {e : Expr} {t : TE} (h : PE X.nox e t) : PE X e t := fun pins s σ H Q I hw =>
  wpAny_mono (h pins s σ H Q (I.wish _) hw) (fun _ _ ⟨v, H', I', r, q⟩ => ⟨v, H', I'.unwish, r, q⟩) fun _ _ z => False.elim z
theorem PT.nox {e : Expr} {t : TT} (h : PT X.nox e t) : PT X e t := fun pins s σ H Q I hw =>
  wpAny_mono (h pins s σ H Q (I.wish _) hw) (fun _ _ ⟨H', I', q⟩ => ⟨H', I'.unwish, q⟩) fun _ _ z => False.elim z
theorem PSs.nox {st : List Stmt} {t : TS} (h : PSs X.nox st t) : PSs X st t := fun pins s σ H D I hw =>
  wpAny_mono (h pins s σ H D (I.wish _) hw) (fun _ _ q => q.unwish) fun _ _ z => False.elim z
end

/-! ### blocks and small statements -/
section
variable {X : Cx} {st : Stmt} {rest : List Stmt} {t u : TS} {e : Expr} {te : TE} {pos : Pos}
def tNext : TS := fun D σ H => D.nx σ H
def tSeq (t u : TS) : TS := fun D σ H => t { D with nx := u D } σ H
theorem pss_nil : PSs X [] tNext := fun _ _ σ H _ I h => wpAny_execs_nil ⟨σ, H, I, h⟩
theorem pss_cons (h1 : PS X st t) (h2 : PSs X rest u) : PSs X (st :: rest) (tSeq t u) := by
  intro pins s σ H D I h
  refine wpAny_execs_cons (thn (h1 pins s σ H { D with nx := u D } I h) fun f s1 q => ?_)
  cases f with
  | next =>
    obtain ⟨σ', H', I', q⟩ := q
    exact h2 pins s1 σ' H' D I' q
  | ret v => exact q
  | brk => exact q
  | cont => exact q
theorem pss_one (h1 : PS X st t) : PSs X [st] t := by
  intro pins s σ H D I h
  refine wpAny_execs_cons (thn (h1 pins s σ H D I h) fun f s1 q => ?_)
  cases f with
  | next => exact wpAny_execs_nil q
  | ret v => exact q
  | brk => exact q
  | cont => exact q
def tBreak : TS := fun D σ H => D.bk σ H
def tCont : TS := fun D σ H => D.ct σ H
/-- in a def's body nothing is shown -/
theorem Inv.quiet {pins : List (Addr × Obj)} {σ : St} {H : Hp} {s : Shared} (I : Inv X pins σ H s) : interactive X.env = false := by simp [interactive, I.ok.kind]
/-- an expression whose value is dropped -/
def tDrop (te : TE) : TS := fun D σ H => te σ H fun _ H1 => D.nx σ H1
theorem ps_expr (he : PE X e te) (hs : swapsWith e none pos.line X.env = pure false := by rfl) : PS X (.Expr e pos) (tDrop te) := by
  intro pins s σ H D I h
  exact wpAny_Expr_any (thn (he pins s σ H _ I h) fun v s1 ⟨x, H1, I1, r1, q1⟩ => ⟨σ, H1, I1, q1⟩) I.quiet hs
def tRet (te : TE) : TS := fun D σ H => te σ H D.rt
theorem ps_ret (he : PE X e te) : PS X (.Return (some e) pos) (tRet te) := by
  intro pins s σ H D I h
  exact wpAny_Return_some (thn (he pins s σ H _ I h) fun v s1 ⟨x, H1, I1, r1, q1⟩ => ⟨x, σ, H1, I1, r1, q1⟩)
def tRetN : TS := fun D _ H => D.rt .non H
def tIfS (c : TT) (t u : TS) : TS := fun D σ H => c σ H fun b H1 => if b = true then t D σ H1 else u D σ H1
theorem ps_if {c : Expr} {a b : List Stmt} {tc : TT} (hc : PT X c tc) (ha : PSs X a t) (hb : PSs X b u) : PS X (.If c a b pos) (tIfS tc t u) := by
  intro pins s σ H D I h
  refine wpAny_If (thn (hc pins s σ H _ I h) fun d s1 ⟨H1, I1, q1⟩ => ?_)
  cases d with
  | true => exact ha pins s1 σ H1 D I1 q1
  | false => exact hb pins s1 σ H1 D I1 q1
/-- code that the proof never comes to -/
def tNever : TS := fun _ _ _ => False
theorem ps_never : PS X st tNever := fun _ _ _ _ _ _ h => h.elim
end

/-! ### targets -/
abbrev TG := V → St → Hp → (St → Hp → Prop) → Prop
abbrev TGs := List V → St → Hp → (St → Hp → Prop) → Prop
def PG (X : Cx) (target : Expr) (t : TG) : Prop :=
  ∀ (pins : List (Addr × Obj)) (s : Shared) (σ : St) (H : Hp) (v : V) (u : Value) (Q : St → Hp → Prop), Inv X pins σ H s → RelV v u → t v σ H Q →
    wpAny (model X.prog X.w) X.A (assign target X.env u) (fun _ s' => ∃ σ' H', Inv X pins σ' H' s' ∧ Q σ' H') X.xe s
/-- several targets, one after another -/
def PGs (X : Cx) (ts : List Expr) (t : TGs) : Prop :=
  ∀ (pins : List (Addr × Obj)) (s : Shared) (σ : St) (H : Hp) (vs : List V) (us : List Value) (Q : St → Hp → Prop), Inv X pins σ H s → Vals vs us → t vs σ H Q →
    wpAny (model X.prog X.w) X.A (assignInOrder ((assignEach ts X.env).map (·.2)) us) (fun _ s' => ∃ σ' H', Inv X pins σ' H' s' ∧ Q σ' H') X.xe s
/-- o[i] = v, by values -/
abbrev TSet := V → V → V → Hp → (Hp → Prop) → Prop
def PSet (X : Cx) (t : TSet) : Prop :=
  ∀ (pins : List (Addr × Obj)) (s : Shared) (σ : St) (H : Hp) (o i v : V) (ov iv u : Value) (Q : Hp → Prop), Inv X pins σ H s → RelV o ov → RelV i iv → RelV v u → t o i v H Q →
    wpAny (model X.prog X.w) X.A (setItem ov iv u) (fun _ s' => ∃ H', Inv X pins σ H' s' ∧ Q H') X.xe s
/-- a op= b, by values -/
abbrev TIp := V → V → Hp → VK → Prop
def PIp (X : Cx) (op : Operator) (t : TIp) : Prop :=
  ∀ (pins : List (Addr × Obj)) (s : Shared) (σ : St) (H : Hp) (x y : V) (v u : Value) (Q : VK), Inv X pins σ H s → RelV x v → RelV y u → t x y H Q →
    wpAny (model X.prog X.w) X.A (inplaceOp op v u) (EP X pins σ Q) X.xe s
section
variable {X : Cx} {pos : Pos}
def gName (i : Nat) : TG := fun v σ H Q => Q (σ.set i (some v)) H
theorem pg_name {i : Nat} {x : Str} (hN : X.N.Nodup) (hi : X.N[i]? = some x) (hx : Loc X.env.scope x) (hf : X.fn x = true ∨ X.env.scope.names.lookup x = some .local := by first | exact .inl rfl | exact .inr rfl | assumption) : PG X (.Name x pos) (gName i) := by
  intro pins s σ H v u Q I r h
  exact wpAny_assign_Name (store_ok I hN hi hx r (fun s' I' => ⟨_, H, I', h⟩) hf)
def gNil : TGs := fun vs σ H Q => vs = [] ∧ Q σ H
def gCons (t : TG) (u : TGs) : TGs := fun vs σ H Q => ∃ v r, vs = v :: r ∧ t v σ H fun σ' H' => u r σ' H' Q
theorem pgs_nil : PGs X [] gNil := by
  intro pins s σ H vs us Q I r h
  obtain ⟨e, h⟩ := h
  subst e
  cases r
  exact assignInOrder_nil ⟨σ, H, I, h⟩
theorem pgs_cons {e : Expr} {es : List Expr} {t : TG} {u : TGs} (h1 : PG X e t) (h2 : PGs X es u)
    (hs : (assignEach (e :: es) X.env).map (·.2) = assign e X.env :: (assignEach es X.env).map (·.2) := by rfl) : PGs X (e :: es) (gCons t u) := by
  intro pins s σ H vs us Q I r h
  obtain ⟨v, vr, e1, h⟩ := h
  subst e1
  cases r with
  | cons r rr =>
    rw [hs]
    refine assignInOrder_cons (thn (h1 pins s σ H _ _ _ I r h) fun _ s1 ⟨σ1, H1, I1, q1⟩ => ?_)
    exact h2 pins s1 σ1 H1 _ _ Q I1 rr q1
/-- (a, b, ..) = a tuple of that length -/
def gTup (K : PySem.W.Frag) (n : Nat) (t : TGs) : TG := fun v σ H Q => ∃ a xs, v = .ref a ∧ SqT K H a xs ∧ xs.length = n ∧ t xs σ H Q
theorem pg_tup {es : List Expr} {k : Nat} {t : TGs} {n : Nat} (hc : X.calm = true) (h : PGs X es t)
    (hn : (assignEach es X.env).length = n := by rfl) (hst : (assignEach es X.env).findIdx? (·.1) = none := by rfl) : PG X (.Tuple es k pos) (gTup X.K n t) := by
  intro pins s σ H v u Q I r hw
  obtain ⟨a, xs, e1, hq, hl, hw⟩ := hw
  subst e1
  cases r
  obtain ⟨its, rv, ht, hz⟩ := I.tuple hq
  refine assign_Tuple_tuple (I.ok.hd hc) ht (by simp [hn, ← hl, rv.length]) hst fun h' hx => ?_
  have I1 : Inv X pins σ H { s with heap := h' } := I.kept (t' := s.toks) fun b o e => hx b o (Nat.ne_of_lt (Heap.lt_size e)) e
  exact h pins _ σ H xs _ Q I1 (by simpa using rv) hw
/-- o[i] = .. -/
def gSub (to ti : TE) (t : TSet) : TG := fun v σ H Q => to σ H fun o H1 => ti σ H1 fun i H2 => t o i v H2 fun H3 => Q σ H3
theorem pg_sub {o i : Expr} {to ti : TE} {t : TSet} (ho : PE X o to) (hi : PE X i ti) (hs : PSet X t)
    (ha : ∀ v, assign (.Subscript o i pos) X.env v = (do
      let ov ← holding [v] (eval o X.env)
      let iv ← holding [v, ov] (eval i X.env)
      standAt pos
      holding [v, ov, iv] (setItem ov iv v)
      release [v, ov, iv] []) := by intro _; rfl) : PG X (.Subscript o i pos) (gSub to ti t) := by
  intro pins s σ H v u Q I r h
  rw [ha]
  refine wpAny_bind (wpAny_holding (thn (ho pins s σ H _ I h) fun ov s1 ⟨x, H1, I1, r1, q1⟩ => ?_))
  refine wpAny_bind (wpAny_holding (thn (hi pins s1 σ H1 _ I1 q1) fun iv s2 ⟨y, H2, I2, r2, q2⟩ => ?_))
  refine wpAny_bind (wpAny_standAt (wpAny_bind (wpAny_holding (thn (hs pins s2 σ H2 x y v ov iv u _ I2 r1 r2 r q2) fun _ s3 ⟨H3, I3, q3⟩ => ?_))))
  exact wpAny_release ⟨σ, H3, I3, q3⟩
/-- target = value -/
def tAsg (te : TE) (g : TG) : TS := fun D σ H => te σ H fun x H1 => g x σ H1 D.nx
theorem ps_asg {tg e : Expr} {te : TE} {g : TG} (he : PE X e te) (hg : PG X tg g) (hs : swapsWithSole [tg] e pos.line X.env = pure false := by rfl) (hw : swappedStores [tg] e X.env = pure none := by rfl)
    (h1 : (assignEach [tg] X.env).map (·.2) = [assign tg X.env] := by rfl) : PS X (.Assign [tg] e pos) (tAsg te g) := by
  intro pins s σ H D I h
  refine wpAny_Assign_stores (thn (he pins s σ H _ I h) fun v s1 ⟨x, H1, I1, r1, q1⟩ => ?_) hs hw
  rw [h1]
  exact thn (hg pins s1 σ H1 x v _ I1 r1 q1) fun _ s2 q => q
/-- name = value -/
theorem ps_set {i : Nat} {x : Str} {e : Expr} {te : TE} {pos' : Pos} (hN : X.N.Nodup) (hi : X.N[i]? = some x) (hx : Loc X.env.scope x) (he : PE X e te) (hs : swapsWith e (some (.Name x pos')) pos.line X.env = pure false := by rfl) (hf : X.fn x = true ∨ X.env.scope.names.lookup x = some .local := by first | exact .inl rfl | exact .inr rfl | assumption) :
    PS X (.Assign [.Name x pos'] e pos) (tAsg te (gName i)) := by
  intro pins s σ H D I h
  refine wpAny_Assign_Name (thn (he pins s σ H _ I h) fun v s1 ⟨y, H1, I1, r1, q1⟩ => ?_) hs
  exact store_ok I1 hN hi hx r1 (fun s2 I2 => ⟨_, H1, I2, q1⟩) hf
/-- a, b = x, y with plain local names: stored from the right; the pair itself is not tracked (the opening rows as in PyProof/Rows/TupAssign.lean:23) -/
def tPar (i j : Nat) (ta : TA) : TS := fun D σ H => ta σ H fun vs H1 => ∃ v w, vs = [v, w] ∧ D.nx ((σ.set i (some v)).set j (some w)) H1
theorem ps_par {i j : Nat} {x y : Str} {a b : Expr} {ta : TA} {px py pt : Pos} {kt k2 pt2} (hc : X.calm = true) (hN : X.N.Nodup) (hi : X.N[i]? = some x) (hj : X.N[j]? = some y) (hij : i ≠ j)
    (hx : X.env.scope.names.lookup x = some .local) (hy : X.env.scope.names.lookup y = some .local) (ha : PA X [a, b] ta)
    (hw : swappedStores [.Tuple [.Name x px, .Name y py] kt pt] (.Tuple [a, b] k2 pt2) X.env = pure (some [x, y]))
    (hs : swapsWithSole [.Tuple [.Name x px, .Name y py] kt pt] (.Tuple [a, b] k2 pt2) pos.line X.env = pure false := by rfl) :
    PS X (.Assign [.Tuple [.Name x px, .Name y py] kt pt] (.Tuple [a, b] k2 pt2) pos) (tPar i j ta) := by
  intro pins s σ H D I h
  rw [exec_Assign_arm]
  refine wpAny_bind (wpAny_standAt ?_)
  rw [hs]
  refine wpAny_bind (wpAny_pure ?_)
  rw [if_neg (by decide)]
  refine wpAny_bind (Tuple_ (thn (ha _ pins s σ H _ I h) fun us s1 ⟨vs, H1, I1, r1, q1⟩ => ?_))
  obtain ⟨v, w, e1, q1⟩ := q1
  subst e1
  obtain ⟨u1, u2, rfl, rv, rw'⟩ : ∃ u1 u2, us = [u1, u2] ∧ RelV v u1 ∧ RelV w u2 := by
    cases r1 with
    | cons p q =>
      cases q with
      | cons p' q' =>
        cases q'
        exact ⟨_, _, rfl, p, p'⟩
  refine wpAny_newObj_type ?_ (by show 2 ≤ sizeLine; decide)
  have I2 : Inv X pins σ H1 { s1 with heap := s1.heap.push { cls := .type "tuple", data := .seq [u1, u2].toArray } } := I1.kept (t' := s1.toks) fun b o e => Heap.get?_push_of_some _ e
  rw [hw]
  refine wpAny_bind (wpAny_pure ?_)
  show wpAny (model X.prog X.w) X.A (do rule "assign.swapped-stores"; let items ← unpackItems (.ref s1.heap.objs.size) 2 none; assignInOrder [fun v => bindName X.env y v, fun v => bindName X.env x v] items.reverse; pure Flow.next) _ _ _
  refine wpAny_bind (wpAny_rule (wpAny_bind (unpackItems_tuple (items := #[u1, u2]) (I.ok.hd hc) (IsTup.new s1.heap _) fun h' hx' => ?_)))
  have I3 := I2.kept (h' := h') (t' := s1.toks) fun b o e => hx' b o (Nat.ne_of_lt (Heap.lt_size e)) e
  show wpAny _ _ (assignInOrder [fun v => bindName X.env y v, fun v => bindName X.env x v] [u2, u1] >>= fun _ => pure Flow.next) _ _ _
  refine wpAny_bind (assignInOrder_cons (wpAny_bindName (store_ok I3 hN hj (.inl hy) rw' (fun s2 I4 => ?_) (.inr hy))))
  refine assignInOrder_cons (wpAny_bindName (store_ok I4 hN hi (.inl hx) rv (fun s3 I5 => assignInOrder_nil (wpAny_pure ?_)) (.inr hx)))
  rw [List.set_comm _ _ (Ne.symm hij)] at I5
  exact ⟨_, H1, I5, q1⟩
/-- name op= e -/
def tAug (i : Nat) (te : TE) (ti : TIp) : TS := fun D σ H => ∃ x, σ[i]? = some (some x) ∧ te σ H fun y H1 => ti x y H1 fun z H2 => D.nx (σ.set i (some z)) H2
/-- o[i] op= e -/
def tAugS (to ti te : TE) (tget : V → V → Hp → VK → Prop) (tip : TIp) (tset : TSet) : TS := fun D σ H => to σ H fun o H1 => ti σ H1 fun i H2 => tget o i H2 fun x H3 => te σ H3 fun y H4 => tip x y H4 fun z H5 => tset o i z H5 fun H6 => D.nx σ H6
/-- o[i], by values -/
def PGet (X : Cx) (t : V → V → Hp → VK → Prop) : Prop :=
  ∀ (pins : List (Addr × Obj)) (s : Shared) (σ : St) (H : Hp) (o i : V) (ov iv : Value) (Q : VK), Inv X pins σ H s → RelV o ov → RelV i iv → t o i H Q →
    wpAny (model X.prog X.w) X.A (getItem ov iv) (EP X pins σ Q) X.xe s
/-- ints -/
def ipI (f : Int → Int → Int) : TIp := fun x y H Q => ∃ i j, x = .int i ∧ y = .int j ∧ Q (.int (f i j)) H
end

/-! ### while -/
section
variable {X : Cx} {pos : Pos}
/-- the invariant W with its measure -/
def tWhile (c : TT) (tb : TS) : TS := fun D σ H => ∃ W : Nat → St → Hp → Prop, (∃ m, W m σ H) ∧ ∀ m σ H, W m σ H →
  c σ H fun b H1 => if b = true then ∃ N : St → Hp → Prop, (∀ σ' H', N σ' H' → ∃ m', m' < m ∧ W m' σ' H') ∧ tb { D with nx := N, ct := N, bk := D.nx } σ H1 else D.nx σ H1
end

/-! ### what a loop or a comprehension walks -/
/-- at turn i: it yields x (the heap may grow), or it stops -/
structure It where
  go : Nat → Hp → Prop
  yld : Nat → Hp → V → Hp → Prop
  stop : Nat → Hp → Prop
/-- the iterator's own objects may turn: they are not the frame's, not pinned, younger than the entry (or a comprehension's own) -/
def FpOk (X : Cx) (pins : List (Addr × Obj)) (H : Hp) (b : Addr) : Prop :=
  H b = none ∧ b ≠ X.env.locals ∧ b ∉ X.fs ∧ (b ∈ X.ex ∨ X.s_0.heap.objs.size ≤ b) ∧ (∀ x c, X.env.cells.lookup x = some c → c ≠ b) ∧ ∀ p ∈ X.pn ++ pins, p.1 ≠ b
theorem Inv.fpOk {X : Cx} {pins : List (Addr × Obj)} {σ : St} {H H' : Hp} {s : Shared} {b : Addr} (I : Inv X pins σ H s) (hb : s.heap.objs.size ≤ b) (hn : H' b = none) : FpOk X pins H' b := by
  refine ⟨hn, Nat.ne_of_gt (Nat.lt_of_lt_of_le I.lt hb), I.nofs hb, .inr (Nat.le_trans I.sz hb), fun x c e z => ?_, fun p hp z => ?_⟩
  · obtain ⟨v, q⟩ := I.cell x c e
    exact absurd (Nat.lt_of_lt_of_le q.lt (by rw [z]; exact hb)) (Nat.lt_irrefl _)
  · exact absurd (Nat.lt_of_lt_of_le (Heap.lt_size (I.pin p hp).1) (by rw [z]; exact hb)) (Nat.lt_irrefl _)
structure Turn (P : Program) (w : World) (K : PySem.W.Frag) (tg : Expr) (J : It) (fp : List Addr) (it : Addr) (tn : Nat → Heap → Prop) : Prop where
  mem : it ∈ fp
  obj : ∀ i h, tn i h → ∀ b ∈ fp, ∃ o, h.get? b = some o ∧ ∀ v, o.data ≠ .cell v
  keep : ∀ i h h', tn i h → (∀ b ∈ fp, ∀ o, h.get? b = some o → h'.get? b = some o) → tn i h'
  item : ∀ (X : Cx), X.prog = P → X.w = w → X.K = K → X.calm = true → ∀ (i : Nat) (pins : List (Addr × Obj)) (s : Shared) (σ : St) (H : Hp) (E : Value → Shared → Prop), Inv X pins σ H s → (∀ b ∈ fp, FpOk X pins H b) → tn i s.heap → J.go i H →
    wpAny (model P w) X.A (pyNext (.ref it)) (fun r s1 => ∃ u, r = some u ∧
      wpAny (model P w) X.A (letOwnedTupleGo tg (.ref it) u) (fun _ s2 => ∃ x H', Inv X pins σ H' s2 ∧ RelV x u ∧ J.yld i H x H' ∧ tn (i + 1) s2.heap ∧ ∀ b ∈ fp, H' b = none) E s1) E s
  done : ∀ (X : Cx), X.prog = P → X.w = w → X.K = K → X.calm = true → ∀ (i : Nat) (pins : List (Addr × Obj)) (s : Shared) (σ : St) (H : Hp) (E : Value → Shared → Prop), Inv X pins σ H s → (∀ b ∈ fp, FpOk X pins H b) → tn i s.heap → J.stop i H →
    wpAny (model P w) X.A (pyNext (.ref it)) (fun r s1 => r = none ∧ Inv X pins σ H s1) E s
  self : ∀ (A : Around) (i : Nat) (s : Shared) (Q : Value → Shared → Prop) (E : Value → Shared → Prop), tn i s.heap → Q (.ref it) s → wpAny (model P w) A (pyIter (.ref it)) Q E s
abbrev TI := St → Hp → (It → Hp → Prop) → Prop
/-- an iterator has come -/
def PIE (X : Cx) (pins : List (Addr × Obj)) (σ : St) (tg : Expr) (R : It → Hp → Prop) (itv : Value) (s2 : Shared) : Prop :=
  ∃ (it : Addr) (fp : List Addr) (tn : Nat → Heap → Prop) (J : It) (H' : Hp), itv = .ref it ∧ Inv X pins σ H' s2 ∧ Turn X.prog X.w X.K tg J fp it tn ∧ tn 0 s2.heap ∧ (∀ b ∈ fp, FpOk X pins H' b) ∧ R J H'
def PI (X : Cx) (tg iter : Expr) (wi : TI) : Prop :=
  ∀ (pins : List (Addr × Obj)) (s : Shared) (σ : St) (H : Hp) (R : It → Hp → Prop), Inv X pins σ H s → wi σ H R →
    wpAny (model X.prog X.w) X.A (eval iter X.env) (fun v s1 => wpAny (model X.prog X.w) X.A (pyIter v) (PIE X pins σ tg R) X.xe s1) X.xe s

/-- the step ahead of the store is nothing for an iterator that keeps no tuple -/
theorem go_of {M : Model} {A : Around} {E : Value → Shared → Prop} {s : Shared} {tg : Expr} {it : Addr} {u : Value} {o : Obj} {n : String} {vs : Array Value} {Q : Unit → Shared → Prop} (ho : s.heap.get? it = some o) (hc : o.cls = .type n) (hd : o.data = .fields vs)
    (hn : ["enumerate", "zip", "dict_itemiterator", "dict_reverseitemiterator", "odict_iterator", "itertools.zip_longest", "itertools.pairwise"].contains n = false) (hQ : Q () s) : wpAny M A (letOwnedTupleGo tg (.ref it) u) Q E s := by
  unfold letOwnedTupleGo
  cases tg <;> first
    | exact wpAny_pure hQ
    | (cases u <;> first
        | exact wpAny_pure hQ
        | (refine wpAny_bind (wpAny_load ho ?_)
           rw [hc, hd]
           show wpAny M A (if (["enumerate", "zip", "dict_itemiterator", "dict_reverseitemiterator", "odict_iterator", "itertools.zip_longest", "itertools.pairwise"].contains n && vs[0]? == some (rawInt _)) = true then _ else _) Q E s
           rw [if_neg (by intro h; rw [hn, Bool.false_and] at h; cases h)]
           exact wpAny_pure hQ))

/-- the list at a, as it stands at each turn (a loop may append to it) -/
def Itl (K : PySem.W.Frag) (a : Addr) : It :=
  ⟨fun i H => ∃ xs x, SqL K H a xs ∧ xs[i]? = some x, fun i H x H' => H' = H ∧ ∀ xs, SqL K H a xs → xs[i]? = some x, fun i H => ∃ xs, SqL K H a xs ∧ xs.length ≤ i⟩
def Itt (K : PySem.W.Frag) (a : Addr) : It :=
  ⟨fun i H => ∃ xs x, SqT K H a xs ∧ xs[i]? = some x, fun i H x H' => H' = H ∧ ∀ xs, SqT K H a xs → xs[i]? = some x, fun i H => ∃ xs, SqT K H a xs ∧ xs.length ≤ i⟩
/-- lo, lo + 1, .. (n of them) -/
def Itr (lo : Int) (n : Nat) : It := ⟨fun i _ => i < n, fun i H x H' => H' = H ∧ x = .int (lo + i), fun i _ => n ≤ i⟩
theorem turn_list {P : Program} {w : World} {K : PySem.W.Frag} {tg : Expr} (a it : Addr) : Turn P w K tg (Itl K a) [it] it (fun i h => h.IsListIter it a i) where
  mem := by simp
  obj := fun i h st b hb => by
    have e : b = it := by simpa using hb
    subst e
    obtain ⟨o, e, c, d⟩ := st
    exact ⟨o, e, fun v z => by rw [d] at z; cases z⟩
  keep := fun i h h' st k => st.at fun o e => k it (by simp) o e
  item := by
    intro X hP hw hK hc i pins s σ H E I hf st hg
    subst hP hw hK
    obtain ⟨xs, x, hq, hx⟩ := hg
    obtain ⟨its, rv, p, hz⟩ := I.list hq
    obtain ⟨u, hu, ru⟩ := rv.get hx
    obtain ⟨f0, f1, f2, f3, f4, f5⟩ := hf it (by simp)
    refine wpAny_pyNext_list_item st p.isList (x := u) (by simpa using hu) fun h' st' sb => ?_
    have I1 : Inv X pins σ H { s with heap := h' } := I.turned (t' := s.toks) (fun b o hb e => (sb.2 b hb).trans e) f0 f1 f3 f4 f5
    obtain ⟨o, e, c, d⟩ := id st'
    exact ⟨u, rfl, go_of (s := { s with heap := h' }) e c d (by decide) ⟨x, H, I1, ru, ⟨rfl, fun ys hy => by rw [I.list_inj hy hq]; exact hx⟩, st', fun b hb => (hf b hb).1⟩⟩
  done := by
    intro X hP hw hK hc i pins s σ H E I hf st hg
    subst hP hw hK
    obtain ⟨xs, hq, hx⟩ := hg
    obtain ⟨its, rv, p, hz⟩ := I.list hq
    obtain ⟨f0, f1, f2, f3, f4, f5⟩ := hf it (by simp)
    have hl := rv.length
    exact wpAny_pyNext_list_end (I.ok.hd hc) st p.isList (by simp; omega) fun h' eb => ⟨rfl, I.turned (t' := s.toks) (fun b o hb e => eb b o hb e) f0 f1 f3 f4 f5⟩
  self := fun _ _ _ _ _ st h => wpAny_pyIter_listiter st h
theorem turn_tuple {P : Program} {w : World} {K : PySem.W.Frag} {tg : Expr} (a it : Addr) : Turn P w K tg (Itt K a) [it] it (fun i h => h.IsTupleIter it a i) where
  mem := by simp
  obj := fun i h st b hb => by
    have e : b = it := by simpa using hb
    subst e
    obtain ⟨o, e, c, d⟩ := st
    exact ⟨o, e, fun v z => by rw [d] at z; cases z⟩
  keep := fun i h h' st k => st.at fun o e => k it (by simp) o e
  item := by
    intro X hP hw hK hc i pins s σ H E I hf st hg
    subst hP hw hK
    obtain ⟨xs, x, hq, hx⟩ := hg
    obtain ⟨its, rv, p, hz⟩ := I.tuple hq
    obtain ⟨u, hu, ru⟩ := rv.get hx
    obtain ⟨f0, f1, f2, f3, f4, f5⟩ := hf it (by simp)
    refine wpAny_pyNext_tuple_item st (show s.heap.IsTuple a its.toArray from p) (x := u) (by simpa using hu) fun h' st' sb => ?_
    have I1 : Inv X pins σ H { s with heap := h' } := I.turned (t' := s.toks) (fun b o hb e => (sb.2 b hb).trans e) f0 f1 f3 f4 f5
    obtain ⟨o, e, c, d⟩ := id st'
    exact ⟨u, rfl, go_of (s := { s with heap := h' }) e c d (by decide) ⟨x, H, I1, ru, ⟨rfl, fun ys hy => by rw [I.tuple_inj hy hq]; exact hx⟩, st', fun b hb => (hf b hb).1⟩⟩
  done := by
    intro X hP hw hK hc i pins s σ H E I hf st hg
    subst hP hw hK
    obtain ⟨xs, hq, hx⟩ := hg
    obtain ⟨its, rv, p, hz⟩ := I.tuple hq
    obtain ⟨f0, f1, f2, f3, f4, f5⟩ := hf it (by simp)
    have hl := rv.length
    exact wpAny_pyNext_tuple_end (I.ok.hd hc) st (show s.heap.IsTuple a its.toArray from p) (by simp; omega) fun h' eb => ⟨rfl, I.turned (t' := s.toks) (fun b o hb e => eb b o hb e) f0 f1 f3 f4 f5⟩
  self := fun _ _ _ _ _ st h => wpAny_pyIter_tupleiter st h
theorem turn_range {P : Program} {w : World} {K : PySem.W.Frag} {tg : Expr} (it : Addr) (lo : Int) (n : Nat) : Turn P w K tg (Itr lo n) [it] it (fun i h => IsRangeIter h it (lo + (i : Nat) * 1) ((n : Int) - (i : Nat)) 1) where
  mem := by simp
  obj := fun i h st b hb => by
    have e : b = it := by simpa using hb
    subst e
    exact ⟨_, st, fun v z => by
      have z' : Data.fields _ = Data.cell v := z
      cases z'⟩
  keep := fun i h h' st k => k it (by simp) _ st
  item := by
    intro X hP hw hK hc i pins s σ H E I hf st hg
    subst hP hw hK
    obtain ⟨f0, f1, f2, f3, f4, f5⟩ := hf it (by simp)
    have W := Walks.range (prog := X.prog) (w := X.w) (I.ok.hd hc) it lo 1 n
    refine W.item i s _ _ hg st fun v h' tk hv st' kk => ?_
    obtain ⟨t, rfl⟩ := hv
    have I1 : Inv X pins σ H { s with heap := h', toks := tk } := I.turned (fun b o hb e => kk b o (by simpa using hb) e) f0 f1 f3 f4 f5
    refine ⟨_, rfl, go_of (s := { s with heap := h', toks := tk }) (n := "range_iterator") st' rfl rfl (by decide) ⟨.int (lo + i), H, I1, ⟨t, ?_⟩, ⟨rfl, rfl⟩, st', fun b hb => (hf b hb).1⟩⟩
    rw [Int.mul_one]
  done := by
    intro X hP hw hK hc i pins s σ H E I hf st hg
    subst hP hw hK
    obtain ⟨f0, f1, f2, f3, f4, f5⟩ := hf it (by simp)
    exact wpAny_pyNext_range_end (I.ok.hd hc) st (by have : n ≤ i := hg; omega) fun h' eb => ⟨rfl, I.turned (t' := s.toks) (fun b o hb e => eb b o hb e) f0 f1 f3 f4 f5⟩
  self := fun _ _ _ _ _ st h => wpAny_pyIter_rangeiter st h
end L2

namespace L2
open PySem PySem.Spec PyProof.Rows
section
variable {X : Cx} {tg : Expr}
def iList (K : PySem.W.Frag) (tl : TE) : TI := fun σ H R => tl σ H fun x H1 => ∃ a, x = .ref a ∧ (∃ xs, SqL K H1 a xs) ∧ R (Itl K a) H1
def iTup (K : PySem.W.Frag) (tl : TE) : TI := fun σ H R => tl σ H fun x H1 => ∃ a, x = .ref a ∧ (∃ xs, SqT K H1 a xs) ∧ R (Itt K a) H1
/-- a range object just made, walked -/
theorem range_it {pins : List (Addr × Obj)} {σ : St} {H : Hp} {s : Shared} {R : It → Hp → Prop} {E : Value → Shared → Prop} {lo hi : Int} {t u v : Tok} {tk : Nat} (I : Inv X pins σ H s) (h1 : -(2 ^ 62) ≤ lo) (h2 : lo < 2 ^ 62) (h3 : -(2 ^ 62) ≤ hi) (h4 : hi < 2 ^ 62)
    (q : R (Itr lo (hi - lo).toNat) H) : wpAny (model X.prog X.w) X.A (pyIter (.ref s.heap.objs.size)) (PIE X pins σ tg R) E { s with heap := s.heap.push { cls := .type "range", data := .fields #[.int lo t, .int hi u, .int 1 v] }, toks := tk } := by
  refine wpAny_pyIter_range (IsRange.new ..) (small_one h1 h2 h3 h4) ?_
  have I1 : Inv X pins σ H { s with heap := s.heap.push { cls := .type "range", data := .fields #[.int lo t, .int hi u, .int 1 v] }, toks := tk } := I.kept fun b o e => Heap.get?_push_of_some _ e
  refine ⟨(s.heap.push { cls := .type "range", data := .fields #[.int lo t, .int hi u, .int 1 v] }).objs.size, [(s.heap.push { cls := .type "range", data := .fields #[.int lo t, .int hi u, .int 1 v] }).objs.size], _, _, H, rfl,
    I1.kept (t' := tk) fun b o e => Heap.get?_push_of_some _ e, turn_range _ lo (hi - lo).toNat, ?_, fun b hb => ?_, q⟩
  · have e1 : lo + ((0 : Nat) : Int) * 1 = lo := by simp
    have e2 : (((hi - lo).toNat : Nat) : Int) - ((0 : Nat) : Int) = Builtin.Range.rangeSize lo hi 1 := by rw [rangeSize_one]; split <;> omega
    show IsRangeIter _ _ (lo + ((0 : Nat) : Int) * 1) ((((hi - lo).toNat : Nat) : Int) - ((0 : Nat) : Int)) 1
    rw [e1, e2]
    exact Heap.get?_push_size _ rfl
  · have e : b = (s.heap.push { cls := .type "range", data := .fields #[.int lo t, .int hi u, .int 1 v] }).objs.size := by simpa using hb
    subst e
    exact I1.fpOk (Nat.le_refl _) (I1.hok.fresh (Nat.le_refl _))
def iRng1 (ta : TA) : TI := fun σ H R => ta σ H fun vs H1 => ∃ j : Int, vs = [.int j] ∧ -(2 ^ 62) ≤ j ∧ j < 2 ^ 62 ∧ R (Itr 0 j.toNat) H1
def iRng2 (ta : TA) : TI := fun σ H R => ta σ H fun vs H1 => ∃ i j : Int, vs = [.int i, .int j] ∧ (-(2 ^ 62) ≤ i ∧ i < 2 ^ 62 ∧ -(2 ^ 62) ≤ j ∧ j < 2 ^ 62) ∧ R (Itr i (j - i).toNat) H1
theorem pi_range1 {a : Expr} {ta : TA} {p pos : Pos} (hg : Gl X "range") (hm : X.mg "range" = none) (ha : PA X [a] ta) (hs : starEach [a] X.env = [(false, eval a X.env)] := by rfl) : PI X tg (.Call (.Name "range" p) [a] [] pos) (iRng1 ta) := by
  intro pins s σ H R I h
  refine Call_ (ld_blt I hg hm boot_range (PyProof.Rows.callWith_type1 (thn (ha pos pins s σ H _ I h) fun us s1 ⟨vs, H1, I1, r1, q1⟩ => ?_) hs rfl))
  obtain ⟨j, e, q1, q2, q⟩ := q1
  subst e
  cases r1 with
  | cons r rr =>
    cases rr
    obtain ⟨t, rfl⟩ := r
    exact call_range_1 (range_it I1 (by omega) (by omega) q1 q2 (by simpa using q))
/-! ### for -/
/-- W: the invariant by the turn and a measure; N: what the body is to reach -/
def tFor (wi : TI) (g : TG) (tb : TS) : TS := fun D σ H => wi σ H fun J H1 => ∃ W : Nat → Nat → St → Hp → Prop, (∃ m, W 0 m σ H1) ∧ ∀ i m σ H, W i m σ H →
  (J.stop i H ∧ D.nx σ H) ∨ (J.go i H ∧ ∃ N : St → Hp → Prop, (∀ σ' H', N σ' H' → ∃ m', m' < m ∧ W (i + 1) m' σ' H') ∧ ∀ x H', J.yld i H x H' → g x σ H' fun σ2 H2 => tb { D with nx := N, ct := N, bk := D.nx } σ2 H2)
/-- the records at fp as they stand -/
def pinsAt (fp : List Addr) (h : Heap) : List (Addr × Obj) := fp.filterMap fun b => (h.get? b).map fun o => (b, o)
theorem mem_pinsAt {fp : List Addr} {h : Heap} {b : Addr} {o : Obj} (hb : b ∈ fp) (e : h.get? b = some o) : (b, o) ∈ pinsAt fp h := List.mem_filterMap.mpr ⟨b, hb, by rw [e]; rfl⟩
theorem of_pinsAt {fp : List Addr} {h : Heap} {p : Addr × Obj} (hp : p ∈ pinsAt fp h) : p.1 ∈ fp ∧ h.get? p.1 = some p.2 := by
  obtain ⟨b, hb, e⟩ := List.mem_filterMap.mp hp
  cases q : h.get? b with
  | none => rw [q] at e; cases e
  | some o =>
    rw [q] at e
    have e' : (b, o) = p := Option.some.inj e
    subst e'
    exact ⟨hb, q⟩
theorem Inv.pinned {pins : List (Addr × Obj)} {σ : St} {H : Hp} {s : Shared} {fp : List Addr} (I : Inv X pins σ H s) (hf : ∀ b ∈ fp, FpOk X pins H b) (ho : ∀ b ∈ fp, ∃ o, s.heap.get? b = some o ∧ ∀ v, o.data ≠ .cell v) : Inv X (pins ++ pinsAt fp s.heap) σ H s :=
  I.pins_of fun p hp => (List.mem_append.mp hp).elim (fun z => I.pin p (List.mem_append_right _ z)) fun z => by
    obtain ⟨hb, e⟩ := of_pinsAt z
    obtain ⟨f0, f1, f2, _⟩ := hf p.1 hb
    obtain ⟨o, e', d⟩ := ho p.1 hb
    rw [e] at e'; cases e'
    exact ⟨e, f0, f1, f2, d⟩
theorem Inv.unpinned {pins pl : List (Addr × Obj)} {σ : St} {H : Hp} {s : Shared} (I : Inv X (pins ++ pl) σ H s) : Inv X pins σ H s := I.pins_of fun p hp => I.pin p (List.mem_append_right _ (List.mem_append_left _ hp))
theorem ps_for {iter : Expr} {body : List Stmt} {wi : TI} {g : TG} {tb : TS} {pos : Pos} (hp : PassesOwn (model X.prog X.w) X.A X.env X.xe) (hc : X.calm = true) (hi : PI X tg iter wi) (hg : PG X tg g) (hb : PSs X body tb)
    (hs : ∀ x, foldedSetIterable iter X.env x = pure x := by intro _; rfl) : PS X (.For tg iter body [] pos) (tFor wi g tb) := by
  intro pins s σ H D I h
  refine wpAny_For (thn (hi pins s σ H _ I h) fun v s1 h1 => thn h1 fun itv s2 h2 => ?_) hs
  obtain ⟨it, fp, tn, J, H2, e, I2, T, st2, f2, W, ⟨m0, w0⟩, turn⟩ := h2
  subst e
  -- what stays true of the iterator's objects through the loop
  have stat : ∀ {H' : Hp}, (∀ b ∈ fp, H' b = none) → ∀ b ∈ fp, FpOk X pins H' b := fun hn b hb => ⟨hn b hb, (f2 b hb).2⟩
  refine codeAny_forLoop_any (fun n s' => ∃ i σ' H', Inv X pins σ' H' s' ∧ tn i s'.heap ∧ (∀ b ∈ fp, H' b = none) ∧ W i n σ' H') ?_ m0 ⟨0, σ, H2, I2, st2, fun b hb => (f2 b hb).1, w0⟩
  rintro n s3 ⟨i, σ3, H3, I3, st3, fr3, w3⟩
  rcases turn i n σ3 H3 w3 with ⟨stop, qn⟩ | ⟨go, N, hN, step⟩
  · refine wpAny_passesOwn hp (thn (T.done X rfl rfl rfl hc i pins s3 σ3 H3 X.xe I3 (stat fr3) st3 stop) fun r s4 ⟨hr, I4⟩ => ?_)
    subst hr
    exact wpAny_execs_nil ⟨σ3, H3, I4, qn⟩
  · refine wpAny_passesOwn hp (thn (T.item X rfl rfl rfl hc i pins s3 σ3 H3 X.xe I3 (stat fr3) st3 go) fun r s4 ⟨u, hr, h4⟩ => ?_)
    subst hr
    refine wpAny_passesOwn hp (thn h4 fun _ s5 ⟨x, H5, I5, r5, y5, st5, fr5⟩ => ?_)
    have I5' := I5.pinned (stat fr5) (T.obj _ _ st5)
    refine wpAny_passesOwn hp (thn (hg _ s5 σ3 H5 x u _ I5' r5 (step x H5 y5)) fun _ s6 ⟨σ6, H6, I6, q6⟩ => ?_)
    refine wpAny_passesOwn hp (thn (hb _ s6 σ6 H6 _ I6 q6) fun f s7 q7 => ?_)
    have again : ∀ {σ7 : St} {H7 : Hp}, Inv X (pins ++ pinsAt fp s5.heap) σ7 H7 s7 → N σ7 H7 → ∃ m, m < n ∧ ∃ i σ' H', Inv X pins σ' H' s7 ∧ tn i s7.heap ∧ (∀ b ∈ fp, H' b = none) ∧ W i m σ' H' := fun {σ7 H7} I7 n7 => by
      obtain ⟨m', hm, w7⟩ := hN σ7 H7 n7
      refine ⟨m', hm, i + 1, σ7, H7, I7.unpinned, T.keep _ _ _ st5 fun b hb o e => (I7.pin (b, o) (List.mem_append_right _ (List.mem_append_right _ (mem_pinsAt hb e)))).1, fun b hb => ?_, w7⟩
      obtain ⟨o, e, d⟩ := T.obj _ _ st5 b hb
      exact (I7.pin (b, o) (List.mem_append_right _ (List.mem_append_right _ (mem_pinsAt hb e)))).2.1
    cases f with
    | next => obtain ⟨σ7, H7, I7, n7⟩ := q7; exact again I7 n7
    | cont => obtain ⟨σ7, H7, I7, n7⟩ := q7; exact again I7 n7
    | brk => obtain ⟨σ7, H7, I7, q7⟩ := q7; exact ⟨σ7, H7, I7.unpinned, q7⟩
    | ret v => obtain ⟨x7, σ7, H7, I7, r7, q7⟩ := q7; exact ⟨x7, σ7, H7, I7.unpinned, r7, q7⟩
end

/-! ### the forms one uses -/
end L2

namespace L2
open PySem PySem.Spec PyProof.Rows

abbrev R2 := V → V → Hp → VK → Prop
/-- a two-place operation on values: f is binaryOp op, inplaceOp op or compareOp op -/
def OpR (X : Cx) (f : Value → Value → Sem Value) (r : R2) : Prop :=
  ∀ (pins : List (Addr × Obj)) (s : Shared) (σ : St) (H : Hp) (x y : V) (v u : Value) (Q : VK), Inv X pins σ H s → RelV x v → RelV y u → r x y H Q →
    wpAny (model X.prog X.w) X.A (f v u) (EP X pins σ Q) X.xe s
/-- a one-place operation -/
def UnR (X : Cx) (f : Value → Sem Value) (r : V → Hp → VK → Prop) : Prop :=
  ∀ (pins : List (Addr × Obj)) (s : Shared) (σ : St) (H : Hp) (x : V) (v : Value) (Q : VK), Inv X pins σ H s → RelV x v → r x H Q →
    wpAny (model X.prog X.w) X.A (f v) (EP X pins σ Q) X.xe s
/-- a call of a value that is known (a builtin, a type) with values -/
def CallR (X : Cx) (f : Value) (r : List V → Hp → VK → Prop) : Prop :=
  ∀ (pins : List (Addr × Obj)) (s : Shared) (σ : St) (H : Hp) (xs : List V) (us : List Value) (Q : VK), Inv X pins σ H s → Vals xs us → r xs H Q →
    wpAny (model X.prog X.w) X.A (call f us) (EP X pins σ Q) X.xe s
/-- a value's truth -/
def TruR (X : Cx) (r : V → Hp → (Bool → Hp → Prop) → Prop) : Prop :=
  ∀ (pins : List (Addr × Obj)) (s : Shared) (σ : St) (H : Hp) (x : V) (v : Value) (Q : Bool → Hp → Prop), Inv X pins σ H s → RelV x v → r x H Q →
    wpAny (model X.prog X.w) X.A (truthy v) (TP X pins σ Q) X.xe s

def tOp (r : R2) (ta tb : TE) : TE := fun σ H Q => ta σ H fun x H1 => tb σ H1 fun y H2 => r x y H2 Q
def tUn (r : V → Hp → VK → Prop) (ta : TE) : TE := fun σ H Q => ta σ H fun x H1 => r x H1 Q
/-- ints in, under C, and a value out -/
def rI (C : Int → Int → Prop) (g : Int → Int → V) : R2 := fun x y H Q => ∃ i j, x = .int i ∧ y = .int j ∧ C i j ∧ Q (g i j) H
def rI0 (g : Int → Int → V) : R2 := fun x y H Q => ∃ i j, x = .int i ∧ y = .int j ∧ Q (g i j) H
def rU (g : Int → V) : V → Hp → VK → Prop := fun x H Q => ∃ i, x = .int i ∧ Q (g i) H

section
variable {X : Cx} {a b c : Expr} {ta tb tc : TE} {pos : Pos}

theorem binT (ha : PE X a ta) (hb : PE X b tb) {pins : List (Addr × Obj)} {s : Shared} {σ : St} {H : Hp} {R : V → V → Hp → Prop} (I : Inv X pins σ H s)
    (h : ta σ H fun x H1 => tb σ H1 fun y H2 => R x y H2) {Q : Value → Shared → Prop} {f : Value → Value → Sem Value}
    (hf : ∀ v u s2 x y H2, Inv X pins σ H2 s2 → RelV x v → RelV y u → R x y H2 → wpAny (model X.prog X.w) X.A (f v u) Q X.xe s2) :
    wpAny (model X.prog X.w) X.A (eval a X.env) (fun v s₁ => wpAny (model X.prog X.w) X.A (eval b X.env) (fun u s₂ => wpAny (model X.prog X.w) X.A (f v u) Q X.xe s₂) X.xe s₁) X.xe s := by
  refine thn (ha pins s σ H _ I h) fun v s1 ⟨x, H1, I1, r1, q1⟩ => ?_
  refine thn (hb pins s1 σ H1 _ I1 q1) fun u s2 ⟨y, H2, I2, r2, q2⟩ => ?_
  exact hf v u s2 x y H2 I2 r1 r2 q2

theorem pe_op {op : Operator} {r : R2} (ho : OpR X (binaryOp op) r) (ha : PE X a ta) (hb : PE X b tb) : PE X (.BinOp a op b pos) (tOp r ta tb) := by
  intro pins s σ H Q I h
  exact wpAny_BinOp (binT ha hb I h fun v u s2 x y H2 I2 rx ry q => ho pins s2 σ H2 x y v u Q I2 rx ry q)
theorem pe_un {op : UnaryOp} {r : V → Hp → VK → Prop} (ho : UnR X (unaryOp op) r) (ha : PE X a ta) : PE X (.UnaryOp op a pos) (tUn r ta) := by
  intro pins s σ H Q I h
  exact UnaryOp_ (thn (ha pins s σ H _ I h) fun v s1 ⟨x, H1, I1, r1, q1⟩ => ho pins s1 σ H1 x v Q I1 r1 q1)
/-! ### ints -/
theorem opI {f : Value → Value → Sem Value} {C : Int → Int → Prop} {g : Int → Int → Int}
    (rule : ∀ (i j : Int) (t u : Tok) (s : Shared) (Q : Value → Shared → Prop) (E : Value → Shared → Prop), C i j → Q (.int (g i j) s.toks) { s with toks := s.toks + 1 } → wpAny (model X.prog X.w) X.A (f (.int i t) (.int j u)) Q E s) :
    OpR X f (rI C fun i j => .int (g i j)) := by
  intro pins s σ H x y v u Q I rx ry h
  obtain ⟨i, j, rfl, rfl, hc, q⟩ := h
  obtain ⟨t, rfl⟩ := rx
  obtain ⟨t', rfl⟩ := ry
  exact rule i j t t' s _ _ hc ⟨.int (g i j), H, I.tok _, ⟨_, rfl⟩, q⟩
theorem opI0 {f : Value → Value → Sem Value} {g : Int → Int → Int}
    (rule : ∀ (i j : Int) (t u : Tok) (s : Shared) (Q : Value → Shared → Prop) (E : Value → Shared → Prop), Q (.int (g i j) s.toks) { s with toks := s.toks + 1 } → wpAny (model X.prog X.w) X.A (f (.int i t) (.int j u)) Q E s) :
    OpR X f (rI0 fun i j => .int (g i j)) := by
  intro pins s σ H x y v u Q I rx ry h
  obtain ⟨i, j, rfl, rfl, q⟩ := h
  obtain ⟨t, rfl⟩ := rx
  obtain ⟨t', rfl⟩ := ry
  exact rule i j t t' s _ _ ⟨.int (g i j), H, I.tok _, ⟨_, rfl⟩, q⟩
theorem opB0 {f : Value → Value → Sem Value} {g : Int → Int → Bool}
    (rule : ∀ (i j : Int) (t u : Tok) (s : Shared) (Q : Value → Shared → Prop) (E : Value → Shared → Prop), Q (.bool (g i j)) s → wpAny (model X.prog X.w) X.A (f (.int i t) (.int j u)) Q E s) :
    OpR X f (rI0 fun i j => .bl (g i j)) := by
  intro pins s σ H x y v u Q I rx ry h
  obtain ⟨i, j, rfl, rfl, q⟩ := h
  obtain ⟨t, rfl⟩ := rx
  obtain ⟨t', rfl⟩ := ry
  exact rule i j t t' s _ _ ⟨.bl (g i j), H, I, rfl, q⟩

def CDiv (i j : Int) : Prop := 0 < j ∧ j < 1073741824
def CDivN (i j : Int) : Prop := j ≠ 0 ∧ j.natAbs < 1073741824
def CPow (i j : Int) : Prop := 0 ≤ j ∧ j ≤ 1000000 ∧ i.natAbs < 2 ^ 64
def CMul (i j : Int) : Prop := (-(2 ^ 64) < i ∧ i < 2 ^ 64) ∨ (-(2 ^ 64) < j ∧ j < 2 ^ 64)
theorem CMul.ok {i j : Int} (h : CMul i j) : IntMulOk i j := by
  rcases h with ⟨h1, h2⟩ | ⟨h1, h2⟩
  · exact .of_left (intBits_le_64 h1 h2)
  · exact .of_right (intBits_le_64 h1 h2)
theorem op_add : OpR X (binaryOp .Add) (rI0 fun i j => .int (i + j)) := opI0 fun _ _ _ _ _ _ _ q => add_int q
theorem op_sub : OpR X (binaryOp .Sub) (rI0 fun i j => .int (i - j)) := opI0 fun _ _ _ _ _ _ _ q => sub_int q
theorem op_modN : OpR X (binaryOp .Mod) (rI (fun _ j => j ≠ 0) fun i j => .int (i.fmod j)) := opI fun _ _ _ _ _ _ _ hc q => mod_int' hc q
theorem op_pow : OpR X (binaryOp .Pow) (rI CPow fun i j => .int (i ^ j.toNat)) := opI fun _ _ _ _ _ _ _ hc q => pow_int_small hc.1 hc.2.1 hc.2.2 q
theorem unI {f : Value → Sem Value} {g : Int → Int}
    (rule : ∀ (i : Int) (t : Tok) (s : Shared) (Q : Value → Shared → Prop) (E : Value → Shared → Prop), Q (.int (g i) s.toks) { s with toks := s.toks + 1 } → wpAny (model X.prog X.w) X.A (f (.int i t)) Q E s) :
    UnR X f (rU fun i => .int (g i)) := by
  intro pins s σ H x v Q I rx h
  obtain ⟨i, rfl, q⟩ := h
  obtain ⟨t, rfl⟩ := rx
  exact rule i t s _ _ ⟨.int (g i), H, I.tok _, ⟨_, rfl⟩, q⟩
theorem un_neg : UnR X (unaryOp .USub) (rU fun i => .int (-i)) := unI fun _ _ _ _ _ q => neg_int q
/-! ### bools among ints: n += (a < b) -/
end

/-! ### comparisons -/
/-- the scalars that == tells apart as data does -/
def scal : V → V → Bool
  | .non, .non => true | .non, .int _ => true | .int _, .non => true | .non, .bl _ => true | .bl _, .non => true | .non, .str _ => true | .str _, .non => true
  | .int _, .int _ => true | .bl _, .bl _ => true | .str _, .str _ => true | .byt _, .byt _ => true
  | .int _, .str _ => true | .str _, .int _ => true | .bl _, .str _ => true | .str _, .bl _ => true
  | _, _ => false
def rEq : R2 := fun x y H Q => scal x y = true ∧ Q (.bl (decide (x = y))) H
def rNe : R2 := fun x y H Q => scal x y = true ∧ Q (.bl (!decide (x = y))) H

theorem dec_int {i j : Int} : decide (V.int i = V.int j) = (i == j) := by
  rw [Bool.eq_iff_iff]
  simp
theorem dec_bl {i j : Bool} : decide (V.bl i = V.bl j) = (i == j) := by
  rw [Bool.eq_iff_iff]
  simp
theorem dec_str {i j : Str} : decide (V.str i = V.str j) = (i == j) := by
  rw [Bool.eq_iff_iff]
  simp
theorem dec_byt {i j : Array UInt8} : decide (V.byt i = V.byt j) = (i.toList == j.toList) := by
  rw [Bool.eq_iff_iff]
  cases i
  cases j
  simp

section
variable {X : Cx} {a b c : Expr} {ta tb tc : TE} {pos : Pos}
theorem fin_bl {pins : List (Addr × Obj)} {σ : St} {H : Hp} {s : Shared} {Q : VK} {k k' : Bool} (I : Inv X pins σ H s) (q : Q (.bl k) H) (e : k = k') : EP X pins σ Q (.bool k') s := by
  subst e
  exact ⟨.bl k, H, I, rfl, q⟩
theorem op_eq : OpR X (compareOp .Eq) rEq := by
  intro pins s σ H x y v u Q I rx ry h
  obtain ⟨hs, q⟩ := h
  cases x with
  | non =>
    cases rx
    cases y with
    | non => cases ry; exact PySem.EqNone.eq_none_none (fin_bl I q (by simp))
    | bl j => cases ry; exact PySem.EqNone.eq_none_bool (fin_bl I q (by simp))
    | int j => obtain ⟨t', rfl⟩ := ry; exact PySem.EqNone.eq_none_int (fin_bl I q (by simp))
    | str j => obtain ⟨t', rfl⟩ := ry; exact PySem.EqNone.eq_none_str (fin_bl I q (by simp))
    | _ => exact absurd (show false = true from hs) Bool.false_ne_true
  | bl i =>
    cases rx
    cases y with
    | non => cases ry; exact PySem.EqNone.eq_bool_none (fin_bl I q (by simp))
    | bl j => cases ry; exact eq_bool (fin_bl I q dec_bl)
    | str j => obtain ⟨t', rfl⟩ := ry; exact PySem.EqMixed.eq_bool_str (fin_bl I q (by simp))
    | _ => exact absurd (show false = true from hs) Bool.false_ne_true
  | int i =>
    obtain ⟨t, rfl⟩ := rx
    cases y with
    | non => cases ry; exact PySem.EqNone.eq_int_none (fin_bl I q (by simp))
    | int j => obtain ⟨t', rfl⟩ := ry; exact eq_int (fin_bl I q dec_int)
    | str j => obtain ⟨t', rfl⟩ := ry; exact PySem.EqMixed.eq_int_str (fin_bl I q (by simp))
    | _ => exact absurd (show false = true from hs) Bool.false_ne_true
  | str i =>
    obtain ⟨t, rfl⟩ := rx
    cases y with
    | non => cases ry; exact PySem.EqNone.eq_str_none (fin_bl I q (by simp))
    | bl j => cases ry; exact PySem.EqMixed.eq_str_bool (fin_bl I q (by simp))
    | int j => obtain ⟨t', rfl⟩ := ry; exact PySem.EqMixed.eq_str_int (fin_bl I q (by simp))
    | str j => obtain ⟨t', rfl⟩ := ry; exact eq_str (fin_bl I q dec_str)
    | _ => exact absurd (show false = true from hs) Bool.false_ne_true
  | byt i =>
    obtain ⟨t, rfl⟩ := rx
    cases y with
    | byt j => obtain ⟨t', rfl⟩ := ry; exact PySem.W.eq_bytes (fin_bl I q dec_byt)
    | _ => exact absurd (show false = true from hs) Bool.false_ne_true
  | _ => cases y <;> exact absurd (show false = true from hs) Bool.false_ne_true
theorem op_ne : OpR X (compareOp .NotEq) rNe := by
  intro pins s σ H x y v u Q I rx ry h
  obtain ⟨hs, q⟩ := h
  cases x with
  | non =>
    cases rx
    cases y with
    | non => cases ry; exact PySem.EqNone.ne_none_none (fin_bl I q (by simp))
    | bl j => cases ry; exact PySem.EqNone.ne_none_bool (fin_bl I q (by simp))
    | int j => obtain ⟨t', rfl⟩ := ry; exact PySem.EqNone.ne_none_int (fin_bl I q (by simp))
    | str j => obtain ⟨t', rfl⟩ := ry; exact PySem.EqNone.ne_none_str (fin_bl I q (by simp))
    | _ => exact absurd (show false = true from hs) Bool.false_ne_true
  | bl i =>
    cases rx
    cases y with
    | non => cases ry; exact PySem.EqNone.ne_bool_none (fin_bl I q (by simp))
    | bl j => cases ry; exact ne_bool (fin_bl I q (congrArg not dec_bl))
    | str j => obtain ⟨t', rfl⟩ := ry; exact PySem.EqMixed.ne_bool_str (fin_bl I q (by simp))
    | _ => exact absurd (show false = true from hs) Bool.false_ne_true
  | int i =>
    obtain ⟨t, rfl⟩ := rx
    cases y with
    | non => cases ry; exact PySem.EqNone.ne_int_none (fin_bl I q (by simp))
    | int j => obtain ⟨t', rfl⟩ := ry; exact ne_int (fin_bl I q (congrArg not dec_int))
    | str j => obtain ⟨t', rfl⟩ := ry; exact PySem.EqMixed.ne_int_str (fin_bl I q (by simp))
    | _ => exact absurd (show false = true from hs) Bool.false_ne_true
  | str i =>
    obtain ⟨t, rfl⟩ := rx
    cases y with
    | non => cases ry; exact PySem.EqNone.ne_str_none (fin_bl I q (by simp))
    | bl j => cases ry; exact PySem.EqMixed.ne_str_bool (fin_bl I q (by simp))
    | int j => obtain ⟨t', rfl⟩ := ry; exact PySem.EqMixed.ne_str_int (fin_bl I q (by simp))
    | str j => obtain ⟨t', rfl⟩ := ry; exact ne_str (fin_bl I q (congrArg not dec_str))
    | _ => exact absurd (show false = true from hs) Bool.false_ne_true
  | byt i =>
    obtain ⟨t, rfl⟩ := rx
    cases y with
    | byt j => obtain ⟨t', rfl⟩ := ry; exact PySem.W.ne_bytes (fin_bl I q (congrArg not dec_byt))
    | _ => exact absurd (show false = true from hs) Bool.false_ne_true
  | _ => cases y <;> exact absurd (show false = true from hs) Bool.false_ne_true

theorem op_lt : OpR X (compareOp .Lt) (rI0 fun i j => .bl (decide (i < j))) := opB0 fun _ _ _ _ _ _ _ q => lt_int q
theorem op_le : OpR X (compareOp .LtE) (rI0 fun i j => .bl (decide (i ≤ j))) := opB0 fun _ _ _ _ _ _ _ q => le_int q
theorem op_gt : OpR X (compareOp .Gt) (rI0 fun i j => .bl (decide (j < i))) := opB0 fun _ _ _ _ _ _ _ q => gt_int q
theorem op_ge : OpR X (compareOp .GtE) (rI0 fun i j => .bl (decide (j ≤ i))) := opB0 fun _ _ _ _ _ _ _ q => ge_int q
/-- is, is not of two objects that are tracked lists or instances -/
def isObj : HO → Bool
  | .lst _ => true
  | .ins _ _ _ => true
  | _ => false
/-- two rules for one operation: by cases -/
theorem OpR.or {f : Value → Value → Sem Value} {r r' : R2} (h : OpR X f r) (h' : OpR X f r') : OpR X f (fun x y H Q => r x y H Q ∨ r' x y H Q) := by
  intro pins s σ H x y v u Q I rx ry q
  rcases q with q | q
  · exact h pins s σ H x y v u Q I rx ry q
  · exact h' pins s σ H x y v u Q I rx ry q

theorem nomark (b : Expr) {op : CmpOp} (h : op ≠ .In := by decide) (h2 : op ≠ .NotIn := by decide) : behindInMarks op b = false := by
  have e1 : (op == CmpOp.In) = false := by cases op <;> first | rfl | exact absurd rfl h
  have e2 : (op == CmpOp.NotIn) = false := by cases op <;> first | rfl | exact absurd rfl h2
  cases b <;> simp [behindInMarks, e1, e2]
/-- a comparison as a value; hm: nomark b, or (for in, not in) by with_unfolding_all rfl -/
theorem pe_cmpR {op : CmpOp} {r : R2} (ho : OpR X (compareOp op) r) (ha : PE X a ta) (hb : PE X b tb) (hm : behindInMarks op b = false) : PE X (.Compare a [op] [b] pos) (tOp r ta tb) := by
  intro pins s σ H Q I h
  exact wpAny_Compare1 (binT ha hb I h fun v u s2 x y H2 I2 rx ry q => ho pins s2 σ H2 x y v u Q I2 rx ry q) hm
/-- a reading of a value as a test -/
def tTest (t : TE) : TT := fun σ H Q => t σ H fun x H' => ∃ k, x = .bl k ∧ Q k H'
theorem pt_cmpR {op : CmpOp} {r : R2} (ho : OpR X (compareOp op) r) (ha : PE X a ta) (hb : PE X b tb) (hm : behindInMarks op b = false) : PT X (.Compare a [op] [b] pos) (tTest (tOp r ta tb)) := by
  intro pins s σ H Q I h
  refine wpAny_isTrue_Compare1 (thn (ha pins s σ H _ I h) fun v s1 ⟨x, H1, I1, r1, q1⟩ => thn (hb pins s1 σ H1 _ I1 q1) fun u s2 ⟨y, H2, I2, r2, q2⟩ =>
    thn (ho pins s2 σ H2 x y v u _ I2 r1 r2 q2) fun c s3 ⟨z, H3, I3, r3, k, e, q3⟩ => ?_) hm
  subst e
  cases r3
  exact wpAny_truthy_bool ⟨H3, I3, q3⟩
/-- a op1 b op2 c -/
def tChain (r r' : R2) (ta tb tc : TE) : TE := fun σ H Q => ta σ H fun x H1 => tb σ H1 fun y H2 => r x y H2 fun z H3 => ∃ k, z = .bl k ∧
  (if k = true then tc σ H3 fun w' H4 => r' y w' H4 Q else Q (.bl false) H3)
theorem pe_chain {op op' : CmpOp} {r r' : R2} (ho : OpR X (compareOp op) r) (ho' : OpR X (compareOp op') r') (ha : PE X a ta) (hb : PE X b tb) (hc : PE X c tc)
    (hm : lastMarks [op, op'] [b, c] = false := by with_unfolding_all rfl) : PE X (.Compare a [op, op'] [b, c] pos) (tChain r r' ta tb tc) := by
  intro pins s σ H Q I h
  refine Compare_chain (thn (ha pins s σ H _ I h) fun v s1 ⟨x, H1, I1, r1, q1⟩ => chain_link (thn (hb pins s1 σ H1 _ I1 q1) fun u s2 ⟨y, H2, I2, r2, q2⟩ =>
    thn (ho pins s2 σ H2 x y v u _ I2 r1 r2 q2) fun d s3 ⟨z, H3, I3, r3, k, e, q3⟩ => ?_)) hm
  subst e
  cases r3
  refine wpAny_truthy_bool ?_
  cases k with
  | false => exact ite_ff ⟨.bl false, H3, I3, rfl, q3⟩
  | true => exact ite_tt (chain_last (thn (hc pins s3 σ H3 _ I3 q3) fun w' s4 ⟨z', H4, I4, r4, q4⟩ => ho' pins s4 σ H4 y z' u w' Q I4 r2 r4 q4))
theorem pt_chain {op op' : CmpOp} {r r' : R2} (ho : OpR X (compareOp op) r) (ho' : OpR X (compareOp op') r') (ha : PE X a ta) (hb : PE X b tb) (hc : PE X c tc)
    (hm : lastMarks [op, op'] [b, c] = false := by with_unfolding_all rfl) : PT X (.Compare a [op, op'] [b, c] pos) (tTest (tChain r r' ta tb tc)) := by
  intro pins s σ H Q I h
  refine isTrue_chain (thn (ha pins s σ H _ I h) fun v s1 ⟨x, H1, I1, r1, q1⟩ => test_link (thn (hb pins s1 σ H1 _ I1 q1) fun u s2 ⟨y, H2, I2, r2, q2⟩ =>
    thn (ho pins s2 σ H2 x y v u _ I2 r1 r2 q2) fun d s3 ⟨z, H3, I3, r3, k, e, q3⟩ => ?_)) hm
  subst e
  cases r3
  refine wpAny_truthy_bool ?_
  cases k with
  | false =>
    obtain ⟨k', e', q'⟩ := q3
    cases e'
    exact ite_ff ⟨H3, I3, q'⟩
  | true =>
    refine ite_tt (test_last (thn (hc pins s3 σ H3 _ I3 q3) fun w' s4 ⟨z', H4, I4, r4, q4⟩ => thn (ho' pins s4 σ H4 y z' u w' _ I4 r2 r4 q4) fun d' s5 ⟨z2, H5, I5, r5, k2, e2, q5⟩ => ?_))
    subst e2
    cases r5
    exact wpAny_truthy_bool ⟨H5, I5, q5⟩

/-! ### truth -/
/-- a value's truth by the abstract heap -/
def TruV (K : PySem.W.Frag) (x : V) (H : Hp) (k : Bool) : Prop :=
  match x with
  | .non => k = false
  | .bl b => k = b
  | .int i => k = (i != 0)
  | .str y => y.length ≤ sizeLine ∧ k = ((y.length : Int) != 0)
  | .byt y => y.size ≤ sizeLine ∧ k = ((y.size : Int) != 0)
  | .ref p => (∃ xs, SqL K H p xs ∧ k = !xs.isEmpty) ∨ (∃ xs, SqT K H p xs ∧ k = !xs.isEmpty) ∨ ∃ kvs, H p = some (.dK kvs) ∧ k = !kvs.isEmpty
  | _ => False
theorem line63 : (sizeLine : Nat) < 2 ^ 63 := by rw [sizeLine_eq]; decide
/-! ### strs and bytes -/
theorem op_add_str : OpR X (binaryOp .Add) (fun x y H Q => ∃ i j, x = .str i ∧ y = .str j ∧ i.length + j.length ≤ sizeLine ∧ Q (.str (i ++ j)) H) := by
  intro pins s σ H x y v u Q I rx ry h
  obtain ⟨i, j, rfl, rfl, hz, q⟩ := h
  obtain ⟨t, rfl⟩ := rx
  obtain ⟨t', rfl⟩ := ry
  exact add_str (fun t' tk => ⟨.str (i ++ j), H, I.tok _, ⟨_, rfl⟩, q⟩) hz
def PlainIxT (b : Expr) : Prop := ∀ o i, subscripted b false o i = operate [o, i] (getItem o i)
/-! ### scalar builtins, by CallR -/
theorem vals1 {x : V} {us : List Value} (r : Vals [x] us) : ∃ u, us = [u] ∧ RelV x u := by
  cases r with
  | cons r1 r2 => cases r2; exact ⟨_, rfl, r1⟩
theorem vals2 {x y : V} {us : List Value} (r : Vals [x, y] us) : ∃ u w', us = [u, w'] ∧ RelV x u ∧ RelV y w' := by
  cases r with
  | cons r1 r2 =>
    cases r2 with
    | cons r3 r4 => cases r4; exact ⟨_, _, rfl, r1, r3⟩
theorem call_max2 (hc : X.calm = true) : CallR X (.builtin "max") (fun xs H Q => ∃ i j, xs = [.int i, .int j] ∧ Q (.int (if j > i then j else i)) H) := by
  intro pins s σ H xs us Q I r h
  obtain ⟨i, j, rfl, q⟩ := h
  obtain ⟨u, w', rfl, ⟨t, rfl⟩, ⟨t', rfl⟩⟩ := vals2 r
  refine max_two_ints (I.ok.hd hc) fun h' tk k => ⟨_, H, I.kept k, ?_, q⟩
  by_cases hj : j > i
  · rw [if_pos hj, if_pos hj]; exact ⟨_, rfl⟩
  · rw [if_neg hj, if_neg hj]; exact ⟨_, rfl⟩
theorem call_min2 (hc : X.calm = true) : CallR X (.builtin "min") (fun xs H Q => ∃ i j, xs = [.int i, .int j] ∧ Q (.int (if j < i then j else i)) H) := by
  intro pins s σ H xs us Q I r h
  obtain ⟨i, j, rfl, q⟩ := h
  obtain ⟨u, w', rfl, ⟨t, rfl⟩, ⟨t', rfl⟩⟩ := vals2 r
  refine min_two_ints (I.ok.hd hc) fun h' tk k => ⟨_, H, I.kept k, ?_, q⟩
  by_cases hj : j < i
  · rw [if_pos hj, if_pos hj]; exact ⟨_, rfl⟩
  · rw [if_neg hj, if_neg hj]; exact ⟨_, rfl⟩
theorem call_int1 : CallR X (.type "int") (fun xs H Q => (∃ i, xs = [.int i] ∧ Q (.int i) H) ∨ ∃ k, xs = [.bl k] ∧ Q (.int (if k then 1 else 0)) H) := by
  intro pins s σ H xs us Q I r h
  rcases h with ⟨i, rfl, q⟩ | ⟨k, rfl, q⟩
  · obtain ⟨u, rfl, t, rfl⟩ := vals1 r
    exact call_int_int ⟨.int i, H, I, ⟨_, rfl⟩, q⟩
  · obtain ⟨u, rfl, r1⟩ := vals1 r
    cases r1
    exact call_int_bool ⟨.int (if k then 1 else 0), H, I.tok _, ⟨_, rfl⟩, q⟩
/-- len of a str, a bytes, a list, a tuple -/
def LenV (K : PySem.W.Frag) (x : V) (H : Hp) (n : Nat) : Prop :=
  match x with
  | .str y => y.length ≤ sizeLine ∧ n = y.length
  | .byt y => y.size ≤ sizeLine ∧ n = y.size
  | .ref p => (∃ xs, SqL K H p xs ∧ n = xs.length) ∨ ∃ xs, SqT K H p xs ∧ n = xs.length
  | _ => False
theorem call_len : CallR X (.builtin "len") (fun xs H Q => ∃ x n, xs = [x] ∧ LenV X.K x H n ∧ Q (.int n) H) := by
  intro pins s σ H xs us Q I r h
  obtain ⟨x, n, rfl, e, q⟩ := h
  obtain ⟨u, rfl, rx⟩ := vals1 r
  have hl := line63
  have hs : sizeLine = 16777216 := sizeLine_eq
  cases x with
  | str y =>
    obtain ⟨t, rfl⟩ := rx
    obtain ⟨hy, e'⟩ : y.length ≤ sizeLine ∧ n = y.length := e
    subst e'
    exact len_str (by omega) ⟨.int _, H, I.tok _, ⟨_, rfl⟩, q⟩
  | byt y =>
    obtain ⟨t, rfl⟩ := rx
    obtain ⟨hy, e'⟩ : y.size ≤ sizeLine ∧ n = y.size := e
    subst e'
    exact PySem.W.len_bytes (by omega) ⟨.int _, H, I.tok _, ⟨_, rfl⟩, q⟩
  | ref p =>
    cases rx
    have e' : (∃ xs, SqL X.K H p xs ∧ n = xs.length) ∨ ∃ xs, SqT X.K H p xs ∧ n = xs.length := e
    rcases e' with ⟨xs, hx, e'⟩ | ⟨xs, hx, e'⟩
    · subst e'
      obtain ⟨its, r', pl, hz⟩ := I.list hx
      have hlen := r'.length
      exact Calls.call_len_list pl.isList (by simp only [List.size_toArray]; omega) ⟨.int xs.length, H, I.tok _, ⟨_, by simp only [List.size_toArray]; rw [hlen]⟩, q⟩
    · subst e'
      obtain ⟨its, r', pl, hz⟩ := I.tuple hx
      have hlen := r'.length
      exact len_tuple pl (by simp only [List.size_toArray]; omega) ⟨.int xs.length, H, I.tok _, ⟨_, by simp only [List.size_toArray]; rw [hlen]⟩, q⟩
  | _ => exact (show False from e).elim
end
end L2

namespace L2
open PySem PySem.Spec PyProof.Rows

/-! ### an instance, its attributes a map -/
structure ObjM (h : Heap) (x dx C : Addr) (mA : Str → Option Value) : Prop where
  obj : h.get? x = some (PySem.W.instObj C dx)
  ns : h.Ns1 dx mA
  ne : dx ≠ x

theorem lookIn_ns {h : Heap} {dx : Addr} {mA : Str → Option Value} (n : h.Ns1 dx mA) : ∃ od, h.get? dx = some od ∧ ∀ name, PySem.W.lookIn name od = some (mA name) := by
  obtain ⟨o, es, ep, ho, hd, hk, _, hm⟩ := n
  refine ⟨o, ho, fun name => ?_⟩
  have e := hm name
  unfold nsFind findBy at e
  rw [← Array.find?_toList] at e
  unfold PySem.W.lookIn
  rw [hd]
  dsimp only
  split
  · rename_i y q
    rw [q] at e
    exact congrArg some e
  · rename_i q
    rw [q] at e
    have a : es.toList.any (·.refKey) = false := by
      rw [List.any_eq_false]
      intro y hy
      obtain ⟨z, t, hkey⟩ := hk y (Array.mem_toList_iff.mp hy)
      simp [DictEntry.refKey, hkey]
    have a' : ¬ es.toList.any (·.refKey) = true := by rw [a]; exact Bool.false_ne_true
    rw [if_neg a']
    exact congrArg some e

theorem ObjM.look {h : Heap} {x dx C : Addr} {mA : Str → Option Value} (I : ObjM h x dx C mA) : ∃ od, PySem.W.InstAt h x (PySem.W.instObj C dx) C (some od) ∧ ∀ name, PySem.W.lookIn name od = some (mA name) :=
  let ⟨od, ho, hl⟩ := lookIn_ns I.ns
  ⟨od, ⟨I.obj, rfl, rfl, ho⟩, hl⟩

section
variable {prog : Program} {w : World} {A : Around} {E : Value → Shared → Prop} {s : Shared} {K : PySem.W.Frag} {x dx C f : Addr} {mA : Str → Option Value} {name : Str} {v : Value}

end

/-! ### the attributes as a list of pairs -/
def putF (f : Str) (v : V) : List (Str × V) → List (Str × V)
  | [] => [(f, v)]
  | (g, x) :: r => if g = f then (g, v) :: r else (g, x) :: putF f v r
theorem RelO.none_of {o : Option Value} (r : RelO none o) : o = none := by
  cases o with
  | none => rfl
  | some u => exact (show False from r).elim
section
variable {P : Program} {w : World} {H H' : Hp} {h h' : Heap} {a C dx : Addr} {fs fs' : List (Str × V)}
theorem ins_get (hok : HOk P w H h) (e : H a = some (.ins C dx fs)) : ∃ mA, ObjM h a dx C mA ∧ (∀ f, RelO (fs.lookup f) (mA f)) ∧ PySem.Within mA (fs.map (·.1)) ∧ fs.length ≤ 1000 ∧ H dx = some (.own a) := by
  obtain ⟨d, z, ne, ob, mA, n, r, q⟩ := (show ObjOk P w H h a (.ins C dx fs) from hok a _ e)
  exact ⟨mA, ⟨ob, n, ne⟩, r, q, z, d⟩
end

/-! ### what of the text a class must have -/
structure Cls (K : PySem.W.Frag) (C : Addr) : Prop where
  pg : PySem.W.plainGet K C Str.empty = true
  hd : PySem.W.hasDictIn K C = true
  po : PySem.W.plainOver K C = true
  sa : PySem.W.findIn K (.ref C) "__setattr__" = some (some (.builtin "object.__setattr__"))
theorem Cls.get {K : PySem.W.Frag} {C : Addr} (c : Cls K C) (f : Str) : PySem.W.plainGet K C f = true := c.pg
/-- no class of it has the name -/
def NoAttr (K : PySem.W.Frag) (C : Addr) (f : Str) : Prop := PySem.W.findIn K (.ref C) f = some none
/-- a constant of the class -/
structure Con (K : PySem.W.Frag) (C : Addr) (f : Str) (v : V) (u : Value) : Prop where
  at_ : PySem.W.findIn K (.ref C) f = some (some u)
  rel : RelV v u
  get : PySem.W.specialIn K u "__get__" = some none
  cp : PySem.W.copiedNames.contains f = false
/-- a method: a plain def of the class or of one above it -/
structure Meth (K : PySem.W.Frag) (C : Addr) (m : Str) (f : Addr) : Prop where
  at_ : PySem.W.findIn K (.ref C) m = some (some (.ref f))
  fn : PySem.W.isFn K (.ref f) = true
  kp : PySem.W.keepIn K (.ref f) = true

section
variable {X : Cx} {pins : List (Addr × Obj)} {σ : St} {H : Hp} {s : Shared} {a C dx : Addr} {fs : List (Str × V)} {f : Str} {v : V} {A : Around} {E : Value → Shared → Prop}

/-- a new instance, tracked, without attributes -/
theorem Inv.made (I : Inv X pins σ H s) : Inv X pins σ (upd (upd H s.heap.objs.size (.own (s.heap.objs.size + 1))) (s.heap.objs.size + 1) (.ins C s.heap.objs.size []))
    { s with heap := (s.heap.push PySem.W.emptyDict).push (PySem.W.instObj C s.heap.objs.size) } := by
  have e1 : (s.heap.push PySem.W.emptyDict).get? s.heap.objs.size = some PySem.W.emptyDict := Heap.get?_push_size s.heap rfl
  have e2 : ((s.heap.push PySem.W.emptyDict).push (PySem.W.instObj C s.heap.objs.size)).get? (s.heap.objs.size + 1) = some (PySem.W.instObj C s.heap.objs.size) := by
    have := Heap.get?_push_size (s.heap.push PySem.W.emptyDict) (o := PySem.W.instObj C s.heap.objs.size) rfl
    rwa [Heap.size_push] at this
  have e3 : (s.heap.push PySem.W.emptyDict).Ns s.heap.objs.size (fun _ => none) := ⟨PySem.W.emptyDict, #[], _, e1, rfl, (fun e he => absurd he (by simp)), fun _ => rfl⟩
  have I1 := I.laid (a := s.heap.objs.size) (o := .own (s.heap.objs.size + 1)) (h' := s.heap.push PySem.W.emptyDict) (t' := s.toks) (fun b u q => Heap.get?_push_of_some _ q) (Nat.le_refl _) ⟨_, e1⟩
  refine I1.laid (a := s.heap.objs.size + 1) (o := .ins C s.heap.objs.size []) (t' := s.toks) (fun b u q => Heap.get?_push_of_some _ q) (Nat.le_of_eq (Heap.size_push _ _)) ?_
  have ne : s.heap.objs.size ≠ s.heap.objs.size + 1 := Nat.ne_of_lt (Nat.lt_succ_self _)
  refine ⟨by rw [upd_ne ne, upd_same], Nat.zero_le _, ne, e2, fun _ => none, (Heap.Ns1.of_empty e3).at fun o q => Heap.get?_push_of_some _ q, fun _ => True.intro, fun y hy => absurd rfl hy⟩

end

/-! ### readings and rules -/
/-- e.f, an attribute of the instance -/
def tFld (K : PySem.W.Frag) (ta : TE) (f : Str) : TE := fun σ H Q => ta σ H fun x H1 => ∃ a C dx fs v, x = .ref a ∧ H1 a = some (.ins C dx fs) ∧ Cls K C ∧ NoAttr K C f ∧ fs.lookup f = some v ∧ Q v H1
/-- e.f, a constant of the class -/
def tCon (K : PySem.W.Frag) (ta : TE) (f : Str) : TE := fun σ H Q => ta σ H fun x H1 => ∃ a C dx fs v u, x = .ref a ∧ H1 a = some (.ins C dx fs) ∧ Cls K C ∧ Con K C f v u ∧ fs.lookup f = none ∧ Q v H1
/-- e.f = value -/
def sFld (K : PySem.W.Frag) (ta tv : TE) (f : Str) : TS := fun D σ H => tv σ H fun y H1 => ta σ H1 fun x H2 => ∃ a C dx fs, x = .ref a ∧ H2 a = some (.ins C dx fs) ∧ Cls K C ∧ NoAttr K C f ∧ fs.length < 1000 ∧
  D.nx σ (upd H2 a (.ins C dx (putF f y fs)))
/-- an augmented operator on two values -/
def InOp (X : Cx) (op : Operator) (rd : V → V → Hp → VK → Prop) : Prop :=
  ∀ (pins : List (Addr × Obj)) (s : Shared) (σ : St) (H : Hp) (x y : V) (u v : Value) (Q : VK), Inv X pins σ H s → RelV x u → RelV y v → rd x y H Q → wpAny (model X.prog X.w) X.A (inplaceOp op u v) (EP X pins σ Q) X.xe s
/-- e.f op= value -/
def sFldAug (K : PySem.W.Frag) (ta tv : TE) (rd : V → V → Hp → VK → Prop) (f : Str) : TS := fun D σ H => ta σ H fun x H1 => ∃ a C dx fs v, x = .ref a ∧ H1 a = some (.ins C dx fs) ∧ Cls K C ∧ NoAttr K C f ∧ fs.lookup f = some v ∧
  tv σ H1 fun y H2 => rd v y H2 fun z H3 => ∃ dx' fs', H3 a = some (.ins C dx' fs') ∧ fs'.length < 1000 ∧ D.nx σ (upd H3 a (.ins C dx' (putF f z fs')))

section
variable {X : Cx} {o e value : Expr} {f : Str} {pos pos' tpos : Pos} {ta tv : TE}
def rAdd : V → V → Hp → VK → Prop := fun x y H Q => ∃ i j, x = .int i ∧ y = .int j ∧ Q (.int (i + j)) H
def rSub : V → V → Hp → VK → Prop := fun x y H Q => ∃ i j, x = .int i ∧ y = .int j ∧ Q (.int (i - j)) H
end

/-! ### isinstance -/
section
variable {X : Cx} {pins : List (Addr × Obj)} {σ : St} {H : Hp} {s : Shared} {A : Around} {E : Value → Shared → Prop} {Q : Value → Shared → Prop} {c : Value} {b : Bool}
/-- the type of a value, as the fragment's deciders take it; for an instance its class -/
inductive TyOf (K : PySem.W.Frag) (H : Hp) : V → Value → Prop where
  | non : TyOf K H .non (.type "NoneType")
  | bl (x : Bool) : TyOf K H (.bl x) (.type "bool")
  | int (i : Int) : TyOf K H (.int i) (.type "int")
  | str (x : Str) : TyOf K H (.str x) (.type "str")
  | flt (x : UInt64) : TyOf K H (.flt x) (.type "float")
  | lst {a : Addr} {xs : List V} (e : H a = some (.lst xs)) : TyOf K H (.ref a) (.type "list")
  | frz {a : Addr} {o : Obj} {xs : List V} (e : H a = some (.frz o (.lst xs))) : TyOf K H (.ref a) (.type "list")
  | tup {a : Addr} {xs : List V} (e : H a = some (.tup xs)) : TyOf K H (.ref a) (.type "tuple")
  | dK {a : Addr} {kvs : List (Key × V)} (e : H a = some (.dK kvs)) : TyOf K H (.ref a) (.type "dict")
  | dT {a : Addr} {kvs : List (List Key × V)} (e : H a = some (.dT kvs)) : TyOf K H (.ref a) (.type "dict")
  | ins {a C dx : Addr} {fs : List (Str × V)} (e : H a = some (.ins C dx fs)) (cl : Cls K C) (ha : PySem.W.findIn K (.ref C) "__class__" = some (some (.builtin "object.__class__")))
      (hn : PySem.W.specialIn K (.builtin "object.__class__") "__get__" = some (some (.builtin "getset_descriptor.__get__"))) (htk : PySem.W.takesIn K (.builtin "object.__class__") = some true)
      (hm : PySem.W.mroIn K C (.type "object") = some true) : TyOf K H (.ref a) (.ref C)
/-- isinstance(x, c) for one class c, a built-in or an own one: kitOne's answer -/
theorem isinst_ok {x : V} {u t : Value} (I : Inv X pins σ H s) (rx : RelV x u) (ty : TyOf X.K H x t) (e : PySem.W.kitOne X.K t c = some b) (h : ∀ tk, Q (.bool b) { s with toks := tk }) :
    wpAny (model X.prog X.w) A (call (.builtin "isinstance") [u, c]) Q E s := by
  cases ty with
  | non => cases (show u = Value.none from rx); exact PySem.W.kia_one PySem.W.kitx_none I.kIn True.intro e (fun z => nomatch z) h
  | bl y => cases (show u = Value.bool y from rx); exact PySem.W.kia_one PySem.W.kitx_bool I.kIn True.intro e (fun z => nomatch z) h
  | int i => obtain ⟨t, q⟩ := (show ∃ t, u = Value.int i t from rx); cases q; exact PySem.W.kia_one PySem.W.kitx_int I.kIn True.intro e (fun z => nomatch z) h
  | str y => obtain ⟨t, q⟩ := (show ∃ t, u = Value.str y t from rx); cases q; exact PySem.W.kia_one PySem.W.kitx_str I.kIn True.intro e (fun z => nomatch z) h
  | flt y => obtain ⟨t, q⟩ := (show ∃ t, u = Value.float y t from rx); cases q; exact PySem.W.kia_one PySem.W.kitx_float I.kIn True.intro e (fun z => nomatch z) h
  | @lst a xs ea =>
    cases (show u = Value.ref a from rx)
    obtain ⟨_, _, n, _, h1⟩ := (show ObjOk X.prog X.w H s.heap a (.lst xs) from I.hok a _ ea)
    exact PySem.W.kia_one PySem.W.kitx_list I.kIn ⟨_, h1, rfl⟩ e (fun z => nomatch z) h
  | @frz a ob xs ea =>
    cases (show u = Value.ref a from rx)
    obtain ⟨_, _, _, n, _, h1⟩ := (show ObjOk X.prog X.w H s.heap a (.frz ob (.lst xs)) from I.hok a _ ea)
    exact PySem.W.kia_one PySem.W.kitx_list I.kIn ⟨_, h1, rfl⟩ e (fun z => nomatch z) h
  | @tup a xs ea =>
    cases (show u = Value.ref a from rx)
    obtain ⟨_, _, _, p⟩ := (show ObjOk X.prog X.w H s.heap a (.tup xs) from I.hok a _ ea)
    obtain ⟨o, h1, h2, _⟩ := p
    exact PySem.W.kia_one PySem.W.kitx_tuple I.kIn ⟨o, h1, h2⟩ e (fun z => nomatch z) h
  | @dK a kvs ea =>
    cases (show u = Value.ref a from rx)
    obtain ⟨_, _, vs, _, p⟩ := (show ObjOk X.prog X.w H s.heap a (.dK kvs) from I.hok a _ ea)
    obtain ⟨o, es, ep, h1, h2, _⟩ := p
    exact PySem.W.kia_one PySem.W.kitx_dict I.kIn ⟨o, h1, h2.1⟩ e (fun z => nomatch z) h
  | @dT a kvs ea =>
    cases (show u = Value.ref a from rx)
    obtain ⟨_, _, xs, _, o, es, ep, h1, h2, _⟩ := (show ObjOk X.prog X.w H s.heap a (.dT kvs) from I.hok a _ ea)
    exact PySem.W.kia_one PySem.W.kitx_dict I.kIn ⟨o, h1, h2.1⟩ e (fun z => nomatch z) h
  | @ins a C dx fs ea cl ha hn htk hm =>
    cases (show u = Value.ref a from rx)
    obtain ⟨mA, O, _⟩ := ins_get I.hok ea
    obtain ⟨od, J, _⟩ := O.look
    exact PySem.W.kia_one (PySem.W.kitx_own (cl.get _) cl.hd ha hn htk hm) I.kIn J e (fun z => nomatch z) h
end
end L2

namespace L2
open PySem PySem.Spec PyProof.Rows

/-! ### room -/
structure Room (k : Nat) (A : Around) : Prop where
  gd : A.guards = some []
  hd : A.handled = none
  dp : A.depth + 3 * k + 5 < recursionLimit
  un : A.units + 16 * k + 200 < cLine
theorem Room.mono {j k : Nat} {A : Around} (r : Room k A) (h : j ≤ k) : Room j A := ⟨r.gd, r.hd, by have := r.dp; omega, by have := r.un; omega⟩
theorem Room.deeper {k : Nat} {A : Around} (r : Room (k + 1) A) (env : Env) : Room k (A.deeper env) :=
  ⟨r.gd, r.hd, by have := r.dp; show A.depth + 1 + 3 * k + 5 < _; omega, by have := r.un; show A.units + 3 + 16 * k + 200 < _; omega⟩
theorem Room.in1 {k : Nat} {A : Around} (r : Room (k + 1) A) : Room k A.in1 :=
  ⟨r.gd, r.hd, by have := r.dp; show A.depth + 3 * k + 5 < _; omega, by have := r.un; show A.units + 1 + 16 * k + 200 < _; omega⟩
theorem make_depth {A : Around} {C : Addr} {us : List Value} {kw : List (Str × Value)} : (A.under (.builtin "type.__call__" ⟨.ref C :: us, kw⟩)).depth = A.depth + 1 := by
  first | rfl | simp [Around.under, Code.weight, Code.isCreation, Code.isGuard, Code.isCaller, Code.frames, Code.isFrame, guardIds]
theorem make_units {A : Around} {C : Addr} {us : List Value} {kw : List (Str × Value)} : (A.under (.builtin "type.__call__" ⟨.ref C :: us, kw⟩)).units = A.units + 1 := by
  first | rfl | simp [Around.under, Code.cUnits, Code.frames, Code.isFrame]
theorem Room.make {k : Nat} {A : Around} (r : Room (k + 1) A) (C : Addr) (us : List Value) (kw : List (Str × Value)) : Room k (A.under (.builtin "type.__call__" ⟨.ref C :: us, kw⟩)) :=
  ⟨by first | exact r.gd | (simpa [Around.under, Code.isGuard, guardIds, Code.frames, Code.isFrame] using r.gd), r.hd, by have := r.dp; rw [make_depth]; omega, by have := r.un; rw [make_units]; omega⟩
theorem Room.depth {k : Nat} {A : Around} (r : Room k A) : A.depth < recursionLimit := by have := r.dp; omega
theorem Room.units {k : Nat} {A : Around} (r : Room k A) : A.units + 64 < cLine := by have := r.un; omega
/-! ### argument lists and displays -/
def tNil : TA := fun _ H Q => Q [] H
def tCons (ta : TE) (tr : TA) : TA := fun σ H Q => ta σ H fun x H1 => tr σ H1 fun xs H2 => Q (x :: xs) H2
section
variable {X : Cx} {e : Expr} {es : List Expr} {te : TE} {t : TA} {pos : Pos}
theorem pa_nil : PA X [] tNil := fun _ _ _ _ H Q I h => Calls.spliced_nil ⟨[], H, I, .nil, h⟩
theorem pa_cons (ha : PE X e te) (hr : PA X es t) (hs : starEach (e :: es) X.env = (false, eval e X.env) :: starEach es X.env := by rfl) : PA X (e :: es) (tCons te t) := by
  intro pos pins s σ H Q I h
  rw [hs]
  show wpAny _ _ (spliced ((false, eval e X.env) :: backTo pos (starEach es X.env))) _ _ s
  refine Calls.spliced_cons (thn (ha pins s σ H _ I h) fun u s1 ⟨x, H1, I1, r1, q1⟩ => ?_)
  exact thn (hr pos pins s1 σ H1 _ I1 q1) fun us s2 ⟨xs, H2, I2, r2, q2⟩ => ⟨x :: xs, H2, I2, .cons r1 r2, q2⟩

/-- a tuple, a list of written items -/
def tTup (t : TA) : TE := fun σ H Q => t σ H fun xs H1 => xs.length ≤ sizeLine ∧ ∀ p, H1 p = none → Q (.ref p) (upd H1 p (.tup xs))
def tLst (t : TA) : TE := fun σ H Q => t σ H fun xs H1 => xs.length ≤ sizeLine ∧ ∀ p, H1 p = none → Q (.ref p) (upd H1 p (.lst xs))
theorem pe_tup {x1} (h : PA X es t) : PE X (.Tuple es x1 pos) (tTup t) := by
  intro pins s σ H Q I hq
  refine wpAny_Tuple_spliced (thn (h pos pins s σ H _ I hq) fun us s1 ⟨xs, H1, I1, r, z, q⟩ => ⟨by rw [← r.length]; exact z, ?_⟩)
  have hf : H1 s1.heap.objs.size = none := I1.hok.fresh (Nat.le_refl _)
  refine ⟨.ref s1.heap.objs.size, upd H1 s1.heap.objs.size (.tup xs), I1.laid (t' := s1.toks) (fun b u e => Heap.get?_push_of_some _ e) (Nat.le_refl _) ?_, rfl, q _ hf⟩
  exact ⟨z, us, r, ⟨_, Heap.get?_push_size _ rfl, rfl, _, rfl⟩⟩
theorem pe_lst (h : PA X es t) : PE X (.List es pos) (tLst t) := by
  intro pins s σ H Q I hq
  refine wpAny_List_spliced (thn (h pos pins s σ H _ I hq) fun us s1 ⟨xs, H1, I1, r, z, q⟩ => ⟨by rw [← r.length]; exact z, ?_⟩)
  have hf : H1 s1.heap.objs.size = none := I1.hok.fresh (Nat.le_refl _)
  refine ⟨.ref s1.heap.objs.size, upd H1 s1.heap.objs.size (.lst xs), I1.laid (t' := s1.toks) (fun b u e => Heap.get?_push_of_some _ e) (Nat.le_refl _) ?_, rfl, q _ hf⟩
  exact ⟨z, us, 0, r, Heap.get?_push_size _ rfl⟩
end

/-! ### what a def promises -/
/-- a def's promise: the bound arguments in the parameters' order, the heap, the wanted end, the wanted exception -/
abbrev Sp := List V → Hp → VK → XK → Prop
/-- how an exception lies behind a call (file 08 gives it): the callers' frames, abstract heap and state ahead of the call, the wish, the exception, the state -/
abbrev CXT := List Env → Hp → Shared → XK → Value → Shared → Prop

/-- the state at a call -/
structure Env0 (P : Program) (w : World) (K : PySem.W.Frag) (mg : Str → Option Value) (base : Heap) (A : Around) (outer : List Env) (s : Shared) (H : Hp) : Prop where
  frames : A.frames = some outer
  mod : Mod K mg base
  bs : ∀ b o, base.get? b = some o → s.heap.get? b = some o ∧ H b = none
  bsz : base.objs.size ≤ s.heap.objs.size
  funs : s.heap.FunFrames base outer
  frf : ∀ b ∈ frs outer, H b = none
  hok : HOk P w H s.heap
  bare : AllBare s.gens
/-- a call's end -/
def CE (outer : List Env) (P : Program) (w : World) (H : Hp) (s : Shared) (Q : VK) (u : Value) (s' : Shared) : Prop :=
  ∃ v H', s'.os = s.os ∧ AllBare s'.gens ∧ Un (frs outer) [] H H' s.heap s'.heap ∧ HOk P w H' s'.heap ∧ RelV v u ∧ Q v H'
def CR (CX : CXT) (outer : List Env) (P : Program) (w : World) (H : Hp) (s : Shared) (Q : VK) (E : XK) (r : Result) (s' : Shared) : Prop :=
  match r with
  | .ok (.ret u) => CE outer P w H s Q u s'
  | .ok _ => False
  | .error e => CX outer H s E e s'
structure FnOk (P : Program) (w : World) (K : PySem.W.Frag) (mg : Str → Option Value) (base : Heap) (CX : CXT) (k : Nat) (f : Addr) (fd : FuncData) (ps : List Str) (sp : Sp) : Prop where
  len : ∀ vs H Q E, sp vs H Q E → vs.length = ps.length
  run : ∀ (A : Around) (outer : List Env) (s : Shared) (H : Hp) (args : Args) (us : List Value) (vs : List V) (Q : VK) (E : XK), Room k A → Env0 P w K mg base A outer s H → BindsTo s fd args (ps.zip us) → Vals vs us → sp vs H Q E →
    codeAny (model P w) A (.call (.ref f) args) (CR CX outer P w H s Q E) s
theorem FnOk.mono {P : Program} {w : World} {K : PySem.W.Frag} {mg : Str → Option Value} {base : Heap} {CX : CXT} {j k : Nat} {f : Addr} {fd : FuncData} {ps : List Str} {sp : Sp} (F : FnOk P w K mg base CX j f fd ps sp) (h : j ≤ k) :
    FnOk P w K mg base CX k f fd ps sp := ⟨F.len, fun A outer s H args us vs Q E hr => F.run A outer s H args us vs Q E (hr.mono h)⟩
/-- a weaker promise -/
theorem FnOk.imp {P : Program} {w : World} {K : PySem.W.Frag} {mg : Str → Option Value} {base : Heap} {CX : CXT} {k : Nat} {f : Addr} {fd : FuncData} {ps : List Str} {sp sp' : Sp} (F : FnOk P w K mg base CX k f fd ps sp)
    (h : ∀ vs H Q E, sp' vs H Q E → sp vs H Q E) : FnOk P w K mg base CX k f fd ps sp' :=
  ⟨fun vs H Q E q => F.len vs H Q E (h _ _ _ _ q), fun A outer s H args us vs Q E hr he hb hv hs => F.run A outer s H args us vs Q E hr he hb hv (h _ _ _ _ hs)⟩

theorem Env0.make {P : Program} {w : World} {K : PySem.W.Frag} {mg : Str → Option Value} {base : Heap} {A : Around} {outer : List Env} {s : Shared} {H : Hp} (e : Env0 P w K mg base A outer s H) (C : Addr) (us : List Value) (kw : List (Str × Value)) :
    Env0 P w K mg base (A.under (.builtin "type.__call__" ⟨.ref C :: us, kw⟩)) outer s H := ⟨by first | exact e.frames | (simpa [Around.under, Code.envs, Code.isFrame, pushEnvs] using e.frames), e.mod, e.bs, e.bsz, e.funs, e.frf, e.hok, e.bare⟩
theorem Env0.in1 {P : Program} {w : World} {K : PySem.W.Frag} {mg : Str → Option Value} {base : Heap} {A : Around} {outer : List Env} {s : Shared} {H : Hp} (e : Env0 P w K mg base A outer s H) :
    Env0 P w K mg base A.in1 outer s H := ⟨e.frames, e.mod, e.bs, e.bsz, e.funs, e.frf, e.hok, e.bare⟩

section
variable {X : Cx} {pins : List (Addr × Obj)} {σ : St} {H : Hp} {s s' : Shared}
/-- from a body: what a callee wants -/
theorem Inv.env0 (I : Inv X pins σ H s) : Env0 X.prog X.w X.K X.mg X.base X.A X.stack s H :=
  ⟨I.ok.frames, I.ok.mod, I.bs, Nat.le_trans I.ok.bsz I.sz, I.stack, I.stkFree, I.hok, I.bare⟩
/-- behind a call -/
theorem Inv.after {Q : VK} {u : Value} (I : Inv X pins σ H s) (h : CE X.stack X.prog X.w H s Q u s') : EP X pins σ Q u s' := by
  obtain ⟨v, H', os, bare, un, hok, r, q⟩ := h
  obtain ⟨hh, g, d, t, os'⟩ := s'
  obtain rfl : os' = s.os := os
  exact ⟨v, H', I.call (h' := hh) (g' := g) (d' := d) (t' := t) (ch := []) un hok bare (fun b z => absurd z (by simp)), r, q⟩
end

/-! ### calls -/
/-- f(..): the written arguments, then the defaults dvs; E: what is wanted of an exception -/
def tCall (sp : Sp) (dvs : List V) (E : XK) (t : TA) : TE := fun σ H Q => t σ H fun vs H1 => sp (vs ++ dvs) H1 Q E
/-- o.m(..) of an instance of the class at C -/
def tMeth (C : Addr) (m : Str) (sp : Sp) (dvs : List V) (E : XK) (ta : TE) (t : TA) : TE := fun σ H Q => ta σ H fun x H1 => ∃ a dx fs, x = .ref a ∧ H1 a = some (.ins C dx fs) ∧ fs.lookup m = none ∧
  t σ H1 fun vs H2 => sp (x :: (vs ++ dvs)) H2 Q E
/-- C(..): a new instance and its dict, then __init__ -/
def tMake (C : Addr) (sp : Sp) (dvs : List V) (E : XK) (t : TA) : TE := fun σ H Q => t σ H fun vs H1 => ∀ x dx, H1 x = none → H1 dx = none → dx ≠ x →
  sp (.ref x :: (vs ++ dvs)) (upd (upd H1 dx (.own x)) x (.ins C dx [])) (fun v H2 => v = .non ∧ Q (.ref x) H2) E

/-- how the parameters are bound: us the positional arguments, kw the keywords' values by name, ds the defaults that fill up -/
def Binds (K : PySem.W.Frag) (fd : FuncData) (ps : List Str) (ds : List Value) : Prop :=
  ∀ (s : Shared) (us : List Value), K.In s.heap → (us ++ ds).length = ps.length → BindsTo s fd ⟨us, []⟩ (ps.zip (us ++ ds))
/-- every parameter is given -/
theorem Binds.all {K : PySem.W.Frag} {fd : FuncData} {ps : List Str} (h : ∀ us : List Value, us.length = ps.length → bindArgs fd ⟨us, []⟩ = pure (ps.zip us)) : Binds K fd ps [] := fun s us _ hl => by
  rw [List.append_nil] at hl ⊢
  exact .of_eq (h us hl)

/-- an exception of a callee reaches what this body wants of exceptions -/
def Passes (CX : CXT) (X : Cx) (E : XK) : Prop := ∀ (pins : List (Addr × Obj)) (σ : St) (H : Hp) (s : Shared) (e : Value) (s' : Shared), Inv X pins σ H s → CX X.stack H s E e s' → X.xe e s'

section
variable {X : Cx} {CX : CXT} {k : Nat} {f C : Addr} {fd : FuncData} {ps : List Str} {sp : Sp} {dvs : List V} {ds : List Value} {E : XK} {x m : Str} {p pos apos : Pos} {e o : Expr} {es : List Expr} {ta : TE} {t : TA}

/-- the callee runs -/
theorem run_fn {pins : List (Addr × Obj)} {σ : St} {H : Hp} {s : Shared} {Q : VK} {us : List Value} {vs : List V} (F : FnOk X.prog X.w X.K X.mg X.base CX k f fd ps sp) (hr : Room k X.A) (hb : Binds X.K fd ps ds) (hd : Vals dvs ds) (hx : Passes CX X E)
    (I : Inv X pins σ H s) (r : Vals vs us) (h : sp (vs ++ dvs) H Q E) : wpAny (model X.prog X.w) X.A (call (.ref f) us) (EP X pins σ Q) X.xe s := by
  have r2 : Vals (vs ++ dvs) (us ++ ds) := r.append hd
  have hl : (us ++ ds).length = ps.length := by rw [← r2.length]; exact F.len _ _ _ _ h
  refine wpAny_call (codeAny_mono (F.run X.A X.stack s H ⟨us, []⟩ (us ++ ds) (vs ++ dvs) Q E hr I.env0 (hb s us I.kIn hl) r2 h) fun r s' hq => ?_)
  cases r with
  | error e => exact hx pins σ H s e s' I hq
  | ok fl =>
    cases fl with
    | ret u => exact I.after hq
    | next => exact False.elim hq
    | brk => exact False.elim hq
    | cont => exact False.elim hq

theorem pe_call (F : FnOk X.prog X.w X.K X.mg X.base CX k f fd ps sp) (hr : Room k X.A) (hg : Gl X x) (hm : X.mg x = some (.ref f)) (hk : PySem.W.keepIn X.K (.ref f) = true) (hb : Binds X.K fd ps ds) (hd : Vals dvs ds) (hx : Passes CX X E)
    (ha : PA X (e :: es) t) (hdb : (x == ("__debug__" : Str)) = false := by decide) (he : starEach (e :: es) X.env = (false, eval e X.env) :: starEach es X.env := by rfl) (hpl : (backTo pos (starEach es X.env)).any (·.1) = false := by rfl) :
    PE X (.Call (.Name x p) (e :: es) [] pos) (tCall sp dvs E t) := by
  intro pins s σ H Q I h
  refine wpAny_Call_Name_kw (ld_glob I hg hm ?_ hdb)
  refine PySem.W.callWith_K (h₀ := X.base) I.ok.mod.kin hk (thn (ha pos pins s σ H _ I h) fun us s1 ⟨vs, H1, I1, r, q⟩ => ⟨I1.kIn, ?_⟩) he hpl
  exact run_fn F hr hb hd hx I1 r q
/-- what a class must have to be made -/
structure Mk (K : PySem.W.Frag) (C f : Addr) : Prop where
  makes : PySem.W.makesIn K C = true
  init : PySem.W.findIn K (.ref C) "__init__" = some (some (.ref f))
  fn : PySem.W.isFn K (.ref f) = true
  kp : PySem.W.keepIn K (.ref C) = true

end

/-! ### keywords -/
/-- the values of the keywords, from the left -/
def PK (X : Cx) (kws : List Keyword) (t : TA) : Prop :=
  ∀ (pos : Pos) (pins : List (Addr × Obj)) (s : Shared) (σ : St) (H : Hp) (Q : List V → Hp → Prop), Inv X pins σ H s → t σ H Q → wpAny (model X.prog X.w) X.A (evalAll ((backToKw pos (keywordEach kws X.env)).map (·.2))) (AP X pins σ Q) X.xe s
section
variable {X : Cx} {CX : CXT} {k : Nat} {f C : Addr} {fd : FuncData} {ps ks : List Str} {sp : Sp} {E : XK} {x m : Str} {p pos apos kpos : Pos} {e o : Expr} {es : List Expr} {kws : List Keyword} {te ta : TE} {t tk : TA} {nm : Option Str}
/-- how a call with keywords binds: g puts the positional values us and the keywords' values ws (names ks) in the parameters' order, defaults among them -/
structure KBinds (K : PySem.W.Frag) (fd : FuncData) (ps ks : List Str) (g : List Value → List Value → List Value) (gV : List V → List V → List V) : Prop where
  to : ∀ (s : Shared) (us ws : List Value), K.In s.heap → (g us ws).length = ps.length → BindsTo s fd ⟨us, ks.zip ws⟩ (ps.zip (g us ws))
  rel : ∀ {vs : List V} {us : List Value} {zs : List V} {ws : List Value}, Vals vs us → Vals zs ws → Vals (gV vs zs) (g us ws)
def tCallK (sp : Sp) (gV : List V → List V → List V) (E : XK) (t tk : TA) : TE := fun σ H Q => t σ H fun vs H1 => tk σ H1 fun zs H2 => sp (gV vs zs) H2 Q E
variable {g : List Value → List Value → List Value} {gV : List V → List V → List V}
end

/-! ### a def's body keeps its promise -/
/-- names: the parameters first -/
structure FnScope (N P : List Str) (sc : Scope) : Prop where
  kind : sc.kind = .function
  co : sc.isCoroutine = false
  gen : sc.isGenerator = false
  nd : N.Nodup
  pre : N.take P.length = P
  par : ∀ x ∈ P, sc.names.lookup x = some .local ∨ sc.names.lookup x = some .cell
  nofree : ∀ y ∈ sc.names, y.2 ≠ .free

theorem bindL_out {kindOf : Str → Option NameKind} {x : Str} : ∀ {binds : List (Str × Value)} {m : Str → Option Value}, (∀ v, (x, v) ∉ binds) → bindL kindOf binds m x = m x
  | [], _, _ => rfl
  | (n, v) :: r, m, h => by
    unfold bindL
    rw [bindL_out fun w hw => h w (List.mem_cons_of_mem _ hw)]
    split
    · have : x ≠ n := by rintro rfl; exact h v List.mem_cons_self
      simp [this]
    · rfl
theorem bindC_out {kindOf : Str → Option NameKind} {x : Str} : ∀ {binds : List (Str × Value)} {m : Str → Option Value}, (∀ v, (x, v) ∉ binds) → bindC kindOf binds m x = m x
  | [], _, _ => rfl
  | (n, v) :: r, m, h => by
    unfold bindC
    rw [bindC_out fun w hw => h w (List.mem_cons_of_mem _ hw)]
    split
    · rfl
    · have : x ≠ n := by rintro rfl; exact h v List.mem_cons_self
      simp [this]
theorem bindL_get {kindOf : Str → Option NameKind} {x : Str} {v : Value} : ∀ {P : List Str} {vs : List Value} {i : Nat} {m : Str → Option Value}, P.Nodup → P[i]? = some x → vs[i]? = some v → kindOf x = some .local →
    bindL kindOf (P.zip vs) m x = some v
  | [], _, _, _, _, h, _, _ => by simp at h
  | _ :: _, [], _, _, _, _, h, _ => by simp at h
  | p :: P, w :: vs, 0, m, nd, h1, h2, hk => by
    simp at h1 h2; subst h1; subst h2
    show bindL kindOf ((p, w) :: P.zip vs) m p = _
    unfold bindL
    rw [bindL_out fun v hv => (List.nodup_cons.mp nd).1 (List.of_mem_zip hv).1, if_pos hk]
    simp
  | p :: P, w :: vs, i + 1, m, nd, h1, h2, hk => by
    show bindL kindOf ((p, w) :: P.zip vs) m x = _
    unfold bindL
    exact bindL_get (i := i) (List.nodup_cons.mp nd).2 (by simpa using h1) (by simpa using h2) hk
theorem bindC_get {kindOf : Str → Option NameKind} {x : Str} {v : Value} : ∀ {P : List Str} {vs : List Value} {i : Nat} {m : Str → Option Value}, P.Nodup → P[i]? = some x → vs[i]? = some v → kindOf x ≠ some .local →
    bindC kindOf (P.zip vs) m x = some v
  | [], _, _, _, _, h, _, _ => by simp at h
  | _ :: _, [], _, _, _, _, h, _ => by simp at h
  | p :: P, w :: vs, 0, m, nd, h1, h2, hk => by
    simp at h1 h2; subst h1; subst h2
    show bindC kindOf ((p, w) :: P.zip vs) m p = _
    unfold bindC
    rw [bindC_out fun v hv => (List.nodup_cons.mp nd).1 (List.of_mem_zip hv).1, if_neg hk]
    simp
  | p :: P, w :: vs, i + 1, m, nd, h1, h2, hk => by
    show bindC kindOf ((p, w) :: P.zip vs) m x = _
    unfold bindC
    exact bindC_get (i := i) (List.nodup_cons.mp nd).2 (by simpa using h1) (by simpa using h2) hk

/-- the names' values at the entry -/
def start (N : List Str) (vs : List V) : St := vs.map some ++ List.replicate (N.length - vs.length) none

/-- the context of a def's body, at its entry; an exception leaves the frame, then lies as CX says -/
def cxOf (CX : CXT) (P : Program) (w : World) (K : PySem.W.Frag) (mg : Str → Option Value) (base : Heap) (N : List Str) (qual : Str) (scope : Scope) (f : Addr) (cd : Value) (A : Around) (outer : List Env) (s : Shared) (H : Hp) (E : XK) : Cx where
  prog := P
  w := w
  K := K
  mg := mg
  base := base
  A := A.deeper (envOfC qual scope s.heap.objs.size f cd)
  N := N
  s_0 := s
  H_0 := H
  env := envOfC qual scope s.heap.objs.size f cd
  outer := outer
  stack := envOfC qual scope s.heap.objs.size f cd :: outer
  ex := []
  calm := true
  fn := fun _ => true
  pn := []
  xe := fun e s' => wpAny (model P w) (A.deeper (envOfC qual scope s.heap.objs.size f cd)) (leaving (envOfC qual scope s.heap.objs.size f cd) e) (fun _ s'' => CX outer H s E e s'') (fun e' s'' => CX outer H s E e' s'') s'

theorem cell_has {sc : Scope} {n : Nat} {x : Str} (h : sc.names.lookup x = some .cell) : ∃ c, (cellsFrom n sc.names []).lookup x = some c := by
  have q := PySem.W.cellsFrom_some sc.names n [] (.inl h)
  exact Option.isSome_iff_exists.mp q

theorem inv_start {CX : CXT} {P : Program} {w : World} {K : PySem.W.Frag} {mg : Str → Option Value} {base : Heap} {N ps : List Str} {qual : Str} {scope : Scope} {f : Addr} {cd : Value} {A : Around} {outer : List Env} {s s1 : Shared} {H : Hp} {E : XK} {us : List Value} {vs : List V}
    (S : FnScope N ps scope) (hd : A.handled = none) (e0 : Env0 P w K mg base A outer s H) (hl : vs.length = ps.length) (r : Vals vs us)
    (x : InCallC s s.heap.objs.size (bindL (envOfC qual scope s.heap.objs.size f cd).kindOf (ps.zip us) fun _ => none) (cellsFrom (s.heap.objs.size + 1) scope.names []) (bindC (envOfC qual scope s.heap.objs.size f cd).kindOf (ps.zip us) fun _ => none) s1) :
    Inv (cxOf CX P w K mg base N qual scope f cd A outer s H E) [] (start N vs) H s1 := by
  have hpl : ps.length ≤ N.length := by have := congrArg List.length S.pre; rw [List.length_take] at this; omega
  obtain ⟨h1, tk, rfl, hk⟩ := x.done
  have noA : ∀ b : Addr, b ∉ (cxOf CX P w K mg base N qual scope f cd A outer s H E).ex := fun b z => absurd (show b ∈ ([] : List Addr) from z) (by simp)
  refine ⟨⟨e0.mod, S.kind, rfl, rfl, Nat.le_refl _, fun y z c h1 h2 => ?_, fun y hy => ?_, fun y c _ h => ?_, fun _ => hd, Around.frames_deeper e0.frames, .inr ⟨rfl, rfl⟩, fun b z => absurd z (noA b), e0.bs, e0.bsz, fun b _ _ => noA b, fun b z => absurd z (noA b), e0.funs, e0.frf⟩,
    rfl, e0.bare, Un.kept hk, ⟨_, x.toInCall.ns, fun i y v h1 h2 h3 => ?_⟩, fun y c h => ⟨_, x.cell y c h⟩, e0.hok.fresh (Nat.le_refl _), fun y c h => ?_, fun p hp => absurd (show p ∈ ([] : List (Addr × Obj)) from hp) (by simp), e0.hok.kept hk, ?_⟩
  · exact name_of_addr x.apart (PySem.mem_of_lookup h1) (PySem.mem_of_lookup h2)
  · have hy : scope.names.lookup y = some .cell ∨ scope.names.lookup y = some .free := hy
    rcases hy with hy | hy
    · exact cell_has hy
    · exact absurd rfl (S.nofree _ (PySem.mem_of_lookup hy))
  · exact Nat.le_of_lt (x.above y c (PySem.mem_of_lookup h))
  · have hi : i < vs.length := by
      unfold start at h2
      by_cases hi : i < vs.length
      · exact hi
      · rw [List.getElem?_append_right (by simpa using hi)] at h2
        rw [List.getElem?_replicate] at h2
        split at h2 <;> cases h2
    have ha : vs[i]? = some v := by
      unfold start at h2
      rw [List.getElem?_append_left (by simpa using hi), List.getElem?_map] at h2
      cases e : vs[i]? with
      | none => rw [e] at h2; cases h2
      | some a => rw [e] at h2; cases h2; rfl
    obtain ⟨u, hu, rv⟩ := r.get ha
    have hp : ps[i]? = some y := by
      rw [← S.pre, List.getElem?_take_of_lt (by omega)]; exact h1
    have ndP : ps.Nodup := by rw [← S.pre]; exact S.nd.sublist (List.take_sublist _ _)
    refine ⟨u, rv, ?_⟩
    rcases S.par y (List.mem_of_getElem? hp) with k | k
    · exact .inl ⟨k, bindL_get ndP hp hu k⟩
    · obtain ⟨c, e⟩ := cell_has (n := s.heap.objs.size + 1) k
      refine .inr ⟨.inl k, c, e, ?_⟩
      have q := x.cell y c e
      rw [bindC_get ndP hp hu (by show scope.names.lookup y ≠ _; rw [k]; decide)] at q
      exact q
  · exact e0.hok.fresh (Nat.le_of_lt (x.above y c (PySem.mem_of_lookup h)))
  · unfold start
    show _ = N.length
    rw [List.length_append, List.length_map, List.length_replicate]
    omega

/-- THE RULE: a def (or a method) of the text, by its body. The body's reading t is chosen for each entry; it is run at the parameters' values -/
theorem fn_of {CX : CXT} {P : Program} {w : World} {K : PySem.W.Frag} {mg : Str → Option Value} {base : Heap} {k : Nat} {f : Addr} {name qual : Str} {params : Arguments} {body : List Stmt} {scope : Scope} {dV kV doc pm cdv ct oc : Value} {an od : Option Addr}
    {osl : Array (Option Value)} {N ps : List Str} {sp : Sp} (lk : K.lookup f = some ⟨oc, od, .func (PySem.W.fnOf name qual params body scope dV kV doc pm an cdv ct), osl⟩) (hcd : PySem.W.codeIn K cdv qual = true) (S : FnScope N ps scope)
    (len : ∀ vs H Q E, sp vs H Q E → vs.length = ps.length)
    (hbody : ∀ (A : Around) (outer : List Env) (s : Shared) (H : Hp) (vs : List V) (Q : VK) (E : XK), Room k (A.deeper (envOfC qual scope s.heap.objs.size f cdv)) → sp vs H Q E →
      ∃ t, PSs (cxOf CX P w K mg base N qual scope f cdv A outer s H E) body t ∧ t { nx := fun _ H' => Q .non H', rt := Q } (start N vs) H) :
    FnOk P w K mg base CX (k + 1) f (PySem.W.fnOf name qual params body scope dV kV doc pm an cdv ct) ps sp := by
  refine ⟨len, fun A outer s H args us vs Q E hr e0 hb r hsp => ?_⟩
  have hl := len _ _ _ _ hsp
  have KX : K.In s.heap := e0.mod.kin.keeps fun b o e => (e0.bs b o e).1
  have lim : s.heap.NoLimit := e0.mod.nolimit.keeps fun b o e => (e0.bs b o e).1
  have hkind : ∀ y ∈ ps.zip us, scope.names.lookup y.1 = some .local ∨ (scope.names.lookup y.1 = some .cell ∧ ((cellsFrom (s.heap.objs.size + 1) scope.names []).lookup y.1).isSome = true) := fun ⟨n, v⟩ hy => by
    rcases S.par n (List.of_mem_zip hy).1 with q | q
    · exact .inl q
    · exact .inr ⟨q, PySem.W.cellsFrom_some _ _ _ (.inl q)⟩
  refine codeAny_call_function hr.depth (KX _ _ lk) rfl S.co S.gen rfl (PySem.W.codeRec_of KX hcd) (hb _ _ _ _ ?_)
  refine wpAny_newFunctionEnv_cells S.kind hkind fun env he s1 x => ?_
  subst he
  refine ⟨lim.keeps x.toInCall.keep, codeAny_func ?_⟩
  obtain ⟨t, ht, hq⟩ := hbody A outer s H vs Q E (hr.deeper _) hsp
  have I : Inv (cxOf CX P w K mg base N qual scope f cdv A outer s H E) [] (start N vs) H s1 := inv_start S hr.hd e0 hl r x
  refine wpAny_mono (ht [] s1 (start N vs) H _ I hq) (fun fl s' hs => ?_) fun e s' hs => hs
  have fin : ∀ {σ' : St} {H' : Hp} {v : V} {u : Value}, Inv (cxOf CX P w K mg base N qual scope f cdv A outer s H E) [] σ' H' s' → RelV v u → Q v H' → CE outer P w H s Q u s' :=
    fun {σ' H' v u} J rv q => ⟨v, H', J.os, J.bare, J.base, J.hok, rv, q⟩
  cases fl with
  | ret u =>
    obtain ⟨v, σ', H', J, rv, q⟩ := hs
    exact fin J rv q
  | next =>
    obtain ⟨σ', H', J, q⟩ := hs
    exact fin (v := V.non) (u := Value.none) J rfl q
  | brk =>
    obtain ⟨_, _, _, q⟩ := hs
    exact False.elim q
  | cont =>
    obtain ⟨_, _, _, q⟩ := hs
    exact False.elim q
end L2

namespace L2
open PySem PySem.Spec PyProof.Rows
section
variable {X : Cx} {x : Str} {p pos : Pos} {e : Expr} {es : List Expr} {t : TA} {id T : String} {r : List V → Hp → VK → Prop}

def tCB (r : List V → Hp → VK → Prop) (t : TA) : TE := fun σ H Q => t σ H fun vs H1 => r vs H1 Q
/-- f(e, ..), f a built-in function -/
theorem pe_callB (hc : CallR X (.builtin id) r) (hg : Gl X x) (hm : X.mg x = none) (hv : bootBuiltins x = some (.builtin id)) (ha : PA X (e :: es) t) (hn : x ≠ "__name__" := by decide) (hdb : (x == ("__debug__" : Str)) = false := by decide)
    (he : starEach (e :: es) X.env = (false, eval e X.env) :: starEach es X.env := by rfl) (hpl : (backTo pos (starEach es X.env)).any (·.1) = false := by rfl) : PE X (.Call (.Name x p) (e :: es) [] pos) (tCB r t) := by
  intro pins s σ H Q I h
  refine wpAny_Call_Name_kw (ld_blt I hg hm hv ?_ hn hdb)
  exact PyProof.Rows.callWith_builtin1 (thn (ha pos pins s σ H _ I h) fun us s1 ⟨vs, H1, I1, r1, q1⟩ => hc pins s1 σ H1 vs us Q I1 r1 q1) he hpl
/-- T(e, ..), T a built-in type -/
theorem pe_callTy (hc : CallR X (.type T) r) (hg : Gl X x) (hm : X.mg x = none) (hv : bootBuiltins x = some (.type T)) (ha : PA X (e :: es) t) (hn : x ≠ "__name__" := by decide) (hdb : (x == ("__debug__" : Str)) = false := by decide)
    (he : starEach (e :: es) X.env = (false, eval e X.env) :: starEach es X.env := by rfl) (hpl : (backTo pos (starEach es X.env)).any (·.1) = false := by rfl) : PE X (.Call (.Name x p) (e :: es) [] pos) (tCB r t) := by
  intro pins s σ H Q I h
  refine wpAny_Call_Name_kw (ld_blt I hg hm hv ?_ hn hdb)
  exact PyProof.Rows.callWith_type1 (thn (ha pos pins s σ H _ I h) fun us s1 ⟨vs, H1, I1, r1, q1⟩ => hc pins s1 σ H1 vs us Q I1 r1 q1) he hpl
end
end L2

namespace HT
open PySem PyProof.Rows

/-- t < u of tuples of ints -/
def lexLt : List Int → List Int → Bool
  | [], [] => false
  | [], _ :: _ => true
  | _ :: _, [] => false
  | x :: xs, y :: ys => if x = y then lexLt xs ys else decide (x < y)
section
open PySem.SeqAt
open PySem.AutoSeq1 (wpAny_loadPart')
open PySem.MeetsSeq PySem.MeetsSeq2 PySem.MeetsSeq3

end

section
variable {prog : Program} {w : World} {A : Around} {E : Value → Shared → Prop} {s : Shared}

/-- t + u, t not empty -/
theorem cat_tup {t b : Addr} {vs ws : List Value} {Q : Value → Shared → Prop} (ht : IsTup s.heap t vs.toArray) (hb : IsTup s.heap b ws.toArray) (hv : vs ≠ [])
    (h1 : ws = [] → Q (.ref t) s) (h2 : ws ≠ [] → Q (.ref s.heap.objs.size) { s with heap := s.heap.push { cls := .type "tuple", data := .seq (vs ++ ws).toArray } })
    (hsz : vs.length + ws.length ≤ sizeLine) : wpAny (model prog w) A (binaryOp .Add (.ref t) (.ref b)) Q E s := by
  obtain ⟨⟨cls, dd, data, sl⟩, ho, hc, n, hd⟩ := id ht
  obtain ⟨⟨cls2, dd2, data2, sl2⟩, ho2, hc2, n2, hd2⟩ := id hb
  simp only at hc hd hc2 hd2
  subst hc hd hc2 hd2
  have e : vs.toArray ++ ws.toArray = (vs ++ ws).toArray := by simp
  by_cases hw : ws = []
  · exact concat_meets ⟨_, ho, rfl⟩ ⟨_, ho2, rfl⟩ noFill_tuple_add seq_tuple_add PySem.F.slot_tuple_add PySem.F.entry_tuple_add (PySem.F.args_tuple_add_2 _ _)
      (tuple_addW1 t b vs.toArray ws.toArray n n2 dd dd2 sl sl2 (by simpa using hv) (by simp [hw])) ⟨ho, ho2, h1 hw⟩
  · refine concat_meets ⟨_, ho, rfl⟩ ⟨_, ho2, rfl⟩ noFill_tuple_add seq_tuple_add PySem.F.slot_tuple_add PySem.F.entry_tuple_add (PySem.F.args_tuple_add_2 _ _)
      (tuple_addW2 t b vs.toArray ws.toArray n n2 dd dd2 sl sl2 (by simpa using hv) (by simpa using hw) (by rw [List.size_toArray, List.size_toArray]; exact hsz)) ⟨ho, ho2, ?_⟩
    rw [e]
    exact h2 hw

/-! ### t[a:b], not the whole -/
/-- a slice's bound as a place among n (d where it is left out) -/
def sIx (n d : Nat) : Option Int → Nat
  | none => d
  | some v => if v < 0 then (v + (n : Int)).toNat else min v.toNat n
theorem sIx_none (n d : Nat) : sIx n d none = d := rfl
theorem sIx_nat (n d k : Nat) : sIx n d (some (k : Int)) = min k n := by
  show (if (k : Int) < 0 then ((k : Int) + (n : Int)).toNat else min (k : Int).toNat n) = min k n
  rw [if_neg (by omega), Int.toNat_natCast]
theorem sIx_le (n d : Nat) (hd : d ≤ n) (o : Option Int) : sIx n d o ≤ n := by
  cases o with
  | none => exact hd
  | some v =>
    show (if v < 0 then (v + (n : Int)).toNat else min v.toNat n) ≤ n
    by_cases hv : v < 0
    · rw [if_pos hv]; omega
    · rw [if_neg hv]; exact Nat.min_le_right _ _
theorem clip_eq (v : Int) (n d : Nat) : (if v < 0 then max (v + (n : Int)) 0 else min v (n : Int)) = ((sIx n d (some v) : Nat) : Int) := by
  show (if v < 0 then max (v + (n : Int)) 0 else min v (n : Int)) = (((if v < 0 then (v + (n : Int)).toNat else min v.toNat n) : Nat) : Int)
  by_cases hv : v < 0
  · simp only [if_pos hv]; omega
  · simp only [if_neg hv]; omega
theorem adjust_gen (lo hi : Option Int) (n : Nat) : Builtin.Slice.sliceAdjust lo hi 1 (n : Int) = (((sIx n 0 lo : Nat) : Int), ((sIx n n hi : Nat) : Int)) := by
  have h1 : ¬ ((1 : Int) < 0) := by omega
  unfold Builtin.Slice.sliceAdjust
  simp only [h1, if_false]
  refine Prod.ext ?_ ?_
  · cases lo with
    | none => rfl
    | some v => exact clip_eq v n 0
  · cases hi with
    | none => rfl
    | some v => exact clip_eq v n n
theorem places_gen (i j : Nat) : Builtin.Slice.slicePlaces (i : Int) (j : Int) 1 = j - i := by
  unfold Builtin.Slice.slicePlaces
  have h1 : (1 : Int) > 0 := by omega
  simp only [h1, if_true, Int.ediv_one]
  split <;> omega
theorem slicePart_ {v : Value} {o : Option Int} {Q : Option Int → Shared → Prop} (p : IsPart v o) (h : Q o s) : wpAny (model prog w) A (Builtin.Slice.slicePartIndex v) Q E s := by
  cases p with
  | none => exact slicePart_none h
  | int i t => exact slicePart_int h
theorem sliceApplied_gen {sl : Addr} {vl vu : Value} {lo hi : Option Int} {n : Nat} {Q : Int × Int × Nat → Shared → Prop} (hs : s.heap.IsSliceOf sl vl vu .none) (pl : IsPart vl lo) (pu : IsPart vu hi)
    (h : Q (((sIx n 0 lo : Nat) : Int), 1, sIx n n hi - sIx n 0 lo) s) : wpAny (model prog w) A (Builtin.Slice.sliceApplied (.ref sl) (pure (n : Int))) Q E s := by
  obtain ⟨os, hos, hcs, hds⟩ := id hs
  unfold Builtin.Slice.sliceApplied Builtin.Slice.sliceFields
  refine wpAny_bind (wpAny_bind (wpAny_field hos hds (x := vl) rfl (wpAny_bind (wpAny_field hos hds (x := vu) rfl (wpAny_bind (wpAny_field hos hds (x := .none) rfl (wpAny_pure ?_)))))))
  refine wpAny_bind (slicePart_none ?_)
  show wpAny _ _ (if ((1 : Int) == 0) = true then _ else _) _ _ s
  rw [if_neg (by decide)]
  refine wpAny_bind (slicePart_ pl (wpAny_bind (slicePart_ pu (wpAny_bind (wpAny_pure ?_)))))
  show wpAny _ _ (match Builtin.Slice.sliceAdjust lo hi 1 (n : Int) with | (lo, hi) => pure (lo, (1 : Int), Builtin.Slice.slicePlaces lo hi 1)) _ _ s
  rw [adjust_gen lo hi n]
  show wpAny _ _ (pure (((sIx n 0 lo : Nat) : Int), (1 : Int), Builtin.Slice.slicePlaces ((sIx n 0 lo : Nat) : Int) ((sIx n n hi : Nat) : Int) 1)) _ _ s
  rw [places_gen]
  exact wpAny_pure h
theorem pick_gen (xs : Array Value) (i k : Nat) : ((List.range k).filterMap fun (m : Nat) => xs[((i : Int) + (m : Int) * 1).toNat]?).toArray = ((xs.toList.drop i).take k).toArray := by
  have e : (fun (m : Nat) => xs[((i : Int) + (m : Int) * 1).toNat]?) = fun m => xs[i + m]? := by
    funext m
    have : ((i : Int) + (m : Int) * 1).toNat = i + m := by omega
    rw [this]
  rw [e]
  have := pick_run xs i k
  rw [List.filterMap_map] at this
  have e2 : ((fun x => xs[x]?) ∘ fun x => i + x) = fun m => xs[i + m]? := rfl
  rw [e2] at this
  rw [this]

theorem getItem_tuple_cut {t sl : Addr} {items : Array Value} {vl vu : Value} {lo hi : Option Int} {Q : Value → Shared → Prop} (ht : IsTup s.heap t items) (hs : s.heap.IsSliceOf sl vl vu .none) (pl : IsPart vl lo) (pu : IsPart vu hi)
    (hw : ¬ (sIx items.size 0 lo = 0 ∧ sIx items.size items.size hi = items.size))
    (h : Q (.ref s.heap.objs.size) { s with heap := s.heap.push { cls := .type "tuple", data := .seq ((items.toList.drop (sIx items.size 0 lo)).take (sIx items.size items.size hi - sIx items.size 0 lo)).toArray } })
    (hsz : items.size ≤ sizeLine) : wpAny (model prog w) A (getItem (.ref t) (.ref sl)) Q E s := by
  have htake : sizeOk (.seq ((items.toList.drop (sIx items.size 0 lo)).take (sIx items.size items.size hi - sIx items.size 0 lo)).toArray) := by
    show ((items.toList.drop (sIx items.size 0 lo)).take (sIx items.size items.size hi - sIx items.size 0 lo)).toArray.size ≤ sizeLine
    rw [List.size_toArray, List.length_take, List.length_drop, Array.length_toList]
    omega
  have hj : sIx items.size items.size hi ≤ items.size := sIx_le _ _ (Nat.le_refl _) hi
  obtain ⟨os, hos, hcs, hds⟩ := id hs
  have hTs : s.TypeIs (.ref sl) "slice" := ⟨os, hos, hcs⟩
  unfold getItem
  try with_reducible refine wpAny_holding ?_
  first | refine wpAny_bind (wpAny_pure ?_) | skip
  refine wpAny_bind (wpAny_sequenceKey ht.typeIs (by decide) ?_)
  refine wpAny_bind (wpAny_callSpecial?_slot (name := Str.ofString "__getitem__") ht.typeIs PyProof.Rows.slot_tuple_getitem
    (wpAny_call_entry PyProof.Rows.slot_tuple_getitem ht.typeIs entry_tuple_getitem ?_ (args_tuple_getitem _ _)))
  show wpAny _ _ (Builtin.Tuple.tupleItemsOf (.ref t) >>= _) _ _ s
  refine wpAny_bind (tupleItemsOf_ ht ?_)
  refine wpAny_bind (wpAny_typeOf hTs ?_)
  rw [if_pos (by decide)]
  refine wpAny_bind (sliceApplied_gen hs pl pu ?_)
  have hno : ¬ ((((sIx items.size 0 lo : Nat) : Int) == 0 && (1 : Int) == 1 && (sIx items.size items.size hi - sIx items.size 0 lo) == items.size) = true) := by
    intro q
    rw [Bool.and_eq_true, Bool.and_eq_true] at q
    have q1 : ((sIx items.size 0 lo : Nat) : Int) = 0 := eq_of_beq q.1.1
    have q2 : sIx items.size items.size hi - sIx items.size 0 lo = items.size := eq_of_beq q.2
    exact hw ⟨by omega, by omega⟩
  show wpAny _ _ (if (((sIx items.size 0 lo : Nat) : Int) == 0 && (1 : Int) == 1 && (sIx items.size items.size hi - sIx items.size 0 lo) == items.size) = true then _ else _) _ _ s
  rw [if_neg hno, pick_gen]
  first
    | exact wpAny_bind (m := Builtin.Tuple.tupleExact _) (wpAny_newObj_type (wpAny_pure ⟨_, rfl, wpAny_pure h⟩) htake)
    | exact wpAny_bind (m := Builtin.Tuple.tupleExact _) (wpAny_newObj_type (wpAny_bind (wpAny_pure (wpAny_pure ⟨_, rfl, wpAny_pure h⟩))) htake)
    | exact wpAny_bind (wpAny_bind (m := Builtin.Tuple.tupleExact _) (wpAny_newObj_type (wpAny_pure (wpAny_pure ⟨_, rfl, wpAny_pure h⟩)) htake))
    | exact wpAny_bind (wpAny_bind (m := Builtin.Tuple.tupleExact _) (wpAny_newObj_type (wpAny_pure ⟨_, rfl, wpAny_pure h⟩) htake))
end
end HT

namespace L2
open PySem PySem.Spec PyProof.Rows

/-! ### the parts of a slice -/
abbrev TO := St → Hp → (Option Int → Hp → Prop) → Prop
/-- a slice's part (left out, or an int) -/
def PO (X : Cx) (e : Option Expr) (t : TO) : Prop :=
  ∀ (pins : List (Addr × Obj)) (s : Shared) (σ : St) (H : Hp) (Q : Option Int → Hp → Prop), Inv X pins σ H s → t σ H Q →
    wpAny (model X.prog X.w) X.A (evalPart e X.env) (fun u s' => ∃ o H', Inv X pins σ H' s' ∧ IsPart u o ∧ Q o H') X.xe s
def tNoPart : TO := fun _ H Q => Q none H
def tPart (t : TE) : TO := fun σ H Q => t σ H fun x H1 => ∃ i, x = .int i ∧ Q (some i) H1

section
variable {X : Cx} {e : Expr} {te : TE} {lo hi : Option Expr} {tl th : TO} {pos p2 : Pos}

theorem po_none : PO X none tNoPart := by
  intro pins s σ H Q I h
  rw [evalPart_none]
  exact wpAny_pure ⟨none, H, I, .none, h⟩
theorem po_some (h : PE X e te) : PO X (some e) (tPart te) := by
  intro pins s σ H Q I hw
  rw [evalPart_some]
  refine thn (h pins s σ H _ I hw) fun u s1 ⟨x, H1, I1, r1, q1⟩ => ?_
  obtain ⟨i, rfl, q⟩ := q1
  obtain ⟨t, rfl⟩ := r1
  exact ⟨some i, H1, I1, .int i t, q⟩

/-- what a slice of a value is, by values: the slice object stands at sl -/
def SlR (X : Cx) (r : V → Option Int → Option Int → Hp → VK → Prop) : Prop :=
  ∀ (pins : List (Addr × Obj)) (s : Shared) (σ : St) (H : Hp) (x : V) (v vl vu : Value) (lo hi : Option Int) (sl : Addr) (Q : VK), Inv X pins σ H s → RelV x v → s.heap.IsSliceOf sl vl vu .none → IsPart vl lo → IsPart vu hi → r x lo hi H Q →
    ∃ T id, typeLookup (.type T) "__getitem__" = pure (some (.builtin id)) ∧ s.TypeIs v T ∧ wpAny (model X.prog X.w) X.A (getItem v (.ref sl)) (EP X pins σ Q) X.xe s
theorem SlR.or {r r' : V → Option Int → Option Int → Hp → VK → Prop} (h : SlR X r) (h' : SlR X r') : SlR X (fun x lo hi H Q => r x lo hi H Q ∨ r' x lo hi H Q) := by
  intro pins s σ H x v vl vu lo hi sl Q I rx hs pl pu q
  rcases q with q | q
  · exact h pins s σ H x v vl vu lo hi sl Q I rx hs pl pu q
  · exact h' pins s σ H x v vl vu lo hi sl Q I rx hs pl pu q
def tSl (r : V → Option Int → Option Int → Hp → VK → Prop) (te : TE) (tl th : TO) : TE := fun σ H Q => te σ H fun x H1 => tl σ H1 fun l H2 => th σ H2 fun u H3 => r x l u H3 Q
/-- a[lo:hi], any a -/
theorem pe_slice {r : V → Option Int → Option Int → Hp → VK → Prop} (hr : SlR X r) (he : PE X e te) (hl : PO X lo tl) (hu : PO X hi th) : PE X (.Subscript e (.Slice lo hi none p2) pos) (tSl r te tl th) := by
  intro pins s σ H Q I h
  refine Subscript_ (thn (he pins s σ H _ I h) fun v s1 ⟨x, H1, I1, r1, q1⟩ => ?_)
  refine wpAny_Slice (thn (hl pins s1 σ H1 _ I1 q1) fun vl s2 ⟨l, H2, I2, pl, q2⟩ => thn (hu pins s2 σ H2 _ I2 q2) fun vu s3 ⟨u, H3, I3, pu, q3⟩ => ?_)
  rw [evalPart_none]
  refine wpAny_pure ?_
  have I4 : Inv X pins σ H3 { s3 with heap := s3.heap.push { cls := .type "slice", data := .fields #[vl, vu, .none] } } := I3.kept (t' := s3.toks) fun b ob q => Heap.get?_push_of_some _ q
  obtain ⟨T, id, hT, ht, hg⟩ := hr pins { s3 with heap := s3.heap.push { cls := .type "slice", data := .fields #[vl, vu, .none] } } σ H3 x v vl vu l u s3.heap.objs.size Q I4 r1 (Heap.IsSliceOf.new ..) pl pu q3
  show wpAny (model X.prog X.w) X.A (subscriptTail e (.Slice lo hi none p2) v (.ref s3.heap.objs.size)) (EP X pins σ Q) X.xe { s3 with heap := s3.heap.push { cls := .type "slice", data := .fields #[vl, vu, .none] } }
  exact tail_any (ops := [.ref s3.heap.objs.size, v]) ht hT hg (by with_unfolding_all rfl)

/-- the items of xs[lo:hi] -/
def cutV (xs : List V) (lo hi : Option Int) : List V := (xs.drop (HT.sIx xs.length 0 lo)).take (HT.sIx xs.length xs.length hi - HT.sIx xs.length 0 lo)
theorem cutV_length (xs : List V) (lo hi : Option Int) : (cutV xs lo hi).length ≤ xs.length := by
  unfold cutV
  rw [List.length_take, List.length_drop]
  omega
/-- t[lo:hi], not the whole of it (the whole would be t itself) -/
def rSlT (K : PySem.W.Frag) : V → Option Int → Option Int → Hp → VK → Prop := fun x lo hi H Q => ∃ a xs, x = .ref a ∧ SqT K H a xs ∧
  ¬ (HT.sIx xs.length 0 lo = 0 ∧ HT.sIx xs.length xs.length hi = xs.length) ∧ ∀ p, H p = none → Q (.ref p) (upd H p (.tup (cutV xs lo hi)))
theorem sl_tup : SlR X (rSlT X.K) := by
  intro pins s σ H x v vl vu lo hi sl Q I rx hs pl pu h
  obtain ⟨a, xs, rfl, hx, hw, q⟩ := h
  cases rx
  obtain ⟨its, r, ht, hz⟩ := I.tuple hx
  have hlen : its.toArray.size = xs.length := by rw [List.size_toArray]; exact r.length.symm
  refine ⟨"tuple", _, PyProof.Rows.slot_tuple_getitem.lookup, ht.typeIs, ?_⟩
  refine HT.getItem_tuple_cut ht hs pl pu (by rw [hlen]; exact hw) ?_ (by rw [hlen]; exact hz)
  rw [hlen]
  refine ⟨.ref s.heap.objs.size, _, I.laid (t' := s.toks) (o := .tup (cutV xs lo hi)) (fun b ob q => Heap.get?_push_of_some _ q) (Nat.le_refl _) ?_, rfl, q _ (I.hok.fresh (Nat.le_refl _))⟩
  exact ⟨Nat.le_trans (cutV_length xs lo hi) hz, _, (r.drop (HT.sIx xs.length 0 lo)).take (HT.sIx xs.length xs.length hi - HT.sIx xs.length 0 lo), IsTup.new _ _⟩

/-! ### t < u, t + u -/
def rLtT (K : PySem.W.Frag) : R2 := fun x y H Q => ∃ a b ns ms, x = .ref a ∧ y = .ref b ∧ SqT K H a (ns.map V.int) ∧ SqT K H b (ms.map V.int) ∧ Q (.bl (HT.lexLt ns ms)) H
/-- t + u, t not empty: u empty gives t itself -/
def rCatT (K : PySem.W.Frag) : R2 := fun x y H Q => ∃ a b xs ys, x = .ref a ∧ y = .ref b ∧ SqT K H a xs ∧ SqT K H b ys ∧ xs ≠ [] ∧ xs.length + ys.length ≤ sizeLine ∧
  (ys = [] → Q (.ref a) H) ∧ (ys ≠ [] → ∀ p, H p = none → Q (.ref p) (upd H p (.tup (xs ++ ys))))
theorem Vals.nil_iff {xs : List V} {us : List Value} (r : Vals xs us) : us = [] ↔ xs = [] := by
  cases r with
  | nil => simp
  | cons _ _ => simp
theorem op_catT : OpR X (binaryOp .Add) (rCatT X.K) := by
  intro pins s σ H x y v u Q I rx ry h
  obtain ⟨a, b, xs, ys, rfl, rfl, ha, hb, hx, hz, q1, q2⟩ := h
  cases rx
  cases ry
  obtain ⟨its, r1, p1, _⟩ := I.tuple ha
  obtain ⟨its2, r2, p2, _⟩ := I.tuple hb
  refine HT.cat_tup p1 p2 (fun z => hx (r1.nil_iff.mp z)) (fun z => ⟨.ref a, H, I, rfl, q1 (r2.nil_iff.mp z)⟩) (fun z => ?_) (by rw [← r1.length, ← r2.length]; exact hz)
  refine ⟨.ref s.heap.objs.size, _, I.laid (t' := s.toks) (o := .tup (xs ++ ys)) (fun b ob q => Heap.get?_push_of_some _ q) (Nat.le_refl _) ?_, rfl, q2 (fun w => z (r2.nil_iff.mpr w)) _ (I.hok.fresh (Nat.le_refl _))⟩
  exact ⟨by rw [List.length_append]; exact hz, _, r1.append r2, IsTup.new _ _⟩
end
end L2

namespace L2
open PySem PySem.Spec PyProof.Rows

/-! ### places -/
/-- the place that an index of any sign means -/
def ixN (n : Nat) (i : Int) : Option Nat := if 0 ≤ i then (if i < n then some i.toNat else none) else if -(n : Int) ≤ i then some (i + n).toNat else none
def atI {α : Type} (xs : List α) (i : Int) : Option α := (ixN xs.length i).bind fun j => xs[j]?
theorem ixN_seq {n : Nat} {i : Int} {j : Nat} (h : ixN n i = some j) : seqIndex? i n = some j ∧ j < n ∧ -(n : Int) ≤ i ∧ i < n := by
  unfold ixN at h
  by_cases h0 : 0 ≤ i
  · rw [if_pos h0] at h
    by_cases h1 : i < n
    · rw [if_pos h1] at h
      have e : i.toNat = j := Option.some.inj h
      exact ⟨by rw [seqIndex_of h0 h1, e], by omega, by omega, h1⟩
    · rw [if_neg h1] at h; cases h
  · rw [if_neg h0] at h
    by_cases h1 : -(n : Int) ≤ i
    · rw [if_pos h1] at h
      have e : (i + n).toNat = j := Option.some.inj h
      exact ⟨by rw [seqIndex_neg (by omega) h1, e], by omega, h1, by omega⟩
    · rw [if_neg h1] at h; cases h
theorem atI_get {α : Type} {xs : List α} {i : Int} {v : α} (h : atI xs i = some v) : ∃ j, seqIndex? i xs.length = some j ∧ xs[j]? = some v ∧ j < xs.length ∧ -(xs.length : Int) ≤ i ∧ i < xs.length := by
  unfold atI at h
  cases e : ixN xs.length i with
  | none => rw [e] at h; cases h
  | some j =>
    rw [e] at h
    obtain ⟨h1, h2, h3, h4⟩ := ixN_seq e
    exact ⟨j, h1, h, h2, h3, h4⟩
theorem atI_last {α : Type} (xs : List α) (v : α) : atI (xs ++ [v]) (-1) = some v := by
  have hl : (xs ++ [v]).length = xs.length + 1 := by simp
  have e : ixN (xs ++ [v]).length (-1) = some xs.length := by
    unfold ixN
    rw [hl, if_neg (by decide), if_pos (by omega)]
    congr 1
    omega
  unfold atI
  rw [e]
  show (xs ++ [v])[xs.length]? = some v
  simp

/-! ### what may be subscripted -/
/-- what stands as an index of a plain subscript -/
def PlainIx (b : Expr) : Prop := ∀ o i, subscripted b false o i = operate [o, i] (getItem o i)
/-- a subscript by values -/
def IxR (X : Cx) (r : R2) : Prop :=
  ∀ (value slice : Expr) (pins : List (Addr × Obj)) (s : Shared) (σ : St) (H : Hp) (x y : V) (v u : Value) (Q : VK), Inv X pins σ H s → RelV x v → RelV y u → r x y H Q →
    subscripted slice false v u = operate [v, u] (getItem v u) → wpAny (model X.prog X.w) X.A (subscriptTail value slice v u) (EP X pins σ Q) X.xe s
/-- a call of a builtin's method by values: the receiver, the arguments -/
def MtR (X : Cx) (id : String) (r : V → List V → Hp → VK → Prop) : Prop :=
  ∀ (pins : List (Addr × Obj)) (s : Shared) (σ : St) (H : Hp) (x : V) (xs : List V) (v : Value) (us : List Value) (Q : VK), Inv X pins σ H s → RelV x v → Vals xs us → r x xs H Q →
    wpAny (model X.prog X.w) X.A (call (.builtin id) (v :: us)) (EP X pins σ Q) X.xe s
section
variable {X : Cx} {a b : Expr} {ta tb : TE} {pos : Pos}
theorem IxR.or {r r' : R2} (h : IxR X r) (h' : IxR X r') : IxR X (fun x y H Q => r x y H Q ∨ r' x y H Q) := by
  intro value slice pins s σ H x y v u Q I rx ry q hs
  rcases q with q | q
  · exact h value slice pins s σ H x y v u Q I rx ry q hs
  · exact h' value slice pins s σ H x y v u Q I rx ry q hs
theorem MtR.or {id : String} {r r' : V → List V → Hp → VK → Prop} (h : MtR X id r) (h' : MtR X id r') : MtR X id (fun x xs H Q => r x xs H Q ∨ r' x xs H Q) := by
  intro pins s σ H x xs v us Q I rx rs q
  rcases q with q | q
  · exact h pins s σ H x xs v us Q I rx rs q
  · exact h' pins s σ H x xs v us Q I rx rs q
/-- a[b] -/
theorem pe_ix {r : R2} (hr : IxR X r) (ha : PE X a ta) (hb : PE X b tb) (hs : PlainIx b) : PE X (.Subscript a b pos) (tOp r ta tb) := by
  intro pins s σ H Q I h
  exact Subscript_ (binT ha hb I h fun v u s2 x y H2 I2 rx ry q => hr a b pins s2 σ H2 x y v u Q I2 rx ry q (hs _ _))

def rIxL (K : PySem.W.Frag) : R2 := fun x y H Q => ∃ p xs i v, x = .ref p ∧ y = .int i ∧ SqL K H p xs ∧ atI xs i = some v ∧ Q v H
def rIxT (K : PySem.W.Frag) : R2 := fun x y H Q => ∃ p xs i v, x = .ref p ∧ y = .int i ∧ SqT K H p xs ∧ atI xs i = some v ∧ Q v H
def rIxS : R2 := fun x y H Q => ∃ z i c, x = .str z ∧ y = .int i ∧ z.length ≤ sizeLine ∧ atI z.cps.toList i = some c ∧ Q (.str ⟨#[c]⟩) H
theorem ix_list : IxR X (rIxL X.K) := by
  intro value slice pins s σ H x y v u Q I rx ry h hs
  obtain ⟨p, xs, i, z, rfl, rfl, hq, he, q⟩ := h
  cases rx
  obtain ⟨t, rfl⟩ := ry
  obtain ⟨its, r, pl, hz⟩ := I.list hq
  obtain ⟨j, h1, h2, h3, h4, h5⟩ := atI_get he
  obtain ⟨w, ew, rw'⟩ := r.get h2
  have hl := r.length
  have hn := line63
  have fin : EP X pins σ Q w s := ⟨z, H, I, rw', q⟩
  by_cases h0 : 0 ≤ i
  · have hj : i.toNat = j := by
      rw [seqIndex_of h0 h5] at h1
      exact Option.some.inj h1
    exact item_listR pl.isList h0 (by omega) (by rw [hj]; simpa using ew) fin hs
  · have hj : (i + (its.toArray.size : Int)).toNat = j := by
      rw [seqIndex_neg (by omega) h4] at h1
      rw [List.size_toArray, ← hl]
      exact Option.some.inj h1
    exact subscriptTail_builtinR (x := w) pl.isList.typeIs slot_list_getitem.lookup
      (wpAny_getItem_list_neg (Q := fun r s' => r = w ∧ EP X pins σ Q r s') pl.isList (by omega) (by rw [List.size_toArray] <;> omega) (by omega) (by rw [hj]; simpa using ew) ⟨rfl, fin⟩) hs
theorem ix_tup : IxR X (rIxT X.K) := by
  intro value slice pins s σ H x y v u Q I rx ry h hs
  obtain ⟨p, xs, i, z, rfl, rfl, hq, he, q⟩ := h
  cases rx
  obtain ⟨t, rfl⟩ := ry
  obtain ⟨its, r, pl, hz⟩ := I.tuple hq
  obtain ⟨j, h1, h2, h3, h4, h5⟩ := atI_get he
  obtain ⟨w, ew, rw'⟩ := r.get h2
  have hl := r.length
  have hn := line63
  have fin : EP X pins σ Q w s := ⟨z, H, I, rw', q⟩
  exact subscriptTail_builtinR (x := w) pl.typeIs slot_tuple_getitem.lookup
    (getItem_tuple (j := j) (Q := fun r s' => r = w ∧ EP X pins σ Q r s') pl (by omega) (by omega) (by rw [List.size_toArray, ← hl]; exact h1) (by simpa using ew) ⟨rfl, fin⟩) hs
theorem ix_str : IxR X rIxS := by
  intro value slice pins s σ H x y v u Q I rx ry h hs
  obtain ⟨z, i, c, rfl, rfl, hz, he, q⟩ := h
  obtain ⟨t, rfl⟩ := rx
  obtain ⟨t', rfl⟩ := ry
  obtain ⟨j, h1, h2, h3, h4, h5⟩ := atI_get he
  have hl : z.cps.toList.length = z.length := by simp [Str.length]
  rw [hl] at h1 h4 h5
  have hn := line63
  exact tail_any (typeIs_str s z t) slot_str_getitem.lookup (getItem_str (c := c) (by
    have e1 : decide (i < -(2 ^ 63 : Int)) = false := decide_eq_false (by omega)
    have e2 : decide (i ≥ 2 ^ 63) = false := decide_eq_false (by omega)
    rw [e1, e2, Bool.or_false]) (by rw [h1]; simpa using h2) ⟨.str ⟨#[c]⟩, H, I.tok _, ⟨_, rfl⟩, q⟩) hs
/-- list, tuple or str -/
def rIx (K : PySem.W.Frag) : R2 := fun x y H Q => rIxL K x y H Q ∨ rIxT K x y H Q ∨ rIxS x y H Q
theorem ix_seq : IxR X (rIx X.K) := ix_list.or (ix_tup.or ix_str)

/-! ### xs[i] = v, any sign -/
/-- the list's object behind a store -/
theorem mapSeq_set (its : List Value) (n j : Nat) (u : Value) : Obj.mapSeq (·.setIfInBounds j u) { cls := .type "list", data := .seq its.toArray n } = { cls := .type "list", data := .seq (its.set j u).toArray n } := by
  simp [Obj.mapSeq]
theorem Inv.lst {pins : List (Addr × Obj)} {σ : St} {H : Hp} {s : Shared} {p : Addr} {xs : List V} (I : Inv X pins σ H s) (h : H p = some (.lst xs)) :
    ∃ (its : List Value) (n : Nat), Vals xs its ∧ s.heap.get? p = some { cls := .type "list", data := .seq its.toArray n } ∧ xs.length ≤ sizeLine := by
  obtain ⟨z, its, n, r, e⟩ := I.hok p _ h
  exact ⟨its, n, r, e, z⟩
/-- the list at p is written by an update of its object -/
theorem Inv.lstUpd {pins : List (Addr × Obj)} {σ : St} {H : Hp} {s : Shared} {p : Addr} {xs ys : List V} {its its' : List Value} {n n' : Nat} {f : Obj → Obj} (I : Inv X pins σ H s) (h : H p = some (.lst xs))
    (ho : s.heap.get? p = some { cls := .type "list", data := .seq its.toArray n }) (hf : f { cls := .type "list", data := .seq its.toArray n } = { cls := .type "list", data := .seq its'.toArray n' }) (r : Vals ys its') (hz : ys.length ≤ sizeLine) (t : Nat) :
    Inv X pins σ (upd H p (.lst ys)) { s with heap := s.heap.update p f, toks := t } := by
  have e : (s.heap.update p f).get? p = some { cls := .type "list", data := .seq its'.toArray n' } := by
    rw [Heap.get?_update_self f ho (by rw [hf] <;> rfl), hf]
  refine I.write (x := p) (e := p) (by rw [h]; trivial) (.inl rfl) (fun b u hb q => (Heap.get?_update_other _ _ (Ne.symm hb)).trans q) ⟨_, e⟩ ?_
  exact ⟨hz, its', n', r, e⟩
def rSetL : V → V → V → Hp → (Hp → Prop) → Prop := fun o i v H Q => ∃ p xs k j, o = .ref p ∧ i = .int k ∧ H p = some (.lst xs) ∧ ixN xs.length k = some j ∧ Q (upd H p (.lst (xs.set j v)))
theorem set_list : PSet X rSetL := by
  intro pins s σ H o i v ov iv u Q I ro ri rv h
  obtain ⟨p, xs, k, j, rfl, rfl, hp, hj, q⟩ := h
  cases ro
  obtain ⟨t, rfl⟩ := ri
  obtain ⟨its, n, r, ho, hz⟩ := I.lst hp
  obtain ⟨h1, h2, h3, h4⟩ := ixN_seq hj
  have hl := r.length
  have hn := line63
  have I' : Inv X pins σ (upd H p (.lst (xs.set j v))) { s with heap := s.heap.update p (Obj.mapSeq (·.setIfInBounds j u)) } :=
    I.lstUpd hp ho (mapSeq_set its n j u) (r.set rv j) (by rw [List.length_set]; exact hz) s.toks
  by_cases h0 : 0 ≤ k
  · have hk : k.toNat = j := by
      rw [seqIndex_of h0 h4] at h1
      exact Option.some.inj h1
    exact PySem.W.ki_setAt ho h0 (by omega) (by rw [List.size_toArray, ← hl]; exact h4) (by rw [hk]; exact ⟨_, I', q⟩)
  · have hk : (k + (its.toArray.size : Int)).toNat = j := by
      rw [seqIndex_neg (by omega) h3] at h1
      rw [List.size_toArray, ← hl]
      exact Option.some.inj h1
    exact PySem.W.ki_setBack ho (by omega) (by rw [List.size_toArray, ← hl]; exact h3) (by omega) (by rw [hk]; exact ⟨_, I', q⟩)

/-! ### slices -/
theorem slice_bounds (lo hi : Option Int) (n : Nat) : (sliceBounds lo hi none n).1 = ((HT.sIx n 0 lo : Nat) : Int) ∧ (sliceBounds lo hi none n).2.1 = ((HT.sIx n n hi : Nat) : Int) ∧ (sliceBounds lo hi none n).2.2 = 1 := by
  refine ⟨?_, ?_, rfl⟩
  · cases lo with
    | none => simp [sliceBounds, HT.sIx]
    | some i =>
      simp only [sliceBounds, HT.sIx, Option.getD_none, show (1 : Int) > 0 by decide, if_true]
      by_cases h : i < 0
      · simp only [h, if_true] <;> omega
      · simp only [h, if_false] <;> omega
  · cases hi with
    | none => simp [sliceBounds, HT.sIx]
    | some i =>
      simp only [sliceBounds, HT.sIx, Option.getD_none, show (1 : Int) > 0 by decide, if_true]
      by_cases h : i < 0
      · simp only [h, if_true] <;> omega
      · simp only [h, if_false] <;> omega
theorem slicePick_cut (its : List Value) (lo hi : Option Int) : slicePick its.toArray lo hi none = ((its.drop (HT.sIx its.length 0 lo)).take (HT.sIx its.length its.length hi - HT.sIx its.length 0 lo)).toArray := by
  obtain ⟨h1, h2, h3⟩ := slice_bounds lo hi its.toArray.size
  unfold slicePick
  rw [h1, h2, h3]
  simp only [sliceRange_one, pick_run, List.size_toArray] <;> rfl
/-- xs[lo:hi] of a list: a new list -/
def rSlL (K : PySem.W.Frag) : V → Option Int → Option Int → Hp → VK → Prop := fun x lo hi H Q => ∃ a xs, x = .ref a ∧ SqL K H a xs ∧ ∀ p, H p = none → Q (.ref p) (upd H p (.lst (cutV xs lo hi)))
theorem sl_list : SlR X (rSlL X.K) := by
  intro pins s σ H x v vl vu lo hi sl Q I rx hs pl pu h
  obtain ⟨a, xs, rfl, hx, q⟩ := h
  cases rx
  obtain ⟨its, r, ht, hz⟩ := I.list hx
  have hlen := r.length
  refine ⟨"list", _, slot_list_getitem.lookup, ht.isList.typeIs, ?_⟩
  refine wpAny_getItem_list_slice ht.isList hs pl pu .none (by simp) ?_ (by rw [List.size_toArray] <;> omega)
  rw [slicePick_cut, ← hlen]
  refine ⟨.ref s.heap.objs.size, _, I.laid (t' := s.toks) (o := .lst (cutV xs lo hi)) (fun b ob q => Heap.get?_push_of_some _ q) (Nat.le_refl _) ?_, rfl, q _ (I.hok.fresh (Nat.le_refl _))⟩
  exact ⟨Nat.le_trans (cutV_length xs lo hi) hz, _, 0, (r.drop (HT.sIx xs.length 0 lo)).take (HT.sIx xs.length xs.length hi - HT.sIx xs.length 0 lo), Heap.get?_push_size _ rfl⟩

/-! ### in, not in: flat items -/
def flatV : V → Bool
  | .non => true
  | .bl _ => true
  | .int _ => true
  | .str _ => true
  | _ => false
/-- == of flat values -/
def eqV : V → V → Bool
  | .non, .non => true
  | .bl a, .bl b => a == b
  | .bl a, .int b => (if a then 1 else 0) == b
  | .int a, .bl b => a == (if b then 1 else 0)
  | .int a, .int b => a == b
  | .str a, .str b => a == b
  | _, _ => false
theorem eqAt_V {A : Around} {s : Shared} {y x : V} {u v : Value} (ry : RelV y u) (rx : RelV x v) (fy : flatV y = true) (fx : flatV x = true) : SeqAt.EqAt A s u v (eqV y x) := by
  cases y with
  | non =>
    cases ry
    cases x with
    | non => cases rx; exact SeqAt.EqAt.same _
    | bl b => cases rx; exact SeqAt.EqAt.none_bool b
    | int b => obtain ⟨t, rfl⟩ := rx; exact SeqAt.EqAt.none_int b t
    | str b => obtain ⟨t, rfl⟩ := rx; exact SeqAt.EqAt.none_str b t
    | _ => exact absurd (show false = true from fx) Bool.false_ne_true
  | bl a =>
    cases ry
    cases x with
    | non => cases rx; exact SeqAt.EqAt.bool_none a
    | bl b => cases rx; exact SeqAt.EqAt.bool_bool a b
    | int b => obtain ⟨t, rfl⟩ := rx; exact SeqAt.EqAt.bool_int a b t
    | str b => obtain ⟨t, rfl⟩ := rx; exact SeqAt.EqAt.bool_str a b t
    | _ => exact absurd (show false = true from fx) Bool.false_ne_true
  | int a =>
    obtain ⟨t', rfl⟩ := ry
    cases x with
    | non => cases rx; exact SeqAt.EqAt.int_none a t'
    | bl b => cases rx; exact SeqAt.EqAt.int_bool a t' b
    | int b => obtain ⟨t, rfl⟩ := rx; exact SeqAt.EqAt.int_int a t' b t
    | str b => obtain ⟨t, rfl⟩ := rx; exact SeqAt.EqAt.int_str a t' b t
    | _ => exact absurd (show false = true from fx) Bool.false_ne_true
  | str a =>
    obtain ⟨t', rfl⟩ := ry
    cases x with
    | non => cases rx; exact SeqAt.EqAt.str_none a t'
    | bl b => cases rx; exact SeqAt.EqAt.str_bool a t' b
    | int b => obtain ⟨t, rfl⟩ := rx; exact SeqAt.EqAt.str_int a t' b t
    | str b => obtain ⟨t, rfl⟩ := rx; exact SeqAt.EqAt.str_str a t' b t
    | _ => exact absurd (show false = true from fx) Bool.false_ne_true
  | _ => exact absurd (show false = true from fy) Bool.false_ne_true
/-- the items' answers, read off the values (a value's own answer does not lean on its token) -/
def eqU (x : V) (u : Value) : Bool := match u with
  | .none => eqV .non x
  | .bool b => eqV (.bl b) x
  | .int i _ => eqV (.int i) x
  | .str z _ => eqV (.str z) x
  | _ => false
theorem eqU_of {x y : V} {u : Value} (r : RelV y u) (f : flatV y = true) : eqU x u = eqV y x := by
  cases y with
  | non => cases r; rfl
  | bl b => cases r; rfl
  | int i => obtain ⟨t, rfl⟩ := r; rfl
  | str z => obtain ⟨t, rfl⟩ := r; rfl
  | _ => exact absurd (show false = true from f) Bool.false_ne_true
theorem any_eqU {x : V} : ∀ {xs : List V} {us : List Value}, Vals xs us → xs.all flatV = true → us.any (eqU x) = xs.any fun y => eqV y x
  | _, _, .nil, _ => rfl
  | y :: xs, u :: us, .cons r t, f => by
    rw [List.all_cons, Bool.and_eq_true] at f
    rw [List.any_cons, List.any_cons, eqU_of r f.1, any_eqU t f.2]
theorem mem_eqAt {A : Around} {s : Shared} {x : V} {v : Value} (rx : RelV x v) (fx : flatV x = true) : ∀ {xs : List V} {us : List Value}, Vals xs us → xs.all flatV = true → ∀ u ∈ us, SeqAt.EqAt A s u v (eqU x u)
  | _, _, .nil, _ => fun u hu => by cases hu
  | y :: xs, u :: us, .cons r t, f => fun u' hu => by
    rw [List.all_cons, Bool.and_eq_true] at f
    rcases List.mem_cons.mp hu with rfl | hu
    · rw [eqU_of r f.1]; exact eqAt_V r rx f.1 fx
    · exact mem_eqAt rx fx t f.2 u' hu
def inV (x : V) (xs : List V) : Bool := xs.any fun y => eqV y x
/-- x in a list or tuple of flat items -/
def rIn (K : PySem.W.Frag) (neg : Bool) : R2 := fun x y H Q => ∃ p xs, y = .ref p ∧ (SqL K H p xs ∨ SqT K H p xs) ∧ flatV x = true ∧ xs.all flatV = true ∧ Q (.bl (if neg then !inV x xs else inV x xs)) H
theorem op_in_seq : OpR X (compareOp .In) (rIn X.K false) := by
  intro pins s σ H x y v u Q I rx ry h
  obtain ⟨p, xs, rfl, hq, fx, fs, q⟩ := h
  cases ry
  rcases hq with hq | hq
  · obtain ⟨its, r, pl, hz⟩ := I.list hq
    refine SeqAt.in_listAt (eqU x) pl.isList (fun w hw => mem_eqAt rx fx r fs w (by simpa using hw)) ⟨.bl _, H, I, rfl, ?_⟩
    rw [show its.toArray.any (eqU x) = its.any (eqU x) by simp, any_eqU r fs]
    exact q
  · obtain ⟨its, r, pl, hz⟩ := I.tuple hq
    refine SeqAt.in_tupleAt (eqU x) pl (fun w hw => mem_eqAt rx fx r fs w (by simpa using hw)) ⟨.bl _, H, I, rfl, ?_⟩
    rw [show its.toArray.any (eqU x) = its.any (eqU x) by simp, any_eqU r fs]
    exact q
/-! ### len, list(x), tuple(x) of any list or tuple that is read -/
theorem CallR.or {f : Value} {r r' : List V → Hp → VK → Prop} (h : CallR X f r) (h' : CallR X f r') : CallR X f (fun xs H Q => r xs H Q ∨ r' xs H Q) := by
  intro pins s σ H xs us Q I rs q
  rcases q with q | q
  · exact h pins s σ H xs us Q I rs q
  · exact h' pins s σ H xs us Q I rs q
theorem call_list_of : CallR X (.type "list") (fun xs H Q => ∃ p ys, xs = [.ref p] ∧ (SqL X.K H p ys ∨ SqT X.K H p ys) ∧ ∀ l, H l = none → Q (.ref l) (upd H l (.lst ys))) := by
  intro pins s σ H xs us Q I r h
  obtain ⟨p, ys, rfl, hq, q⟩ := h
  obtain ⟨u, rfl, rx⟩ := vals1 r
  cases rx
  have fin : ∀ (its : List Value), Vals ys its → ys.length ≤ sizeLine → ∀ (h' : Heap) (c' : Nat), (∀ b o', s.heap.get? b = some o' → h'.get? b = some o') →
      h'.get? s.heap.objs.size = some { cls := .type "list", dict := none, data := .seq its.toArray c', slots := #[] } → EP X pins σ Q (.ref s.heap.objs.size) { s with heap := h' } := fun its r' hz h' c' kp e =>
    ⟨.ref s.heap.objs.size, _, I.laid (t' := s.toks) kp (Nat.le_refl _) (show ObjOk X.prog X.w _ h' _ (.lst ys) from ⟨hz, its, c', r', e⟩), rfl, q _ (I.hok.fresh (Nat.le_refl _))⟩
  rcases hq with hq | hq
  · obtain ⟨its, r', pl, hz⟩ := I.list hq
    have hlen := r'.length
    obtain ⟨o, ho, hc, n, hd⟩ := pl.isList
    exact call_list_seq p (.inl rfl) ho hc hd (fun h' c' kp e => fin its r' hz h' c' kp e) (by simp only [List.size_toArray] <;> omega)
  · obtain ⟨its, r', pl, hz⟩ := I.tuple hq
    have hlen := r'.length
    obtain ⟨o, ho, hc, n, hd⟩ := pl
    exact call_list_seq p (.inr rfl) ho hc hd (fun h' c' kp e => fin its r' hz h' c' kp e) (by simp only [List.size_toArray] <;> omega)
theorem call_tuple_of : CallR X (.type "tuple") (fun xs H Q => ∃ p ys, xs = [.ref p] ∧ ((SqL X.K H p ys ∧ ∀ l, H l = none → Q (.ref l) (upd H l (.tup ys))) ∨ (SqT X.K H p ys ∧ Q (.ref p) H))) := by
  intro pins s σ H xs us Q I r h
  obtain ⟨p, ys, rfl, h⟩ := h
  obtain ⟨u, rfl, rx⟩ := vals1 r
  cases rx
  rcases h with ⟨hq, q⟩ | ⟨hq, q⟩
  · obtain ⟨its, r', pl, hz⟩ := I.list hq
    have hlen := r'.length
    refine call_tuple_list pl.isList (fun h' kp => ?_) (by simp only [List.size_toArray] <;> omega)
    have I1 : Inv X pins σ H { s with heap := h' } := I.kept (t' := s.toks) kp
    have I2 : Inv X pins σ (upd H h'.objs.size (.tup ys)) { s with heap := h'.push { cls := .type "tuple", data := .seq its.toArray } } :=
      I1.laid (t' := s.toks) (fun b o e => Heap.get?_push_of_some _ e) (Nat.le_refl _) (show ObjOk X.prog X.w _ _ _ (.tup ys) from ⟨hz, its, r', IsTup.new _ _⟩)
    exact ⟨.ref h'.objs.size, _, I2, rfl, q _ (I1.hok.fresh (Nat.le_refl _))⟩
  · obtain ⟨its, r', pl, hz⟩ := I.tuple hq
    exact call_tuple_same pl ⟨.ref p, H, I, rfl, q⟩

/-! ### the call of a builtin's method: o.m(..) -/
/-- the value is of that builtin type -/
def tyV (K : PySem.W.Frag) (T : String) (x : V) (H : Hp) : Prop := match x with
  | .str _ => T = "str"
  | .int _ => T = "int"
  | .ref p => (T = "list" ∧ ∃ xs, SqL K H p xs) ∨ (T = "tuple" ∧ ∃ o, K.lookup p = some o ∧ o.cls = .type "tuple" ∧ o.dict = none) ∨
      (T = "dict" ∧ ((∃ kvs, H p = some (.dK kvs)) ∨ ∃ kvs, H p = some (.dT kvs))) ∨ (T = "set" ∧ ∃ S n, H p = some (.set S n))
  | _ => False
theorem tyV_is {pins : List (Addr × Obj)} {σ : St} {H : Hp} {s : Shared} {T : String} {x : V} {v : Value} (I : Inv X pins σ H s) (r : RelV x v) (ty : tyV X.K T x H) :
    s.TypeIs v T ∧ ∀ a, v = .ref a → ∃ ob, s.heap.get? a = some ob ∧ ob.dict = none := by
  cases x with
  | str z =>
    obtain ⟨t, rfl⟩ := r
    cases (show T = "str" from ty)
    exact ⟨typeIs_str s z t, fun _ e => nomatch e⟩
  | int i =>
    obtain ⟨t, rfl⟩ := r
    cases (show T = "int" from ty)
    exact ⟨typeIs_int s i t, fun _ e => nomatch e⟩
  | ref p =>
    cases r
    rcases ty with ⟨rfl, xs, hq⟩ | ⟨rfl, o, hk, hc, hd⟩ | ⟨rfl, hk⟩ | ⟨rfl, S, n, hk⟩
    · obtain ⟨its, _, pl, _⟩ := I.list hq
      refine ⟨pl.isList.typeIs, fun a e => ?_⟩
      cases e
      obtain ⟨o, n, e, c, hd, _⟩ := pl
      exact ⟨o, e, hd⟩
    · refine ⟨⟨o, I.kIn p o hk, hc⟩, fun a e => ?_⟩
      cases e
      exact ⟨o, I.kIn _ o hk, hd⟩
    · have z : ∃ o, s.heap.get? p = some o ∧ o.ExactDict := by
        rcases hk with ⟨kvs, hk⟩ | ⟨kvs, hk⟩
        · obtain ⟨_, _, _, _, o, _, _, e, ex, _⟩ := I.hok p _ hk
          exact ⟨o, e, ex⟩
        · obtain ⟨_, _, _, _, o, _, _, e, ex, _⟩ := I.hok p _ hk
          exact ⟨o, e, ex⟩
      obtain ⟨o, e, ex⟩ := z
      refine ⟨⟨o, e, ex.1⟩, fun a e2 => ?_⟩
      cases e2
      exact ⟨o, e, ex.2.1⟩
    · obtain ⟨o, _, _, _, e, ex, _⟩ := I.hok p _ hk
      refine ⟨⟨o, e, ex.1⟩, fun a e2 => ?_⟩
      cases e2
      exact ⟨o, e, ex.2.1⟩
  | _ => exact False.elim ty
def tBM0 (K : PySem.W.Frag) (T : String) (r : V → List V → Hp → VK → Prop) (to : TE) : TE := fun σ H Q => to σ H fun x H1 => tyV K T x H1 ∧ r x [] H1 Q
def tBM (K : PySem.W.Frag) (T : String) (r : V → List V → Hp → VK → Prop) (to : TE) (t : TA) : TE := fun σ H Q => to σ H fun x H1 => tyV K T x H1 ∧ t σ H1 fun xs H2 => r x xs H2 Q
variable {o e : Expr} {es : List Expr} {to : TE} {t : TA} {name : Str} {apos cpos : Pos} {T id : String} {r : V → List V → Hp → VK → Prop}
theorem pe_bm (pa : PlainAttrs T) (slot : Slot T name id) (hty : typeOf (.builtin id) = pure (.type "method_descriptor")) (hm : MtR X id r) (ho : PE X o to) (ha : PA X (e :: es) t)
    (hbase : attributeBase o name X.env (eval o X.env) = eval o X.env := by rfl)
    (hfew : ((backTo cpos (starEach (e :: es) X.env)).all (fun x => !x.1) && (backToKw cpos (keywordEach [] X.env)).all (fun x => x.1.isSome)
      && decide ((e :: es).length + ([] : List Keyword).length + (if ([] : List Keyword).isEmpty then 0 else 1) < 30)) = true := by rfl)
    (hline : (apos.endLine == cpos.line) = true := by rfl) (hs : starEach (e :: es) X.env = (false, eval e X.env) :: starEach es X.env := by rfl) (hplain : (backTo cpos (starEach es X.env)).any (·.1) = false := by rfl) :
    PE X (.Call (.Attribute o name apos) (e :: es) [] cpos) (tBM X.K T r to t) := by
  intro pins s σ H Q I h
  refine wpAny_Call_method_late hbase hfew hline rfl (thn (ho pins s σ H _ I h) fun v s1 ⟨x, H1, I1, r1, ty, q1⟩ => ?_)
  obtain ⟨h1, h2⟩ := tyV_is I1 r1 ty
  refine ⟨T, id, pa, slot, hty, h1, h2, ?_⟩
  have hA := ha cpos pins s1 σ H1 _ I1 q1
  rw [hs] at hA ⊢
  refine Calls.callWith_builtin (by show (false || (backTo cpos (starEach es X.env)).any (·.1)) = false; rw [hplain] <;> rfl) (Calls.evalArgs_plain ?_)
  exact thn hA fun us s2 ⟨vs, H2, I2, r2, q2⟩ => hm pins s2 σ H2 x vs v us Q I2 r1 r2 q2
/- xs.append(e), list.index on a module's tuple .. are MtR facts of 06m -/
end
end L2

namespace L2
open PySem PySem.Spec PyProof.Rows

def MtM (X : Cx) (id : String) (r : V → List V → Hp → VK → Prop) : Prop :=
  ∀ (pins : List (Addr × Obj)) (s : Shared) (σ : St) (H : Hp) (x : V) (xs : List V) (v : Value) (us : List Value) (Q : VK), Inv X pins σ H s → RelV x v → Vals xs us → r x xs H Q →
    wpAny (model X.prog X.w) X.A (call (.builtin id) (v :: us)) (EP X pins σ Q) X.xe s

/-! ### lists of values -/
theorem Vals.one : ∀ {x : V} {us : List Value}, Vals [x] us → ∃ u, us = [u] ∧ RelV x u
  | _, _, .cons r .nil => ⟨_, rfl, r⟩
theorem Vals.two : ∀ {x y : V} {us : List Value}, Vals [x, y] us → ∃ u v, us = [u, v] ∧ RelV x u ∧ RelV y v
  | _, _, _, .cons r (.cons q .nil) => ⟨_, _, rfl, r, q⟩
theorem Vals.zero : ∀ {us : List Value}, Vals [] us → us = []
  | _, .nil => rfl
theorem Vals.dropLast {xs : List V} {us : List Value} (h : Vals xs us) : Vals xs.dropLast us.dropLast := by
  induction h with
  | nil => exact .nil
  | cons r t ih =>
    cases t with
    | nil => exact .nil
    | cons q t' => exact .cons r ih
theorem Vals.eraseIdx : ∀ {xs : List V} {us : List Value} (i : Nat), Vals xs us → Vals (xs.eraseIdx i) (us.eraseIdx i)
  | _, _, _, .nil => .nil
  | _, _, 0, .cons _ t => t
  | _, _, i + 1, .cons r t => .cons r (Vals.eraseIdx i t)
theorem Vals.reverse {xs : List V} {us : List Value} (h : Vals xs us) : Vals xs.reverse us.reverse := by
  induction h with
  | nil => exact .nil
  | cons r t ih => rw [List.reverse_cons, List.reverse_cons]; exact Vals.append ih (.cons r .nil)
theorem Vals.rep {xs : List V} {us : List Value} (h : Vals xs us) : ∀ k : Nat, Vals (List.replicate k xs).flatten (List.replicate k us).flatten
  | 0 => .nil
  | k + 1 => by
    rw [List.replicate_succ, List.replicate_succ, List.flatten_cons, List.flatten_cons]
    exact Vals.append h (Vals.rep h k)
theorem foldl_rep (its : List Value) : ∀ (k : Nat) (acc : List Value),
    List.foldl (fun x1 x2 => x1 ++ x2) acc.toArray (List.replicate k its.toArray) = (acc ++ (List.replicate k its).flatten).toArray
  | 0, acc => by simp
  | k + 1, acc => by
    have e : acc.toArray ++ its.toArray = (acc ++ its).toArray := by simp
    have e2 : (acc ++ its) ++ (List.replicate k its).flatten = acc ++ (List.replicate (k + 1) its).flatten := by
      rw [List.replicate_succ, List.flatten_cons, List.append_assoc]
    rw [← e2, ← foldl_rep its k (acc ++ its), ← e, List.replicate_succ, List.foldl_cons]

section
variable {X : Cx} {pins : List (Addr × Obj)} {σ : St} {H : Hp} {s : Shared} {l b : Addr} {xs ys zs : List V}

/-! ### the two steps: a tracked list is rewritten, a new list is laid -/
theorem Inv.lset {its its' : List Value} {n : Nat} {f : Array Value → Array Value} {t' : Nat} (I : Inv X pins σ H s) (hH : H l = some (.lst xs))
    (e : s.heap.get? l = some { cls := .type "list", data := .seq its.toArray n }) (hf : f its.toArray = its'.toArray) (hv : Vals ys its') (hz : ys.length ≤ sizeLine) :
    Inv X pins σ (upd H l (.lst ys)) { s with heap := s.heap.update l (Obj.mapSeq f), toks := t' } := by
  have q := PySem.IsL.update e f
  rw [hf] at q
  refine I.write (x := l) (e := l) (by rw [hH]; exact trivial) (.inl rfl) (fun b' u hb hu => (Heap.get?_update_other s.heap (Obj.mapSeq f) (Ne.symm hb)).trans hu) ⟨_, q⟩ ?_
  exact ⟨hz, its', _, hv, q⟩
theorem Inv.lnew {its : List Value} {t' : Nat} (I : Inv X pins σ H s) (hv : Vals ys its) (hz : ys.length ≤ sizeLine) :
    Inv X pins σ (upd H s.heap.objs.size (.lst ys)) { s with heap := s.heap.push { cls := .type "list", data := .seq its.toArray }, toks := t' } :=
  I.laid (fun _ _ q => Heap.get?_push_of_some _ q) (Nat.le_refl _) ⟨hz, its, 0, hv, Heap.get?_push_size _ rfl⟩
theorem Inv.fresh (I : Inv X pins σ H s) : H s.heap.objs.size = none := I.hok.fresh (Nat.le_refl _)
theorem Inv.lstM (I : Inv X pins σ H s) (hH : H l = some (.lst xs)) : xs.length ≤ sizeLine ∧ ∃ (its : List Value) (n : Nat), Vals xs its ∧ xs.length = its.length ∧ s.heap.get? l = some { cls := .type "list", data := .seq its.toArray n } := by
  obtain ⟨z, its, n, r, e⟩ := I.hok l _ hH
  exact ⟨z, its, n, r, r.length, e⟩

end

section
variable {X : Cx}

/-! ### methods -/
def rAppend : V → List V → Hp → VK → Prop := fun x vs H Q => ∃ l xs y, x = .ref l ∧ vs = [y] ∧ H l = some (.lst xs) ∧ xs.length < sizeLine ∧ Q .non (upd H l (.lst (xs ++ [y])))
theorem mt_append : MtM X "list.append" rAppend := by
  intro pins s σ H x vs v us Q I rx rv h
  obtain ⟨l, xs, y, rfl, rfl, hH, hz, q⟩ := h
  cases rx
  obtain ⟨u, rfl, ru⟩ := rv.one
  obtain ⟨z, its, n, r, hl, e⟩ := I.lstM hH
  refine call_meets F.slot_list_append ⟨_, e, rfl⟩ F.entry_list_append (F.args_list_append_2 _ _) (PySem.list_append l its.toArray n u (by rw [List.size_toArray]; omega)) ⟨e, ?_⟩
  refine ⟨.non, _, I.lset (its' := its ++ [u]) hH e (by simp) (r.append (.cons ru .nil)) ?_, rfl, q⟩
  rw [List.length_append, List.length_singleton]
  omega

def rExtend : V → List V → Hp → VK → Prop := fun x vs H Q => ∃ l b xs zs, x = .ref l ∧ vs = [.ref b] ∧ H l = some (.lst xs) ∧ H b = some (.lst zs) ∧ xs.length + zs.length ≤ sizeLine ∧ Q .non (upd H l (.lst (xs ++ zs)))
def rPop : V → List V → Hp → VK → Prop := fun x vs H Q => ∃ l xs y, x = .ref l ∧ vs = [] ∧ H l = some (.lst xs) ∧ xs[xs.length - 1]? = some y ∧ Q y (upd H l (.lst xs.dropLast))
def rPopAt : V → List V → Hp → VK → Prop := fun x vs H Q => ∃ l xs i k y, x = .ref l ∧ vs = [.int i] ∧ H l = some (.lst xs) ∧ -(2 ^ 63) ≤ i ∧ i < 2 ^ 63 ∧ seqIndex? i xs.length = some k ∧ xs[k]? = some y ∧ Q y (upd H l (.lst (xs.eraseIdx k)))
def rReverse : V → List V → Hp → VK → Prop := fun x vs H Q => ∃ l xs, x = .ref l ∧ vs = [] ∧ H l = some (.lst xs) ∧ Q .non (upd H l (.lst xs.reverse))
def rClear : V → List V → Hp → VK → Prop := fun x vs H Q => ∃ l xs, x = .ref l ∧ vs = [] ∧ H l = some (.lst xs) ∧ Q .non (upd H l (.lst []))
/-! ### list + list, list += list, list * int -/
def rCat : R2 := fun x y H Q => ∃ l b xs zs, x = .ref l ∧ y = .ref b ∧ H l = some (.lst xs) ∧ H b = some (.lst zs) ∧ xs.length + zs.length ≤ sizeLine ∧ ∀ p, H p = none → Q (.ref p) (upd H p (.lst (xs ++ zs)))
theorem op_cat : OpR X (binaryOp .Add) rCat := by
  intro pins s σ H x y v u Q I rx ry h
  obtain ⟨l, b, xs, zs, rfl, rfl, hH, hB, hz, q⟩ := h
  cases rx
  cases ry
  obtain ⟨z, its, n, r, hl, e⟩ := I.lstM hH
  obtain ⟨z2, its2, n2, r2, hl2, e2⟩ := I.lstM hB
  refine PySem.P.add_list e e2 ?_ (by rw [List.size_toArray, List.size_toArray]; omega)
  have ea : its.toArray ++ its2.toArray = (its ++ its2).toArray := by simp
  rw [ea]
  exact ⟨.ref _, _, I.lnew (t' := s.toks) (r.append r2) (by rw [List.length_append]; omega), rfl, q _ I.fresh⟩
/-- a list times an int (a negative one is nothing) -/
def rRep : R2 := fun x y H Q => ∃ l k xs, x = .ref l ∧ y = .int k ∧ H l = some (.lst xs) ∧ -(2 ^ 63) ≤ k ∧ k < 2 ^ 63 ∧ xs.length * k.toNat ≤ sizeLine ∧
  ∀ p, H p = none → Q (.ref p) (upd H p (.lst (List.replicate k.toNat xs).flatten))
theorem len_rep {α : Type} (xs : List α) (k : Nat) : (List.replicate k xs).flatten.length = k * xs.length := by
  induction k with
  | zero => simp
  | succ k ih => rw [List.replicate_succ, List.flatten_cons, List.length_append, ih, Nat.succ_mul, Nat.add_comm]
/-! ### del xs[i] -/
end

/-! ### xs[a:b] = ys -/
section
variable {prog : Program} {w : World} {A : Around} {E : Value → Shared → Prop} {s : Shared}
set_option maxRecDepth 100000 in
end

section
variable {X : Cx}
end
end L2

namespace L2
open PySem PySem.Spec PyProof.Rows

theorem Vals.ints : ∀ {ns : List Int} {us : List Value}, Vals (ns.map V.int) us → IntsAre us ns
  | [], us, h => by
    rw [List.map_nil] at h
    cases h
    exact IntsAre.nil
  | n :: ns, us, h => by
    rw [List.map_cons] at h
    cases h with
    | cons r t =>
      obtain ⟨k, rfl⟩ := r
      exact IntsAre.cons n k (Vals.ints t)
theorem Vals.strs : ∀ {xs : List Str} {us : List Value}, Vals (xs.map V.str) us → StrsAre us xs
  | [], us, h => by
    rw [List.map_nil] at h
    cases h
    exact StrsAre.nil
  | x :: xs, us, h => by
    rw [List.map_cons] at h
    cases h with
    | cons r t =>
      obtain ⟨k, rfl⟩ := r
      exact StrsAre.cons x k (Vals.strs t)
theorem Vals.bls : ∀ {bs : List Bool} {us : List Value}, Vals (bs.map V.bl) us → us = bs.map Value.bool
  | [], us, h => by
    rw [List.map_nil] at h
    cases h
    rfl
  | b :: bs, us, h => by
    rw [List.map_cons] at h
    cases h with
    | cons r t =>
      cases r
      rw [Vals.bls t, List.map_cons]
theorem Vals.ref1 {a : Addr} {us : List Value} (r : Vals [V.ref a] us) : us = [Value.ref a] := by
  cases r with
  | cons r t =>
    cases t
    cases r
    rfl
/-! ### the library's walks over a list of ints, kept objects alone -/
section
variable {prog : Program} {w : World} {A : Around} {E : Value → Shared → Prop} {s : Shared} {l : Addr} {its : List Value} {ns : List Int} {Q : Value → Shared → Prop}
end

/-! ### the calls, by values (CallR of 03t; MtR of 06l) -/
section
variable {X : Cx}
/-- sum(xs) of a list of ints -/
def rSum (K : PySem.W.Frag) : List V → Hp → VK → Prop := fun vs H Q => ∃ (a : Addr) (ns : List Int), vs = [V.ref a] ∧ SqL K H a (ns.map V.int) ∧ Q (.int ns.sum) H
/-- max(xs), min(xs) of a list of ints -/
def rMax (K : PySem.W.Frag) : List V → Hp → VK → Prop := fun vs H Q => ∃ (a : Addr) (ns : List Int), vs = [V.ref a] ∧ SqL K H a (ns.map V.int) ∧ 0 < ns.length ∧ ∀ m, m ∈ ns → (∀ y, y ∈ ns → y ≤ m) → Q (.int m) H
def rMin (K : PySem.W.Frag) : List V → Hp → VK → Prop := fun vs H Q => ∃ (a : Addr) (ns : List Int), vs = [V.ref a] ∧ SqL K H a (ns.map V.int) ∧ 0 < ns.length ∧ ∀ m, m ∈ ns → (∀ y, y ∈ ns → m ≤ y) → Q (.int m) H
/-! sorted, sort (fewer than 64 items: the library's own bound) -/
def rSorted (K : PySem.W.Frag) : List V → Hp → VK → Prop := fun vs H Q => ∃ (a : Addr) (ns : List Int), vs = [V.ref a] ∧ SqL K H a (ns.map V.int) ∧ ns.length < 64 ∧
  ∀ (ns' : List Int) (p : Addr), ns'.Perm ns → ns'.Pairwise (· ≤ ·) → H p = none → Q (.ref p) (upd H p (.lst (ns'.map V.int)))
def rSortedS (K : PySem.W.Frag) : List V → Hp → VK → Prop := fun vs H Q => ∃ (a : Addr) (xs : List Str), vs = [V.ref a] ∧ SqL K H a (xs.map V.str) ∧ xs.length < 64 ∧
  ∀ (ys : List Str) (p : Addr), ys.Perm xs → sortedS ys = true → H p = none → Q (.ref p) (upd H p (.lst (ys.map V.str)))
/-- xs.sort(), ints -/
def rSort : V → List V → Hp → VK → Prop := fun x xs H Q => ∃ (a : Addr) (ns : List Int), x = V.ref a ∧ xs = [] ∧ H a = some (.lst (ns.map V.int)) ∧ ns.length < 64 ∧
  ∀ ns' : List Int, ns'.Perm ns → ns'.Pairwise (· ≤ ·) → Q .non (upd H a (.lst (ns'.map V.int)))
end

/-! ### list.index, flat items -/
section
variable {X : Cx}
def rIndex (K : PySem.W.Frag) : V → List V → Hp → VK → Prop := fun x xs H Q => ∃ (a : Addr) (ys : List V) (y : V) (j : Nat) (z : V), x = V.ref a ∧ xs = [y] ∧ SqL K H a ys ∧ flatV y = true ∧ ys.all flatV = true ∧ ys[j]? = some z ∧ eqV z y = true ∧
  (∀ (m : Nat) (z' : V), m < j → ys[m]? = some z' → eqV z' y = false) ∧ Q (.int (j : Nat)) H
end

/-! ### type(x) of an own instance; is, is not of a module's class -/
section
variable {X : Cx}
end

/-! ### any(xs), all(xs) of a list of bools -/
theorem iter_any {prog : Program} {w : World} {A : Around} {E : Value → Shared → Prop} {s : Shared} {l : Addr} {items : Array Value} {Q : Value → Shared → Prop} (hl : s.heap.IsList l items)
    (h : ∀ s₂ : Shared, s₂ = { s with heap := s.heap.push { cls := .type "list_iterator", data := .fields #[.ref l, .int 0 0] } } →
      (s₂.heap.IsListIter s.heap.objs.size l 0 ∧ s₂.heap.IsList l items) → l ≠ s.heap.objs.size → Q (.ref s.heap.objs.size) s₂) : wpAny (model prog w) A (pyIter (.ref l)) Q E s := by
  have hlt : l < s.heap.objs.size := by obtain ⟨_, e, _⟩ := hl; exact Heap.lt_size e
  exact wpAny_pyIter_list hl (h _ rfl ⟨⟨_, Heap.get?_push_size _ rfl, rfl, rfl⟩, hl.push _⟩ (Nat.ne_of_lt hlt))
theorem truth_bools {prog : Program} {w : World} {A : Around} {bs : List Bool} {its : List Value} (e : its = bs.map Value.bool) :
    TruthOf prog w A (fun i v => its.toArray[i]? = some v) (fun i => bs.getD i false) := fun i v s Q E hv hq => by
  have hv' : its[i]? = some v := by simpa using hv
  rw [e, List.getElem?_map] at hv'
  obtain ⟨b, hb, rfl⟩ := Option.map_eq_some_iff.mp hv'
  have hg : bs.getD i false = b := by rw [List.getD_eq_getElem?_getD, hb] <;> rfl
  have hq' : Q (bs.getD i false) s := hq
  rw [hg] at hq'
  exact wpAny_truthy_bool hq'
theorem all_range : ∀ bs : List Bool, (List.range bs.length).all (fun i => bs.getD i false) = bs.all id
  | [] => rfl
  | b :: bs => by
    rw [List.length_cons, List.range_succ_eq_map, List.all_cons, List.all_map, List.all_cons, ← all_range bs]
    all_goals rfl
section
variable {X : Cx}
def rAny (K : PySem.W.Frag) : List V → Hp → VK → Prop := fun vs H Q => ∃ (a : Addr) (bs : List Bool), vs = [V.ref a] ∧ SqL K H a (bs.map V.bl) ∧ Q (.bl (bs.any id)) H
def rAll (K : PySem.W.Frag) : List V → Hp → VK → Prop := fun vs H Q => ∃ (a : Addr) (bs : List Bool), vs = [V.ref a] ∧ SqL K H a (bs.map V.bl) ∧ Q (.bl (bs.all id)) H
theorem cr_all (hc : X.calm = true) : CallR X (.builtin "all") (rAll X.K) := by
  intro pins s σ H vs us Q I r h
  obtain ⟨a, bs, rfl, hs, q⟩ := h
  obtain ⟨its, rv, hl, _⟩ := I.list hs
  rw [Vals.ref1 r]
  have hb := rv.bls
  refine call_all_walk (iter_any hl.isList fun s₂ e2 st hne => ?_)
  subst e2
  refine ⟨_, _, _, _, _, _, _, rfl, Walks.list (A := X.A.in1) (I.ok.hd hc) _ a hne its.toArray, st, truth_bools hb, fun h' tk hk => ?_⟩
  refine ⟨.bl _, H, I.kept fun b o eo => hk b o (fun hmem => ?_) (Heap.get?_push_of_some _ eo), ?_, q⟩
  · rcases List.mem_cons.mp hmem with e1 | hmem
    · exact absurd (e1 ▸ Heap.lt_size eo) (Nat.lt_irrefl _)
    · cases hmem
  · show Value.bool _ = Value.bool _
    rw [← all_range, hb, List.size_toArray, List.length_map]
end

/-! ### == and != of data at any depth: none, bools, ints, texts, lists, tuples -/
mutual
inductive Dp (K : PySem.W.Frag) (H : Hp) : V → PyData → Prop
  | non : Dp K H .non .none
  | bl (b : Bool) : Dp K H (.bl b) (.bool b)
  | int (i : Int) : Dp K H (.int i) (.int i)
  | str (x : Str) : Dp K H (.str x) (.str x)
  | lst {a : Addr} {xs : List V} {ds : List PyData} : SqL K H a xs → DpAll K H xs ds → Dp K H (.ref a) (.list ds)
  | tup {a : Addr} {xs : List V} {ds : List PyData} : SqT K H a xs → DpAll K H xs ds → Dp K H (.ref a) (.tuple ds)
inductive DpAll (K : PySem.W.Frag) (H : Hp) : List V → List PyData → Prop
  | nil : DpAll K H [] []
  | cons {v : V} {vs : List V} {d : PyData} {ds : List PyData} : Dp K H v d → DpAll K H vs ds → DpAll K H (v :: vs) (d :: ds)
end
section
variable {X : Cx} {pins : List (Addr × Obj)} {σ : St} {H : Hp} {s : Shared}
mutual
theorem Dp.reads (I : Inv X pins σ H s) : ∀ (d : PyData) (v : V) (u : Value), Dp X.K H v d → RelV v u → ∃ as, Reads s.heap u d as
  | .none, _, _, h, r => by
    cases h
    cases r
    exact ⟨_, Reads.none⟩
  | .bool b, _, _, h, r => by
    cases h
    cases r
    exact ⟨_, Reads.bool b⟩
  | .int i, _, _, h, r => by
    cases h
    obtain ⟨t, rfl⟩ := r
    exact ⟨_, Reads.int i t⟩
  | .str x, _, _, h, r => by
    cases h
    obtain ⟨t, rfl⟩ := r
    exact ⟨_, Reads.str x t⟩
  | .list ds, _, _, h, r => by
    cases h with
    | lst hs ha =>
      cases r
      obtain ⟨its, rv, ⟨o, n, ho, hc, _, hd⟩, _⟩ := I.list hs
      obtain ⟨as, hr⟩ := Dp.readsAll I ds _ its ha rv
      exact ⟨_, Reads.list ho hc hd hr⟩
  | .tuple ds, _, _, h, r => by
    cases h with
    | tup hs ha =>
      cases r
      obtain ⟨its, rv, ⟨o, ho, hc, n, hd⟩, _⟩ := I.tuple hs
      obtain ⟨as, hr⟩ := Dp.readsAll I ds _ its ha rv
      exact ⟨_, Reads.tuple ho hc hd hr⟩
  | .dict _, _, _, h, _ => by cases h
theorem Dp.readsAll (I : Inv X pins σ H s) : ∀ (ds : List PyData) (vs : List V) (us : List Value), DpAll X.K H vs ds → Vals vs us → ∃ as, ReadsAll s.heap us ds as
  | [], _, _, h, r => by
    cases h
    cases r
    exact ⟨_, ReadsAll.nil⟩
  | d :: ds, _, _, h, r => by
    cases h with
    | cons h1 h2 =>
      cases r with
      | cons r1 r2 =>
        obtain ⟨as, q1⟩ := Dp.reads I d _ _ h1 r1
        obtain ⟨bs, q2⟩ := Dp.readsAll I ds _ _ h2 r2
        exact ⟨_, ReadsAll.cons q1 q2⟩
end
end
section
variable {X : Cx}
def rEqD (K : PySem.W.Frag) : R2 := fun x y H Q => ∃ d e, Dp K H x d ∧ Dp K H y e ∧ SeqAt.shaped d = true ∧ SeqAt.shaped e = true ∧ Q (.bl (PyData.eqv d e)) H
def rNeD (K : PySem.W.Frag) : R2 := fun x y H Q => ∃ d e, Dp K H x d ∧ Dp K H y e ∧ SeqAt.shaped d = true ∧ SeqAt.shaped e = true ∧ Q (.bl (!PyData.eqv d e)) H
theorem op_eqD (hu : X.A.units + 64 < cLine) : OpR X (compareOp .Eq) (rEqD X.K) := by
  intro pins s σ H x y v u Q I rx ry h
  obtain ⟨d, e, hd, he, sd, se, q⟩ := h
  obtain ⟨as, r1⟩ := Dp.reads I d x v hd rx
  obtain ⟨bs, r2⟩ := Dp.reads I e y u he ry
  exact SeqAt.compareEq_shaped r1 r2 sd se hu ⟨.bl _, H, I, rfl, q⟩
theorem op_neD (hu : X.A.units + 64 < cLine) : OpR X (compareOp .NotEq) (rNeD X.K) := by
  intro pins s σ H x y v u Q I rx ry h
  obtain ⟨d, e, hd, he, sd, se, q⟩ := h
  obtain ⟨as, r1⟩ := Dp.reads I d x v hd rx
  obtain ⟨bs, r2⟩ := Dp.reads I e y u he ry
  exact SeqAt.compareNe_shaped r1 r2 sd se hu ⟨.bl _, H, I, rfl, q⟩
end
end L2

namespace L2
open PySem PySem.Spec PyProof.Rows
abbrev CellAt (h : Heap) (c : Addr) (v : Option Value) : Prop := h.IsCell c v
def relS (scope sc : Scope) : Scope :=
  { scope with names := scope.names.map fun (n, k) => if (k == .free && sc.kind == .function && sc.names.lookup n == some .cell) then (n, .cell) else (n, k) }

def cloFrom (cells : List (Str × Addr)) : List (Str × NameKind) → List (Str × Addr) → List (Str × Addr)
  | [], acc => acc
  | (n, k) :: r, acc => if k == .free then cloFrom cells r ((n, (cells.lookup n).getD 0) :: acc) else cloFrom cells r acc

theorem closure_loop (env : Env) (f : Str × NameKind → List (Str × Addr) → Sem (ForInStep (List (Str × Addr))))
    (hf : ∀ n k c, f (n, k) c = if k == .free then (do let a ← cellOf env n; pure (.yield ((n, a) :: c))) else pure (.yield c)) :
    ∀ (names : List (Str × NameKind)) (acc : List (Str × Addr)), (∀ y ∈ names, y.2 = .free → ∃ c, env.cells.lookup y.1 = some c) → forIn names acc f = pure (cloFrom env.cells names acc)
  | [], acc, _ => by rw [List.forIn_nil]; rfl
  | (n, k) :: r, acc, h => by
    rw [List.forIn_cons, hf]
    have ih := fun acc => closure_loop env f hf r acc fun y hy => h y (List.mem_cons_of_mem _ hy)
    unfold cloFrom
    by_cases hk : (k == NameKind.free) = true
    · rw [if_pos hk, if_pos hk]
      obtain ⟨c, hc⟩ := h (n, k) List.mem_cons_self (by simpa using hk)
      have e : cellOf env n = pure c := by unfold cellOf; rw [hc]
      rw [e]
      have e2 : (env.cells.lookup n).getD 0 = c := by rw [hc]; rfl
      rw [e2]
      exact ih _
    · rw [if_neg hk, if_neg hk]
      exact ih _
theorem closure_ok {scope : Scope} {env : Env} (h : ∀ y ∈ scope.names, y.2 = .free → ∃ c, env.cells.lookup y.1 = some c) : closureFor scope env = pure (cloFrom env.cells scope.names []) := by
  simp only [closureFor]
  rw [closure_loop env _ (fun n k c => rfl) scope.names [] h]
  rfl

theorem mem_lookup {α : Type} : ∀ {l : List (Str × α)} {n : Str} {c : α}, (n, c) ∈ l → ∃ c', l.lookup n = some c'
  | (k, v) :: r, n, c, h => by
    rw [List.lookup_cons]
    cases hb : n == k with
    | true => exact ⟨_, rfl⟩
    | false =>
      rcases List.mem_cons.mp h with e | h
      · cases e; simp at hb
      · exact mem_lookup h

theorem cloFrom_mem {cells : List (Str × Addr)} : ∀ {names : List (Str × NameKind)} {acc : List (Str × Addr)} {n : Str} {c : Addr}, (n, c) ∈ cloFrom cells names acc → (n, c) ∈ acc ∨ ((n, .free) ∈ names ∧ c = (cells.lookup n).getD 0)
  | [], _, _, _, h => .inl h
  | (m, k) :: r, acc, n, c, h => by
    unfold cloFrom at h
    split at h
    · rename_i hk
      have hk : k = .free := by simpa using hk
      rcases cloFrom_mem h with h | ⟨h1, h2⟩
      · rcases List.mem_cons.mp h with e | h
        · cases e; exact .inr ⟨hk ▸ List.mem_cons_self, rfl⟩
        · exact .inl h
      · exact .inr ⟨List.mem_cons_of_mem _ h1, h2⟩
    · rcases cloFrom_mem h with h | ⟨h1, h2⟩
      · exact .inl h
      · exact .inr ⟨List.mem_cons_of_mem _ h1, h2⟩
theorem cloFrom_acc {cells : List (Str × Addr)} : ∀ {names : List (Str × NameKind)} {acc : List (Str × Addr)} {p : Str × Addr}, p ∈ acc → p ∈ cloFrom cells names acc
  | [], _, _, h => h
  | (m, k) :: r, acc, p, h => by
    unfold cloFrom
    split
    · exact cloFrom_acc (List.mem_cons_of_mem _ h)
    · exact cloFrom_acc h
theorem cloFrom_has {cells : List (Str × Addr)} : ∀ {names : List (Str × NameKind)} {acc : List (Str × Addr)} {n : Str}, (n, .free) ∈ names → (n, (cells.lookup n).getD 0) ∈ cloFrom cells names acc
  | (m, k) :: r, acc, n, h => by
    unfold cloFrom
    rcases List.mem_cons.mp h with e | h
    · cases e
      exact cloFrom_acc List.mem_cons_self
    · split
      · exact cloFrom_has h
      · exact cloFrom_has h

theorem cells_mem : ∀ {names : List (Str × NameKind)} {h : Heap} {acc : List (Str × Addr)} {x : Str} {c : Addr}, (x, c) ∈ cellsFrom h.objs.size names acc →
    (x, c) ∈ acc ∨ ((x, .cell) ∈ names ∧ h.objs.size ≤ c ∧ CellAt (pushCells h names) c none)
  | [], _, _, _, _, h => .inl h
  | (n, k) :: r, h, acc, x, c, hm => by
    unfold cellsFrom at hm
    unfold pushCells
    split at hm
    · rename_i hk
      rw [if_pos hk]
      have hk : k = .cell := by simpa using hk
      rw [← Heap.size_push h { cls := .type "cell", data := .cell none }] at hm
      rcases cells_mem hm with hm | ⟨h1, h2, h3⟩
      · rcases List.mem_cons.mp hm with e | hm
        · cases e
          exact .inr ⟨hk ▸ List.mem_cons_self, Nat.le_refl _, _, pushCells_keeps r _ _ _ (Heap.get?_push_size _ rfl), rfl⟩
        · exact .inl hm
      · rw [Heap.size_push] at h2
        exact .inr ⟨List.mem_cons_of_mem _ h1, Nat.le_of_succ_le h2, h3⟩
    · rename_i hk
      rw [if_neg hk]
      rcases cells_mem hm with hm | ⟨h1, h2, h3⟩
      · exact .inl hm
      · exact .inr ⟨List.mem_cons_of_mem _ h1, h2, h3⟩
theorem cells_acc : ∀ {names : List (Str × NameKind)} {n : Nat} {acc : List (Str × Addr)} {p : Str × Addr}, p ∈ acc → p ∈ cellsFrom n names acc
  | [], _, _, _, h => h
  | (m, k) :: r, n, acc, p, h => by
    unfold cellsFrom
    split
    · exact cells_acc (List.mem_cons_of_mem _ h)
    · exact cells_acc h
theorem cells_has : ∀ {names : List (Str × NameKind)} {n : Nat} {acc : List (Str × Addr)} {x : Str}, (x, .cell) ∈ names → ∃ c, (x, c) ∈ cellsFrom n names acc
  | (m, k) :: r, n, acc, x, h => by
    unfold cellsFrom
    rcases List.mem_cons.mp h with e | h
    · cases e
      exact ⟨n, cells_acc List.mem_cons_self⟩
    · split
      · exact cells_has h
      · exact cells_has h
theorem cells_inj : ∀ {names : List (Str × NameKind)} {h : Heap} {acc : List (Str × Addr)} {x y : Str} {c : Addr}, (∀ p ∈ acc, p.2 < h.objs.size) → (∀ x y c, (x, c) ∈ acc → (y, c) ∈ acc → x = y) →
    (x, c) ∈ cellsFrom h.objs.size names acc → (y, c) ∈ cellsFrom h.objs.size names acc → x = y
  | [], _, _, _, _, _, _, hi, h1, h2 => hi _ _ _ h1 h2
  | (n, k) :: r, h, acc, x, y, c, hl, hi, h1, h2 => by
    unfold cellsFrom at h1 h2
    split at h1
    · rename_i hk
      rw [if_pos hk] at h2
      rw [← Heap.size_push h { cls := .type "cell", data := .cell none }] at h1 h2
      refine cells_inj (h := h.push _) (fun p hp => ?_) (fun x y c a b => ?_) h1 h2
      · rw [Heap.size_push]
        rcases List.mem_cons.mp hp with rfl | hp
        · exact Nat.lt_succ_self _
        · exact Nat.lt_succ_of_lt (hl p hp)
      · rcases List.mem_cons.mp a with e | a <;> rcases List.mem_cons.mp b with e' | b
        · cases e; cases e'; rfl
        · cases e; exact absurd (hl _ b) (Nat.lt_irrefl _)
        · cases e'; exact absurd (hl _ a) (Nat.lt_irrefl _)
        · exact hi _ _ _ a b
    · rename_i hk
      rw [if_neg hk] at h2
      exact cells_inj hl hi h1 h2

theorem newEnv_comp {M : Model} {A : Around} {E : Value → Shared → Prop} {s : Shared} {scope : Scope} {globals : Addr} {closure : List (Str × Addr)} {qual : Str} {func : Option Addr} {code : Value} {around : Env} {builtins : Addr} {Q : Env → Shared → Prop}
    (h : Q (newEnv scope s.heap.objs.size globals (cellsFrom (s.heap.objs.size + 1) scope.names closure) qual func code (some around) builtins)
      { s with heap := pushCells (s.heap.push { cls := .type "dict", data := .dict #[] }) scope.names }) :
    wpAny M A (newFunctionEnv scope globals closure [] qual func code (some around) builtins) Q E s := by
  simp only [newFunctionEnv, Option.isSome_some, if_true]
  refine wpAny_bind (wpAny_alloc ?_)
  refine wpAny_bind (wpAny_layCells _ (fun n k c => rfl) scope.names closure _ _ ?_)
  rw [show ({ s with heap := s.heap.push { cls := .type "dict", data := .dict #[] } } : Shared).heap.objs.size = s.heap.objs.size + 1 from Heap.size_push ..]
  rw [List.forIn_nil]
  exact wpAny_bind (wpAny_pure (wpAny_pure h))

/-- every name of the written scope, in the scope that runs -/
theorem lookup_relS {sc : Scope} : ∀ {names : List (Str × NameKind)} {x : Str} {k : NameKind},
    (names.map fun (n, k) => if (k == NameKind.free && sc.kind == .function && sc.names.lookup n == some .cell) then (n, NameKind.cell) else (n, k)).lookup x = some k →
    ∃ k', names.lookup x = some k' ∧ (k = k' ∨ (k' = .free ∧ k = .cell))
  | [], _, _, h => by simp at h
  | (n, k₀) :: r, x, k, h => by
    have ih := @lookup_relS sc r x k
    have h' : List.lookup x ((if (k₀ == NameKind.free && sc.kind == .function && sc.names.lookup n == some .cell) = true then (n, NameKind.cell) else (n, k₀)) :: (r.map _)) = some k := h
    cases hx : x == n with
    | true =>
      simp only [List.lookup_cons, hx]
      by_cases hc : (k₀ == NameKind.free && sc.kind == .function && sc.names.lookup n == some .cell) = true
      · rw [if_pos hc] at h'
        simp only [List.lookup_cons, hx] at h'
        cases h'
        simp only [Bool.and_eq_true, beq_iff_eq] at hc
        exact ⟨k₀, rfl, .inr ⟨hc.1.1, rfl⟩⟩
      · rw [if_neg hc] at h'
        simp only [List.lookup_cons, hx] at h'
        cases h'
        exact ⟨_, rfl, .inl rfl⟩
    | false =>
      simp only [List.lookup_cons, hx]
      by_cases hc : (k₀ == NameKind.free && sc.kind == .function && sc.names.lookup n == some .cell) = true
      · rw [if_pos hc] at h'
        simp only [List.lookup_cons, hx] at h'
        exact ih h'
      · rw [if_neg hc] at h'
        simp only [List.lookup_cons, hx] at h'
        exact ih h'
/-- the names of a comprehension's block: its own (with their places in N), or captured -/
structure BlkOk (N : List Str) (sc scope : Scope) (own : List (Str × Nat)) : Prop where
  kind : scope.kind = .function
  uniq : ∀ y ∈ scope.names, scope.names.lookup y.1 = some y.2
  ix : ∀ p ∈ own, N[p.2]? = some p.1
  free : ∀ y ∈ scope.names, y.2 = .free → sc.names.lookup y.1 = some .cell ∨ sc.names.lookup y.1 = some .free
  own : ∀ y ∈ scope.names, y.2 = .local ∨ y.2 = .cell → y.1 ∈ own.map (·.1) ∨ y.1 ∉ N
/-- the slots of the block's own names forgotten -/
def wipe (σ : St) : List Nat → St
  | [] => σ
  | v :: vs => (wipe σ vs).set v none
theorem wipe_length (σ : St) : ∀ vs : List Nat, (wipe σ vs).length = σ.length
  | [] => rfl
  | v :: vs => by unfold wipe; rw [List.length_set, wipe_length σ vs]
theorem wipe_some {σ : St} {i : Nat} {x : V} : ∀ {vs : List Nat}, (wipe σ vs)[i]? = some (some x) → σ[i]? = some (some x) ∧ i ∉ vs
  | [], h => ⟨h, by simp⟩
  | v :: vs, h => by
    unfold wipe at h
    by_cases hi : v = i
    · subst hi
      by_cases hv : v < (wipe σ vs).length
      · rw [List.getElem?_set_self hv] at h; cases h
      · rw [List.getElem?_eq_none (by simpa using hv)] at h; cases h
    · rw [List.getElem?_set_ne hi] at h
      obtain ⟨h1, h2⟩ := wipe_some h
      exact ⟨h1, by simp only [List.mem_cons, not_or]; exact ⟨fun e => hi e.symm, h2⟩⟩

/-- the context of a block that starts at s, its iterator's objects at fp -/
abbrev Cx.blk (X : Cx) (s : Shared) (H : Hp) (scope : Scope) (cenv : Env) (fp : List Addr) : Cx := { X with s_0 := s, H_0 := H, env := cenv, outer := X.stack, ex := fp, fn := fun x => scope.names.lookup x == some .cell, pn := [], xe := fun _ _ => False }
section
variable {X : Cx} {pins : List (Addr × Obj)} {σ : St} {H : Hp} {s : Shared}
theorem block_start {scope : Scope} {own : List (Str × Nat)} {fp : List Addr} (I : Inv X pins σ H s) (ok : BlkOk X.N X.env.scope scope own) (hN : X.N.Nodup) (hfp : ∀ b ∈ fp, FpOk X pins H b ∧ b < s.heap.objs.size) :
    Inv (X.blk s H scope (compEnvC scope (cellsFrom (s.heap.objs.size + 1) scope.names (cloFrom X.env.cells scope.names [])) s.heap.objs.size X.env) fp) [] (wipe σ (own.map (·.2))) H { s with heap := pushCells (s.heap.push { cls := .type "dict", data := .dict #[] }) scope.names } := by
  have hfree : ∀ y ∈ scope.names, y.2 = .free → ∃ c, X.env.cells.lookup y.1 = some c := fun y hy e => by
    rcases ok.free y hy e with k | k
    · exact I.ok.has _ (.inl k)
    · exact I.ok.has _ (.inr k)
  generalize hcenv : compEnvC scope (cellsFrom (s.heap.objs.size + 1) scope.names (cloFrom X.env.cells scope.names [])) s.heap.objs.size X.env = cenv
  have kp : ∀ b o, s.heap.get? b = some o → (pushCells (s.heap.push { cls := .type "dict", data := .dict #[] }) scope.names).get? b = some o := fun b o e => pushCells_keeps _ _ _ _ (Heap.get?_push_of_some _ e)
  have hL : cenv.locals = s.heap.objs.size := by rw [← hcenv]; rfl
  have hcl : cenv.cells = cellsFrom (s.heap.objs.size + 1) scope.names (cloFrom X.env.cells scope.names []) := by rw [← hcenv]; rfl
  have hsc : cenv.scope = relS scope X.env.scope := by rw [← hcenv]; rfl
  rw [← Heap.size_push s.heap { cls := .type "dict", data := .dict #[] }] at hcl
  have cm : ∀ {y c}, (y, c) ∈ cloFrom X.env.cells scope.names [] → X.env.cells.lookup y = some c ∧ c < s.heap.objs.size := fun {y c} hm => by
    rcases cloFrom_mem hm with hm | ⟨h1, rfl⟩
    · cases hm
    · obtain ⟨c, hc⟩ := hfree _ h1 rfl
      rw [hc]
      obtain ⟨w, z⟩ := I.cell _ _ hc
      exact ⟨rfl, z.lt⟩
  have mem : ∀ {y c}, cenv.cells.lookup y = some c → (X.env.cells.lookup y = some c ∧ c < s.heap.objs.size) ∨ (s.heap.objs.size + 1 ≤ c ∧ CellAt (pushCells (s.heap.push { cls := .type "dict", data := .dict #[] }) scope.names) c none) := fun {y c} e => by
    rw [hcl] at e
    rcases cells_mem (PySem.mem_of_lookup e) with hm | ⟨_, h2, h3⟩
    · exact .inl (cm hm)
    · rw [Heap.size_push] at h2; exact .inr ⟨h2, h3⟩
  have look : ∀ {y}, scope.names.lookup y = some .free → ∃ c, cenv.cells.lookup y = some c ∧ X.env.cells.lookup y = some c := fun {y} hl => by
    have hy : (y, NameKind.free) ∈ scope.names := PySem.mem_of_lookup hl
    obtain ⟨c', e'⟩ := mem_lookup (cells_acc (names := scope.names) (n := (s.heap.push { cls := .type "dict", data := .dict #[] }).objs.size) (cloFrom_has (cells := X.env.cells) (acc := []) hy))
    rw [← hcl] at e'
    refine ⟨c', e', ?_⟩
    rw [hcl] at e'
    rcases cells_mem (PySem.mem_of_lookup e') with hm | ⟨h1, _, _⟩
    · exact (cm hm).1
    · have := ok.uniq _ h1
      rw [hl] at this; cases this
  have okB : (X.blk s H scope cenv fp).Ok := by
    refine ⟨I.ok.mod, by show cenv.scope.kind = _; rw [hsc]; exact ok.kind, by show cenv.globals = _; rw [← hcenv]; exact I.ok.glob, by show cenv.builtins = _; rw [← hcenv]; exact I.ok.blt, by show s.heap.objs.size ≤ cenv.locals; rw [hL]; exact Nat.le_refl _,
      fun y z c e1 e2 => ?_, fun y hy => ?_, fun y c z e => ?_, I.ok.hd, I.ok.frames, .inl rfl, fun b hb => ⟨?_, fun y c e z => ?_⟩, I.bs, Nat.le_trans I.ok.bsz I.sz, fun b o e hb => ?_, fun b hb z => ?_, I.stack, I.stkFree⟩
    · have e1 : cenv.cells.lookup y = some c := e1
      have e2 : cenv.cells.lookup z = some c := e2
      rw [hcl] at e1 e2
      refine cells_inj (fun p hp => ?_) (fun y z c a b => I.ok.inj y z c (cm a).1 (cm b).1) (PySem.mem_of_lookup e1) (PySem.mem_of_lookup e2)
      rw [Heap.size_push]
      exact Nat.lt_succ_of_lt (cm (y := p.1) (c := p.2) hp).2
    · show ∃ c, cenv.cells.lookup y = some c
      have key : ∀ k, cenv.kindOf y = some k → (k = .cell ∨ k = .free) → ∃ c, cenv.cells.lookup y = some c := fun k hk hk' => by
        unfold Env.kindOf at hk
        rw [hsc] at hk
        obtain ⟨k', e, r⟩ := lookup_relS hk
        have : k' = .cell ∨ k' = .free := by
          rcases r with rfl | ⟨rfl, _⟩
          · exact hk'
          · exact .inr rfl
        rcases this with rfl | rfl
        · obtain ⟨c, hm⟩ := cells_has (n := (s.heap.push { cls := .type "dict", data := .dict #[] }).objs.size) (acc := cloFrom X.env.cells scope.names []) (PySem.mem_of_lookup e)
          obtain ⟨c', e'⟩ := mem_lookup hm
          exact ⟨c', by rw [hcl]; exact e'⟩
        · obtain ⟨c, h1, _⟩ := look e
          exact ⟨c, h1⟩
      rcases hy with hy | hy
      · exact key _ hy (.inl rfl)
      · exact key _ hy (.inr rfl)
    · have z : (scope.names.lookup y == some NameKind.cell) = true := z
      have z : scope.names.lookup y = some .cell := by simpa using z
      have e : cenv.cells.lookup y = some c := e
      rw [hcl] at e
      rcases cells_mem (PySem.mem_of_lookup e) with hm | ⟨_, h2, _⟩
      · rcases cloFrom_mem hm with hm | ⟨h1, _⟩
        · cases hm
        · have q := ok.uniq _ h1
          rw [z] at q; cases q
      · rw [Heap.size_push] at h2
        exact Nat.le_of_succ_le h2
    · show b ≠ cenv.locals
      rw [hL]; exact Nat.ne_of_lt (hfp b hb).2
    · have e : cenv.cells.lookup y = some c := e
      rcases mem e with ⟨h1, _⟩ | ⟨h1, _⟩
      · exact (hfp b hb).1.2.2.2.2.1 y c h1 z
      · have h2 : s.heap.objs.size + 1 ≤ b := by rw [← z]; exact h1
        exact absurd (Nat.lt_of_lt_of_le (hfp b hb).2 (Nat.le_of_succ_le h2)) (Nat.lt_irrefl _)
    · rcases (hfp b hb).1.2.2.2.1 with z | z
      · exact I.ok.noex b o e z
      · exact absurd (Nat.lt_of_lt_of_le (Heap.lt_size e) (Nat.le_trans I.ok.bsz z)) (Nat.lt_irrefl _)
    · rcases List.mem_cons.mp (I.stkSub b z) with z | z
      · exact (hfp b hb).1.2.1 z
      · exact (hfp b hb).1.2.2.1 z
  refine ⟨okB, rfl, I.bare, Un.kept kp, ⟨fun _ => none, ?_, fun i y av e1 e2 e3 => ?_⟩, fun y c e => ?_, ?_, fun y c e => ?_, fun p hp => ?_, I.hok.kept kp, by rw [wipe_length]; exact I.len⟩
  · show Heap.Ns _ cenv.locals _
    rw [hL]
    exact Heap.Ns.keeps (Heap.Ns.new ..) fun b o e => pushCells_keeps _ _ _ _ e
  · obtain ⟨e2, hne⟩ := wipe_some e2
    have hfr : scope.names.lookup y = some .free ∧ (cenv.kindOf y = some .cell ∨ cenv.kindOf y = some .free) := by
      have key : ∀ k, cenv.scope.names.lookup y = some k → k = .local ∨ k = .cell ∨ k = .free → scope.names.lookup y = some .free ∧ (cenv.kindOf y = some .cell ∨ cenv.kindOf y = some .free) := fun k hk hk' => by
        have hk0 := hk
        rw [hsc] at hk
        obtain ⟨k', e, r⟩ := lookup_relS hk
        have no : ¬ (k' = .local ∨ k' = .cell) := fun hh => by
          rcases ok.own _ (PySem.mem_of_lookup e) hh with e' | e'
          · obtain ⟨p, hp, hpy⟩ := List.mem_map.mp e'
            have e3 := ok.ix p hp
            have : p.1 = y := hpy
            rw [this] at e3
            exact hne (List.mem_map.mpr ⟨p, hp, nodup_ix hN e3 e1⟩)
          · exact e' (List.mem_of_getElem? e1)
        rcases r with rfl | ⟨rfl, rfl⟩
        · rcases hk' with rfl | rfl | rfl
          · exact absurd (.inl rfl) no
          · exact absurd (.inr rfl) no
          · exact ⟨e, .inr hk0⟩
        · exact ⟨e, .inl hk0⟩
      have e3 : Vis cenv.scope y := e3
      rcases e3 with e3 | e3 | e3
      · exact key _ e3 (.inl rfl)
      · exact key _ e3 (.inr (.inl rfl))
      · exact key _ e3 (.inr (.inr rfl))
    obtain ⟨m, hn, hl⟩ := I.loc
    have hvis : Vis X.env.scope y := (ok.free _ (PySem.mem_of_lookup hfr.1) rfl).elim (fun k => .inr (.inl k)) (fun k => .inr (.inr k))
    obtain ⟨w, r, q⟩ := hl i y av e1 e2 hvis
    refine ⟨w, r, .inr ⟨hfr.2, ?_⟩⟩
    obtain ⟨c, h1, h2⟩ := look hfr.1
    rcases q with ⟨k, _⟩ | ⟨_, c', e', z⟩
    · have k : X.env.scope.names.lookup y = some .local := k
      rcases ok.free _ (PySem.mem_of_lookup hfr.1) rfl with k' | k' <;> rw [show X.env.scope.names.lookup y = _ from k'] at k <;> cases k
    · rw [h2] at e'; cases e'
      exact ⟨c, h1, z.keeps kp⟩
  · have e : cenv.cells.lookup y = some c := e
    rcases mem e with ⟨h1, _⟩ | ⟨_, z⟩
    · obtain ⟨w, z⟩ := I.cell y c h1
      exact ⟨w, z.keeps kp⟩
    · exact ⟨_, z⟩
  · show H cenv.locals = none
    rw [hL]; exact I.hok.fresh (Nat.le_refl _)
  · have e : cenv.cells.lookup y = some c := e
    rcases mem e with ⟨h1, _⟩ | ⟨h1, _⟩
    · exact I.freeC y c h1
    · exact I.hok.fresh (Nat.le_of_succ_le h1)
  · exact absurd (show p ∈ ([] : List (Addr × Obj)) ++ [] from hp) (by simp)

/-- an item appended to a tracked list -/
theorem app_ok {E : Value → Shared → Prop} {D : Addr} {xs : List V} {y : V} {v : Value} {Q : Value → Shared → Prop} (I : Inv X pins σ H s) (hD : H D = some (.lst xs)) (hz : xs.length < sizeLine) (r : RelV y v)
    (h : ∀ s', Inv X pins σ (upd H D (.lst (xs ++ [y]))) s' → Q .none s') : wpAny (model X.prog X.w) X.A (call (.builtin "list.append") [.ref D, v]) Q E s := by
  obtain ⟨hz', its, n, ri, e⟩ := I.hok D _ hD
  have hl := ri.length
  refine append_at (hsz := by rw [List.size_toArray]; omega) e fun h' sb ho' => ?_
  refine h { s with heap := h' } (I.write (t' := s.toks) (by rw [hD]; trivial) (.inl rfl) (fun b u hb q => (sb.2 b hb).trans q) ⟨_, ho'⟩ ⟨by rw [List.length_append]; exact hz, its ++ [v], n + 1, ri.append (.cons r .nil), ?_⟩)
  rw [ho']
  simp

/-- a clause's tests -/
def PTs (X : Cx) (ifs : List Expr) (t : TT) : Prop :=
  ∀ (pins : List (Addr × Obj)) (s : Shared) (σ : St) (H : Hp) (Q : Bool → Hp → Prop), Inv X pins σ H s → t σ H Q →
    wpAny (model X.prog X.w) X.A (forIn ifs true fun c r => if r = true then do let ok ← isTrue c X.env (eval c X.env); pure (ForInStep.yield ok) else pure (ForInStep.yield r)) (TP X pins σ Q) X.xe s
def tYes : TT := fun _ H Q => Q true H
theorem pts_nil : PTs X [] tYes := fun _ _ _ H _ I h => wpAny_tests_nil ⟨H, I, h⟩
theorem pts_one {c : Expr} {t : TT} (h : PT X c t) : PTs X [c] t := fun pins s σ H Q I hw => wpAny_tests_one (h pins s σ H Q I hw)
end

theorem thnF {α : Type} {t : Sem α} {Q Q' : α → Shared → Prop} {M : Model} {A : Around} {E : Value → Shared → Prop} {s : Shared} (h : wpAny M A t Q (fun _ _ => False) s) (hQ : ∀ a s, Q a s → Q' a s) : wpAny M A t Q' E s := wpAny_mono h hQ fun _ _ z => False.elim z

/-- the loop of a list comprehension's block, the target of any form (codeAny_compLoop_tests asks a target that no tuple goes to; statement and proof follow it, PyProof/CompMap.lean:41-61, with the step letOwnedTupleGo kept) -/
theorem compLoop_any {prog : Program} {w : World} {A : Around} {R : Result → Shared → Prop} {s : Shared} {elt target iter : Expr} {ifs : List Expr} {scope : Scope} {pos : Pos} {it acc : Value} {env : Env} (I : Nat → Shared → Prop)
    (turn : ∀ n s, I n s → wpAny (model prog w) A (pyNext it) (fun r s₁ => match r with
      | none => R (.ok .next) s₁
      | some v => wpAny (model prog w) A (letOwnedTupleGo target it v) (fun _ s₁' => wpAny (model prog w) A (assign target env v) (fun _ s₂ =>
          wpAny (model prog w) A (forIn ifs true fun c r => if r = true then do let ok ← isTrue c env (eval c env); pure (ForInStep.yield ok) else pure (ForInStep.yield r)) (fun ok s₃ =>
            if ok = true then wpAny (model prog w) A (eval elt env) (fun x s₄ =>
              wpAny (model prog w) A (call (.builtin "list.append") [acc, x]) (fun _ s₅ => ∃ m, m < n ∧ I m s₅) (notedBy (model prog w) A env fun e s' => R (.error e) s') s₄) (notedBy (model prog w) A env fun e s' => R (.error e) s') s₃
            else ∃ m, m < n ∧ I m s₃) (notedBy (model prog w) A env fun e s' => R (.error e) s') s₂) (notedBy (model prog w) A env fun e s' => R (.error e) s') s₁') (notedBy (model prog w) A env fun e s' => R (.error e) s') s₁) (notedBy (model prog w) A env fun e s' => R (.error e) s') s)
    (n : Nat) (h : I n s) :
    codeAny (model prog w) A (.compLoop (.ListComp elt [⟨target, iter, ifs, 0⟩] scope pos) 0 it acc env) R s := by
  refine codeAny_loop rfl I (fun n s hI => ?_) n h
  show wpAny _ A ((compTurn (.ListComp elt [⟨target, iter, ifs, 0⟩] scope pos) 0 it acc env).onRaise (fun x => do noteFrame x env; theTreesLotGoes x)) _ _ s
  refine wpAny_noted ?_
  rw [compTurn_list]
  refine wpAny_bind (wpAny_standAt (wpAny_bind (wpAny_mono (turn n s hI) (fun r s₁ h₁ => ?_) fun _ _ h' => h')))
  cases r with
  | none => exact wpAny_pure h₁
  | some v =>
    refine wpAny_bind (wpAny_mono h₁ (fun _ s₁' h₁' => ?_) fun _ _ h' => h')
    refine wpAny_bind (wpAny_mono h₁' (fun _ s₂ h₂ => wpAny_bind (wpAny_mono h₂ (fun ok s₃ h₃ => ?_) fun _ _ h' => h')) fun _ _ h' => h')
    cases ok with
    | false => exact wpAny_pure ⟨rfl, h₃⟩
    | true =>
      exact wpAny_bind (wpAny_bind (wpAny_mono h₃ (fun x s₄ h₄ => wpAny_bind (wpAny_mono h₄ (fun _ s₅ h₅ => wpAny_pure (wpAny_pure ⟨rfl, h₅⟩)) fun _ _ h' => h')) fun _ _ h' => h'))

section
variable {X : Cx}
/-- [elt for target in iter if ..]: D the new list; W by the turn and a measure, Nx what a turn is to reach -/
def tLc (wi : TI) (g : TG) (tt : TT) (te : TE) (vs : List Nat) : TE := fun σ H Q => wi σ H fun J H1 => ∀ D, H1 D = none → ∃ W : Nat → Nat → Hp → Prop, (∃ m, W 0 m (upd H1 D (.lst []))) ∧ ∀ i m H, W i m H →
  (J.stop i H ∧ Q (.ref D) H) ∨ (J.go i H ∧ ∃ Nx : Hp → Prop, (∀ H', Nx H' → ∃ m', m' < m ∧ W (i + 1) m' H') ∧ ∀ x H', J.yld i H x H' → g x (wipe σ vs) H' fun σ2 H2 => wipe σ2 vs = wipe σ vs ∧ tt σ2 H2 fun b H3 =>
    if b = true then te σ2 H3 fun y H4 => ∃ acc, H4 D = some (.lst acc) ∧ acc.length < sizeLine ∧ Nx (upd H4 D (.lst (acc ++ [y]))) else Nx H3)
theorem lc_core {pins : List (Addr × Obj)} {s : Shared} {σ : St} {H : Hp} {Q : VK} {elt tg iter : Expr} {ifs : List Expr} {scope : Scope} {own : List (Str × Nat)} {pos pos' : Pos} {wi : TI} {g : TG} {tt : TT} {te : TE} {use : Option (Value → Sem Unit)} {Qf : Value → Shared → Prop}
    (hc : X.calm = true) (hN : X.N.Nodup) (I : Inv X pins σ H s) (hi : PI X tg iter wi) (ok : BlkOk X.N X.env.scope scope own)
    (hg : ∀ (s : Shared) (H : Hp) (C : Addr) (cl : List (Str × Addr)) (fp : List Addr), PG (X.blk s H scope (compEnvC scope cl C X.env) fp) tg g) (ht : ∀ (s : Shared) (H : Hp) (C : Addr) (cl : List (Str × Addr)) (fp : List Addr), PTs (X.blk s H scope (compEnvC scope cl C X.env) fp) ifs tt)
    (he : ∀ (s : Shared) (H : Hp) (C : Addr) (cl : List (Str × Addr)) (fp : List Addr), PE (X.blk s H scope (compEnvC scope cl C X.env) fp) elt te) (hs : ∀ x, foldedSetIterable iter X.env x = pure x)
    (h : tLc wi g tt te (own.map (·.2)) σ H Q)
    (hRR : ∀ D C s' m H', Inv X pins σ H' s' → Q (.ref D) H' → s'.heap.Ns C m → FpOk X pins H' C → compPost (model X.prog X.w) X.A X.xe use Qf (.ref D) C (.ok .next) s') :
    wpAny (model X.prog X.w) X.A (comprehension (.ListComp elt [⟨tg, iter, ifs, 0⟩] scope pos) scope X.env pos' (newList []) false (eval iter X.env) use) Qf X.xe s := by
  have hfree : ∀ y ∈ scope.names, y.2 = .free → ∃ c, X.env.cells.lookup y.1 = some c := fun y hy e => by
    rcases ok.free y hy e with k | k
    · exact I.ok.has _ (.inl k)
    · exact I.ok.has _ (.inr k)
  refine wpAny_comprehension_free (use := use) rfl hs (closure_ok hfree) ok.kind (fun y hy e => by rw [ok.uniq y hy, e])
    (thn (hi pins s σ H _ I h) fun xv s1 hx => thn hx fun itv s2 h2 => ?_)
  obtain ⟨it, fp, tn, J, H2, e, I2, T, st2, f2, q⟩ := h2
  subst e
  refine wpAny_newObj_type (newEnv_comp ?_) (by show 0 ≤ sizeLine; decide)
  generalize hD : s2.heap.objs.size = D
  have hDn : H2 D = none := I2.hok.fresh (Nat.le_of_eq hD)
  obtain ⟨W, ⟨m0, w0⟩, turn⟩ := q D hDn
  -- the new list
  generalize hs3 : ({ s2 with heap := s2.heap.push { cls := .type "list", data := .seq ([] : List Value).toArray } } : Shared) = s3
  have I3 : Inv X pins σ (upd H2 D (.lst [])) s3 := by
    rw [← hs3]
    refine I2.laid (t' := s2.toks) (fun b o e => Heap.get?_push_of_some _ e) (Nat.le_of_eq hD) ⟨Nat.zero_le _, [], 0, .nil, ?_⟩
    rw [← hD]
    exact Heap.get?_push_size _ rfl
  have h3 : s3.heap = s2.heap.push { cls := .type "list", data := .seq ([] : List Value).toArray } := by rw [← hs3]
  have sz : ∀ b ∈ fp, b < s2.heap.objs.size := fun b hb => by
    obtain ⟨o, e, _⟩ := T.obj _ _ st2 b hb
    exact Heap.lt_size e
  have f3 : ∀ b ∈ fp, FpOk X pins (upd H2 D (.lst [])) b ∧ b < s3.heap.objs.size := fun b hb => by
    have hlt := sz b hb
    refine ⟨⟨?_, (f2 b hb).2⟩, by rw [h3, Heap.size_push]; exact Nat.lt_succ_of_lt hlt⟩
    rw [upd_ne (by rw [← hD]; exact Nat.ne_of_lt hlt)]
    exact (f2 b hb).1
  have st3 : tn 0 s3.heap := T.keep _ _ _ st2 fun b _ o e => by rw [h3]; exact Heap.get?_push_of_some _ e
  have I4 := block_start I3 ok hN f3
  have pg := hg s3 (upd H2 D (.lst [])) s3.heap.objs.size (cellsFrom (s3.heap.objs.size + 1) scope.names (cloFrom X.env.cells scope.names [])) fp
  have pt := ht s3 (upd H2 D (.lst [])) s3.heap.objs.size (cellsFrom (s3.heap.objs.size + 1) scope.names (cloFrom X.env.cells scope.names [])) fp
  have pe := he s3 (upd H2 D (.lst [])) s3.heap.objs.size (cellsFrom (s3.heap.objs.size + 1) scope.names (cloFrom X.env.cells scope.names [])) fp
  show codeAny _ _ (.compStart (.ListComp elt [⟨tg, iter, ifs, 0⟩] scope pos) 0 (.ref it) (.ref D) (compEnvC scope (cellsFrom (s3.heap.objs.size + 1) scope.names (cloFrom X.env.cells scope.names [])) s3.heap.objs.size X.env)) (compPost (model X.prog X.w) X.A X.xe use Qf (.ref D) s3.heap.objs.size) { s3 with heap := pushCells (s3.heap.push { cls := .type "dict", data := .dict #[] }) scope.names }
  have nfp : ∀ b ∈ fp, (upd H2 D (.lst [])) b = none := fun b hb => (f3 b hb).1.1
  generalize hce : compEnvC scope (cellsFrom (s3.heap.objs.size + 1) scope.names (cloFrom X.env.cells scope.names [])) s3.heap.objs.size X.env = ce at I4 pg pt pe ⊢
  have cL : ce.locals = s3.heap.objs.size := by subst hce; rfl
  generalize hH3 : upd H2 D (.lst []) = H3 at I3 I4 pg pt pe w0 nfp f3
  generalize hs4 : ({ s3 with heap := pushCells (s3.heap.push { cls := .type "dict", data := .dict #[] }) scope.names } : Shared) = s4 at I4 ⊢
  have st4 : tn 0 s4.heap := T.keep _ _ _ st3 fun b _ o e => by rw [← hs4]; exact pushCells_keeps _ _ _ _ (Heap.get?_push_of_some _ e)
  have stat : ∀ {σ' : St} {H' : Hp} {s' : Shared}, Inv (X.blk s3 H3 scope ce fp) [] σ' H' s' → (∀ b ∈ fp, H' b = none) → ∀ b ∈ fp, FpOk (X.blk s3 H3 scope ce fp) [] H' b := fun {σ' H' s'} I' hn b hb =>
    ⟨hn b hb, (I'.ok.exf b hb).1, I'.ok.exfs b hb, .inl hb, fun x c e => (I'.ok.exf b hb).2 x c e, fun p hp => absurd (show p ∈ ([] : List (Addr × Obj)) ++ [] from hp) (by simp)⟩
  have loop : codeAny (model X.prog X.w) X.A (.compLoop (.ListComp elt [⟨tg, iter, ifs, 0⟩] scope pos) 0 (.ref it) (.ref D) ce) (compPost (model X.prog X.w) X.A X.xe use Qf (.ref D) s3.heap.objs.size) s4 := by
    refine compLoop_any (fun n s' => ∃ i H', Inv (X.blk s3 H3 scope ce fp) [] (wipe σ (own.map (·.2))) H' s' ∧ tn i s'.heap ∧ (∀ b ∈ fp, H' b = none) ∧ W i n H') ?_ m0 ⟨0, H3, I4, st4, nfp, w0⟩
    rintro n s5 ⟨i, H5, I5, st5, n5, w5⟩
    rcases turn i n H5 w5 with ⟨stop, qq⟩ | ⟨go, Nx, hNx, step⟩
    · have td := T.done (X.blk s3 H3 scope ce fp) rfl rfl rfl hc i [] s5 _ H5 (fun _ _ => False) I5 (stat I5 n5) st5 stop
      refine thnF td fun r s6 ⟨hr, I6⟩ => ?_
      subst hr
      -- back in the def's context
      have I7 : Inv X pins σ H5 s6 := I3.call' (ch := fp) I6.os I6.base I6.hok I6.bare fun b hb => ⟨(f3 b hb).1.2.2.2.1, (f3 b hb).1.2.1, (f3 b hb).1.2.2.2.2.1, (f3 b hb).1.2.2.2.2.2⟩
      have nC : H5 s3.heap.objs.size = none := by
        have z : H5 ce.locals = none := I6.free
        rw [cL] at z
        exact z
      obtain ⟨m, hn, _⟩ := I6.loc
      have hn : s6.heap.Ns ce.locals m := hn
      rw [cL] at hn
      exact hRR D s3.heap.objs.size s6 m H5 I7 qq hn (I3.fpOk (Nat.le_refl _) nC)
    · have ti := T.item (X.blk s3 H3 scope ce fp) rfl rfl rfl hc i [] s5 _ H5 (fun _ _ => False) I5 (stat I5 n5) st5 go
      refine thnF ti fun r s6 ⟨u, hr, h6⟩ => ?_
      subst hr
      refine thnF h6 fun _ s7 ⟨x, H7, I7, r7, y7, st7, n7⟩ => ?_
      have I7' := I7.pinned (stat I7 n7) (T.obj _ _ st7)
      refine thnF (pg _ s7 _ H7 x u _ I7' r7 (step x H7 y7)) fun _ s8 ⟨σ8, H8, I8, hw8, q8⟩ => ?_
      refine thnF (pt _ s8 σ8 H8 _ I8 q8) fun b s9 ⟨H9, I9, q9⟩ => ?_
      -- the turn's end
      have fin : ∀ {s' : Shared} {H' : Hp}, Inv (X.blk s3 H3 scope ce fp) ([] ++ pinsAt fp s7.heap) σ8 H' s' → Nx H' → ∃ m, m < n ∧ ∃ i H', Inv (X.blk s3 H3 scope ce fp) [] (wipe σ (own.map (·.2))) H' s' ∧ tn i s'.heap ∧ (∀ b ∈ fp, H' b = none) ∧ W i m H' := fun {s' H'} I' nx => by
        obtain ⟨m', hm, w'⟩ := hNx H' nx
        have pin' : ∀ b ∈ fp, ∀ o, s7.heap.get? b = some o → s'.heap.get? b = some o ∧ H' b = none := fun b hb o e =>
          let z := I'.pin (b, o) (List.mem_append_right _ (List.mem_append_right _ (mem_pinsAt hb e)))
          ⟨z.1, z.2.1⟩
        have hl : (wipe σ (own.map (·.2))).length = σ8.length := by rw [← hw8, wipe_length]
        refine ⟨m', hm, i + 1, H', (I'.unpinned (pins := [])).weak hl (fun j v e => ?_), T.keep _ _ _ st7 fun b hb o e => (pin' b hb o e).1, fun b hb => ?_, w'⟩
        · rw [← hw8] at e
          exact (wipe_some e).1
        · obtain ⟨o, e, _⟩ := T.obj _ _ st7 b hb
          exact (pin' b hb o e).2
      cases b with
      | false =>
        simp only [Bool.false_eq_true, if_false] at q9 ⊢
        exact fin I9 q9
      | true =>
        simp only [if_true] at q9 ⊢
        refine thnF (pe _ s9 σ8 H9 _ I9 q9) fun z s10 ⟨yv, H10, I10, r10, acc, hD10, hz10, nx⟩ => ?_
        exact app_ok (X := X.blk s3 H3 scope ce fp) I10 hD10 hz10 r10 fun s11 I11 => fin I11 nx
  exact codeAny_compStart_list loop (T.self X.A 0 _ _ _ st4 loop)
/-- as a value -/
theorem pe_lc {elt tg iter : Expr} {ifs : List Expr} {scope : Scope} {own : List (Str × Nat)} {pos : Pos} {wi : TI} {g : TG} {tt : TT} {te : TE} (hc : X.calm = true) (hN : X.N.Nodup) (hi : PI X tg iter wi) (ok : BlkOk X.N X.env.scope scope own)
    (hg : ∀ (s : Shared) (H : Hp) (C : Addr) (cl : List (Str × Addr)) (fp : List Addr), PG (X.blk s H scope (compEnvC scope cl C X.env) fp) tg g) (ht : ∀ (s : Shared) (H : Hp) (C : Addr) (cl : List (Str × Addr)) (fp : List Addr), PTs (X.blk s H scope (compEnvC scope cl C X.env) fp) ifs tt)
    (he : ∀ (s : Shared) (H : Hp) (C : Addr) (cl : List (Str × Addr)) (fp : List Addr), PE (X.blk s H scope (compEnvC scope cl C X.env) fp) elt te) (hs : ∀ x, foldedSetIterable iter X.env x = pure x := by intro _; rfl) :
    PE X (.ListComp elt [⟨tg, iter, ifs, 0⟩] scope pos) (tLc wi g tt te (own.map (·.2))) := by
  intro pins s σ H Q I h
  rw [eval_ListComp]
  refine lc_core hc hN I hi ok hg ht he hs h fun D C s' m H' I' q hn f => ⟨m, hn, fun h'' sb => ?_⟩
  obtain ⟨f0, f1, f2, f3, f4, f5⟩ := f
  exact ⟨.ref D, H', I'.turned (t' := s'.toks) (fun b o hb e => (sb.2 b hb).trans e) f0 f1 f3 f4 f5, rfl, q⟩
end

/-! ### the forms one uses -/
def blkC (N : List Str) (sc scope : Scope) (own : List (Str × Nat)) : Bool :=
  (match scope.kind with | .function => true | _ => false) && (scope.names.all fun y => decide (scope.names.lookup y.1 = some y.2)) && (own.all fun p => decide (N[p.2]? = some p.1)) &&
    (scope.names.all fun y => match y.2 with
      | .free => (match sc.names.lookup y.1 with | some .cell => true | some .free => true | _ => false)
      | .local => decide (y.1 ∈ own.map (·.1)) || decide (y.1 ∉ N)
      | .cell => decide (y.1 ∈ own.map (·.1)) || decide (y.1 ∉ N)
      | _ => true)
theorem blkOk_by {N : List Str} {sc scope : Scope} {own : List (Str × Nat)} (h : blkC N sc scope own = true) : BlkOk N sc scope own := by
  unfold blkC at h
  simp only [Bool.and_eq_true, List.all_eq_true, decide_eq_true_eq] at h
  obtain ⟨⟨⟨h1, h2⟩, h3⟩, h4⟩ := h
  refine ⟨?_, h2, h3, fun y hy e => ?_, fun y hy e => ?_⟩
  · split at h1
    · assumption
    · cases h1
  · have q := h4 y hy
    simp only [e] at q
    split at q <;> first | exact .inl (by assumption) | exact .inr (by assumption) | cases q
  · have q := h4 y hy
    rcases e with e | e <;> (simp only [e, Bool.or_eq_true, decide_eq_true_eq] at q; exact q)
end L2

namespace L2
open PySem PySem.Spec PyProof.Rows

section
variable {prog : Program} {w : World} {A : Around} {R : Result → Shared → Prop} {s : Shared} {elt t0 i0 t1 i1 : Expr} {ifs0 ifs1 : List Expr} {scope : Scope} {pos : Pos} {it acc : Value} {env : Env}
end

theorem wipe_out {σ : St} {i : Nat} : ∀ {vs : List Nat}, i ∉ vs → (wipe σ vs)[i]? = σ[i]?
  | [], _ => rfl
  | v :: vs, h => by
    have h1 : v ≠ i := fun e => h (by rw [e]; exact List.mem_cons_self)
    have h2 : i ∉ vs := fun m => h (List.mem_cons_of_mem _ m)
    unfold wipe
    rw [List.getElem?_set_ne h1]
    exact wipe_out h2
section
variable {X : Cx}
/-- [elt for tg in iter if .. for tg1 in iter1 if ..]: behind the first clause's store and tests the second source's own loop, from which Nx is reached. vs: the block's names; vs1: those of the second target -/
def tLc2 (wi : TI) (g : TG) (tt : TT) (wi1 : TI) (g1 : TG) (tt1 : TT) (te : TE) (vs vs1 : List Nat) : TE := fun σ H Q => wi σ H fun J H1 => ∀ D, H1 D = none → ∃ W : Nat → Nat → Hp → Prop, (∃ m, W 0 m (upd H1 D (.lst []))) ∧ ∀ i m H, W i m H →
  (J.stop i H ∧ Q (.ref D) H) ∨ (J.go i H ∧ ∃ Nx : Hp → Prop, (∀ H', Nx H' → ∃ m', m' < m ∧ W (i + 1) m' H') ∧ ∀ x H', J.yld i H x H' → g x (wipe σ vs) H' fun σ2 H2 => wipe σ2 vs = wipe σ vs ∧ tt σ2 H2 fun b H3 =>
    if b = true then wi1 σ2 H3 fun J1 H4 => ∃ W1 : Nat → Nat → Hp → Prop, (∃ m, W1 0 m H4) ∧ ∀ j k H, W1 j k H →
      (J1.stop j H ∧ Nx H) ∨ (J1.go j H ∧ ∃ Nx1 : Hp → Prop, (∀ H', Nx1 H' → ∃ k', k' < k ∧ W1 (j + 1) k' H') ∧ ∀ x H', J1.yld j H x H' → g1 x (wipe σ2 vs1) H' fun σ3 H5 => wipe σ3 vs1 = wipe σ2 vs1 ∧ tt1 σ3 H5 fun b H6 =>
        if b = true then te σ3 H6 fun y H7 => ∃ acc, H7 D = some (.lst acc) ∧ acc.length < sizeLine ∧ Nx1 (upd H7 D (.lst (acc ++ [y]))) else Nx1 H6)
    else Nx H3)
end
end L2

namespace L2
open PySem PySem.Spec PyProof.Rows

/-! ### lists of pairs as tables -/
section
variable {κ : Type} [DecidableEq κ]
def valV (kvs : List (κ × V)) (k : κ) : Option V := (kvs.find? fun kv => decide (kv.1 = k)).map (·.2)
/-- in its place, or at the end -/
def putK (kvs : List (κ × V)) (k : κ) (v : V) : List (κ × V) :=
  if (kvs.any fun kv => decide (kv.1 = k)) = true then kvs.map (fun kv => if kv.1 = k then (kv.1, v) else kv) else kvs ++ [(k, v)]
def dropK (kvs : List (κ × V)) (k : κ) : List (κ × V) := kvs.filter fun kv => decide (kv.1 ≠ k)

theorem valV_pos {p : κ × V} {r : List (κ × V)} {k : κ} (e : p.1 = k) : valV (p :: r) k = some p.2 := by simp [valV, List.find?_cons, e]
theorem valV_neg {p : κ × V} {r : List (κ × V)} {k : κ} (e : ¬ p.1 = k) : valV (p :: r) k = valV r k := by simp [valV, List.find?_cons, e]
theorem valV_any (k : κ) : ∀ kvs : List (κ × V), (kvs.any fun kv => decide (kv.1 = k)) = (valV kvs k).isSome
  | [] => rfl
  | p :: r => by
    rw [List.any_cons]
    by_cases e : p.1 = k
    · simp only [valV_pos e, decide_eq_true e, Bool.true_or, Option.isSome_some]
    · rw [valV_neg e, decide_eq_false e, Bool.false_or]; exact valV_any k r
theorem length_putK (kvs : List (κ × V)) (k : κ) (v : V) : (putK kvs k v).length ≤ kvs.length + 1 := by
  unfold putK
  split
  · rw [List.length_map]; omega
  · rw [List.length_append, List.length_cons, List.length_nil]; omega
theorem RelO.isSome_eq {o : Option V} {u : Option Value} (r : RelO o u) : o.isSome = u.isSome := by
  cases o with
  | none => cases u with
    | none => rfl
    | some _ => exact (show False from r).elim
  | some _ => cases u with
    | none => exact (show False from r).elim
    | some _ => rfl
theorem RelO.getD {o : Option V} {u : Option Value} {d : V} {d' : Value} (r : RelO o u) (rd : RelV d d') : RelV (o.getD d) (u.getD d') := by
  cases o with
  | none => cases u with
    | none => exact rd
    | some _ => exact (show False from r).elim
  | some _ => cases u with
    | none => exact (show False from r).elim
    | some _ => exact r

/-- raw tables of the same keys -/
theorem KV.val {kvs : List (κ × V)} {vs : List (κ × Value)} (r : KV kvs vs) (k : κ) : RelO (valV kvs k) (valueAt vs k) := by
  unfold KV at r
  induction r with
  | nil => exact True.intro
  | @cons p q ps qs h t ih =>
    obtain ⟨h1, h2⟩ := h
    by_cases e : p.1 = k
    · have e' : q.1 = k := h1.symm.trans e
      have b : valueAt (q :: qs) k = some q.2 := by simp [valueAt, List.find?_cons, e']
      rw [valV_pos e, b]; exact h2
    · have e' : ¬ q.1 = k := fun z => e (h1.trans z)
      have b : valueAt (q :: qs) k = valueAt qs k := by simp [valueAt, List.find?_cons, e']
      rw [valV_neg e, b]; exact ih
theorem KV.any {kvs : List (κ × V)} {vs : List (κ × Value)} (r : KV kvs vs) (k : κ) : (kvs.any fun kv => decide (kv.1 = k)) = vs.any fun kv => decide (kv.1 = k) := by
  unfold KV at r
  induction r with
  | nil => rfl
  | cons h t ih => rw [List.any_cons, List.any_cons, ih, h.1]
theorem KV.repl {kvs : List (κ × V)} {vs : List (κ × Value)} (r : KV kvs vs) (k : κ) {y : V} {u : Value} (ry : RelV y u) :
    KV (kvs.map fun kv => if kv.1 = k then (kv.1, y) else kv) (vs.map fun kv => if kv.1 = k then (kv.1, u) else kv) := by
  unfold KV at r ⊢
  induction r with
  | nil => exact .nil
  | @cons p q ps qs h t ih =>
    rw [List.map_cons, List.map_cons]
    refine .cons ?_ ih
    obtain ⟨h1, h2⟩ := h
    by_cases e : p.1 = k
    · rw [if_pos e, if_pos (h1.symm.trans e)]; exact ⟨h1, ry⟩
    · rw [if_neg e, if_neg (fun z => e (h1.trans z))]; exact ⟨h1, h2⟩
theorem KV.put {kvs : List (κ × V)} {vs : List (κ × Value)} (r : KV kvs vs) (k : κ) {y : V} {u : Value} (ry : RelV y u) : KV (putK kvs k y) (stored vs k u) := by
  unfold putK stored
  rw [r.any k]
  by_cases e : (vs.any fun kv => decide (kv.1 = k)) = true
  · rw [if_pos e, if_pos e]; exact r.repl k ry
  · rw [if_neg e, if_neg e]; exact Paired.snoc r ⟨rfl, ry⟩
theorem KV.drop {kvs : List (κ × V)} {vs : List (κ × Value)} (r : KV kvs vs) (k : κ) : KV (dropK kvs k) (without vs k) := by
  unfold KV at r ⊢
  unfold dropK without
  induction r with
  | nil => exact .nil
  | @cons p q ps qs h t ih =>
    obtain ⟨h1, h2⟩ := h
    rw [List.filter_cons, List.filter_cons]
    by_cases e : p.1 = k
    · have a : ¬ decide (p.1 ≠ k) = true := by simp [e]
      have b : ¬ decide (q.1 ≠ k) = true := by simp [h1.symm.trans e]
      rw [if_neg a, if_neg b]; exact ih
    · have e' : ¬ q.1 = k := fun z => e (h1.trans z)
      have a : decide (p.1 ≠ k) = true := by simp [e]
      have b : decide (q.1 ≠ k) = true := by simp [e']
      rw [if_pos a, if_pos b]; exact .cons ⟨h1, h2⟩ ih
theorem KV.keys {kvs : List (κ × V)} {vs : List (κ × Value)} (r : KV kvs vs) : kvs.map (·.1) = vs.map (·.1) := by
  unfold KV at r
  induction r with
  | nil => rfl
  | cons h t ih => rw [List.map_cons, List.map_cons, ih, h.1]
theorem KV.length {kvs : List (κ × V)} {vs : List (κ × Value)} (r : KV kvs vs) : kvs.length = vs.length := Paired.length r
end


/-! ### a tracked dict, its keys ints and texts or tuples of these -/
theorem kV_is {P : Program} {w : World} {k : Key} {u : Value} (r : RelV (kV k) u) : (mixKind P w).is k u = true := by
  cases k with
  | inl i => obtain ⟨t, e⟩ := (show ∃ t, u = Value.int i t from r); subst e; exact mixKind_int P w i t
  | inr x => obtain ⟨t, e⟩ := (show ∃ t, u = Value.str x t from r); subst e; exact mixKind_str P w x t
/-- raw entries of a dict with tuple keys -/
abbrev KT (H : Hp) : List (List Key × V) → List (List Key × Addr × Value) → Prop := Paired fun p q => p.1 = q.1 ∧ H q.2.1 = some (.tup (p.1.map kV)) ∧ RelV p.2 q.2.2
theorem KT.val {H : Hp} {kvs : List (List Key × V)} {xs : List (List Key × Addr × Value)} (r : KT H kvs xs) (k : List Key) : RelO (valV kvs k) ((atKey xs k).map (·.2)) := by
  induction r with
  | nil => exact True.intro
  | @cons p q ps qs h t ih =>
    obtain ⟨h1, _, h2⟩ := h
    by_cases e : p.1 = k
    · have e' : q.1 = k := h1.symm.trans e
      have b : atKey (q :: qs) k = some q.2 := by simp [atKey, List.find?_cons, e']
      rw [valV_pos e, b]; exact h2
    · have e' : ¬ q.1 = k := fun z => e (h1.trans z)
      have b : atKey (q :: qs) k = atKey qs k := by simp [atKey, List.find?_cons, e']
      rw [valV_neg e, b]; exact ih
theorem KT.repl {H : Hp} {kvs : List (List Key × V)} {xs : List (List Key × Addr × Value)} (r : KT H kvs xs) (k : List Key) {y : V} {u : Value} (ry : RelV y u) :
    KT H (kvs.map fun kv => if kv.1 = k then (kv.1, y) else kv) (xs.map (putAt k u)) := by
  induction r with
  | nil => exact .nil
  | @cons p q ps qs h t ih =>
    rw [List.map_cons, List.map_cons]
    refine .cons ?_ ih
    obtain ⟨h1, h2, h3⟩ := h
    unfold putAt
    by_cases e : p.1 = k
    · rw [if_pos e, if_pos (h1.symm.trans e)]; exact ⟨h1, h2, ry⟩
    · rw [if_neg e, if_neg (fun z => e (h1.trans z))]; exact ⟨h1, h2, h3⟩
theorem KT.put {H : Hp} {kvs : List (List Key × V)} {xs : List (List Key × Addr × Value)} (r : KT H kvs xs) (k : List Key) {b : Addr} {y : V} {u : Value} (hb : H b = some (.tup (k.map kV))) (ry : RelV y u) :
    KT H (putK kvs k y) (storedH xs k b u) := by
  have e : (kvs.any fun kv => decide (kv.1 = k)) = (atKey xs k).isSome := by
    rw [valV_any, (r.val k).isSome_eq, Option.isSome_map]
  unfold putK storedH
  rw [e]
  by_cases q : (atKey xs k).isSome = true
  · rw [if_pos q, if_pos q]; exact r.repl k ry
  · rw [if_neg q, if_neg q]; exact Paired.snoc r ⟨rfl, hb, ry⟩
theorem KT.keeps {H H' : Hp} {kvs : List (List Key × V)} {xs : List (List Key × Addr × Value)} (r : KT H kvs xs) (ht : ∀ b ys, H b = some (.tup ys) → H' b = some (.tup ys)) : KT H' kvs xs :=
  Paired.mapP r fun _ _ z => ⟨z.1, ht _ _ z.2.1, z.2.2⟩

section
variable {P : Program} {w : World} {H : Hp} {h : Heap} {a : Addr}
theorem rd_of {u : HO} (ok : HOk P w H h) (e : Rd H a u) : ObjOk P w H h a u := e.ok ok
theorem dk_rd {kvs : List (Key × V)} (ok : HOk P w H h) (e : Rd H a (.dK kvs)) : kvs.length ≤ sizeLine ∧ (a == sysModules) = false ∧ ∃ vs, KV kvs vs ∧ h.DictOf (mixKind P w) a vs :=
  show ObjOk P w H h a (.dK kvs) from rd_of ok e
theorem dk_of {kvs : List (Key × V)} (ok : HOk P w H h) (e : H a = some (.dK kvs)) : kvs.length ≤ sizeLine ∧ (a == sysModules) = false ∧ ∃ vs, KV kvs vs ∧ h.DictOf (mixKind P w) a vs := dk_rd ok (.inl e)
end

/-- what the dict at a holds at the key y -/
def DGet (H : Hp) (a : Addr) (y : V) (r : Option V) : Prop :=
  (∃ kvs k, Rd H a (.dK kvs) ∧ y = kV k ∧ r = valV kvs k) ∨ ∃ kvs k b, Rd H a (.dT kvs) ∧ y = .ref b ∧ H b = some (.tup (k.map kV)) ∧ r = valV kvs k
/-- the heap behind a[y] = v -/
def DPut (H : Hp) (a : Addr) (y v : V) (H' : Hp) : Prop :=
  (∃ kvs k, H a = some (.dK kvs) ∧ y = kV k ∧ kvs.length < sizeLine ∧ H' = upd H a (.dK (putK kvs k v))) ∨
  ∃ kvs k b, H a = some (.dT kvs) ∧ y = .ref b ∧ H b = some (.tup (k.map kV)) ∧ kvs.length < sizeLine ∧ H' = upd H a (.dT (putK kvs k v))
theorem DGet.k {H : Hp} {a : Addr} {kvs : List (Key × V)} {k : Key} (e : H a = some (.dK kvs)) : DGet H a (kV k) (valV kvs k) := .inl ⟨kvs, k, .inl e, rfl, rfl⟩
theorem DGet.t {H : Hp} {a b : Addr} {kvs : List (List Key × V)} {k : List Key} (e : H a = some (.dT kvs)) (eb : H b = some (.tup (k.map kV))) : DGet H a (.ref b) (valV kvs k) := .inr ⟨kvs, k, b, .inl e, rfl, eb, rfl⟩
theorem DPut.k {H : Hp} {a : Addr} {kvs : List (Key × V)} {k : Key} {v : V} (e : H a = some (.dK kvs)) (hl : kvs.length < sizeLine) : DPut H a (kV k) v (upd H a (.dK (putK kvs k v))) := .inl ⟨kvs, k, e, rfl, hl, rfl⟩
theorem DPut.t {H : Hp} {a b : Addr} {kvs : List (List Key × V)} {k : List Key} {v : V} (e : H a = some (.dT kvs)) (eb : H b = some (.tup (k.map kV))) (hl : kvs.length < sizeLine) :
    DPut H a (.ref b) v (upd H a (.dT (putK kvs k v))) := .inr ⟨kvs, k, b, e, rfl, eb, hl, rfl⟩


section
variable {X : Cx} {pins : List (Addr × Obj)} {σ : St} {H : Hp} {s : Shared} {a : Addr} {y v : V} {u r : Value} {o : Option V} {A : Around} {E : Value → Shared → Prop}

theorem Inv.big (I : Inv X pins σ H s) : sysModules < s.heap.objs.size := by
  have h : mainGlobals < s.heap.objs.size := (I.mod.glob.keeps I.bk).lt
  exact Nat.lt_trans (by decide) h

/-- a dict's object is replaced -/
theorem d_write {h' : Heap} {t' : Nat} {ob : HO} (I : Inv X pins σ H s) (mu : Mut (H a)) (hs : Heap.SameBut a s.heap h') (he : ∃ q, h'.get? a = some q) (new : ObjOk X.prog X.w (upd H a ob) h' a ob) :
    Inv X pins σ (upd H a ob) { s with heap := h', toks := t' } :=
  I.write (x := a) (e := a) mu (.inl rfl) (fun b q hb z => (hs.2 b hb).trans z) he new
theorem dk_new {P : Program} {w : World} {H' : Hp} {h' : Heap} {kvs : List (Key × V)} {vs : List (Key × Value)} (z : kvs.length ≤ sizeLine) (hd : (a == sysModules) = false) (rel : KV kvs vs) (dd : h'.DictOf (mixKind P w) a vs) :
    ObjOk P w H' h' a (.dK kvs) := ⟨z, hd, vs, rel, dd⟩
end

section
variable {X : Cx} {pins : List (Addr × Obj)} {σ : St} {H : Hp} {s : Shared} {a : Addr} {kvs : List (Key × V)} {k : Key} {u : Value} {A : Around} {E : Value → Shared → Prop}
end


/-! ### readings and rules -/
/-- the element of a subscription, not a slice -/
def NoSl (i : Expr) : Prop := ∀ ov iv, subscripted i false ov iv = operate [ov, iv] (getItem ov iv)
/-- d[y] -/
def tDGet (td ty : TE) : TE := fun σ H Q => td σ H fun x H1 => ty σ H1 fun y H2 => ∃ a v, x = .ref a ∧ DGet H2 a y (some v) ∧ Q v H2
/-- y in d, y not in d -/
def tDIn (ty td : TE) : TE := fun σ H Q => ty σ H fun y H1 => td σ H1 fun x H2 => ∃ a o, x = .ref a ∧ DGet H2 a y o ∧ Q (.bl o.isSome) H2
def tDNotIn (ty td : TE) : TE := fun σ H Q => ty σ H fun y H1 => td σ H1 fun x H2 => ∃ a o, x = .ref a ∧ DGet H2 a y o ∧ Q (.bl (!o.isSome)) H2
/-- d[y] = v -/
def sDPut (td ty tv : TE) : TS := fun D σ H => tv σ H fun v H1 => td σ H1 fun x H2 => ty σ H2 fun y H3 => ∃ a H4, x = .ref a ∧ DPut H3 a y v H4 ∧ D.nx σ H4
/-- d[y] op= v -/
def sDAug (td ty tv : TE) (rd : V → V → Hp → VK → Prop) : TS := fun D σ H => td σ H fun x H1 => ty σ H1 fun y H2 => ∃ a v, x = .ref a ∧ DGet H2 a y (some v) ∧
  tv σ H2 fun y2 H3 => rd v y2 H3 fun z H4 => ∃ H5, DPut H4 a y z H5 ∧ D.nx σ H5
/-- del d[y] -/
def sDDel (td ty : TE) : TS := fun D σ H => td σ H fun x H1 => ty σ H1 fun y H2 => ∃ a kvs k, x = .ref a ∧ H2 a = some (.dK kvs) ∧ y = kV k ∧ (valV kvs k).isSome = true ∧ D.nx σ (upd H2 a (.dK (dropK kvs k)))

section
variable {X : Cx} {o i e value : Expr} {pos pos' tpos : Pos} {td ty tv : TE}
end


/-! ### displays -/
theorem dk_empty {P : Program} {w : World} {H : Hp} (h : Heap) (hb : sysModules < h.objs.size) : ObjOk P w H (h.push { cls := .type "dict", data := .dict #[] }) h.objs.size (.dK []) :=
  ⟨Nat.zero_le _, beq_eq_false_iff_ne.mpr (Ne.symm (Nat.ne_of_lt hb)), [], .nil, Heap.DictOf.new h⟩
/-- {}, to be a dict of the kind that is wanted -/
def tDNewK : TE := fun _ H Q => ∀ p, H p = none → Q (.ref p) (upd H p (.dK []))
def tDNewT : TE := fun _ H Q => ∀ p, H p = none → Q (.ref p) (upd H p (.dT []))
section
variable {X : Cx} {pos : Pos}
theorem pe_dnewK : PE X (.Dict [] [] pos) tDNewK := fun pins s σ H Q I h =>
  wpAny_Dict_empty ⟨.ref s.heap.objs.size, _, I.laid (a := s.heap.objs.size) (o := .dK []) (t' := s.toks) (fun _ _ q => Heap.get?_push_of_some _ q) (Nat.le_refl _) (dk_empty s.heap I.big), rfl, h _ (I.hok.fresh (Nat.le_refl _))⟩
end

/-- the pairs of a display, from the left -/
def tPairs : List (TE × TE) → St → Hp → (List (V × V) → Hp → Prop) → Prop
  | [], _, H, Q => Q [] H
  | (tk, tv) :: r, σ, H, Q => tk σ H fun x H1 => tv σ H1 fun y H2 => tPairs r σ H2 fun ps H3 => Q ((x, y) :: ps) H3
abbrev VV : List (V × V) → List (Value × Value) → Prop := Paired fun p q => RelV p.1 q.1 ∧ RelV p.2 q.2
def PPs (X : Cx) (pos : Pos) (keys : List (Option Expr)) (values : List Expr) (trs : List (TE × TE)) : Prop :=
  ∀ (pins : List (Addr × Obj)) (s : Shared) (σ : St) (H : Hp) (Q : List (V × V) → Hp → Prop), Inv X pins σ H s → tPairs trs σ H Q →
    wpAny (model X.prog X.w) X.A (evalPairs (pairTrees keys values X.env pos)) (fun vs s' => ∃ ps H', Inv X pins σ H' s' ∧ VV ps vs ∧ Q ps H') X.xe s
theorem pps_nil {X : Cx} {pos : Pos} : PPs X pos [] [] [] := fun pins s σ H Q I h => pairTrees_nil_walk ⟨[], H, I, .nil, h⟩
theorem pps_cons {X : Cx} {pos : Pos} {k v : Expr} {ks : List (Option Expr)} {vs : List Expr} {tk tv : TE} {trs : List (TE × TE)} (hk : PE X k tk) (hv : PE X v tv) (hr : PPs X pos ks vs trs) :
    PPs X pos (some k :: ks) (v :: vs) ((tk, tv) :: trs) := fun pins s σ H Q I h =>
  pairTrees_cons_walk (thn (hk pins s σ H _ I h) fun u s1 ⟨x, H1, I1, rx, q1⟩ => thn (hv pins s1 σ H1 _ I1 q1) fun w2 s2 ⟨y, H2, I2, ry, q2⟩ =>
    thn (hr pins s2 σ H2 _ I2 q2) fun ws s3 ⟨ps, H3, I3, rel, q3⟩ => ⟨(x, y) :: ps, H3, I3, .cons ⟨rx, ry⟩ rel, q3⟩)

def mergeK (kvs more : List (Key × V)) : List (Key × V) := more.foldl (fun acc kv => putK acc kv.1 kv.2) kvs
theorem KV.merge : ∀ {more : List (Key × V)} {rs : List (Key × Value)} {kvs : List (Key × V)} {vs : List (Key × Value)}, KV more rs → KV kvs vs → KV (mergeK kvs more) (merged vs rs) := by
  intro more rs kvs vs r
  unfold KV at r
  induction r generalizing kvs vs with
  | nil => intro q; exact q
  | @cons p q ps qs h t ih =>
    intro r0
    have e : KV (putK kvs p.1 p.2) (stored vs q.1 q.2) := by
      have := r0.put p.1 h.2
      rw [← h.1]; exact this
    exact ih e
theorem length_mergeK : ∀ (more kvs : List (Key × V)), (mergeK kvs more).length ≤ kvs.length + more.length
  | [], kvs => by show kvs.length ≤ kvs.length + 0; omega
  | p :: r, kvs => by
    have h1 := length_mergeK r (putK kvs p.1 p.2)
    have h2 := length_putK kvs p.1 p.2
    show (mergeK (putK kvs p.1 p.2) r).length ≤ _
    rw [List.length_cons]; omega
theorem carries_of {P : Program} {w : World} : ∀ {kvs : List (Key × V)} {ws : List (Value × Value)}, VV (kvs.map fun kv => (kV kv.1, kv.2)) ws → ∃ rs, Carries (mixKind P w) ws rs ∧ KV kvs rs
  | [], _, r => by rw [List.map_nil] at r; cases r; exact ⟨[], True.intro, .nil⟩
  | p :: kvs, _, r => by
    rw [List.map_cons] at r
    cases r with
    | @cons a b as bs h t =>
      obtain ⟨rs, c, q⟩ := carries_of (P := P) (w := w) t
      obtain ⟨b1, b2⟩ := b
      exact ⟨(p.1, b2) :: rs, ⟨kV_is h.1, rfl, c⟩, .cons ⟨rfl, h.2⟩ q⟩
/-- {k: v, ..} with keys ints and texts; the new dict stands empty while the pairs are made -/
def tDisp (trs : List (TE × TE)) : TE := fun σ H Q => ∀ p, H p = none → tPairs trs σ (upd H p (.dK [])) fun ps H2 => H2 p = some (.dK []) ∧ ∃ kvs : List (Key × V), ps = kvs.map (fun kv => (kV kv.1, kv.2)) ∧ kvs.length ≤ 15 ∧ Q (.ref p) (upd H2 p (.dK (mergeK [] kvs)))
theorem pe_disp {X : Cx} {pos : Pos} {keys : List (Option Expr)} {values : List Expr} {trs : List (TE × TE)} (h : PPs X pos keys values trs) (hall : keys.all (·.isSome) = true) (hl : keys.length = values.length) (h0 : keys ≠ [])
    (h15 : keys.length ≤ 15) : PE X (.Dict keys values pos) (tDisp trs) := by
  intro pins s σ H Q I q
  have hn := I.hok.fresh (Nat.le_refl s.heap.objs.size)
  have I1 := I.laid (a := s.heap.objs.size) (o := .dK []) (h' := s.heap.push { cls := .type "dict", data := .dict #[] }) (t' := s.toks) (fun _ _ q => Heap.get?_push_of_some _ q) (Nat.le_refl _) (dk_empty s.heap I.big)
  refine wpAny_Dict_walk (knd := mixKind X.prog X.w) hall hl h0 h15 (thn (h pins _ σ _ _ I1 (q _ hn)) fun ws s2 ⟨ps, H2, I2, rel, e, kvs, ep, lk, q2⟩ => ?_)
  subst ep
  obtain ⟨rs, c, rk⟩ := carries_of (P := X.prog) (w := X.w) rel
  obtain ⟨z, hd, vs0, r0, dd⟩ := dk_of I2.hok e
  cases r0
  refine ⟨rs, c, dd, fun h' dd' hs => ⟨.ref s.heap.objs.size, _, ?_, rfl, q2⟩⟩
  have hz : (mergeK [] kvs).length ≤ sizeLine := by
    have h1 := length_mergeK kvs []
    rw [List.length_nil] at h1
    rw [sizeLine_eq]; omega
  have he : ∃ q, h'.get? s.heap.objs.size = some q := let ⟨q, _, _, hq, _⟩ := dd'; ⟨q, hq⟩
  exact d_write I2 (by rw [e]; exact True.intro) hs he (dk_new hz hd (rk.merge .nil) dd')


/-! ### methods -/
/-- a method call o.m(e) of a built-in, with one argument: what must be seen of the text -/
structure M1 (X : Cx) (o : Expr) (m : Str) (apos : Pos) (e : Expr) (cpos : Pos) : Prop where
  base : attributeBase o m X.env (eval o X.env) = eval o X.env
  few : ((backTo cpos (starEach [e] X.env)).all (fun x => !x.1) && (backToKw cpos (keywordEach [] X.env)).all (fun x => x.1.isSome)
    && decide (([e] : List Expr).length + ([] : List Keyword).length + (if ([] : List Keyword).isEmpty then 0 else 1) < 30)) = true
  line : (apos.endLine == cpos.line) = true
  trees : backTo cpos (starEach [e] X.env) = [(false, eval e X.env)]
structure M2 (X : Cx) (o : Expr) (m : Str) (apos : Pos) (e f : Expr) (cpos : Pos) : Prop where
  base : attributeBase o m X.env (eval o X.env) = eval o X.env
  few : ((backTo cpos (starEach [e, f] X.env)).all (fun x => !x.1) && (backToKw cpos (keywordEach [] X.env)).all (fun x => x.1.isSome)
    && decide (([e, f] : List Expr).length + ([] : List Keyword).length + (if ([] : List Keyword).isEmpty then 0 else 1) < 30)) = true
  line : (apos.endLine == cpos.line) = true
  trees : backTo cpos (starEach [e, f] X.env) = [(false, eval e X.env), (false, eval f X.env)]

/-- a is a dict, whatever its keys -/
def IsD (H : Hp) (a : Addr) : Prop := (∃ kvs, Rd H a (.dK kvs)) ∨ ∃ kvs, Rd H a (.dT kvs)
section
variable {X : Cx} {pins : List (Addr × Obj)} {σ : St} {H : Hp} {s : Shared} {a : Addr} {y d : V} {u r : Value} {o : Option V} {A : Around} {E : Value → Shared → Prop}
end

def tDGet1 (td ty : TE) : TE := fun σ H Q => td σ H fun x H1 => ∃ a, x = .ref a ∧ IsD H1 a ∧ ty σ H1 fun y H2 => ∃ o, DGet H2 a y o ∧ Q (o.getD .non) H2
def tDGet2 (td ty tx : TE) : TE := fun σ H Q => td σ H fun x H1 => ∃ a, x = .ref a ∧ IsD H1 a ∧ ty σ H1 fun y H2 => tx σ H2 fun z H3 => ∃ o, DGet H3 a y o ∧ Q (o.getD z) H3
/-- d.pop(k): there; d.pop(k, x): there or not -/
def tDPop1 (td ty : TE) : TE := fun σ H Q => td σ H fun x H1 => ∃ a, x = .ref a ∧ IsD H1 a ∧ ty σ H1 fun y H2 => ∃ kvs k v, H2 a = some (.dK kvs) ∧ y = kV k ∧ valV kvs k = some v ∧ Q v (upd H2 a (.dK (dropK kvs k)))
def tDPop2 (td ty tx : TE) : TE := fun σ H Q => td σ H fun x H1 => ∃ a, x = .ref a ∧ IsD H1 a ∧ ty σ H1 fun y H2 => tx σ H2 fun z H3 => ∃ kvs k, H3 a = some (.dK kvs) ∧ y = kV k ∧
  (∀ v, valV kvs k = some v → Q v (upd H3 a (.dK (dropK kvs k)))) ∧ (valV kvs k = none → Q z H3)
section
variable {X : Cx} {o e f : Expr} {apos cpos : Pos} {td ty tx : TE}
end

/-! ### dict(d): a copy -/
section
variable {X : Cx} {pins : List (Addr × Obj)} {σ : St} {H : Hp} {s : Shared} {a : Addr} {kvs : List (Key × V)} {A : Around} {E : Value → Shared → Prop}
end


section
variable {X : Cx} {pins : List (Addr × Obj)} {σ : St} {H : Hp} {s : Shared} {a : Addr} {y : V} {u : Value} {A : Around} {E : Value → Shared → Prop}
end
end L2

namespace L2
open PySem PySem.Spec PyProof.Rows

theorem ud_entry : entryFor table "dict.update.loop" = some Builtin.«dict.update.loop» := entryFor_of_tree (by kernel_rfl)
theorem ud_plain : plainId "dict.update.loop" = true := by decide +kernel

section
variable {prog : Program} {w : World} {A : Around} {E : Value → Shared → Prop}
/-- the walk over the pairs -/
theorem upd_loop {R : Result → Shared → Prop} {S I l : Addr} {items : Array Value} {res : Value} (hh : A.handled = none) (hlI : l ≠ I) (hSI : S ≠ I) (hSl : S ≠ l) :
    ∀ (rest : List (Key × Value)) (i : Nat) (acc : List (Key × Value)) (ix : Int) (t : Tok) (s : Shared), items.size = i + rest.length → acc.length + rest.length ≤ sizeLine →
      (∀ (j : Nat) (q : Key × Value), rest[j]? = some q → ∃ (b : Addr) (u : Value), items[i + j]? = some (.ref b) ∧ b ≠ S ∧ b ≠ I ∧ IsTup s.heap b #[u, q.2] ∧ keyIs q.1 u = true) →
      s.heap.IsListIter I l i → s.heap.IsList l items → s.heap.DictOf (mixKind prog w) S acc →
      (∀ h' tk, h'.DictOf (mixKind prog w) S (merged acc rest) → (∀ b o, b ≠ S → b ≠ I → s.heap.get? b = some o → h'.get? b = some o) → R (.ok (.ret res)) { s with heap := h', toks := tk }) →
      codeAny (model prog w) A (.builtin "dict.update.loop" ⟨[.ref S, .ref I, .int ix t, res], []⟩) R s
  | [], i, acc, ix, t, s, hsz, hln, ht, hit, hl, hm, hR => by
    refine codeAny_builtin ud_entry ?_
    rw [Around.under_plainId ud_plain _]
    show wpAny _ A.in1 (pyNext (.ref I) >>= _) _ _ s
    refine wpAny_bind (wpAny_pyNext_list_end (A := A.in1) hh hit hl (by first | exact Array.getElem?_eq_none (Nat.le_of_eq hsz) | (simp at hsz; simp; omega)) fun h' he => ?_)
    show wpAny _ A.in1 (Builtin.Dict.addKeywords S [] >>= _) _ _ _
    refine wpAny_bind (wpAny_pure (wpAny_pure ?_))
    exact hR h' s.toks (hm.extBut he hSI) fun b o _ hb e => he b o hb e
  | q :: rest, i, acc, ix, t, s, hsz, hln, ht, hit, hl, hm, hR => by
    obtain ⟨b, u, hb, hbS, hbI, htup, hk⟩ := ht 0 q rfl
    rw [List.length_cons] at hsz hln
    refine codeAny_builtin ud_entry ?_
    rw [Around.under_plainId ud_plain _]
    show wpAny _ A.in1 (pyNext (.ref I) >>= _) _ _ s
    refine wpAny_bind (wpAny_pyNext_list_item (x := .ref b) hit hl (by simpa using hb) fun h1 hit1 hs1 => ?_)
    have ht1 : IsTup h1 b #[u, q.2] := htup.extBut hs1.extBut hbI
    have hl1 : h1.IsList l items := hl.extBut hs1.extBut hlI
    have hm1 : h1.DictOf (mixKind prog w) S acc := hm.extBut hs1.extBut hSI
    obtain ⟨o, ho, hc, n, hd⟩ := id ht1
    show wpAny _ A.in1 (holding [Value.ref b] _ >>= _) _ _ _
    refine wpAny_bind (wpAny_holding ?_)
    refine wpAny_bind (wpAny_tryCatch ?_)
    unfold Builtin.Dict.pairItems
    refine wpAny_bind (wpAny_typeOf (T := "tuple") ⟨o, ho, hc⟩ ?_)
    rw [if_pos (by first | decide | rfl | simp)]
    refine wpAny_bind (wpAny_seqItems ho hd (wpAny_pure ?_))
    show wpAny _ A.in1 (holding [u, q.2] (dictSet S u q.2)) _ _ _
    refine wpAny_holding (wpAny_dictSet_pairs (knd := mixKind prog w) (k := q.1) hk hm1 (fun h2 hm2 hs2 => ?_) (by omega))
    refine wpAny_pure ⟨plainId_quiet ud_plain _, upd_loop (items := items) hh hlI hSI hSl rest (i + 1) (stored acc q.1 q.2) (ix + 1) 0 _ (show items.size = i + 1 + rest.length by omega) ?_ (fun j q' e => ?_) ?_ ?_ hm2 fun h' tk hd' k => ?_⟩
    · have z := stored_length_le acc q.1 q.2
      omega
    · obtain ⟨b', u', hb', hbS', hbI', htup', hk'⟩ := ht (j + 1) q' (by simpa using e)
      refine ⟨b', u', ?_, hbS', hbI', (htup'.extBut hs1.extBut hbI').extBut hs2.extBut hbS', hk'⟩
      rw [show i + 1 + j = i + (j + 1) by omega]
      exact hb'
    · exact hit1.at fun o' e => hs2.extBut I o' (Ne.symm hSI) e
    · exact hl1.extBut hs2.extBut (Ne.symm hSl)
    · exact hR h' tk hd' fun c oc h3 h4 e => k c oc h3 h4 (hs2.extBut c oc h3 (hs1.extBut c oc h4 e))

end

section
variable {X : Cx}
end
end L2

namespace L2
open PySem PySem.Spec PyProof.Rows

section
variable {X : Cx} {pins : List (Addr × Obj)} {σ : St} {H : Hp} {s : Shared} {h' : Heap}
/-- several records of ours have turned -/
theorem Inv.turnedL {t' : Nat} {ch : List Addr} (I : Inv X pins σ H s) (k : ∀ b o, b ∉ ch → s.heap.get? b = some o → h'.get? b = some o) (hf : ∀ b ∈ ch, FpOk X pins H b) : Inv X pins σ H { s with heap := h', toks := t' } := by
  have nit : ∀ b u, H b = some u → b ∉ ch := fun b u e z => by
    have q := (hf b z).1
    rw [q] at e; cases e
  refine I.step (g' := s.gens) (d' := s.drawn) (ch := ch) (fun b hb => ⟨(hf b hb).2.2.2.1, (hf b hb).2.1, (hf b hb).2.2.2.2.1, (hf b hb).2.2.2.2.2⟩) (fun b o _ _ hc e _ => k b o hc e) (fun b o _ _ hc e _ => ⟨o.slots, k b o hc e⟩)
    (fun _ _ _ _ n => n) (fun b o hc e => ⟨o, k b o hc e⟩) (fun _ _ e => e) (fun _ _ _ e => e) (fun b ps e => ⟨#[], by rw [e]; simp⟩) (fun m hm => ?_) (fun b u e => ?_) I.bare
  · obtain ⟨o, es, ep, ho, r⟩ := hm
    exact ⟨o, es, ep, k _ o (fun z => (hf _ z).2.1 rfl) ho, r⟩
  · refine (I.hok b u e).stay (fun c v hc q => k c v ?_ q) (fun _ q => q) fun _ _ q => q
    rcases hc with z | z
    · rw [z]; exact nit b u e
    · exact nit c _ z
/-- .. and one new object is laid -/
theorem Inv.turnedNew {t' : Nat} {ch : List Addr} {T : Addr} {ob : HO} (I : Inv X pins σ H s) (k : ∀ b o, b ∉ ch → s.heap.get? b = some o → h'.get? b = some o) (hf : ∀ b ∈ ch, FpOk X pins H b) (hT : s.heap.objs.size ≤ T)
    (new : ObjOk X.prog X.w (upd H T ob) h' T ob) : Inv X pins σ (upd H T ob) { s with heap := h', toks := t' } := by
  have hn : H T = none := I.hok.fresh hT
  have nit : ∀ b u, H b = some u → b ∉ ch := fun b u e z => by
    have q := (hf b z).1
    rw [q] at e; cases e
  refine I.step (g' := s.gens) (d' := s.drawn) (ch := ch) (fun b hb => ⟨(hf b hb).2.2.2.1, (hf b hb).2.1, (hf b hb).2.2.2.2.1, (hf b hb).2.2.2.2.2⟩) (fun b o _ _ hc e _ => k b o hc e) (fun b o _ _ hc e _ => ⟨o.slots, k b o hc e⟩)
    (fun b o _ e n => ?_) (fun b o hc e => ⟨o, k b o hc e⟩) (fun b xs e => ?_) (fun b o u e => ?_) (fun b ps e => ⟨#[], ?_⟩) (fun m hm => ?_) (fun b u e => ?_) I.bare
  · rw [upd_ne (Nat.ne_of_lt (Nat.lt_of_lt_of_le (Heap.lt_size e) hT))]; exact n
  · rw [upd_ne (ne_of_none e hn)]; exact e
  · rw [upd_ne (ne_of_none e hn)]; exact e
  · rw [upd_ne (ne_of_none e hn), e]; simp
  · obtain ⟨o, es, ep, ho, r⟩ := hm
    exact ⟨o, es, ep, k _ o (fun z => (hf _ z).2.1 rfl) ho, r⟩
  · by_cases hb : b = T
    · subst hb
      rw [upd_same] at e
      cases e
      exact new
    · rw [upd_ne hb] at e
      refine (I.hok b u e).stay (fun c v hc q => k c v ?_ q) (fun c q => by rw [upd_ne (ne_of_none q hn)]; exact q) fun c xs q => by rw [upd_ne (ne_of_none q hn)]; exact q
      rcases hc with z | z
      · rw [z]; exact nit b u e
      · exact nit c _ z

/-! ### locking a thing while a statement runs -/
theorem Inv.lock {d : Addr} {u : HO} (I : Inv X pins σ H s) (h : H d = some u) (mu : Mut (some u)) : ∃ od, Inv X pins σ (upd H d (.frz od u)) s := by
  have x := I.hok d u h
  have ex : ∃ od, s.heap.get? d = some od := by
    cases u with
    | lst xs => obtain ⟨_, _, _, _, e⟩ := x; exact ⟨_, e⟩
    | dK kvs => obtain ⟨_, _, _, _, o, _, _, e, _⟩ := x; exact ⟨o, e⟩
    | dT kvs => obtain ⟨_, _, _, _, o, _, _, e, _⟩ := x; exact ⟨o, e⟩
    | set S n => obtain ⟨o, _, _, _, e, _⟩ := x; exact ⟨o, e⟩
    | ins C dx fs => obtain ⟨_, _, _, e, _⟩ := x; exact ⟨_, e⟩
    | ext φ => obtain ⟨_, ⟨_, e⟩, _⟩ := x; exact ⟨_, e⟩
    | _ => exact False.elim mu
  obtain ⟨od, e⟩ := ex
  have new : ObjOk X.prog X.w (upd H d (.frz od u)) s.heap d (.frz od u) := by
    refine ⟨e, x.stay (fun b v _ q => q) (fun b q => ?_) fun b xs q => ?_⟩
    · rw [upd_ne (fun z => by rw [z, h] at q; cases q; exact mu)]; exact q
    · rw [upd_ne (fun z => by rw [z, h] at q; cases q; exact mu)]; exact q
  exact ⟨od, I.write (x := d) (e := d) (t' := s.toks) (h' := s.heap) (by rw [h]; exact mu) (.inl rfl) (fun b v _ q => q) ⟨od, e⟩ new⟩
end
/-- the statement runs while the thing at d is locked (read, not written); d and what stands there are the reading's choice -/
def tLock (t : TS) : TS := fun D σ H => ∃ d u, H d = some u ∧ Mut (some u) ∧ ∀ od, t ⟨fun σ' H' => H' d = some (.frz od u) ∧ D.nx σ' (upd H' d u), fun v H' => H' d = some (.frz od u) ∧ D.rt v (upd H' d u), fun σ' H' => H' d = some (.frz od u) ∧ D.bk σ' (upd H' d u), fun σ' H' => H' d = some (.frz od u) ∧ D.ct σ' (upd H' d u)⟩ σ (upd H d (.frz od u))
def tLockE (t : TE) : TE := fun σ H Q => ∃ d u, H d = some u ∧ Mut (some u) ∧ ∀ od, t σ (upd H d (.frz od u)) fun v H' => H' d = some (.frz od u) ∧ Q v (upd H' d u)
section
variable {X : Cx}
/-! ### one iterator just laid -/
end

/-! ### range with a step -/
/-- lo, lo + c, .. (n of them) -/
def Itc (lo c : Int) (n : Nat) : It := ⟨fun i _ => i < n, fun i H x H' => H' = H ∧ x = .int (lo + (i : Nat) * c), fun i _ => n ≤ i⟩
/-- range(i, j, c): small bounds, n items -/
def RgC (i j c : Int) (n : Nat) : Prop := c ≠ 0 ∧ c.natAbs < 1073741824 ∧ Builtin.Range.small i j c = true ∧ Builtin.Range.rangeSize i j c = n
theorem RgC.neg {i j : Int} (ha : -(2 ^ 62) ≤ i) (ha' : i < 2 ^ 62) (hb : -(2 ^ 62) ≤ j) (hb' : j < 2 ^ 62) : RgC i j (-1) (i - j).toNat :=
  ⟨by decide, by decide, PySem.W.small_down ha ha' hb hb', PySem.W.rangeSize_downNat i j⟩
def iRng3 (ta : TA) : TI := fun σ H R => ta σ H fun vs H1 => ∃ (i j c : Int) (n : Nat), vs = [.int i, .int j, .int c] ∧ RgC i j c n ∧ R (Itc i c n) H1
section
variable {X : Cx} {tg : Expr}
end
/-! ### reversed(list) -/
/-- the list at a (n items at the start, which the loop leaves there), from its end -/
def Itv (K : PySem.W.Frag) (a : Addr) (n : Nat) : It :=
  ⟨fun i H => i < n ∧ ∃ (xs : List V) (x : V), SqL K H a xs ∧ xs[n - 1 - i]? = some x, fun i H x H' => H' = H ∧ ∀ xs, SqL K H a xs → xs[n - 1 - i]? = some x, fun i _ => n ≤ i⟩
def iRev (K : PySem.W.Frag) (ta : TA) : TI := fun σ H R => ta σ H fun vs H1 => ∃ (a : Addr) (xs : List V), vs = [.ref a] ∧ SqL K H1 a xs ∧ R (Itv K a xs.length) H1
section
variable {X : Cx} {tg : Expr}
end

/-! ### a str -/
def Its (x : Str) : It := ⟨fun i _ => i < x.cps.size, fun i H v H' => H' = H ∧ ∃ c, x.cps[i]? = some c ∧ v = .str ⟨#[c]⟩, fun i _ => x.cps.size ≤ i⟩
def iStr (te : TE) : TI := fun σ H R => te σ H fun v H1 => ∃ x, v = .str x ∧ R (Its x) H1
/-! ### a dict's keys: any dict's entries -/
section
variable {prog : Program} {w : World} {A : Around} {E : Value → Shared → Prop} {s : Shared}
end

/-! ### a locked dict -/
section
variable {X : Cx} {pins : List (Addr × Obj)} {σ : St} {H : Hp} {s : Shared} {d : Addr} {o : Obj}
end

/-- the keys of the locked dict at d, in their order -/
def Itk (d : Addr) (o : Obj) (kvs : List (Key × V)) : It :=
  ⟨fun i H => H d = some (.frz o (.dK kvs)) ∧ i < kvs.length, fun i H x H' => H' = H ∧ ∃ k v, kvs[i]? = some (k, v) ∧ x = kV k, fun i H => H d = some (.frz o (.dK kvs)) ∧ kvs.length ≤ i⟩
/-- .. of tuple keys: the key's own tuple -/
def Itkt (d : Addr) (o : Obj) (kvs : List (List Key × V)) : It :=
  ⟨fun i H => H d = some (.frz o (.dT kvs)) ∧ i < kvs.length, fun i H x H' => H' = H ∧ ∃ (k : List Key) (v : V) (q : Addr), kvs[i]? = some (k, v) ∧ x = .ref q ∧ H q = some (.tup (k.map kV)), fun i H => H d = some (.frz o (.dT kvs)) ∧ kvs.length ≤ i⟩
/-- the values -/
def Itd (d : Addr) (o : Obj) (kvs : List (Key × V)) : It :=
  ⟨fun i H => H d = some (.frz o (.dK kvs)) ∧ i < kvs.length, fun i H x H' => H' = H ∧ ∃ k, kvs[i]? = some (k, x), fun i H => H d = some (.frz o (.dK kvs)) ∧ kvs.length ≤ i⟩
/-- the pairs, each a new tuple -/
def Iti (d : Addr) (o : Obj) (kvs : List (Key × V)) : It :=
  ⟨fun i H => H d = some (.frz o (.dK kvs)) ∧ i < kvs.length, fun i H x H' => ∃ T k v, kvs[i]? = some (k, v) ∧ x = .ref T ∧ H T = none ∧ H' = upd H T (.tup [kV k, v]), fun i H => H d = some (.frz o (.dK kvs)) ∧ kvs.length ≤ i⟩
section
variable {P : Program} {w : World} {K : PySem.W.Frag} {tg : Expr} {d : Addr} {o : Obj} {es : Array DictEntry} {ep : Nat}
end

/-! ### for k in d, d.keys(), d.values(), d.items() -/
/-- the dict is locked (tLock, or by the caller) -/
def iKeys (td : TE) : TI := fun σ H R => td σ H fun x H1 => ∃ d o, x = .ref d ∧ ((∃ kvs, H1 d = some (.frz o (.dK kvs)) ∧ R (Itk d o kvs) H1) ∨ ∃ kvs, H1 d = some (.frz o (.dT kvs)) ∧ R (Itkt d o kvs) H1)
def iVals (td : TE) : TI := fun σ H R => td σ H fun x H1 => ∃ d o kvs, x = .ref d ∧ H1 d = some (.frz o (.dK kvs)) ∧ R (Itd d o kvs) H1
def iItems (td : TE) : TI := fun σ H R => td σ H fun x H1 => ∃ d o kvs, x = .ref d ∧ H1 d = some (.frz o (.dK kvs)) ∧ R (Iti d o kvs) H1
def iKeysM (td : TE) : TI := fun σ H R => td σ H fun x H1 => ∃ d o kvs, x = .ref d ∧ H1 d = some (.frz o (.dK kvs)) ∧ R (Itk d o kvs) H1
section
variable {X : Cx} {tg e : Expr} {td : TE} {apos cpos : Pos}
end

/-! ### enumerate(list) -/
/-- the list at a as it stands at each turn, each item in a new pair -/
def Ite (K : PySem.W.Frag) (a : Addr) : It :=
  ⟨fun i H => ∃ (xs : List V) (x : V), SqL K H a xs ∧ xs[i]? = some x, fun i H v H' => ∃ T x, v = .ref T ∧ H T = none ∧ H' = upd H T (.tup [.int (i : Nat), x]) ∧ ∀ xs, SqL K H a xs → xs[i]? = some x, fun i H => ∃ xs : List V, SqL K H a xs ∧ xs.length ≤ i⟩
def iEnum (K : PySem.W.Frag) (ta : TA) : TI := fun σ H R => ta σ H fun vs H1 => ∃ a xs, vs = [.ref a] ∧ SqL K H1 a xs ∧ R (Ite K a) H1
/-! ### zip(list, list) -/
theorem boot_zip5 : bootBuiltins "zip" = some (.type "zip") := by decide +kernel
/-- the lists at a and b as they stand at each turn, the items in new pairs -/
def Itz (K : PySem.W.Frag) (a b : Addr) : It :=
  ⟨fun i H => ∃ (xs ys : List V) (x y : V), SqL K H a xs ∧ SqL K H b ys ∧ xs[i]? = some x ∧ ys[i]? = some y,
    fun i H v H' => ∃ T x y, v = .ref T ∧ H T = none ∧ H' = upd H T (.tup [x, y]) ∧ (∀ xs, SqL K H a xs → xs[i]? = some x) ∧ ∀ ys, SqL K H b ys → ys[i]? = some y,
    fun i H => ∃ xs ys : List V, SqL K H a xs ∧ SqL K H b ys ∧ (xs.length ≤ i ∨ ys.length ≤ i)⟩
def iZip (K : PySem.W.Frag) (ta : TA) : TI := fun σ H R => ta σ H fun vs H1 => ∃ a b xs ys, vs = [.ref a, .ref b] ∧ SqL K H1 a xs ∧ SqL K H1 b ys ∧ R (Itz K a b) H1
end L2

section 
namespace Bits
open PySem PyProof.Rows

end Bits
end 

section 
namespace TL
open PySem PySem.Builtin PySem.Builtin.Str PySem.StrLaws

abbrev tl (x : Str) : List Nat := x.cps.toList
/-! ### the list functions -/
/-- S stands at the head of l -/
def pre (S l : List Nat) : Bool := l.take S.length == S
/-- l cut at each S from the left; k signs are still to be passed over -/
def spl (S : List Nat) : Nat → List Nat → List Nat → List (List Nat)
  | _, acc, [] => [acc]
  | 0, acc, c :: r => if pre S (c :: r) = true then acc :: spl S (S.length - 1) [] r else spl S 0 (acc ++ [c]) r
  | k + 1, acc, _ :: r => spl S k acc r
/-- what stands before the first S, and behind it -/
def par (S : List Nat) : List Nat → List Nat → Option (List Nat × List Nat)
  | _, [] => none
  | acc, c :: r => if pre S (c :: r) = true then some (acc, (c :: r).drop S.length) else par S (acc ++ [c]) r

/-! ### the model's split and partition are these -/
theorem kind_ok {x y : Str} (h : y.cps.all (· < 256) = true) : ¬ Builtin.Str.strKind x < Builtin.Str.strKind y := by
  have e : Builtin.Str.strKind y = 1 := by unfold PySem.Builtin.Str.strKind; rw [if_pos h]
  rw [e]
  unfold PySem.Builtin.Str.strKind
  split
  · omega
  · split <;> omega

/-! ### computing spl and par -/
/-- joined lists -/
def joinL (S : List Nat) : List (List Nat) → List Nat
  | [] => []
  | [p] => p
  | p :: q :: r => p ++ (S ++ joinL S (q :: r))
/-! ### digits -/
/-- the signs of a number -/
def numL (n : Nat) : List Nat := (Nat.toDigits 10 n).map Char.toNat
/-! ### words: x.split() -/
def wstep (st : List (List Nat) × List Nat) (c : Nat) : List (List Nat) × List Nat :=
  if Unicode.isSpace c = true then (if st.2 = [] then st else (st.1 ++ [st.2], [])) else (st.1, st.2 ++ [c])
def wfin (st : List (List Nat) × List Nat) : List (List Nat) := if st.2 = [] then st.1 else st.1 ++ [st.2]
end TL
end 

namespace L2
open PySem PySem.Spec PyProof.Rows

/-- a new list of texts, tracked -/
def rNewStrs (ys : List Str) : Hp → VK → Prop := fun H Q => ∀ p, H p = none → Q (.ref p) (upd H p (.lst (ys.map V.str)))

section
variable {X : Cx} {pins : List (Addr × Obj)} {σ : St} {H : Hp} {s : Shared} {Q : VK}
end

section
variable {X : Cx}

/-! ### of a text alone -/
/-! ### of a text and a text -/
end

section
variable {X : Cx} {o e : Expr} {to te : TE}
def tM0 (r : V → List V → Hp → VK → Prop) (to : TE) : TE := fun σ H Q => to σ H fun x H1 => (∃ a, x = .str a) ∧ r x [] H1 Q
def tM1 (r : V → List V → Hp → VK → Prop) (to te : TE) : TE := fun σ H Q => to σ H fun x H1 => (∃ a, x = .str a) ∧ te σ H1 fun y H2 => r x [y] H2 Q
end
end L2

namespace L2
open PySem PySem.Spec PyProof.Rows

section
variable {X : Cx}
end

/-! ### slices of a text -/
theorem IsPart.raw {v : Value} {o : Option Int} (p : IsPart v o) : ∃ l : Option (Int × Tok), v = partValue l ∧ l.map (·.1) = o := by
  cases p with
  | none => exact ⟨none, rfl, rfl⟩
  | int i t => exact ⟨some (i, t), rfl, rfl⟩

/-- a part, clipped, as the text's slice reckons it -/
def clipS (n d : Nat) : Option Int → Int
  | none => (d : Int)
  | some i => max 0 (min (if i < 0 then i + (n : Int) else i) (n : Int))
/-- z[lo:hi] -/
def cutS (z : Str) (lo hi : Option Int) : Str :=
  ⟨((z.cps.toList.drop (HT.sIx z.length 0 lo)).take (HT.sIx z.length z.length hi - HT.sIx z.length 0 lo)).toArray⟩
def rSlS : V → Option Int → Option Int → Hp → VK → Prop := fun x lo hi H Q => ∃ z, x = .str z ∧ z.length ≤ sizeLine ∧ Q (.str (cutS z lo hi)) H
end L2

namespace Att
open PySem PySem.W PySem.Calls PyProof.Rows

/-! ### the script -/
theorem ints_of_wellAll {P : Params} {h : Heap} : ∀ (ns : List Int) (vs : List Value), WellAll P h vs (ns.map WData.int) → IntsAre vs ns := by
  intro ns
  induction ns with
  | nil =>
    intro vs w
    rw [List.map_nil] at w
    cases w
    exact .nil
  | cons n ns ih =>
    intro vs w
    rw [List.map_cons] at w
    cases w with
    | cons a b =>
      cases a
      exact .cons _ _ (ih _ b)

theorem script_of {l : OpenLaw} {n : Nat} (hn : l.most = some n) {P : Params} {h : Heap} {args : List WData} {vals : List Value}
    (hpre : l.row.toRowW.claim.pre args = true) (hwl : WellAll P h vals args) :
    ∃ a vs ns, vals = [Value.ref a] ∧ args = [WData.list (ns.map WData.int)] ∧ h.get? a = some { cls := .type "list", data := .seq vs.toArray } ∧ IntsAre vs ns ∧ ns.length ≤ n := by
  have hsh : WShape.hasAll [] args [.list .int] = true := (pre_splitW hpre).1
  have hc : l.pre.holds [] { args := args } = true := (pre_splitW hpre).2
  obtain ⟨d, r, rfl, h1, h2⟩ := hasAllW_cons hsh
  obtain rfl := hasAllW_nil h2
  obtain ⟨xs, rfl, h3⟩ := hasW_list h1
  obtain ⟨ns, rfl⟩ := items_int h3
  have hlen : ns.length ≤ n := by
    unfold OpenLaw.pre at hc
    have h4 : (WTm.not (.lt (.lit (.int (n : Int))) (.len (.arg 0)))).holds [] { args := [.list (ns.map .int)] } = true := by
      have h4 := (holds_andW hc).1
      rw [hn] at h4
      exact h4
    have h5 := condW_of h4 (w_not (w_lt w_lit (w_len_list (w_arg rfl))))
    rw [List.length_map] at h5
    refine Nat.le_of_not_lt fun q => ?_
    have q' : (n : Int) < ((ns.length : Nat) : Int) := by omega
    first
      | (rw [decide_eq_true q'] at h5; exact absurd h5 (by decide))
      | (simp at h5; omega)
  cases hwl with
  | cons w1 w2 =>
    cases w2
    cases w1 with
    | list ho hall => exact ⟨_, _, ns, rfl, rfl, ho, ints_of_wellAll ns _ hall, hlen⟩

theorem post_true (l : OpenLaw) (args : List WData) : l.row.toRowW.claim.post args (.bool true) args = true :=
  postW_of (r := l.row.toRowW) (X := (true == true))
    (show WShape.has [] (.bool true) .bool = true by first | rfl | decide | simp [WShape.has, WShape.arms, WShape.armsAll])
    (show (WTm.eq .res (.lit (.bool true))).value [] { args := args, res := some (.bool true), after := args } = some (.bool (true == true)) from w_eq_bool (w_res rfl) w_lit) rfl

/-! ### the attachment: holds_open's last premise (the goal 'hc' behind k_head) from a wpAny of the law's body -/
/-- the same from a codeAny of the CALL (for a layer whose function contracts speak of calls) -/
theorem attach_call {l : OpenLaw} {n : Nat} {q : Program} {loose : List Str} {XP : (Str → Option Value) → Heap → Prop} {YP : World → Heap → Prop} {d : DefRec}
    (hn : l.most = some n) (hdf : d.params.defaults = [])
    (call : ∀ (w : World) (s₀ s₁ : Shared) (mg mb : Str → Option Value) (fa : Addr) (o : Obj) (pm cd doc : Value) (a : Addr) (vs : List Value) (ns : List Int),
      Ground q loose [] XP w s₀ mg mb s₁.heap → YP w s₁.heap →
      s₁.heap.get? fa = some o → o.data = .func (docDef d.name d.params d.body d.scope pm cd doc) → s₁.heap.CodeRec cd d.name → mg d.name = some (.ref fa) →
      s₁.heap.get? a = some { cls := .type "list", data := .seq vs.toArray } → IntsAre vs ns → ns.length ≤ n → s₁.gens = #[] →
      codeAny (model l.prog w) callerA (.call (.ref fa) ⟨[.ref a], []⟩) (fun r s' => r = .ok (.ret (.bool true)) ∧ OldK s₁.heap s'.heap ∧ s'.os = s₁.os ∧ AllBare s'.gens) s₁) :
    WalkO q loose XP YP l.row.toRowW d [] (fun f vs => PySem.call f vs) := by
  intro w s₀ s₁ mg mb G Y fa o pm cd doc dV kV ho hd hcd hD hmg hg args vals as hpre hlay hrd hwl hlo
  obtain rfl : dV = .none := Dflts.none hD hdf
  obtain rfl : kV = .none := Dflts.noKw hD
  obtain ⟨a, vs, ns, rfl, rfl, hobj, hints, hlen⟩ := script_of hn hpre hwl
  refine enter_call (codeAny_mono (call w s₀ s₁ mg mb fa o pm cd doc a vs ns G Y ho (fd_plain hd) hcd hmg hobj hints hlen hg) fun r s' hq => ?_)
  obtain ⟨rfl, h2, h3, h4⟩ := hq
  exact ⟨.inl ⟨.bool true, .bool true, [], rfl, fun _ => rfl, .bool true, post_true l _, fun _ => ⟨List.Pairwise.nil, fun _ hm => (nomatch hm)⟩⟩, h2, h3, h4⟩

/-! ### rules over ANY heap (no ledger) from facts about the written part K: the library's own take a ledger (News) for what they write -/
section
variable {prog : Program} {w : World} {A : Around} {E : Value → Shared → Prop} {s : Shared} {K : Frag}

/-! the whole heap as the ledger: makes every rule that writes through a ledger a rule over any heap -/
def noObjs (h : Heap) : Heap := { h with objs := #[] }
def ledger (h : Heap) (L d : Addr) : List (Addr × Obj) := (List.range h.objs.size).filterMap fun a => if a = L ∨ a = d then none else (h.get? a).map fun o => (a, o)
end
end Att

namespace L2
open PySem PySem.Spec PyProof.Rows

theorem vals_ints : ∀ {vs : List Value} {ns : List Int}, IntsAre vs ns → Vals (ns.map V.int) vs
  | _, _, .nil => .nil
  | _, _, .cons n t h => .cons ⟨t, rfl⟩ (vals_ints h)

/-- nothing is tracked but the script, known to the object (or it is an object of the module) -/
def Only (H : Hp) : Prop := ∀ b, H b = none ∨ ∃ o xs, H b = some (.frz o (.lst xs))

/-- THE HEAD: the law's promise, at the heap behind the top. F, the promise of the law's def, may use that base is part of the heap (so K.In base, base.Ns mainGlobals mg stand in Mod) -/
theorem law_call {P : Program} {w : World} {K : PySem.W.Frag} {mg mb : Str → Option Value} {CX : CXT} {k : Nat} {fa a : Addr} {fd : FuncData} {x : Str} {sp : Sp} {s₁ : Shared} {vs : List Value} {ns : List Int}
    (KX : K.In s₁.heap) (hns : s₁.heap.Ns mainGlobals mg) (hb : s₁.heap.Ns builtinsNs mb) (hbb : ∀ x : Str, x ≠ "__name__" → mb x = bootBuiltins x) (hlim : s₁.heap.NoLimit) (hsys : ∃ mm, s₁.heap.Ns sysModules mm) (hg : s₁.gens = #[])
    (ha : s₁.heap.get? a = some { cls := .type "list", data := .seq vs.toArray }) (hi : IntsAre vs ns) (hl : ns.length ≤ sizeLine) (hr : Room k callerA)
    (F : ∀ base : Heap, K.In base → base.Ns mainGlobals mg → FnOk P w K mg base CX k fa fd [x] sp) (hbind : ∀ (s : Shared) (u : Value), BindsTo s fd ⟨[u], []⟩ [(x, u)])
    (hsp : ∀ H : Hp, Only H → SqL K H a (ns.map V.int) → sp [.ref a] H (fun v _ => v = .bl true) fun _ _ _ => False)
    (hCX : ∀ H e s', CX [] H s₁ (fun _ _ _ => False) e s' → False) :
    codeAny (model P w) callerA (.call (.ref fa) ⟨[.ref a], []⟩) (fun r s' => r = .ok (.ret (.bool true)) ∧ OldK s₁.heap s'.heap ∧ s'.os = s₁.os ∧ AllBare s'.gens) s₁ := by
  have rv := vals_ints hi
  have lenV := hi.length
  -- from an abstract heap in which nothing but the script may be tracked
  have core : ∀ H : Hp, Only H → SqL K H a (ns.map V.int) → HOk P w H s₁.heap → (∀ b, H b ≠ none → b = a) → (H a ≠ none → K.lookup a = none) →
      codeAny (model P w) callerA (.call (.ref fa) ⟨[.ref a], []⟩) (fun r s' => r = .ok (.ret (.bool true)) ∧ OldK s₁.heap s'.heap ∧ s'.os = s₁.os ∧ AllBare s'.gens) s₁ := by
    intro H hO hS hok hA hK
    have base_of : ∀ {b : Addr} {o : Obj}, s₁.heap.get? b = some o → H b = none → (hidT s₁.heap H).get? b = some o := fun e n => hidT_get e n
    have noA : ∀ {b : Addr} {o : Obj} {es : Array DictEntry} {ep : Nat}, s₁.heap.get? b = some o → o.data = .dict es ep → H b = none := fun {b o es ep} e d => by
      cases q : H b with
      | none => rfl
      | some u =>
        have e' : b = a := hA b (by rw [q]; simp)
        subst e'
        rw [ha] at e; cases e
        have d' : Data.seq vs.toArray _ = Data.dict es ep := d
        cases d'
    have nsK : ∀ {b : Addr} {m : Str → Option Value}, s₁.heap.Ns b m → (hidT s₁.heap H).Ns b m := fun {b m} ⟨o, es, ep, e, d, r⟩ => ⟨o, es, ep, base_of e (noA e d), d, r⟩
    have hKb : K.In (hidT s₁.heap H) := fun b o e => base_of (KX b o e) (by
      cases q : H b with
      | none => rfl
      | some u =>
        have e' : b = a := hA b (by rw [q]; simp)
        subst e'
        rw [hK (by rw [q]; simp)] at e; cases e)
    have hM : Mod K mg (hidT s₁.heap H) := ⟨hKb, nsK hns, ⟨mb, nsK hb, hbb⟩, let ⟨mc, h1, h2⟩ := hlim; ⟨mc, nsK h1, h2⟩, let ⟨_, h1⟩ := hsys; let ⟨o, _, _, e, _⟩ := nsK h1; ⟨o, e⟩⟩
    have e0 : Env0 P w K mg (hidT s₁.heap H) callerA [] s₁ H := ⟨rfl, hM, fun b o e => of_hidT e, Nat.le_of_eq (hidT_size _ _), trivial, fun b hb => absurd (show b ∈ ([] : List Addr) from hb) (by simp), hok, .of_eq hg⟩
    refine codeAny_mono ((F _ hKb (nsK hns)).run callerA [] s₁ H ⟨[.ref a], []⟩ [.ref a] [.ref a] _ _ hr e0 (hbind s₁ (.ref a)) (.cons rfl .nil) (hsp H hO hS)) fun r s' h => ?_
    cases r with
    | error e => exact (hCX H e s' h).elim
    | ok fl =>
      cases fl with
      | next => exact False.elim h
      | brk => exact False.elim h
      | cont => exact False.elim h
      | ret u =>
        obtain ⟨v, H', os, bare, un, hok', r', q⟩ := h
        have q' : v = .bl true := q
        subst q'
        obtain rfl : u = Value.bool true := r'
        refine ⟨rfl, OldK.of_keep fun b o e => ?_, os, bare⟩
        cases q : H b with
        | none => exact un.keep b o e q (by intro z; exact absurd (show b ∈ ([] : List Addr) from z) (by simp)) (by simp)
        | some u =>
          rcases hO b with z | ⟨ob, xs, z⟩
          · rw [q] at z; cases z
          · have z2 := un.frzs b ob _ z
            obtain ⟨e1, _⟩ := hok b _ z
            obtain ⟨e2, _⟩ := hok' b _ z2
            rw [e] at e1; cases e1
            exact e2
  cases hk : K.lookup a with
  | some o =>
    -- the script is one of the module's own objects
    have e := KX a o hk
    rw [ha] at e
    cases e
    refine core (fun _ => none) (fun _ => .inl rfl) (.inr ⟨_, vs.toArray, _, hk, rfl, rfl, rfl, by rw [List.size_toArray, lenV]; exact hl, by simpa using rv⟩) (fun b u z => by have z' : (none : Option HO) = some u := z; cases z') (fun b z => absurd rfl z) fun z => absurd rfl z
  | none =>
    refine core (fun b => if b = a then some (.frz { cls := .type "list", data := .seq vs.toArray } (.lst (ns.map V.int))) else none) (fun b => ?_) (.inl (.inr ⟨{ cls := .type "list", data := .seq vs.toArray }, if_pos rfl⟩)) (fun b u z => ?_) (fun b z => ?_) fun _ => hk
    · by_cases hb : b = a
      · exact .inr ⟨_, _, if_pos hb⟩
      · exact .inl (if_neg hb)
    · by_cases hb : b = a
      · have z' := (if_pos hb).symm.trans z
        cases z'
        subst hb
        exact ⟨ha, by rw [List.length_map]; exact hl, vs, _, rv, ha⟩
      · have z' := (if_neg hb).symm.trans z
        cases z'
    · by_cases hb : b = a
      · exact hb
      · exact absurd (if_neg hb) z
end L2

namespace L2
open PySem PySem.Spec PyProof.Rows

abbrev KOf {K : PySem.W.Frag} {h : Heap} (_ : K.In h) : PySem.W.Frag := K

/-- the goal that k_head leaves (case hc), from the law's promise. F gives the function object fd (K's own) once, then the promise over every base -/
theorem walk_of {l : PySem.W.OpenLaw} {n k : Nat} {q : Program} {loose : List Str} {XP : (Str → Option Value) → Heap → Prop} {YP : World → Heap → Prop} {d : DefRec} {K : Params → PySem.W.Frag} {CX : World → CXT} {sp : World → Sp} {x : Str}
    (hi : importsNone q = true) (hn : l.most = some n) (hn2 : n ≤ sizeLine) (hdf : d.params.defaults = []) (hr : Room k callerA)
    (hY : ∀ (w : World) (h : Heap), YP w h → (K w.params).In h)
    (F : ∀ (w : World) (mg : Str → Option Value) (fa : Addr) (h : Heap), (K w.params).In h → h.Ns mainGlobals mg → mg d.name = some (.ref fa) →
      ∃ fd : FuncData, (∀ (s : Shared) (u : Value), BindsTo s fd ⟨[u], []⟩ [(x, u)]) ∧
        ∀ base : Heap, (K w.params).In base → base.Ns mainGlobals mg → FnOk l.prog w (K w.params) mg base (CX w) k fa fd [x] (sp w))
    (hsp : ∀ (w : World) (H : Hp) (a : Addr) (ns : List Int), ns.length ≤ n → Only H → SqL (K w.params) H a (ns.map V.int) → sp w [.ref a] H (fun v _ => v = .bl true) fun _ _ _ => False)
    (hCX : ∀ (w : World) (H : Hp) (s : Shared) (e : Value) (s' : Shared), CX w [] H s (fun _ _ _ => False) e s' → False) :
    PySem.W.WalkO q loose XP YP l.row.toRowW d [] (fun f vs => PySem.call f vs) := by
  refine Att.attach_call hn hdf fun w s₀ s₁ mg mb fa o pm cd doc a vs ns G Y ho hd hcd hmg hobj hints hlen hg => ?_
  have KX := hY w _ Y
  obtain ⟨fd, hb, hF⟩ := F w mg fa _ KX G.T.g hmg
  exact law_call KX G.T.g G.T.b G.T.builtins G.T.nolimit (let ⟨mm, h, _⟩ := (G.T.seer hi).mods; ⟨mm, h⟩) hg hobj hints (Nat.le_trans hlen hn2) hr hF hb (fun H hO hS => hsp w H a ns hlen hO hS) fun H e s' => hCX w H s₁ e s'
end L2

/- THE LAST THEOREM (shape; LID, My.* are yours):
   My.Adr: a structure of the addresses that your layer names (classes, functions); My.Txt K t: a structure (Prop) of the equations over K;
   My.txt_mk : {K} {implicit addresses ..} (e1 : nsIn K mainGlobals "law" = some (some (.ref f))) (e2 : K.lookup f = some ⟨oc, od, .func (fnOf "law" "law" params body scope dV kV doc pm an cdv ct), sl⟩) (e3 : codeIn K cdv "law" = true) .. : ∃ t, My.Txt K t

set_option maxRecDepth 100000 in
set_option maxHeartbeats 0 in
theorem PySem.Challenge.cw_LID_holds : PySem.Challenge.rw_LID.Holds := by
  w_on; o_law; k_head; (case hw => w_witness2)
  k_fill
  refine L2.walk_of (l := PySem.Challenge.rw_LID) (n := 63) (k := 40) (x := "script") (CX := fun w => ..) (sp := fun _ => My.sp_law) rfl (by decide) rfl ⟨rfl, by decide, by decide⟩ (fun w h Y => PySem.W.kIn_of Y) ?F ?S ?C
  case F =>
    intro w mg fa h KX G hmg
    have T : ∃ t, My.Txt (L2.KOf KX) t := by
      dsimp only [L2.KOf]                          -- K must stand as «<heap const> w.params» for k_is
      refine' My.txt_mk ?e1 ?e2 ?e3 ..
      (case e1 => PySem.W.k_is)                    -- in the order: a name -> its address -> its object -> its parts
      (case e2 => PySem.W.k_is)
      ..
    obtain ⟨t, T⟩ := T
    have e0 := hmg.symm.trans (PySem.W.mg_of KX G T.law)
    cases e0                                       -- fa is the law's own address
    exact ⟨_, fun s u => .of_eq rfl, fun base kb nb => My.law_fn T kb nb⟩     -- if «.of_eq rfl» comes too early: refine' ⟨_, ?b, fun base kb nb => My.law_fn T kb nb⟩; exact fun s u => .of_eq rfl
  case S => exact fun w H a ns hl hO hS => ..
  case C => exact ..
(the tactic k_is has no namespace: write k_is) -/

/-! SHORT WORDS over the layer: a def of the text, its body, what a loop and a test want. -/
namespace L2
open PySem PySem.Spec PyProof.Rows

/-! ### the text by places -/
/-- the j-th statement of a class's body -/
def inClass (s : Stmt) (j : Nat) : Stmt := match s with
  | .ClassDef _ _ _ body _ _ _ _ _ _ _ => body.getD j (.Pass ⟨0, 0, 0, 0⟩)
  | _ => .Pass ⟨0, 0, 0, 0⟩
def defArgs (s : Stmt) : Arguments := match s with
  | .FunctionDef _ a _ _ _ _ _ _ _ _ => a
  | _ => { posonlyargs := [], args := [], vararg := none, kwonlyargs := [], kw_defaults := [], kwarg := none, defaults := [] }
def defBody (s : Stmt) : List Stmt := match s with
  | .FunctionDef _ _ b _ _ _ _ _ _ _ => b
  | _ => []
def defScope (s : Stmt) : Scope := match s with
  | .FunctionDef _ _ _ _ _ _ sc _ _ _ => sc
  | _ => { kind := .function, names := [], isGenerator := false, isCoroutine := false }

/-! ### no exception leaves a def -/
abbrev CX0 : CXT := fun _ _ _ _ _ _ => False
abbrev E0 : XK := fun _ _ _ => False
theorem pass0 {X : Cx} : Passes CX0 X E0 := fun _ _ _ _ _ _ _ h => h.elim

/-! ### a def (or method) of the text as it stands behind the top -/
structure Fun (K : PySem.W.Frag) (x qual : Str) (st : Stmt) (f : Addr) (fd : FuncData) : Prop where
  ex : ∃ (oc : Value) (od : Option Addr) (kV doc pm : Value) (an : Option Addr) (cdv ct : Value) (osl : Array (Option Value)),
    fd = PySem.W.fnOf x qual (defArgs st) (defBody st) (defScope st) .none kV doc pm an cdv ct ∧ K.lookup f = some ⟨oc, od, .func fd, osl⟩ ∧ PySem.W.codeIn K cdv qual = true
  kp : PySem.W.keepIn K (.ref f) = true
section
variable {P : Program} {w : World} {K : PySem.W.Frag} {mg : Str → Option Value} {base : Heap}
/-- THE RULE for a def: its body as a term of rules, and the reading of that term -/
theorem Fun.ok {x qual : Str} {st : Stmt} {f : Addr} {fd : FuncData} {N ps : List Str} {k : Nat} {sp : Sp} (F : Fun K x qual st f fd) (S : FnScope N ps (defScope st)) (len : ∀ vs H Q E, sp vs H Q E → vs.length = ps.length)
    (hbody : ∀ (cdv : Value) (A : Around) (outer : List Env) (s : Shared) (H : Hp) (vs : List V) (Q : VK) (E : XK), Room k (A.deeper (envOfC qual (defScope st) s.heap.objs.size f cdv)) → sp vs H Q E →
      ∃ t, PSs (cxOf CX0 P w K mg base N qual (defScope st) f cdv A outer s H E).nox (defBody st) t ∧ t { nx := fun _ H' => Q .non H', rt := Q } (start N vs) H) : FnOk P w K mg base CX0 (k + 1) f fd ps sp := by
  obtain ⟨oc, od, kV, doc, pm, an, cdv, ct, osl, rfl, lk, hcd⟩ := F.ex
  refine fn_of lk hcd S len fun A outer s H vs Q E hr hsp => ?_
  obtain ⟨t, h, q⟩ := hbody cdv A outer s H vs Q E hr hsp
  exact ⟨t, h.nox, q⟩
/-- how its arguments bind (no defaults): h is «fun _ _ _ _ _ _ us hl => match us, hl with | [_, _], _ => rfl», one _ a parameter -/
theorem Fun.binds {x qual : Str} {st : Stmt} {f : Addr} {fd : FuncData} {ps : List Str} (F : Fun K x qual st f fd)
    (h : ∀ (kV doc pm : Value) (an : Option Addr) (cdv ct : Value) (us : List Value), us.length = ps.length → bindArgs (PySem.W.fnOf x qual (defArgs st) (defBody st) (defScope st) .none kV doc pm an cdv ct) ⟨us, []⟩ = pure (ps.zip us)) : Binds K fd ps [] := by
  obtain ⟨oc, od, kV, doc, pm, an, cdv, ct, osl, rfl, lk, hcd⟩ := F.ex
  exact .all (h kV doc pm an cdv ct)
theorem fun_mk {x qual : Str} {st : Stmt} {f : Addr} {oc : Value} {od an : Option Addr} {osl : Array (Option Value)} {kV doc pm cdv ct : Value} (l : K.lookup f = some ⟨oc, od, .func (PySem.W.fnOf x qual (defArgs st) (defBody st) (defScope st) .none kV doc pm an cdv ct), osl⟩)
    (c : PySem.W.codeIn K cdv qual = true) (k : PySem.W.keepIn K (.ref f) = true) : Fun K x qual st f (PySem.W.fnOf x qual (defArgs st) (defBody st) (defScope st) .none kV doc pm an cdv ct) := ⟨⟨oc, od, kV, doc, pm, an, cdv, ct, osl, rfl, l, c⟩, k⟩
end
theorem small1000 {n : Nat} (h : n ≤ 1000) : n < sizeLine := Nat.lt_of_le_of_lt h (by decide)

/-! ### expressions in short: the name that stands in the i-th slot -/
section
variable {X : Cx}
theorem pv (i : Nat) {x : Str} {pos : Pos} (hN : X.N[i]? = some x := by rfl) (hv : Vis X.env.scope x := by first | exact Or.inl rfl | exact Or.inr (Or.inl rfl) | exact Or.inr (Or.inr rfl)) (hd : (x == ("__debug__" : Str)) = false := by decide)
    (hcd : (x == ("__classdict__" : Str)) = false := by decide) : PE X (.Name x pos) (tVar i) := pe_var hN hv hd hcd
end

/-! ### tests -/
theorem iteF {A B : Prop} (h : B) : if false = true then A else B := by
  rw [if_neg Bool.false_ne_true]
  exact h
theorem iteT {A B : Prop} (h : A) : if true = true then A else B := by
  rw [if_pos rfl]
  exact h
/-! ### heaps -/
/-- all that was tracked is as it was -/
def Same (H H' : Hp) : Prop := ∀ b o, H b = some o → H' b = some o
theorem Same.refl (H : Hp) : Same H H := fun _ _ h => h
theorem Same.trans {H H1 H2 : Hp} (a : Same H H1) (b : Same H1 H2) : Same H H2 := fun c o h => b c o (a c o h)
theorem Same.free {H H' : Hp} (e : Same H H') {l : Addr} (h : H' l = Option.none) : H l = Option.none := by
  cases q : H l with
  | none => rfl
  | some o =>
    rw [e l o q] at h
    cases h
theorem Same.seq {K : PySem.W.Frag} {H H' : Hp} {a : Addr} {xs : List V} (e : Same H H') (h : SqL K H a xs) : SqL K H' a xs := by
  rcases h with (h | ⟨o, h⟩) | h
  · exact .inl (.inl (e _ _ h))
  · exact .inl (.inr ⟨o, e _ _ h⟩)
  · exact .inr h

/-! ### a dict's pairs: keys that differ -/
section
variable {κ : Type} [DecidableEq κ]
end
/-! ### lists -/
/-- a new instance and its __init__ leave all that was tracked as it was -/
theorem Same.made {H H1 : Hp} {x dx C : Addr} (nx : H x = Option.none) (nd : H dx = Option.none) (k : ∀ b o, (upd (upd H dx (.own x)) x (.ins C dx [])) b = some o → b ≠ x → H1 b = some o) : Same H H1 := fun b o e =>
  k b o (by rw [upd_ne (ne_of_none e nx), upd_ne (ne_of_none e nd)]; exact e) (ne_of_none e nx)
end L2

set_option Elab.async false
set_option linter.all false
set_option maxRecDepth 100000
namespace L2
open PySem PySem.Spec PyProof.Rows
section
variable {X : Cx}
/-! isinstance(x, T), T a built-in class -/
/-! repr(x), x data at an address -/
/-! a op b op' c op'' d -/
variable {a b c d : Expr} {ta tb tc td : TE} {pos : Pos}
def tChain3 (r r' r'' : R2) (ta tb tc td : TE) : TE := fun σ H Q => ta σ H fun x H1 => tb σ H1 fun y H2 => r x y H2 fun z H3 => ∃ k, z = .bl k ∧
  (if k = true then tc σ H3 fun w' H4 => r' y w' H4 fun z' H5 => ∃ k', z' = .bl k' ∧ (if k' = true then td σ H5 fun v' H6 => r'' w' v' H6 Q else Q (.bl false) H5) else Q (.bl false) H3)
theorem pe_chain3 {op op' op'' : CmpOp} {r r' r'' : R2} (ho : OpR X (compareOp op) r) (ho' : OpR X (compareOp op') r') (ho'' : OpR X (compareOp op'') r'') (ha : PE X a ta) (hb : PE X b tb) (hc : PE X c tc) (hd : PE X d td)
    (hm : lastMarks [op, op', op''] [b, c, d] = false := by with_unfolding_all rfl) : PE X (.Compare a [op, op', op''] [b, c, d] pos) (tChain3 r r' r'' ta tb tc td) := by
  intro pins s σ H Q I h
  refine Compare_chain (thn (ha pins s σ H _ I h) fun v s1 ⟨x, H1, I1, r1, q1⟩ => chain_link (thn (hb pins s1 σ H1 _ I1 q1) fun u s2 ⟨y, H2, I2, r2, q2⟩ =>
    thn (ho pins s2 σ H2 x y v u _ I2 r1 r2 q2) fun d s3 ⟨z, H3, I3, r3, k, e, q3⟩ => ?_)) hm
  subst e
  cases r3
  refine wpAny_truthy_bool ?_
  cases k with
  | false => exact ite_ff ⟨.bl false, H3, I3, rfl, q3⟩
  | true =>
    refine ite_tt (chain_link (thn (hc pins s3 σ H3 _ I3 q3) fun w' s4 ⟨z', H4, I4, r4, q4⟩ => thn (ho' pins s4 σ H4 y z' u w' _ I4 r2 r4 q4) fun d' s5 ⟨z2, H5, I5, r5, k', e', q5⟩ => ?_))
    subst e'
    cases r5
    refine wpAny_truthy_bool ?_
    cases k' with
    | false => exact ite_ff ⟨.bl false, H5, I5, rfl, q5⟩
    | true => exact ite_tt (chain_last (thn (hd pins s5 σ H5 _ I5 q5) fun v' s6 ⟨z6, H6, I6, r6, q6⟩ => ho'' pins s6 σ H6 z' z6 w' v' Q I6 r4 r6 q6))

/-! xs.count(y), flat items -/
end
end L2
namespace L2
open PySem
/-! heaps alike but at p -/
def Upto (p : Addr) (H H' : Hp) : Prop := ∀ c o, H c = some o → c ≠ p → H' c = some o
theorem Upto.refl (p : Addr) (H : Hp) : Upto p H H := fun _ _ h _ => h
theorem Upto.trans {p : Addr} {H H1 H2 : Hp} (a : Upto p H H1) (b : Upto p H1 H2) : Upto p H H2 := fun c o h n => b c o (a c o h n) n
theorem Upto.new {p l : Addr} {H : Hp} {o : HO} (h : H l = none) : Upto p H (upd H l o) := fun c u e _ => by rw [upd_ne (ne_of_none e h)]; exact e
theorem Upto.of {p : Addr} {H H' : Hp} (h : Same H H') : Upto p H H' := fun c o e _ => h c o e
theorem Upto.none {p l : Addr} {H H' : Hp} (h : Upto p H H') (n : H' l = Option.none) (ne : l ≠ p) : H l = Option.none := by
  cases e : H l with
  | none => rfl
  | some o => rw [h l o e ne] at n; cases n
theorem Same.new {l : Addr} {H : Hp} {o : HO} (h : H l = none) : Same H (upd H l o) := fun c u e => by rw [upd_ne (ne_of_none e h)]; exact e
theorem small {n : Nat} (h : n ≤ 1000) : n ≤ sizeLine := Nat.le_of_lt (small1000 h)
/-! a span, a book: tuples of ints -/
abbrev Sn := Int × Int × Int
def SpanAt (H : Hp) (v : V) (s : Sn) : Prop := ∃ a, v = .ref a ∧ H a = some (.tup [.int s.1, .int s.2.1, .int s.2.2])
def BookAt (H : Hp) (a : Addr) (bk : List Sn) : Prop := ∃ vs, H a = some (.tup vs) ∧ Paired (SpanAt H) vs bk
/-- all tuples stay -/
def KeepT (H H' : Hp) : Prop := ∀ b xs, H b = some (.tup xs) → H' b = some (.tup xs)
end L2
namespace L2
open PySem
theorem KeepT.refl (H : Hp) : KeepT H H := fun _ _ h => h
theorem KeepT.trans {H H1 H2 : Hp} (a : KeepT H H1) (b : KeepT H1 H2) : KeepT H H2 := fun c o h => b c o (a c o h)
theorem KeepT.of {H H' : Hp} (h : Same H H') : KeepT H H' := fun b xs e => h b _ e
theorem KeepT.upto {p : Addr} {ys : List V} {H H' : Hp} (h : Upto p H H') (hp : H p = some (.lst ys)) : KeepT H H' := fun b xs e => h b _ e (ne_of e hp (by intro z; cases z))
theorem SpanAt.keep {H H' : Hp} (k : KeepT H H') {v : V} {s : Sn} (h : SpanAt H v s) : SpanAt H' v s := let ⟨a, e, q⟩ := h; ⟨a, e, k _ _ q⟩
theorem SpansAt.keep {H H' : Hp} (k : KeepT H H') {vs : List V} {bk : List Sn} (h : Paired (SpanAt H) vs bk) : Paired (SpanAt H') vs bk := Paired.mapP h fun _ _ => SpanAt.keep k
theorem BookAt.keep {H H' : Hp} (k : KeepT H H') {a : Addr} {bk : List Sn} (h : BookAt H a bk) : BookAt H' a bk := let ⟨vs, e, q⟩ := h; ⟨vs, k _ _ e, SpansAt.keep k q⟩
theorem Paired.at {α β : Type} {F : α → β → Prop} : ∀ {l₁ : List α} {l₂ : List β} {i : Nat} {x : α}, Paired F l₁ l₂ → l₁[i]? = some x → ∃ y, l₂[i]? = some y ∧ F x y
  | _, _, _, _, .nil, e => by simp at e
  | _, _, 0, _, .cons r _, e => by simp at e; subst e; exact ⟨_, rfl, r⟩
  | _, _, i + 1, x, .cons _ t, e => by
    obtain ⟨u, h1, h2⟩ := Paired.at (i := i) (x := x) t (by simpa using e)
    exact ⟨u, by simpa using h1, h2⟩
theorem Paired.len {α β : Type} {F : α → β → Prop} : ∀ {l₁ : List α} {l₂ : List β}, Paired F l₁ l₂ → l₁.length = l₂.length
  | _, _, .nil => rfl
  | _, _, .cons _ t => by simp [Paired.len t]
theorem Paired.app {α β : Type} {F : α → β → Prop} : ∀ {l₁ m₁ : List α} {l₂ m₂ : List β}, Paired F l₁ l₂ → Paired F m₁ m₂ → Paired F (l₁ ++ m₁) (l₂ ++ m₂)
  | _, _, _, _, .nil, s => s
  | _, _, _, _, .cons r t, s => .cons r (Paired.app t s)
/-! spans as data -/
def spanD (s : Sn) : PyData := .tuple [.int s.1, .int s.2.1, .int s.2.2]
theorem SpanAt.dp {K : PySem.W.Frag} {H : Hp} {v : V} {s : Sn} (h : SpanAt H v s) : Dp K H v (spanD s) := by
  obtain ⟨a, rfl, e⟩ := h
  exact .tup (SqT.of e) (.cons (.int _) (.cons (.int _) (.cons (.int _) .nil)))
theorem SpansAt.dp {K : PySem.W.Frag} {H : Hp} : ∀ {vs : List V} {bk : List Sn}, Paired (SpanAt H) vs bk → DpAll K H vs (bk.map spanD)
  | _, _, .nil => .nil
  | _, _, .cons r t => .cons r.dp (SpansAt.dp t)
end L2

set_option Elab.async false
set_option linter.all false
set_option maxRecDepth 100000
namespace L2
open PySem
theorem Same.upd {H H' : Hp} {D : Addr} {o : HO} (s : Same H H') (h : H D = none) : Same H (upd H' D o) := fun c u e => by rw [upd_ne (ne_of_none e h)]; exact s c u e
/-! whole numbers -/
def Whole (K : PySem.W.Frag) (H : Hp) (v : V) (b : Bool) : Prop := ∃ t b1 b2, TyOf K H v t ∧ PySem.W.kitOne K t (.type "int") = some b1 ∧ PySem.W.kitOne K t (.type "bool") = some b2 ∧ b = (b1 && !b2)
theorem Whole.int (K : PySem.W.Frag) (H : Hp) (i : Int) : Whole K H (.int i) true := ⟨_, true, false, .int i, rfl, rfl, rfl⟩
end L2

set_option Elab.async false
set_option linter.all false
set_option maxRecDepth 100000
namespace SX
open PySem
/-! a set's table: its places rise -/
def Ris (t : SetTable) : Prop := t.place.toList.Pairwise (· < ·)
theorem ris_at {xs : Array Nat} (hr : xs.toList.Pairwise (· < ·)) {a b : Nat} (h : a < b) (hb : b < xs.size) : xs[a]'(by omega) < xs[b] := by
  have q := List.pairwise_iff_getElem.mp hr a b (by simpa using (by omega : a < xs.size)) (by simpa using hb) h
  simpa using q
theorem below_go {xs : Array Nat} (hr : xs.toList.Pairwise (· < ·)) (j : Nat) : ∀ (fuel lo hi : Nat), hi ≤ xs.size → lo ≤ hi → hi - lo ≤ fuel → (∀ (k : Nat) (h : k < xs.size), k < lo → xs[k] < j) → (∀ (k : Nat) (h : k < xs.size), hi ≤ k → j ≤ xs[k]) →
    SetTable.below.go xs j fuel lo hi ≤ xs.size ∧ (∀ (k : Nat) (h : k < xs.size), k < SetTable.below.go xs j fuel lo hi → xs[k] < j) ∧ (∀ (k : Nat) (h : k < xs.size), SetTable.below.go xs j fuel lo hi ≤ k → j ≤ xs[k]) := by
  intro fuel
  induction fuel with
  | zero =>
    intro lo hi h1 h2 h3 h4 h5
    have e : lo = hi := by omega
    subst e
    exact ⟨h1, h4, h5⟩
  | succ n ih =>
    intro lo hi h1 h2 h3 h4 h5
    unfold SetTable.below.go
    by_cases c : lo < hi
    · rw [if_pos c]
      have hm : (lo + hi) / 2 < xs.size := by omega
      have e : xs.getD ((lo + hi) / 2) j = xs[(lo + hi) / 2] := by simp [Array.getD, hm]
      dsimp only
      rw [e]
      by_cases d : xs[(lo + hi) / 2] < j
      · rw [if_pos d]
        refine ih _ _ h1 (by omega) (by omega) (fun k hk hlt => ?_) h5
        by_cases e2 : k = (lo + hi) / 2
        · subst e2; exact d
        · have := ris_at hr (a := k) (b := (lo + hi) / 2) (by omega) hm
          omega
      · rw [if_neg d]
        refine ih _ _ (by omega) (by omega) (by omega) h4 (fun k hk hlt => ?_)
        by_cases e2 : k = (lo + hi) / 2
        · subst e2; omega
        · have := ris_at hr (a := (lo + hi) / 2) (b := k) (by omega) hk
          omega
    · rw [if_neg c]
      have e : lo = hi := by omega
      subst e
      exact ⟨h1, h4, h5⟩
theorem below_ok {xs : Array Nat} (hr : xs.toList.Pairwise (· < ·)) (j : Nat) :
    SetTable.below xs j ≤ xs.size ∧ (∀ (k : Nat) (h : k < xs.size), k < SetTable.below xs j → xs[k] < j) ∧ (∀ (k : Nat) (h : k < xs.size), SetTable.below xs j ≤ k → j ≤ xs[k]) :=
  below_go hr j xs.size 0 xs.size (Nat.le_refl _) (Nat.zero_le _) (by omega) (fun k h c => by omega) (fun k h c => by omega)
theorem ris_put {t : SetTable} (hr : Ris t) {j : Nat} (hf : ¬ t.place[SetTable.below t.place j]? = some j) : Ris (t.put j).1 := by
  obtain ⟨h1, h2, h3⟩ := below_ok hr j
  have h3' : ∀ (k : Nat) (h : k < t.place.size), SetTable.below t.place j ≤ k → j < t.place[k] := fun k h c => by
    have q := h3 k h c
    by_cases e : k = SetTable.below t.place j
    · have ne : t.place[k] ≠ j := fun z => hf (by rw [← e, Array.getElem?_eq_getElem h, z])
      omega
    · have q2 := h3 (SetTable.below t.place j) (by omega) (Nat.le_refl _)
      have := ris_at hr (a := SetTable.below t.place j) (b := k) (by omega) h
      omega
  show (SetTable.insertAt t.place (SetTable.below t.place j) j).toList.Pairwise (· < ·)
  rw [SetTable.toList_insertAt]
  have hr' : t.place.toList.Pairwise (· < ·) := hr
  refine List.pairwise_append.mpr ⟨List.Pairwise.sublist (List.take_sublist _ _) hr', List.pairwise_cons.mpr ⟨fun x hx => ?_, List.Pairwise.sublist (List.drop_sublist _ _) hr'⟩, fun x hx y hy => ?_⟩
  · obtain ⟨k, hk, e⟩ := List.getElem_of_mem hx
    rw [List.length_drop, Array.length_toList] at hk
    rw [List.getElem_drop, Array.getElem_toList] at e
    rw [← e]
    exact h3' _ (by omega) (by omega)
  · have hxj : x < j := by
      obtain ⟨k, hk, e⟩ := List.getElem_of_mem hx
      rw [List.length_take, Array.length_toList] at hk
      rw [List.getElem_take, Array.getElem_toList] at e
      rw [← e]
      exact h2 _ (by omega) (by omega)
    rcases List.mem_cons.mp hy with rfl | hy
    · exact hxj
    · obtain ⟨k, hk, e⟩ := List.getElem_of_mem hy
      rw [List.length_drop, Array.length_toList] at hk
      rw [List.getElem_drop, Array.getElem_toList] at e
      have := h3' (SetTable.below t.place j + k) (by omega) (by omega)
      omega
theorem slot_dead {t : SetTable} {j : Nat} (h : ∀ i, t.slot j ≠ .live i) : ¬ t.place[SetTable.below t.place j]? = some j := fun e => by
  refine h (SetTable.below t.place j) ?_
  unfold SetTable.slot
  simp [e]
theorem probe_dead {t : SetTable} {f : Nat → Int} {h : Int} : ∀ (n : Nat) (p : SetTable.Probe) (j : Nat) (d : Option Nat), (∀ d', p.dummy = some d' → ∀ i, t.slot d' ≠ .live i) → SetTable.probe.go t f h n p = some (.empty j d) →
    (∀ i, t.slot j ≠ .live i) ∧ ∀ d', d = some d' → ∀ i, t.slot d' ≠ .live i
  | 0, _, _, _, _, e => by simp [SetTable.probe.go] at e
  | n + 1, p, j, d, hd, e => by
    unfold SetTable.probe.go at e
    split at e
    · rename_i hs
      simp only [Option.some.injEq, SetTable.Met.empty.injEq] at e
      obtain ⟨rfl, rfl⟩ := e
      exact ⟨(fun i z => by rw [hs] at z; cases z), hd⟩
    · rename_i hs
      refine probe_dead n _ j d ?_ e
      intro d' hd'
      have : d' = p.j := by
        unfold SetTable.advance at hd'
        split at hd' <;> simpa using hd'.symm
      subst this
      intro i z; rw [hs] at z; cases z
    · split at e
      · simp at e
      · refine probe_dead n _ j d ?_ e
        intro d' hd'
        refine hd d' ?_
        unfold SetTable.advance at hd'
        split at hd' <;> simpa using hd'
theorem free_dead {t : SetTable} {h : Int} {j : Nat} {b : Bool} (e : t.freeSlot h = some (j, b)) : ¬ t.place[SetTable.below t.place j]? = some j := by
  refine slot_dead ?_
  unfold SetTable.freeSlot at e
  split at e
  · rename_i j' d hp
    obtain ⟨q1, q2⟩ := probe_dead _ _ _ _ (fun d' hd' => by simp [SetTable.probeStart] at hd') hp
    simp only [Option.some.injEq, Prod.mk.injEq] at e
    obtain ⟨rfl, _⟩ := e
    cases d with
    | none => exact q1
    | some d => exact q2 d rfl
  · cases e
theorem ris_stand (t : SetTable) (n : Nat) : Ris (t.standIn n) := by
  show (Array.range n).toList.Pairwise (· < ·)
  rw [Array.toList_range]
  exact List.pairwise_lt_range
theorem ris_or {t : SetTable} (hr : Ris t) (n : Nat) : Ris (t.orStandIn n) := by
  unfold SetTable.orStandIn
  split
  · exact hr
  · exact ris_stand t n
theorem led_or (t : SetTable) (n : Nat) : (t.orStandIn n).led = t.led := by
  unfold SetTable.orStandIn
  split <;> rfl
theorem lay_ok {t : SetTable} (hr : Ris t) (es : Array (Int × Value)) (h : Int) (x : Value) : Ris (layNew t es h x).2.1 ∧ (layNew t es h x).2.1.led = t.led := by
  unfold layNew
  split
  · rename_i s b e
    exact ⟨ris_or (ris_put hr (free_dead e)) _, led_or _ _⟩
  · exact ⟨ris_stand t _, rfl⟩
theorem fm_ris {f : Nat → Option (Nat × Nat)} (hf : ∀ i p, f i = some p → p.1 = i) : ∀ {l : List Nat}, l.Pairwise (· < ·) → ((l.filterMap f).map (·.1)).Pairwise (· < ·) := by
  intro l hl
  rw [List.pairwise_map]
  refine List.Pairwise.filterMap _ (R := (· < ·)) ?_ hl
  intro a a' h b hb b' hb'
  rw [hf a b hb, hf a' b' hb']
  exact h
theorem relay_ok {t : SetTable} (hr : Ris t) (es : Array (Int × Value)) (n : Nat) : Ris (relayAll t es n).2.1 ∧ (relayAll t es n).2.1.led = t.led := by
  unfold relayAll
  split
  · rename_i t' o e
    dsimp only
    split
    · unfold SetTable.relaid SetTable.laid at e
      cases hl : SetTable.layClean (SetTable.sizeAbove n - 1) (es.map (·.1)) with
      | none => rw [hl] at e; cases e
      | some ow =>
        rw [hl] at e
        simp only [Option.bind_eq_bind, Option.bind_some, Option.pure_def, Option.some.injEq, Prod.mk.injEq] at e
        obtain ⟨rfl, _⟩ := e
        refine ⟨?_, rfl⟩
        show (((List.range _).filterMap _).map _).toArray.toList.Pairwise (· < ·)
        refine fm_ris (fun i p hp => ?_) List.pairwise_lt_range
        obtain ⟨z, _, rfl⟩ := Option.map_eq_some_iff.mp hp
        rfl
    · exact ⟨ris_stand t _, rfl⟩
  · exact ⟨ris_stand t _, rfl⟩
end SX

set_option Elab.async false
set_option linter.all false
set_option maxRecDepth 100000
namespace SX
open PySem PyProof.Rows
def kOf (e : Int × Value) : Int := match e.2 with
  | .int k _ => k
  | _ => 0
def addK (ks : List Int) (k : Int) : List Int := if k ∈ ks then ks else ks ++ [k]
section
variable {prog : Program} {w : World} {A : Around} {E : Value → Shared → Prop} {s : Shared}
/-- a set of ints stands at a, its table led as b says; its ints, in some order, are ks -/
def SetI (prog : Program) (w : World) (b : Bool) (h : Heap) (a : Addr) (ks : List Int) : Prop :=
  ∃ (es : Array (Int × Value)) (ep : Nat) (t : SetTable), h.get? a = some { cls := .type "set", dict := none, data := .set es ep t } ∧ ElemsOf (intKind prog w) es.toList ∧ es.size < scanBound ∧ t.fits es.size = true ∧ Ris t ∧ t.led = b ∧ (es.toList.map kOf).Perm ks
theorem el_int {l : List (Int × Value)} (h : ElemsOf (intKind prog w) l) {e : Int × Value} (he : e ∈ l) : ∃ t, e.2 = .int (kOf e) t := by
  obtain ⟨⟨k, hk, _⟩, _⟩ := h e he
  obtain ⟨t, q⟩ := Value.isInt_shape (k := k) (v := e.2) hk
  exact ⟨t, by unfold kOf; rw [q]⟩
theorem el_is {l : List (Int × Value)} (h : ElemsOf (intKind prog w) l) {e : Int × Value} (he : e ∈ l) (k : Int) : (intKind prog w).is k e.2 = true ↔ kOf e = k := by
  obtain ⟨t, q⟩ := el_int h he
  constructor
  · intro c
    obtain ⟨t', q'⟩ := Value.isInt_shape (k := k) (v := e.2) c
    unfold kOf; rw [q']
  · intro c
    rw [q, c]
    exact intKind_is _ _ _ _
theorem idx_none {l : List (Int × Value)} (h : ElemsOf (intKind prog w) l) {k : Int} (e : l.findIdx? (fun e => (intKind prog w).is k e.2) = none) : k ∉ l.map kOf := fun m => by
  obtain ⟨x, hx, ex⟩ := List.mem_map.mp m
  have q := List.findIdx?_eq_none_iff.mp e x hx
  rw [(el_is h hx k).mpr ex] at q
  cases q
theorem idx_some {l : List (Int × Value)} (h : ElemsOf (intKind prog w) l) {k : Int} {j : Nat} (e : l.findIdx? (fun e => (intKind prog w).is k e.2) = some j) : k ∈ l.map kOf := by
  obtain ⟨hj, q, _⟩ := List.findIdx?_eq_some_iff_getElem.mp e
  exact List.mem_map.mpr ⟨l[j], List.getElem_mem hj, (el_is h (List.getElem_mem hj) k).mp q⟩
theorem put_at {h : Heap} {a : Addr} {es es' : Array (Int × Value)} {ep : Nat} {t t' : SetTable} (ho : h.get? a = some { cls := .type "set", dict := none, data := .set es ep t }) :
    (h.update a (Obj.putSet es' t')).get? a = some { cls := .type "set", dict := none, data := .set es' (ep + 1) t' } :=
  Heap.get?_update_self (Obj.putSet es' t') ho rfl
theorem add_ok {b : Bool} {a : Addr} {ks : List Int} {k : Int} {tk : Tok} {Q : Bool → Shared → Prop} (hS : SetI prog w b s.heap a ks) (hroom : ks.length + 1 < scanBound)
    (h : ∀ (r : Bool) (h' : Heap) (n : Nat), Heap.SameBut a s.heap h' → SetI prog w b h' a (addK ks k) → s.toks ≤ n → Q r { s with heap := h', toks := n }) : wpAny (model prog w) A (setAdd a (.int k tk)) Q E s := by
  obtain ⟨es, ep, t, ho, hel, hb, hf, hr, hled, hp⟩ := hS
  have hlen : es.size = ks.length := by have := hp.length_eq; simpa using this
  unfold setAdd
  refine wpAny_holding (wpAny_bind ((intKind prog w).pyHash (k := k) (intKind_is _ _ _ _) ?_))
  have h : ∀ (r : Bool) (h' : Heap), Heap.SameBut a s.heap h' → SetI prog w b h' a (addK ks k) → Q r { s with heap := h', toks := s.toks + 1 } := fun r h' q1 q2 => h r h' _ q1 q2 (Nat.le_succ _)
  obtain ⟨hp0, g, d, tk0, os⟩ := s
  dsimp only at ho h ⊢
  unfold setAddHashed setAddHashedIn
  refine wpAny_holding (wpAny_bind (wpAny_setState_of ho rfl hf ?_))
  dsimp only
  rw [byScan_of (knd := intKind prog w) rfl hb hel, if_pos rfl]
  refine wpAny_bind ?_
  unfold setAddByScan
  refine wpAny_bind (wpAny_rule (wpAny_bind (wpAny_setScan_of (knd := intKind prog w) (k := k) (intKind_is _ _ _ _) ho rfl hf hel ?_)))
  cases hi : es.toList.findIdx? (fun e => (intKind prog w).is k e.2) with
  | some j =>
    have hk : k ∈ ks := hp.mem_iff.mp (idx_some hel hi)
    refine wpAny_pure (wpAny_pure (h _ hp0 (Heap.SameBut.refl a hp0) ?_))
    unfold addK
    rw [if_pos hk]
    exact ⟨es, ep, t, ho, hel, hb, hf, hr, hled, hp⟩
  | none =>
    have hk : k ∉ ks := fun m => idx_none hel hi (hp.mem_iff.mpr m)
    have ea : addK ks k = ks ++ [k] := by unfold addK; rw [if_neg hk]
    dsimp only
    have q1 := layNew_perm t es ((intKind prog w).hash k) (.int k tk)
    have q2 := layNew_fits t es ((intKind prog w).hash k) (.int k tk)
    have q3 := lay_ok hr es ((intKind prog w).hash k) (.int k tk)
    revert q1 q2 q3
    generalize layNew t es ((intKind prog w).hash k) (.int k tk) = L
    obtain ⟨e1, t1, dm, gv⟩ := L
    intro q1 q2 q3
    dsimp only at q1 q2 q3 ⊢
    rw [Array.toList_push] at q1
    have el1 : ElemsOf (intKind prog w) e1.toList := (hel.push (k := k) (x := .int k tk) (intKind_is _ _ _ _) rfl).perm q1
    have s1 : e1.size = ks.length + 1 := by have := q1.length_eq; simpa [hlen] using this
    have p1 : (e1.toList.map kOf).Perm (ks ++ [k]) := (q1.map kOf).trans (by rw [List.map_append]; exact hp.append_right _)
    have b1 : e1.size < scanBound := by omega
    have tail : ∀ (gw : Bool → Sem Unit) (R : Option Bool → Shared → Prop), (∀ (x : Bool) (s₁ : Shared) (Q' : Unit → Shared → Prop), Q' () s₁ → wpAny (model prog w) A (gw x) Q' E s₁) → (∀ s', Q true s' → R (some true) s') → wpAny (model prog w) A (do
        storeSet a e1 t1
        if (!dm && t1.tooFull) = true then do
            gw (relayAll t1 e1 (SetTable.grown e1.size)).2.2
            storeSet a (relayAll t1 e1 (SetTable.grown e1.size)).1 (relayAll t1 e1 (SetTable.grown e1.size)).2.1
            pure (some true)
          else pure (some true)) R E ⟨hp0, g, d, tk0 + 1, os⟩ := by
      intro gw R hgw hR
      have l2 : t1.led = b := by rw [q3.2, hled]
      refine wpAny_bind (wpAny_storeSet_of ho rfl ?_ (fits_of_scanBound b1))
      have ho1 := put_at (es' := e1) (t' := t1) ho
      have sb1 := Heap.SameBut.update hp0 a (Obj.putSet e1 t1)
      split
      · have z1 := relayAll_perm t1 e1 (SetTable.grown e1.size)
        have z2 := relayAll_fits t1 e1 (SetTable.grown e1.size)
        have z3 := relay_ok q3.1 e1 (SetTable.grown e1.size)
        revert z1 z2 z3
        generalize relayAll t1 e1 (SetTable.grown e1.size) = L2
        obtain ⟨e2, t3, gv2⟩ := L2
        intro z1 z2 z3
        dsimp only at z1 z2 z3 ⊢
        have b2 : e2.size < scanBound := by have := z1.length_eq; simp at this; omega
        refine wpAny_bind (hgw _ _ _ (wpAny_bind (wpAny_storeSet_of ho1 rfl ?_ (fits_of_scanBound b2))))
        refine wpAny_pure (hR _ (h _ _ (sb1.trans (Heap.SameBut.update _ a _)) ?_))
        rw [ea]
        exact ⟨e2, _, t3, put_at ho1, el1.perm z1, b2, z2, z3.1, by rw [z3.2, l2], (z1.map kOf).trans p1⟩
      · refine wpAny_pure (hR _ (h _ _ sb1 ?_))
        rw [ea]
        exact ⟨e1, _, t1, ho1, el1, b1, q2, q3.1, l2, p1⟩
    have hgo : ∀ (x : Bool) (s₁ : Shared) (Q' : Unit → Shared → Prop), Q' () s₁ → wpAny (model prog w) A (match x with | true => rule "set.scan.the-table-gave-way" | false => pure ()) Q' E s₁ := fun x s₁ Q' hq => by
      cases x
      · exact wpAny_pure hq
      · exact wpAny_rule hq
    refine wpAny_bind (hgo gv _ _ ?_)
    split
    · refine wpAny_bind (wpAny_pure ?_)
      rw [if_pos rfl]
      exact tail _ _ hgo fun s' q => wpAny_pure q
    · refine wpAny_bind (wpAny_pure ?_)
      rw [if_pos rfl]
      exact tail _ _ hgo fun s' q => wpAny_pure q
end
end SX

set_option Elab.async false
set_option linter.all false
set_option maxRecDepth 100000
set_option maxHeartbeats 8000000
namespace SX
open PySem PyProof.Rows
def met (val : Nat → Int) (i : Nat) : List Int := ((List.range i).map val).foldl addK []
theorem met_succ (val : Nat → Int) (i : Nat) : met val (i + 1) = addK (met val i) (val i) := by
  unfold met; rw [List.range_succ, List.map_append, List.foldl_append]; rfl
theorem addK_len (ks : List Int) (k : Int) : (addK ks k).length ≤ ks.length + 1 := by
  unfold addK; split
  · omega
  · simp
theorem met_len (val : Nat → Int) : ∀ i, (met val i).length ≤ i
  | 0 => Nat.le_refl _
  | i + 1 => by have a := met_len val i; have b := addK_len (met val i) (val i); rw [met_succ]; omega
section
variable {prog : Program} {w : World} {A : Around} {R : Result → Shared → Prop} {I : Addr} {fp wr : List Addr} {G : Array GenState → Array GenState → Prop} {n : Nat} {P : Nat → Value → Prop} {St : Nat → Shared → Prop}
theorem SetI.at {b : Bool} {h h' : Heap} {S : Addr} {ks : List Int} (hS : SetI prog w b h S ks) (e : ∀ o, h.get? S = some o → h'.get? S = some o) : SetI prog w b h' S ks :=
  let ⟨es, ep, t, ho, r⟩ := hS; ⟨es, ep, t, e _ ho, r⟩
theorem upd_loop {b : Bool} (W : WalksS prog w A.in1 I fp wr G n P St) (S : Addr) (hSf : S ∉ fp) (val : Nat → Int) (hval : ∀ i v, P i v → ∃ t, v = .int (val i) t) (hb : n + 1 < scanBound) :
    ∀ (k i : Nat) (s : Shared), n - i = k → i ≤ n → St i s → SetI prog w b s.heap S (met val i) →
      (∀ s', Moved (S :: wr) G s s' → SetI prog w b s'.heap S (met val n) → R (.ok (.ret .none)) s') → codeAny (model prog w) A (.builtin "set.update.loop" ⟨[.ref S, .ref I], []⟩) R s := by
  have nSw : S ∉ wr := fun h => hSf (W.sub _ h)
  have up : ∀ c ∈ wr, c ∈ S :: wr := fun c hc => List.mem_cons_of_mem _ hc
  intro k
  induction k with
  | zero =>
    intro i s hk hi hst hS hR
    obtain rfl : i = n := by omega
    refine codeAny_builtin PyProof.Rows.F.entry_set_update_loop ?_
    rw [Around.under_plainId PyProof.Rows.F.plain_set_update_loop _]
    show wpAny _ A.in1 (pyNext (.ref I) >>= _) _ _ s
    refine wpAny_bind (W.done s _ _ hst fun s' hm => ?_)
    exact wpAny_pure (hR s' (hm.mono up) (hS.at fun o e => hm.heap S o nSw e))
  | succ k ih =>
    intro i s hk hi hst hS hR
    have lt : i < n := by omega
    refine codeAny_builtin PyProof.Rows.F.entry_set_update_loop ?_
    rw [Around.under_plainId PyProof.Rows.F.plain_set_update_loop _]
    show wpAny _ A.in1 (pyNext (.ref I) >>= _) _ _ s
    refine wpAny_bind (W.item i s _ _ lt hst fun v s' hP hst' hm => ?_)
    obtain ⟨t, rfl⟩ := hval i v hP
    show wpAny _ A.in1 (holding [Value.int (val i) t] (setAdd S (.int (val i) t)) >>= _) _ _ s'
    have ml := met_len val i
    refine wpAny_bind (wpAny_holding (add_ok (hS.at fun o e => hm.heap S o nSw e) (by omega) fun r h' tk sb hS2 htk => ?_))
    rw [← met_succ] at hS2
    refine wpAny_pure ⟨plainId_quiet PyProof.Rows.F.plain_set_update_loop _, ih (i + 1) _ (by omega) lt (W.frame _ s' _ _ hst' htk fun c hc o e => ?_) hS2 fun s'' hm'' hS'' => ?_⟩
    · rw [sb.2 c (fun z : c = S => hSf (by rw [← z]; exact hc))]; exact e
    · refine hR s'' (Moved.trans W.gtrans ((hm.mono up).then_heap htk fun c o hc e => ?_) hm'') hS''
      rw [sb.2 c (fun z : c = S => hc (by rw [z]; exact List.mem_cons_self))]; exact e
end
section
variable {prog : Program} {w : World} {A : Around} {E : Value → Shared → Prop} {s : Shared}
abbrev setObj (b : Bool) : Obj := { cls := .type "set", dict := none, data := .set #[] 0 (.fresh 0 0 b) }
def byT (w : World) : Bool := w.params.followText "set-order"
end
end SX

set_option Elab.async false
set_option linter.all false
set_option maxRecDepth 100000
set_option maxHeartbeats 1000000
namespace SX
open PySem PyProof.Rows
abbrev itObj (fst : Value) (i n ep : Nat) (S : Addr) : Obj := { cls := .type "set_iterator", data := .fields #[fst, .int i 0, .ref S, .int n 0, .int ep 0] }
abbrev seObj (es : Array (Int × Value)) (ep : Nat) (t : SetTable) : Obj := { cls := .type "set", dict := none, data := .set es ep t }
section
variable {prog : Program} {w : World} {A : Around} {E : Value → Shared → Prop} {s : Shared} {I S : Addr} {es : Array (Int × Value)} {ep i : Nat} {t : SetTable} {Q : Option Value → Shared → Prop}
end
end SX

set_option Elab.async false
set_option linter.all false
set_option maxRecDepth 100000
set_option maxHeartbeats 1000000
namespace SX
open PySem PyProof.Rows
section
variable {prog : Program} {w : World} {A : Around} {E : Value → Shared → Prop} {s : Shared}
variable {I S : Addr} {es : Array (Int × Value)} {ep : Nat} {t : SetTable}
def slotAt (t : SetTable) : Nat → Nat
  | 0 => 0
  | i + 1 => t.place.getD i 0 + 1
end
end SX

set_option Elab.async false
set_option linter.all false
set_option maxRecDepth 100000
set_option maxHeartbeats 1000000
namespace SX
open PySem PyProof.Rows
section
variable {prog : Program} {w : World} {A : Around} {E : Value → Shared → Prop} {s : Shared} {I S : Addr} {es : Array (Int × Value)} {ep : Nat} {t : SetTable}
def vP (es : Array (Int × Value)) : List Value := es.toList.map (·.2)
def vD (es : Array (Int × Value)) (ys : List Nat) : List Value := ys.map fun j => (es.getD j (0, .none)).2
end
end SX

set_option Elab.async false
set_option linter.all false
set_option maxRecDepth 100000
set_option maxHeartbeats 1000000
namespace SX
open PySem PyProof.Rows
section
variable {prog : Program} {w : World} {A : Around} {E : Value → Shared → Prop} {s : Shared} {S : Addr} {es : Array (Int × Value)} {ep : Nat} {t : SetTable}
def vK : Value → Int
  | .int k _ => k
  | _ => 0
end
end SX

set_option Elab.async false
set_option linter.all false
set_option maxRecDepth 100000
set_option maxHeartbeats 1000000
namespace L2
open PySem PySem.Spec PyProof.Rows
section
variable {X : Cx}
/-- a set of ints stands there -/
def setO (P : Program) (w : World) (a : Addr) (ks : List Int) : HO := .ext fun h => SX.SetI P w (!SX.byT w) h a ks
def rSet (P : Program) (w : World) (K : PySem.W.Frag) : List V → Hp → VK → Prop := fun xs H Q => ∃ (a : Addr) (ns : List Int), xs = [.ref a] ∧ SqL K H a (ns.map V.int) ∧ ns.length < 64 ∧ ∀ p, H p = none → Q (.ref p) (upd H p (setO P w p (SX.met (fun i => ns.getD i 0) ns.length)))
def rSortSet (P : Program) (w : World) : List V → Hp → VK → Prop := fun xs H Q => ∃ (a : Addr) (ks : List Int), xs = [.ref a] ∧ H a = some (setO P w a ks) ∧ ks.length < 64 ∧ ∀ (p : Addr) (ns : List Int), H p = none → ns.Perm ks → ns.Pairwise (· ≤ ·) → Q (.ref p) (upd H p (.lst (ns.map V.int)))
end
end L2
namespace SX
end SX
namespace L2
open PySem PySem.Spec PyProof.Rows
end L2

set_option Elab.async false
set_option linter.all false
set_option maxRecDepth 100000
namespace L2
open PySem PySem.Spec PyProof.Rows
/-! the same rules with the written part named (for a comprehension's block) -/
def rLenSeq (K : PySem.W.Frag) : List V → Hp → VK → Prop := fun xs H Q => ∃ p ys, xs = [.ref p] ∧ (SqL K H p ys ∨ SqT K H p ys) ∧ Q (.int ys.length) H
def rCount (K : PySem.W.Frag) : V → List V → Hp → VK → Prop := fun x xs H Q => ∃ (a : Addr) (ys : List V) (y : V), x = V.ref a ∧ xs = [y] ∧ SqL K H a ys ∧ flatV y = true ∧ ys.all flatV = true ∧ Q (.int ((ys.countP fun z => eqV z y : Nat))) H
section
variable {X : Cx} {K : PySem.W.Frag} {tg l o e : Expr} {es : List Expr} {tl to : TE} {t : TA} {T : String} {name : Str} {id : String} {r : V → List V → Hp → VK → Prop} {apos cpos : Pos}
end
end L2

set_option Elab.async false
set_option linter.all false
set_option maxRecDepth 100000
namespace L2
open PySem PySem.Spec PyProof.Rows
/-! data whose text is short -/
structure Fit (w k : Nat) (d : PyData) : Prop where
  sh : d.showable = true
  lf : d.leavesShort 8 = true
  wt : d.weight ≤ w
  dp : d.depth ≤ k
  nd : d.hasDict = false
structure FitL (w k : Nat) (ds : List PyData) : Prop where
  sh : PyData.showableAll ds = true
  lf : PyData.leavesShortAll 8 ds = true
  wt : PyData.weightAll ds ≤ w
  dp : PyData.depthAll ds ≤ k
  nd : PyData.hasDictAll ds = false
theorem Fit.mono {w k w' k' : Nat} {d : PyData} (h : Fit w k d) (hw : w ≤ w') (hk : k ≤ k') : Fit w' k' d := ⟨h.sh, h.lf, Nat.le_trans h.wt hw, Nat.le_trans h.dp hk, h.nd⟩
theorem FitL.mono {w k w' k' : Nat} {d : List PyData} (h : FitL w k d) (hw : w ≤ w') (hk : k ≤ k') : FitL w' k' d := ⟨h.sh, h.lf, Nat.le_trans h.wt hw, Nat.le_trans h.dp hk, h.nd⟩
theorem Fit.int {i : Int} (h0 : 0 ≤ i) (h1 : i < 1000000) : Fit 20 0 (.int i) := by
  have hn : i.natAbs < 2 ^ 20 := by omega
  have hl : i.natAbs.log2 < 20 := by
    by_cases z : i.natAbs = 0
    · rw [z]; decide
    · exact (Nat.log2_lt z).mpr hn
  refine ⟨?_, ?_, ?_, ?_, ?_⟩
  · simp only [PyData.showable, decide_eq_true_eq]; omega
  · simp only [PyData.leavesShort, PyData.shown]
    have q := int_text_length_le10 (a := i) (k := 7) (by decide) (by omega)
    refine decide_eq_true ?_
    rw [PySem.ofString_length]; exact q
  · simp only [PyData.weight]
    split <;> omega
  · simp [PyData.depth]
  · simp [PyData.hasDict]
theorem FitL.nil : FitL 0 0 [] := ⟨by simp [PyData.showableAll], by simp [PyData.leavesShortAll], by simp [PyData.weightAll], by simp [PyData.depthAll], by simp [PyData.hasDictAll]⟩
theorem FitL.cons {w k w' k' : Nat} {d : PyData} {ds : List PyData} (h : Fit w k d) (t : FitL w' k' ds) : FitL (w + 1 + w') (max k k') (d :: ds) := by
  have a := h.wt; have b := t.wt; have c := h.dp; have e := t.dp
  exact ⟨by simp [PyData.showableAll, h.sh, t.sh], by simp [PyData.leavesShortAll, h.lf, t.lf], by simp only [PyData.weightAll]; omega, by simp only [PyData.depthAll]; omega, by simp [PyData.hasDictAll, h.nd, t.nd]⟩
theorem Fit.tup {w k : Nat} {ds : List PyData} (h : FitL w k ds) : Fit w (k + 1) (.tuple ds) := by
  have b := h.wt; have e := h.dp
  exact ⟨by simp [PyData.showable, h.sh], by simp [PyData.leavesShort, h.lf], by simp only [PyData.weight]; omega, by simp only [PyData.depth]; omega, by simp [PyData.hasDict, h.nd]⟩
theorem Fit.lst {w k : Nat} {ds : List PyData} (h : FitL w k ds) : Fit w (k + 1) (.list ds) := by
  have b := h.wt; have e := h.dp
  exact ⟨by simp [PyData.showable, h.sh], by simp [PyData.leavesShort, h.lf], by simp only [PyData.weight]; omega, by simp only [PyData.depth]; omega, by simp [PyData.hasDict, h.nd]⟩
theorem FitL.map {α : Type} {w k : Nat} {f : α → PyData} : ∀ {l : List α}, (∀ x ∈ l, Fit w k (f x)) → FitL (l.length * (w + 1)) k (l.map f)
  | [], _ => ⟨by simp [PyData.showableAll], by simp [PyData.leavesShortAll], by simp [PyData.weightAll], by simp [PyData.depthAll], by simp [PyData.hasDictAll]⟩
  | x :: l, h => by
    have t := FitL.map (l := l) fun y hy => h y (List.mem_cons_of_mem _ hy)
    exact (FitL.cons (h x (List.mem_cons_self ..)) t).mono (by rw [List.length_cons, Nat.succ_mul]; omega) (by omega)
theorem Fit.text {w k : Nat} {d : PyData} (h : Fit w k d) (hw : w ≤ 1048576) : d.shown.length ≤ sizeLine := PyData.shown_fits (B := 8) (by decide) (by decide) h.lf (Nat.le_trans h.wt hw)
end L2

set_option Elab.async false
set_option linter.all false
set_option maxRecDepth 100000
set_option maxHeartbeats 1000000
namespace HT
open PySem PySem.Spec PyProof.Rows
section
variable {prog : Program} {w : World} {A : Around} {E : Value → Shared → Prop} {s : Shared}
/-- t[a:b], the whole of it -/
theorem whole_tuple {t sl : Addr} {its : Array Value} {vl vu : Value} {lo hi : Option Int} {Q : Value → Shared → Prop} (ht : IsTup s.heap t its) (hs : s.heap.IsSliceOf sl vl vu .none) (pl : IsPart vl lo) (pu : IsPart vu hi)
    (hw : sIx its.size 0 lo = 0 ∧ sIx its.size its.size hi = its.size) (h : Q (.ref t) s) : wpAny (model prog w) A (getItem (.ref t) (.ref sl)) Q E s := by
  obtain ⟨os, hos, hcs, hds⟩ := id hs
  have hTs : s.TypeIs (.ref sl) "slice" := ⟨os, hos, hcs⟩
  unfold getItem
  try with_reducible refine wpAny_holding ?_
  first | refine wpAny_bind (wpAny_pure ?_) | skip
  refine wpAny_bind (wpAny_sequenceKey ht.typeIs (by decide) ?_)
  refine wpAny_bind (wpAny_callSpecial?_slot (name := Str.ofString "__getitem__") ht.typeIs PyProof.Rows.slot_tuple_getitem (wpAny_call_entry PyProof.Rows.slot_tuple_getitem ht.typeIs entry_tuple_getitem ?_ (args_tuple_getitem _ _)))
  show wpAny _ _ (Builtin.Tuple.tupleItemsOf (.ref t) >>= _) _ _ s
  refine wpAny_bind (tupleItemsOf_ ht (wpAny_bind (wpAny_typeOf hTs ?_)))
  rw [if_pos (by decide)]
  refine wpAny_bind (sliceApplied_gen hs pl pu ?_)
  have yes : (((sIx its.size 0 lo : Nat) : Int) == 0 && (1 : Int) == 1 && (sIx its.size its.size hi - sIx its.size 0 lo) == its.size) = true := by rw [hw.1, hw.2]; simp
  show wpAny _ _ (if (((sIx its.size 0 lo : Nat) : Int) == 0 && (1 : Int) == 1 && (sIx its.size its.size hi - sIx its.size 0 lo) == its.size) = true then _ else _) _ _ s
  rw [if_pos yes]
  refine wpAny_bind ?_
  unfold Builtin.Tuple.tupleIsExact
  refine wpAny_bind (wpAny_typeOf ht.typeIs (wpAny_pure ?_))
  rw [if_pos (by decide)]
  first
    | exact wpAny_bind (wpAny_rule (wpAny_pure ⟨_, rfl, wpAny_pure h⟩))
    | exact wpAny_bind (wpAny_rule (wpAny_bind (wpAny_pure (wpAny_pure ⟨_, rfl, wpAny_pure h⟩))))
end
end HT
namespace L2
open PySem PySem.Spec PyProof.Rows
section
variable {X : Cx}
/-- t[lo:hi] -/
def rSlT2 (K : PySem.W.Frag) : V → Option Int → Option Int → Hp → VK → Prop := fun x lo hi H Q => ∃ a xs, x = .ref a ∧ SqT K H a xs ∧ (cutV xs lo hi = xs → Q (.ref a) H) ∧ ∀ p, H p = none → Q (.ref p) (upd H p (.tup (cutV xs lo hi)))
theorem sl_tup2 : SlR X (rSlT2 X.K) := by
  intro pins s σ H x v vl vu lo hi sl Q I rx hs pl pu h
  obtain ⟨a, xs, rfl, hx, q1, q2⟩ := h
  by_cases hw : HT.sIx xs.length 0 lo = 0 ∧ HT.sIx xs.length xs.length hi = xs.length
  · cases rx
    obtain ⟨its, r, ht, hz⟩ := I.tuple hx
    have hlen : its.toArray.size = xs.length := by rw [List.size_toArray]; exact r.length.symm
    have e : cutV xs lo hi = xs := by unfold cutV; rw [hw.1, hw.2]; simp
    exact ⟨"tuple", _, PyProof.Rows.slot_tuple_getitem.lookup, ht.typeIs, HT.whole_tuple ht hs pl pu (by rw [hlen]; exact hw) ⟨.ref a, H, I, rfl, q1 e⟩⟩
  · exact sl_tup pins s σ H (.ref a) v vl vu lo hi sl Q I rx hs pl pu ⟨a, xs, rfl, hx, hw, q2⟩
/-- t + u -/
def rCatT2 (K : PySem.W.Frag) : R2 := fun x y H Q => ∃ a b xs ys, x = .ref a ∧ y = .ref b ∧ SqT K H a xs ∧ SqT K H b ys ∧ xs.length + ys.length ≤ sizeLine ∧ (xs = [] → Q (.ref b) H) ∧ (ys = [] → Q (.ref a) H) ∧ (∀ p, H p = none → Q (.ref p) (upd H p (.tup (xs ++ ys))))
theorem op_catT2 : OpR X (binaryOp .Add) (rCatT2 X.K) := by
  intro pins s σ H x y v u Q I rx ry h
  obtain ⟨a, b, xs, ys, rfl, rfl, ha, hb, hz, q0, q1, q2⟩ := h
  by_cases hx : xs = []
  · cases rx
    cases ry
    obtain ⟨its, r1, p1, _⟩ := I.tuple ha
    obtain ⟨its2, r2, p2, _⟩ := I.tuple hb
    obtain ⟨⟨cls, dd, data, sl⟩, ho, hc, n, hd⟩ := id p1
    obtain ⟨⟨cls2, dd2, data2, sl2⟩, ho2, hc2, n2, hd2⟩ := id p2
    simp only at hc hd hc2 hd2
    subst hc hd hc2 hd2
    have hv : its = [] := r1.nil_iff.mpr hx
    exact concat_meets ⟨_, ho, rfl⟩ ⟨_, ho2, rfl⟩ noFill_tuple_add seq_tuple_add PySem.F.slot_tuple_add PySem.F.entry_tuple_add (PySem.F.args_tuple_add_2 _ _) (tuple_addW0 a b its.toArray its2.toArray n n2 dd dd2 sl sl2 (by simp [hv])) ⟨ho, ho2, ⟨.ref b, H, I, rfl, q0 hx⟩⟩
  · exact op_catT pins s σ H (.ref a) (.ref b) v u Q I rx ry ⟨a, b, xs, ys, rfl, rfl, ha, hb, hx, hz, q1, fun _ => q2⟩
/-- t == () -/
def rEqT0 (K : PySem.W.Frag) : R2 := fun x y H Q => ∃ a b xs, x = .ref a ∧ y = .ref b ∧ SqT K H a xs ∧ SqT K H b [] ∧ Q (.bl (decide (xs = []))) H
/-- xs == [] -/
def rEqL0 : R2 := fun x y H Q => ∃ a b xs, x = .ref a ∧ y = .ref b ∧ H a = some (.lst xs) ∧ H b = some (.lst []) ∧ Q (.bl (decide (xs = []))) H
/-- a list of written items, behind the modules' own -/
def tLstS (t : TA) : TE := fun σ H Q => t σ H fun xs H1 => xs.length ≤ sizeLine ∧ ∀ p, H1 p = none → sysModules < p → Q (.ref p) (upd H1 p (.lst xs))
def rListT (K : PySem.W.Frag) : List V → Hp → VK → Prop := fun xs H Q => ∃ p ys, xs = [.ref p] ∧ SqT K H p ys ∧ ∀ l, H l = none → sysModules < l → Q (.ref l) (upd H l (.lst ys))
end
end L2

set_option Elab.async false
set_option linter.all false
set_option maxRecDepth 100000
set_option maxHeartbeats 1000000
namespace HT
open PySem PySem.Spec PyProof.Rows
theorem noFill_tmul : fillsNumberSlot (.type "tuple") "mul" = pure false := PySem.fillsNumberSlot_seq (id := "tuple.__mul__") (r := some (.builtin "tuple.__rmul__")) PySem.F.slot_tuple_mul.lookup (by decide +kernel) PySem.F.slot_tuple_rmul.lookup (by decide +kernel)
theorem rep_tuple : seqRepeat? (.type "tuple") = pure (some (.builtin "tuple.__mul__")) := by
  unfold seqRepeat?
  rw [PySem.seqSlot_of (T := "tuple") (name := "__mul__") (id := "tuple.__mul__") PySem.F.slot_tuple_mul.lookup (by decide +kernel), PySem.seqSlot_of (T := "tuple") (name := "__rmul__") (id := "tuple.__rmul__") PySem.F.slot_tuple_rmul.lookup (by decide +kernel)]
  rfl
theorem rmul_tup (a : Int) (t : Tok) (l : Addr) (its : Array Value) (n : Nat) (dd : Option Addr) (sl : Array (Option Value)) :
    Meets (Builtin.«int.__rmul__» ⟨[.int a t, .ref l], []⟩) (fun _ R s => s.heap.get? l = some { cls := .type "tuple", dict := dd, data := .seq its n, slots := sl } ∧ R (.ok (.ret Value.notImplemented)) s) :=
  .of_wp fun prog w A R s h => by obtain ⟨hp, g, d, tk, os⟩ := s; obtain ⟨hl, h⟩ := h; wp_walk; exact ⟨_, rfl, h⟩
section
variable {prog : Program} {w : World} {A : Around} {E : Value → Shared → Prop} {s : Shared}
theorem mul_tup {l : Addr} {vs : List Value} {k : Int} {u : Tok} {Q : Value → Shared → Prop} (ht : IsTup s.heap l vs.toArray) (hv : vs ≠ []) (hk : 2 ≤ k) (hk2 : k < 2 ^ 62) (hsz : vs.length * k.toNat ≤ sizeLine)
    (h : Q (.ref s.heap.objs.size) { s with heap := s.heap.push { cls := .type "tuple", data := .seq (List.replicate k.toNat vs).flatten.toArray } }) : wpAny (model prog w) A (binaryOp .Mult (.ref l) (.int k u)) Q E s := by
  obtain ⟨⟨cls, dd, data, sl⟩, ho, hc, n, hd⟩ := id ht
  simp only at hc hd
  subst hc hd
  have hT : s.TypeIs (.ref l) "tuple" := ⟨_, ho, rfl⟩
  have hm : (vs.length : Int) * k = ((vs.length * k.toNat : Nat) : Int) := by
    rw [Int.natCast_mul, Int.toNat_of_nonneg (by omega)]
  have e1 : (decide (k < -(2 ^ 63)) || decide (k ≥ 2 ^ 63)) = false := by
    rw [decide_eq_false (by omega), decide_eq_false (by omega)]; rfl
  have e2 : (vs.toArray.isEmpty || k == 1) = false := by
    have : vs.toArray.isEmpty = false := by cases vs with | nil => exact absurd rfl hv | cons _ _ => rfl
    rw [this, beq_eq_false_iff_ne.mpr (by omega)]; rfl
  have e3 : (decide (k ≤ 0) || vs.toArray.isEmpty) = false := by
    have : vs.toArray.isEmpty = false := by cases vs with | nil => exact absurd rfl hv | cons _ _ => rfl
    rw [this, decide_eq_false (by omega)]; rfl
  have sl24 : sizeLine = 16777216 := sizeLine_eq
  have e4 : ¬ (vs.toArray.size : Int) * k > (2 ^ 63 - 1) / 8 := by rw [List.size_toArray, hm]; omega
  have e5 : Builtin.Tuple.tupleTooMany ((vs.toArray.size : Int) * k) = false := by
    unfold Builtin.Tuple.tupleTooMany
    rw [List.size_toArray, hm]
    exact decide_eq_false (by omega)
  have e6 : (List.replicate k.toNat vs.toArray).foldl (· ++ ·) #[] = (List.replicate k.toNat vs).flatten.toArray := by
    have := L2.foldl_rep vs k.toNat []
    rw [List.nil_append] at this
    exact this
  refine wpAny_binaryOp_repeat_ref (T := "tuple") (U := "int") (by decide) hT (fun s' => typeIs_int s' k u) noFill_tmul PySem.F.fills_int_mul PySem.F.slot_int_rmul rep_tuple PySem.F.slot_int_index.lookup
    (call_meets PySem.F.slot_int_rmul (typeIs_int s k u) PySem.F.entry_int_rmul (PySem.F.args_int_rmul_2 _ _) (rmul_tup k u l vs.toArray n dd sl) ⟨ho, rfl, hT, ?_⟩)
  refine wpAny_call_entry PySem.F.slot_tuple_mul hT PySem.F.entry_tuple_mul ?_ (PySem.F.args_tuple_mul_2 _ _)
  obtain ⟨hp, g, d, tk, os⟩ := s
  unfold Builtin.«tuple.__mul__»
  wp_walk
  rw [e1, if_neg Bool.false_ne_true]
  refine wpAny_bind (tupleItemsOf_ (s := ⟨hp, g, d, tk, os⟩) ht ?_)
  show wpAny _ A.in1 (if (vs.toArray.isEmpty || k == 1) = true then _ else _) _ _ _
  rw [e2, if_neg Bool.false_ne_true]
  show wpAny _ A.in1 (if (decide (k ≤ 0) || vs.toArray.isEmpty) = true then _ else _) _ _ _
  rw [e3, if_neg Bool.false_ne_true]
  show wpAny _ A.in1 (if (vs.toArray.size : Int) * k > (2 ^ 63 - 1) / 8 then _ else _) _ _ _
  rw [if_neg e4]
  show wpAny _ A.in1 (if Builtin.Tuple.tupleTooMany ((vs.toArray.size : Int) * k) = true then _ else _) _ _ _
  rw [e5, if_neg Bool.false_ne_true]
  show wpAny _ A.in1 (Builtin.Tuple.tupleExact ((List.replicate k.toNat vs.toArray).foldl (· ++ ·) #[]) >>= _) _ _ _
  rw [e6]
  have fits : sizeOk (.seq (List.replicate k.toNat vs).flatten.toArray) := by
    show (List.replicate k.toNat vs).flatten.toArray.size ≤ sizeLine
    rw [List.size_toArray, L2.len_rep, Nat.mul_comm]; exact hsz
  exact wpAny_bind (m := Builtin.Tuple.tupleExact _) (wpAny_newObj_type (wpAny_pure ⟨_, rfl, h⟩) fits)
/-- t[::-1] -/
theorem slice_rev {sl : Addr} {n : Nat} {tk : Tok} {Q : Int × Int × Nat → Shared → Prop} (hs : s.heap.IsSliceOf sl .none .none (.int (-1) tk)) (h : Q ((n : Int) - 1, -1, n) s) : wpAny (model prog w) A (Builtin.Slice.sliceApplied (.ref sl) (pure (n : Int))) Q E s := by
  obtain ⟨os, hos, hcs, hds⟩ := id hs
  unfold Builtin.Slice.sliceApplied Builtin.Slice.sliceFields
  refine wpAny_bind (wpAny_bind (wpAny_field hos hds (x := .none) rfl (wpAny_bind (wpAny_field hos hds (x := .none) rfl (wpAny_bind (wpAny_field hos hds (x := .int (-1) tk) rfl (wpAny_pure ?_)))))))
  refine wpAny_bind (slicePart_ (.int (-1) tk) ?_)
  show wpAny _ _ (if ((-1 : Int) == 0) = true then _ else _) _ _ s
  rw [if_neg (by decide)]
  refine wpAny_bind (slicePart_ .none (wpAny_bind (slicePart_ .none (wpAny_bind (wpAny_pure ?_)))))
  have e : Builtin.Slice.slicePlaces ((n : Int) - 1) (-1) (-1) = n := by
    unfold Builtin.Slice.slicePlaces
    rw [if_neg (by decide)]
    split
    · (simp; try omega)
    · (simp; try omega)
  show wpAny _ _ (pure ((n : Int) - 1, (-1 : Int), Builtin.Slice.slicePlaces ((n : Int) - 1) (-1) (-1))) _ _ s
  rw [e]
  exact wpAny_pure h
theorem fm_congr {α β : Type} {f g : α → Option β} : ∀ {l : List α}, (∀ x ∈ l, f x = g x) → l.filterMap f = l.filterMap g
  | [], _ => rfl
  | x :: l, h => by rw [List.filterMap_cons, List.filterMap_cons, h x (List.mem_cons_self ..), fm_congr fun y hy => h y (List.mem_cons_of_mem _ hy)]
theorem rev_pick (xs : List Value) : ((List.range xs.toArray.size).filterMap fun (k : Nat) => xs.toArray[(((xs.toArray.size : Nat) : Int) - 1 + (k : Int) * (-1)).toNat]?) = xs.reverse := by
  have e : (List.range xs.toArray.size).filterMap (fun (k : Nat) => xs.toArray[(((xs.toArray.size : Nat) : Int) - 1 + (k : Int) * (-1)).toNat]?) = (List.range xs.length).map fun k => xs.reverse.getD k .none := by
    rw [List.size_toArray]
    rw [← List.filterMap_eq_map]
    refine fm_congr fun k hk => ?_
    have hk : k < xs.length := List.mem_range.mp hk
    have e1 : ((xs.length : Int) - 1 + (k : Int) * (-1)).toNat = xs.length - 1 - k := by omega
    rw [e1]
    show xs.toArray[xs.length - 1 - k]? = some (xs.reverse.getD k .none)
    rw [List.getElem?_toArray, List.getElem?_eq_getElem (by omega)]
    simp [List.getD, hk]
  rw [e]
  refine List.ext_getElem (by simp) fun i h1 h2 => ?_
  simp only [List.getElem_map, List.getElem_range]
  have : i < xs.length := by simpa using h1
  simp [List.getD, this]
theorem getItem_rev {t sl : Addr} {vs : List Value} {tk : Tok} {Q : Value → Shared → Prop} (ht : IsTup s.heap t vs.toArray) (hs : s.heap.IsSliceOf sl .none .none (.int (-1) tk)) (hz : vs.length ≤ sizeLine)
    (h : Q (.ref s.heap.objs.size) { s with heap := s.heap.push { cls := .type "tuple", data := .seq vs.reverse.toArray } }) : wpAny (model prog w) A (getItem (.ref t) (.ref sl)) Q E s := by
  obtain ⟨os, hos, hcs, hds⟩ := id hs
  have hTs : s.TypeIs (.ref sl) "slice" := ⟨os, hos, hcs⟩
  unfold getItem
  try with_reducible refine wpAny_holding ?_
  first | refine wpAny_bind (wpAny_pure ?_) | skip
  refine wpAny_bind (wpAny_sequenceKey ht.typeIs (by decide) ?_)
  refine wpAny_bind (wpAny_callSpecial?_slot (name := Str.ofString "__getitem__") ht.typeIs PyProof.Rows.slot_tuple_getitem (wpAny_call_entry PyProof.Rows.slot_tuple_getitem ht.typeIs entry_tuple_getitem ?_ (args_tuple_getitem _ _)))
  show wpAny _ _ (Builtin.Tuple.tupleItemsOf (.ref t) >>= _) _ _ s
  refine wpAny_bind (tupleItemsOf_ ht (wpAny_bind (wpAny_typeOf hTs ?_)))
  rw [if_pos (by decide)]
  refine wpAny_bind (slice_rev hs ?_)
  have no : ¬ ((((vs.toArray.size : Nat) : Int) - 1 == 0 && (-1 : Int) == 1 && vs.toArray.size == vs.toArray.size) = true) := by simp
  show wpAny _ _ (if (((vs.toArray.size : Nat) : Int) - 1 == 0 && (-1 : Int) == 1 && vs.toArray.size == vs.toArray.size) = true then _ else _) _ _ s
  rw [if_neg no, rev_pick]
  have fits : sizeOk (.seq vs.reverse.toArray) := by show vs.reverse.toArray.size ≤ sizeLine; rw [List.size_toArray, List.length_reverse]; exact hz
  first
    | exact wpAny_bind (m := Builtin.Tuple.tupleExact _) (wpAny_newObj_type (wpAny_pure ⟨_, rfl, wpAny_pure h⟩) fits)
    | exact wpAny_bind (m := Builtin.Tuple.tupleExact _) (wpAny_newObj_type (wpAny_bind (wpAny_pure (wpAny_pure ⟨_, rfl, wpAny_pure h⟩))) fits)
    | exact wpAny_bind (wpAny_bind (m := Builtin.Tuple.tupleExact _) (wpAny_newObj_type (wpAny_pure (wpAny_pure ⟨_, rfl, wpAny_pure h⟩)) fits))
    | exact wpAny_bind (wpAny_bind (m := Builtin.Tuple.tupleExact _) (wpAny_newObj_type (wpAny_pure ⟨_, rfl, wpAny_pure h⟩) fits))
end
end HT
namespace L2
open PySem PySem.Spec PyProof.Rows
section
variable {X : Cx}
/-- t * k, t not empty, k from 2 on -/
def rRepT (K : PySem.W.Frag) : R2 := fun x y H Q => ∃ a k xs, x = .ref a ∧ y = .int k ∧ SqT K H a xs ∧ xs ≠ [] ∧ 2 ≤ k ∧ k < 2 ^ 62 ∧ xs.length * k.toNat ≤ sizeLine ∧ ∀ p, H p = none → Q (.ref p) (upd H p (.tup (List.replicate k.toNat xs).flatten))
theorem op_repT : OpR X (binaryOp .Mult) (rRepT X.K) := by
  intro pins s σ H x y v u Q I rx ry h
  obtain ⟨a, k, xs, rfl, rfl, ha, hx, k1, k2, hz, q⟩ := h
  cases rx
  obtain ⟨t, rfl⟩ := ry
  obtain ⟨its, r, p, _⟩ := I.tuple ha
  refine HT.mul_tup p (fun z => hx (r.nil_iff.mp z)) k1 k2 (by rw [← r.length]; exact hz) ?_
  exact ⟨.ref s.heap.objs.size, _, I.laid (t' := s.toks) (o := .tup (List.replicate k.toNat xs).flatten) (fun b ob q => Heap.get?_push_of_some _ q) (Nat.le_refl _) ⟨by rw [len_rep, Nat.mul_comm]; exact hz, _, r.rep k.toNat, IsTup.new _ _⟩, rfl, q _ (I.hok.fresh (Nat.le_refl _))⟩
/-- t[::-1] -/
def tRev (K : PySem.W.Frag) (te : TE) : TE := fun σ H Q => te σ H fun x H1 => ∃ a xs, x = .ref a ∧ SqT K H1 a xs ∧ ∀ p, H1 p = none → Q (.ref p) (upd H1 p (.tup xs.reverse))
theorem Vals.rev : ∀ {xs : List V} {us : List Value}, Vals xs us → Vals xs.reverse us.reverse
  | _, _, .nil => .nil
  | _, _, .cons r t => by rw [List.reverse_cons, List.reverse_cons]; exact (Vals.rev t).append (.cons r .nil)
theorem pe_rev {e : Expr} {te : TE} {j : Nat} {p1 p2 p3 pos : Pos} (he : PE X e te) : PE X (.Subscript e (.Slice none none (some (.UnaryOp .USub (.Constant (.int 1) j p1) p3)) p2) pos) (tRev X.K te) := by
  intro pins s σ H Q I h
  refine Subscript_ (thn (he pins s σ H _ I h) fun v s1 ⟨x, H1, I1, r1, a, xs, ex, hx, q⟩ => ?_)
  subst ex
  cases r1
  have hm : PE X (.UnaryOp .USub (.Constant (.int 1) j p1) p3) (tUn (rU fun i => .int (-i)) (tC (.int 1))) := pe_un un_neg pe_int
  refine wpAny_Slice ?_
  rw [evalPart_none]
  refine wpAny_pure (wpAny_pure ?_)
  rw [evalPart_some]
  refine thn (hm pins s1 σ H1 (fun y H2 => y = .int (-1) ∧ H2 = H1) I1 ⟨1, rfl, rfl, rfl⟩) fun u s2 ⟨y, H2, I2, r2, ey, eH⟩ => ?_
  subst ey eH
  obtain ⟨tk, rfl⟩ := r2
  have I4 : Inv X pins σ H2 { s2 with heap := s2.heap.push { cls := .type "slice", data := .fields #[.none, .none, .int (-1) tk] } } := I2.kept (t' := s2.toks) fun b ob q => Heap.get?_push_of_some _ q
  obtain ⟨its, r, ht, hz⟩ := I4.tuple hx
  refine tail_any (ops := [.ref a, .ref s2.heap.objs.size]) ht.typeIs PyProof.Rows.slot_tuple_getitem.lookup ?_ (by with_unfolding_all rfl)
  refine HT.getItem_rev ht (Heap.IsSliceOf.new ..) (by rw [← r.length]; exact hz) ?_
  exact ⟨.ref _, _, I4.laid (t' := s2.toks) (o := .tup xs.reverse) (fun b ob q => Heap.get?_push_of_some _ q) (Nat.le_refl _) ⟨by rw [List.length_reverse]; exact hz, _, Vals.rev r, IsTup.new _ _⟩, rfl, q _ (I4.hok.fresh (Nat.le_refl _))⟩
end
end L2

set_option Elab.async false
set_option linter.all false
set_option maxRecDepth 100000
set_option maxHeartbeats 1000000
namespace L2
open PySem PySem.Spec PyProof.Rows
/-! anything: data whose lists and dicts stand at places that N names -/
mutual
inductive Dx (H : Hp) (N : Addr → Prop) : V → PyData → Prop
  | non : Dx H N .non .none
  | bl (b : Bool) : Dx H N (.bl b) (.bool b)
  | int (i : Int) : Dx H N (.int i) (.int i)
  | str (x : Str) (h : x.length ≤ 9) (h2 : ∀ c ∈ x.cps.toList, c < 128) : Dx H N (.str x) (.str x)
  | lst {a : Addr} {xs : List V} {ds : List PyData} : H a = some (.lst xs) → sysModules < a → N a → DxAll H N xs ds → Dx H N (.ref a) (.list ds)
  | tup {a : Addr} {xs : List V} {ds : List PyData} : H a = some (.tup xs) → DxAll H N xs ds → Dx H N (.ref a) (.tuple ds)
  | d0 {a : Addr} : H a = some (.dK []) → N a → Dx H N (.ref a) (.dict [])
  | d1 {a : Addr} : H a = some (.dK [(Sum.inl 0, .int 1)]) → N a → Dx H N (.ref a) (.dict [(.int 0, .int 1)])
inductive DxAll (H : Hp) (N : Addr → Prop) : List V → List PyData → Prop
  | nil : DxAll H N [] []
  | cons {v : V} {vs : List V} {d : PyData} {ds : List PyData} : Dx H N v d → DxAll H N vs ds → DxAll H N (v :: vs) (d :: ds)
end
/-- all that data leans on is kept -/
def KeepN (N : Addr → Prop) (H H' : Hp) : Prop := KeepT H H' ∧ ∀ a o, N a → H a = some o → H' a = some o
theorem KeepN.of {N : Addr → Prop} {H H' : Hp} (s : Same H H') : KeepN N H H' := ⟨KeepT.of s, fun a o _ e => s a o e⟩
theorem KeepN.trans {N : Addr → Prop} {H H1 H2 : Hp} (a : KeepN N H H1) (b : KeepN N H1 H2) : KeepN N H H2 := ⟨a.1.trans b.1, fun c o n e => b.2 c o n (a.2 c o n e)⟩
section
variable {H H' : Hp} {N N' : Addr → Prop}
mutual
theorem Dx.keep (k : KeepN N H H') : ∀ {v : V} {d : PyData}, Dx H N v d → Dx H' N v d
  | _, _, .non => .non
  | _, _, .bl b => .bl b
  | _, _, .int i => .int i
  | _, _, .str x h h2 => .str x h h2
  | _, _, .lst e s n q => .lst (k.2 _ _ n e) s n (DxAll.keep k q)
  | _, _, .tup e q => .tup (k.1 _ _ e) (DxAll.keep k q)
  | _, _, .d0 e n => .d0 (k.2 _ _ n e) n
  | _, _, .d1 e n => .d1 (k.2 _ _ n e) n
theorem DxAll.keep (k : KeepN N H H') : ∀ {vs : List V} {ds : List PyData}, DxAll H N vs ds → DxAll H' N vs ds
  | _, _, .nil => .nil
  | _, _, .cons a b => .cons (Dx.keep k a) (DxAll.keep k b)
end
mutual
/-- the places may be named otherwise where they stand -/
theorem Dx.name (k : ∀ a o, N a → H a = some o → N' a) : ∀ {v : V} {d : PyData}, Dx H N v d → Dx H N' v d
  | _, _, .non => .non
  | _, _, .bl b => .bl b
  | _, _, .int i => .int i
  | _, _, .str x h h2 => .str x h h2
  | _, _, .lst e s n q => .lst e s (k _ _ n e) (DxAll.name k q)
  | _, _, .tup e q => .tup e (DxAll.name k q)
  | _, _, .d0 e n => .d0 e (k _ _ n e)
  | _, _, .d1 e n => .d1 e (k _ _ n e)
theorem DxAll.name (k : ∀ a o, N a → H a = some o → N' a) : ∀ {vs : List V} {ds : List PyData}, DxAll H N vs ds → DxAll H N' vs ds
  | _, _, .nil => .nil
  | _, _, .cons a b => .cons (Dx.name k a) (DxAll.name k b)
end
theorem DxAll.len : ∀ {vs : List V} {ds : List PyData}, DxAll H N vs ds → vs.length = ds.length
  | _, _, .nil => rfl
  | _, _, .cons _ b => by simp [DxAll.len b]
theorem DxAll.app : ∀ {vs ws : List V} {ds es : List PyData}, DxAll H N vs ds → DxAll H N ws es → DxAll H N (vs ++ ws) (ds ++ es)
  | _, _, _, _, .nil, q => q
  | _, _, _, _, .cons a b, q => .cons a (DxAll.app b q)
theorem DxAll.take : ∀ {vs : List V} {ds : List PyData} (n : Nat), DxAll H N vs ds → DxAll H N (vs.take n) (ds.take n)
  | _, _, 0, _ => by simp; exact .nil
  | _, _, n + 1, .nil => by simp; exact .nil
  | _, _, n + 1, .cons a b => by simpa using DxAll.cons a (DxAll.take n b)
theorem DxAll.drop : ∀ {vs : List V} {ds : List PyData} (n : Nat), DxAll H N vs ds → DxAll H N (vs.drop n) (ds.drop n)
  | _, _, 0, q => by simpa using q
  | _, _, n + 1, .nil => by simp; exact .nil
  | _, _, n + 1, .cons a b => by simpa using DxAll.drop n b
theorem DxAll.rev : ∀ {vs : List V} {ds : List PyData}, DxAll H N vs ds → DxAll H N vs.reverse ds.reverse
  | _, _, .nil => by simp; exact .nil
  | _, _, .cons a b => by rw [List.reverse_cons, List.reverse_cons]; exact DxAll.app (DxAll.rev b) (.cons a .nil)
theorem DxAll.at : ∀ {vs : List V} {ds : List PyData} {i : Nat} {v : V}, DxAll H N vs ds → vs[i]? = some v → ∃ d, ds[i]? = some d ∧ Dx H N v d
  | _, _, _, _, .nil, e => by simp at e
  | _, _, 0, _, .cons a _, e => by simp at e; subst e; exact ⟨_, rfl, a⟩
  | _, _, i + 1, v, .cons _ b, e => by
    obtain ⟨d, h1, h2⟩ := DxAll.at (i := i) (v := v) b (by simpa using e)
    exact ⟨d, by simpa using h1, h2⟩
end
/-! its class -/
def tyIs (T : String) : PyData → Bool
  | .tuple _ => T == "tuple"
  | .int _ => T == "int"
  | .bool _ => T == "int" || T == "bool"
  | _ => false
theorem Dx.ty {K : PySem.W.Frag} {H : Hp} {N : Addr → Prop} {v : V} {d : PyData} (h : Dx H N v d) : ∃ t, TyOf K H v t ∧ PySem.W.kitOne K t (.type "tuple") = some (tyIs "tuple" d) ∧ PySem.W.kitOne K t (.type "int") = some (tyIs "int" d) ∧ PySem.W.kitOne K t (.type "bool") = some (tyIs "bool" d) := by
  cases h with
  | non => exact ⟨_, .non, rfl, rfl, rfl⟩
  | bl b => exact ⟨_, .bl b, rfl, rfl, rfl⟩
  | int i => exact ⟨_, .int i, rfl, rfl, rfl⟩
  | str x _ _ => exact ⟨_, .str x, rfl, rfl, rfl⟩
  | lst e _ _ _ => exact ⟨_, .lst e, rfl, rfl, rfl⟩
  | tup e _ => exact ⟨_, .tup e, rfl, rfl, rfl⟩
  | d0 e _ => exact ⟨_, .dK e, rfl, rfl, rfl⟩
  | d1 e _ => exact ⟨_, .dK e, rfl, rfl, rfl⟩
theorem Dx.whole {K : PySem.W.Frag} {H : Hp} {N : Addr → Prop} {v : V} {d : PyData} (h : Dx H N v d) : Whole K H v (tyIs "int" d && !tyIs "bool" d) := by
  obtain ⟨t, a, _, b, c⟩ := h.ty (K := K)
  exact ⟨t, _, _, a, b, c, rfl⟩
/-! its text -/
section
variable {X : Cx} {pins : List (Addr × Obj)} {σ : St} {H : Hp} {s : Shared} {N : Addr → Prop}
mutual
theorem Dx.reads (I : Inv X pins σ H s) : ∀ {v : V} {d : PyData} {u : Value}, Dx H N v d → RelV v u → ∃ as, Reads s.heap u d as ∧ sysModules ∉ as
  | _, _, _, .non, r => by cases r; exact ⟨_, .none, by simp⟩
  | _, _, _, .bl b, r => by cases r; exact ⟨_, .bool b, by simp⟩
  | _, _, _, .int i, r => by obtain ⟨t, rfl⟩ := r; exact ⟨_, .int i t, by simp⟩
  | _, _, _, .str x _ _, r => by obtain ⟨t, rfl⟩ := r; exact ⟨_, .str x t, by simp⟩
  | _, _, _, .lst (a := a) e hs _ q, r => by
    cases r
    obtain ⟨its, rv, ⟨o, n, ho, hc, _, hd⟩, _⟩ := I.list (SqL.of e)
    obtain ⟨as, hr, hn⟩ := DxAll.reads I q rv
    refine ⟨_, Reads.list ho hc hd hr, ?_⟩
    rw [List.mem_cons, not_or]
    exact ⟨Nat.ne_of_lt hs, hn⟩
  | _, _, _, .tup e q, r => by
    cases r
    obtain ⟨its, rv, ⟨o, ho, hc, n, hd⟩, _⟩ := I.tuple (SqT.of e)
    obtain ⟨as, hr, hn⟩ := DxAll.reads I q rv
    exact ⟨_, Reads.tuple ho hc hd hr, hn⟩
  | _, _, _, .d0 (a := a) e _, r => by
    cases r
    obtain ⟨_, hsm, vs, rel, o, es, ep, h1, h2, h3, _, h5, _⟩ := (show ObjOk X.prog X.w H s.heap a (.dK []) from I.hok a _ e)
    have hvs : vs = [] := by cases rel; rfl
    subst hvs
    have hes : es.toList = [] := by cases hq : es.toList with | nil => rfl | cons _ _ => rw [hq] at h5; cases h5
    refine ⟨_, Reads.dict (kvs := []) h1 h2.1 h3 (by rw [hes]; exact .nil) (by rw [hes]; exact .nil), ?_⟩
    simp only [List.cons_append, List.nil_append, List.mem_cons, List.not_mem_nil, or_false]
    exact fun z => by rw [z] at hsm; simp at hsm
  | _, _, _, .d1 (a := a) e _, r => by
    cases r
    obtain ⟨_, hsm, vs, rel, o, es, ep, h1, h2, h3, _, h5, _⟩ := (show ObjOk X.prog X.w H s.heap a (.dK [(Sum.inl 0, .int 1)]) from I.hok a _ e)
    cases rel with
    | cons r1 rn =>
      rename_i kv l2
      cases rn
      obtain ⟨hk, tk, hv⟩ := r1
      cases hq : es.toList with
      | nil => rw [hq] at h5; cases h5
      | cons e1 er =>
        rw [hq] at h5
        cases h5 with
        | cons z1 z2 z3 =>
          cases z3
          rw [← hk] at z1
          obtain ⟨tk2, e2⟩ := Value.isInt_shape (k := 0) (v := e1.key) z1
          refine ⟨_, Reads.dict (kvs := [(.int 0, .int 1)]) h1 h2.1 h3 (as := []) (bs := []) (by rw [hq]; show ReadsAll _ [e1.key] [.int 0] _; rw [e2]; exact .cons (.int 0 tk2) .nil) (by rw [hq]; show ReadsAll _ [e1.val] [.int 1] _; rw [z2, hv]; exact .cons (.int 1 tk) .nil), ?_⟩
          simp only [List.cons_append, List.nil_append, List.append_nil, List.mem_cons, List.not_mem_nil, or_false]
          exact fun z => by rw [z] at hsm; simp at hsm
theorem DxAll.reads (I : Inv X pins σ H s) : ∀ {vs : List V} {ds : List PyData} {us : List Value}, DxAll H N vs ds → Vals vs us → ∃ as, ReadsAll s.heap us ds as ∧ sysModules ∉ as
  | _, _, _, .nil, r => by cases r; exact ⟨_, .nil, by simp⟩
  | _, _, _, .cons a b, r => by
    cases r with
    | cons r1 r2 =>
      obtain ⟨as, q1, n1⟩ := Dx.reads I a r1
      obtain ⟨bs, q2, n2⟩ := DxAll.reads I b r2
      exact ⟨_, .cons q1 q2, by rw [List.mem_append, not_or]; exact ⟨n1, n2⟩⟩
end
end
/-- repr(x) of anything -/
def rReprX : List V → Hp → VK → Prop := fun xs H Q => ∃ (N : Addr → Prop) (v : V) (d : PyData), xs = [v] ∧ Dx H N v d ∧ d.showable = true ∧ d.depth ≤ 60 ∧ d.shown.length ≤ sizeLine ∧ Q (.str d.shown) H
end L2

set_option Elab.async false
set_option linter.all false
set_option maxRecDepth 100000
set_option maxHeartbeats 1000000
namespace L2
open PySem PySem.Spec PyProof.Rows
mutual
def ib (m : Nat) : PyData → Bool
  | .int i => decide (i.natAbs ≤ m)
  | .list xs => ibAll m xs
  | .tuple xs => ibAll m xs
  | .none | .bool _ | .str _ | .dict _ => true
def ibAll (m : Nat) : List PyData → Bool
  | [] => true
  | x :: xs => ib m x && ibAll m xs
end
structure Bd (m w k : Nat) (d : PyData) : Prop where
  ib : ib m d = true
  wt : d.weight ≤ w
  dp : d.depth ≤ k
structure BdL (m w k : Nat) (ds : List PyData) : Prop where
  ib : ibAll m ds = true
  wt : PyData.weightAll ds ≤ w
  dp : PyData.depthAll ds ≤ k
mutual
theorem ib_mono {m m' : Nat} (h : m ≤ m') : ∀ d : PyData, ib m d = true → ib m' d = true
  | .int i, e => by simp only [ib, decide_eq_true_eq] at *; omega
  | .list xs, e => by simp only [ib] at *; exact ibAll_mono h xs e
  | .tuple xs, e => by simp only [ib] at *; exact ibAll_mono h xs e
  | .none, _ => by simp [ib]
  | .bool _, _ => by simp [ib]
  | .str _, _ => by simp [ib]
  | .dict _, _ => by simp [ib]
theorem ibAll_mono {m m' : Nat} (h : m ≤ m') : ∀ ds : List PyData, ibAll m ds = true → ibAll m' ds = true
  | [], _ => by simp [ibAll]
  | d :: ds, e => by
    simp only [ibAll, Bool.and_eq_true] at *
    exact ⟨ib_mono h d e.1, ibAll_mono h ds e.2⟩
end
theorem Bd.mono {m w k m' w' k' : Nat} {d : PyData} (h : Bd m w k d) (a : m ≤ m') (b : w ≤ w') (c : k ≤ k') : Bd m' w' k' d := ⟨ib_mono a d h.ib, Nat.le_trans h.wt b, Nat.le_trans h.dp c⟩
theorem BdL.mono {m w k m' w' k' : Nat} {d : List PyData} (h : BdL m w k d) (a : m ≤ m') (b : w ≤ w') (c : k ≤ k') : BdL m' w' k' d := ⟨ibAll_mono a d h.ib, Nat.le_trans h.wt b, Nat.le_trans h.dp c⟩
theorem ibAll_app {m : Nat} : ∀ {xs ys : List PyData}, ibAll m (xs ++ ys) = (ibAll m xs && ibAll m ys)
  | [], ys => by simp [ibAll]
  | x :: xs, ys => by simp [ibAll, ibAll_app (xs := xs), Bool.and_assoc]
theorem weight_app : ∀ {xs ys : List PyData}, PyData.weightAll (xs ++ ys) = PyData.weightAll xs + PyData.weightAll ys
  | [], ys => by simp [PyData.weightAll]
  | x :: xs, ys => by simp only [List.cons_append, PyData.weightAll, weight_app (xs := xs)]; omega
theorem depth_app : ∀ {xs ys : List PyData}, PyData.depthAll (xs ++ ys) = max (PyData.depthAll xs) (PyData.depthAll ys)
  | [], ys => by simp [PyData.depthAll]
  | x :: xs, ys => by simp only [List.cons_append, PyData.depthAll, depth_app (xs := xs)]; omega
theorem BdL.app {m w1 w2 k : Nat} {xs ys : List PyData} (a : BdL m w1 k xs) (b : BdL m w2 k ys) : BdL m (w1 + w2) k (xs ++ ys) := by
  have := a.wt; have := b.wt; have := a.dp; have := b.dp
  exact ⟨by rw [ibAll_app, a.ib, b.ib]; rfl, by rw [weight_app]; omega, by rw [depth_app]; omega⟩
theorem BdL.nil {m k : Nat} : BdL m 0 k [] := ⟨by simp [ibAll], by simp [PyData.weightAll], by simp [PyData.depthAll]⟩
theorem BdL.cons {m w1 w2 k : Nat} {d : PyData} {ys : List PyData} (a : Bd m w1 k d) (b : BdL m w2 k ys) : BdL m (w1 + 1 + w2) k (d :: ys) := by
  have := a.wt; have := b.wt; have := a.dp; have := b.dp
  exact ⟨by simp [ibAll, a.ib, b.ib], by simp only [PyData.weightAll]; omega, by simp only [PyData.depthAll]; omega⟩
theorem BdL.one {m w k : Nat} {d : PyData} (a : Bd m w k d) : BdL m (w + 1) k [d] := (BdL.cons a BdL.nil).mono (Nat.le_refl _) (by omega) (Nat.le_refl _)
theorem BdL.split {m w k : Nat} {xs ys : List PyData} (h : BdL m w k (xs ++ ys)) : BdL m (PyData.weightAll xs) k xs ∧ BdL m (PyData.weightAll ys) k ys ∧ PyData.weightAll xs + PyData.weightAll ys ≤ w := by
  have a := h.ib; have b := h.wt; have c := h.dp
  rw [ibAll_app, Bool.and_eq_true] at a
  rw [weight_app] at b
  rw [depth_app] at c
  exact ⟨⟨a.1, Nat.le_refl _, by omega⟩, ⟨a.2, Nat.le_refl _, by omega⟩, b⟩
theorem BdL.td {m w k : Nat} {xs : List PyData} (h : BdL m w k xs) (n : Nat) : BdL m (PyData.weightAll (xs.take n)) k (xs.take n) ∧ BdL m (PyData.weightAll (xs.drop n)) k (xs.drop n) ∧ PyData.weightAll (xs.take n) + PyData.weightAll (xs.drop n) ≤ w := BdL.split (by rw [List.take_append_drop]; exact h)
theorem BdL.rev {m w k : Nat} : ∀ {xs : List PyData}, BdL m w k xs → BdL m w k xs.reverse
  | [], h => h
  | x :: xs, h => by
    have h1 := BdL.split (xs := [x]) (ys := xs) h
    rw [List.reverse_cons]
    exact ((BdL.rev h1.2.1).app h1.1).mono (Nat.le_refl _) (by omega) (Nat.le_refl _)
theorem Bd.tup {m w k : Nat} {ds : List PyData} (h : BdL m w k ds) : Bd m w (k + 1) (.tuple ds) := ⟨by simp only [L2.ib]; exact h.ib, by simp only [PyData.weight]; exact h.wt, by simp only [PyData.depth]; have := h.dp; omega⟩
theorem Bd.lst {m w k : Nat} {ds : List PyData} (h : BdL m w k ds) : Bd m w (k + 1) (.list ds) := ⟨by simp only [L2.ib]; exact h.ib, by simp only [PyData.weight]; exact h.wt, by simp only [PyData.depth]; have := h.dp; omega⟩
theorem Bd.int {m : Nat} {i : Int} (h : i.natAbs ≤ m) (hm : m < 1000000000000) : Bd m 41 0 (.int i) := by
  refine ⟨by simpa [L2.ib] using h, ?_, by simp [PyData.depth]⟩
  simp only [PyData.weight]
  split
  · omega
  · have hl : i.natAbs.log2 < 40 := by
      by_cases z : i.natAbs = 0
      · rw [z]; decide
      · exact (Nat.log2_lt z).mpr (by omega)
    omega
/-! its text is short -/
section
variable {H : Hp} {N : Addr → Prop} {m : Nat}
mutual
theorem Dx.short (hm : m < 1000000000000) : ∀ {v : V} {d : PyData}, Dx H N v d → ib m d = true → d.showable = true ∧ d.leavesShort 13 = true
  | _, _, .non, _ => by simp [PyData.showable, PyData.leavesShort]
  | _, _, .bl _, _ => by simp [PyData.showable, PyData.leavesShort]
  | _, _, .int i, h => by
    have hi : i.natAbs ≤ m := by simpa [ib] using h
    have hl : i.natAbs.log2 < 40 := by
      by_cases z : i.natAbs = 0
      · rw [z]; decide
      · exact (Nat.log2_lt z).mpr (by omega)
    refine ⟨by simp only [PyData.showable, decide_eq_true_eq]; omega, ?_⟩
    simp only [PyData.leavesShort, PyData.shown]
    have q := int_text_length_le10 (a := i) (k := 12) (by decide) (by omega)
    refine decide_eq_true ?_
    rw [PySem.ofString_length]; exact q
  | _, _, .str x h1 h2, _ => by
    refine ⟨by simp [PyData.showable], ?_⟩
    simp only [PyData.leavesShort, List.all_eq_true, decide_eq_true_eq]
    intro c hc
    have := h2 c hc
    omega
  | _, _, .lst _ _ _ q, h => by
    have z := DxAll.short hm q (by simpa [ib] using h)
    exact ⟨by simpa [PyData.showable] using z.1, by simpa [PyData.leavesShort] using z.2⟩
  | _, _, .tup _ q, h => by
    have z := DxAll.short hm q (by simpa [ib] using h)
    exact ⟨by simpa [PyData.showable] using z.1, by simpa [PyData.leavesShort] using z.2⟩
  | _, _, .d0 _ _, _ => ⟨by decide +kernel, by decide +kernel⟩
  | _, _, .d1 _ _, _ => ⟨by decide +kernel, by decide +kernel⟩
theorem DxAll.short (hm : m < 1000000000000) : ∀ {vs : List V} {ds : List PyData}, DxAll H N vs ds → ibAll m ds = true → PyData.showableAll ds = true ∧ PyData.leavesShortAll 13 ds = true
  | _, _, .nil, _ => by simp [PyData.showableAll, PyData.leavesShortAll]
  | _, _, .cons a b, h => by
    simp only [ibAll, Bool.and_eq_true] at h
    have z1 := Dx.short hm a h.1
    have z2 := DxAll.short hm b h.2
    simp [PyData.showableAll, PyData.leavesShortAll, z1, z2]
end
theorem Dx.text {v : V} {d : PyData} {w k : Nat} (h : Dx H N v d) (b : Bd m w k d) (hm : m < 1000000000000) (hw : w ≤ 1048576) : d.showable = true ∧ d.shown.length ≤ sizeLine := by
  have z := h.short hm b.ib
  exact ⟨z.1, PyData.shown_fits (B := 13) (by decide) (by decide) z.2 (Nat.le_trans b.wt hw)⟩
end
/-! slices and sums of tracked tuples: some tuple of these items, all else kept -/
section
variable {X : Cx}
def rSlT3 : V → Option Int → Option Int → Hp → VK → Prop := fun x lo hi H Q => ∃ a xs, x = .ref a ∧ H a = some (.tup xs) ∧ ∀ b H', Same H H' → H' b = some (.tup (cutV xs lo hi)) → Q (.ref b) H'
def rCatT3 : R2 := fun x y H Q => ∃ a b xs ys, x = .ref a ∧ y = .ref b ∧ H a = some (.tup xs) ∧ H b = some (.tup ys) ∧ xs.length + ys.length ≤ sizeLine ∧ ∀ c H', Same H H' → H' c = some (.tup (xs ++ ys)) → Q (.ref c) H'
theorem cut_to {xs : List V} {i : Nat} (h : i ≤ xs.length) : cutV xs none (some (i : Int)) = xs.take i := by
  unfold cutV
  rw [HT.sIx_none, HT.sIx_nat]
  simp [Nat.min_eq_left h]
theorem cut_from {xs : List V} {i : Nat} (h : i ≤ xs.length) : cutV xs (some (i : Int)) none = xs.drop i := by
  unfold cutV
  rw [HT.sIx_none, HT.sIx_nat, Nat.min_eq_left h]
  rw [List.take_of_length_le (by rw [List.length_drop]; omega)]
end
end L2

set_option Elab.async false
set_option linter.all false
set_option maxRecDepth 100000
namespace L2
open PySem
def notStar : Expr → Bool
  | .Starred .. => false
  | _ => true
theorem se_cons {e : Expr} {es : List Expr} {env : Env} (h : notStar e = true) : starEach (e :: es) env = (false, eval e env) :: starEach es env := by
  cases e <;> first | (exact absurd h Bool.false_ne_true) | rfl
theorem pa_k {X : Cx} {e : Expr} {es : List Expr} {te : TE} {t : TA} (h : notStar e = true) (ha : PE X e te) (hr : PA X es t) : PA X (e :: es) (tCons te t) := pa_cons ha hr (se_cons h)
end L2

set_option Elab.async false
set_option linter.all false
set_option maxRecDepth 100000
namespace L2
open PySem
theorem DxAll.pair {H : Hp} {N : Addr → Prop} : ∀ {vs : List V} {ds : List PyData}, DxAll H N vs ds → Paired (Dx H N) vs ds
  | _, _, .nil => .nil
  | _, _, .cons a b => .cons a (DxAll.pair b)
theorem DxAll.mem {H : Hp} {N : Addr → Prop} {vs : List V} {ds : List PyData} {i : Nat} {v : V} (h : DxAll H N vs ds) (e : vs[i]? = some v) : ∃ d, ds[i]? = some d ∧ d ∈ ds ∧ Dx H N v d := let ⟨d, a, b⟩ := DxAll.at h e; ⟨d, a, List.mem_of_getElem? a, b⟩
theorem KeepN.lst {N : Addr → Prop} {H : Hp} {D : Addr} {xs ys : List V} (h : H D = some (.lst xs)) (n : ∀ a, N a → a ≠ D) : KeepN N H (upd H D (.lst ys)) :=
  ⟨fun a us e => by rw [upd_ne (ne_of e h (by intro z; cases z))]; exact e, fun a o na e => by rw [upd_ne (n a na)]; exact e⟩
theorem zip_map {α β γ : Type} {f : β → γ} : ∀ {xs : List α} {ys : List β}, xs.length = ys.length → (xs.zip ys).map (fun z => f z.2) = ys.map f
  | [], [], _ => rfl
  | x :: xs, y :: ys, h => by simp [zip_map (xs := xs) (ys := ys) (by simpa using h)]
  | [], _ :: _, h => by simp at h
  | _ :: _, [], h => by simp at h
end L2

set_option Elab.async false
set_option linter.all false
set_option maxRecDepth 100000
set_option maxHeartbeats 1000000
namespace L2
open PySem PySem.Spec PyProof.Rows
/-! zip and enumerate over lists and tuples: b says which -/
def IsIt (b : Bool) (h : Heap) (it a : Addr) (i : Nat) : Prop := if b then h.IsListIter it a i else h.IsTupleIter it a i
def IsSq (b : Bool) (h : Heap) (a : Addr) (vs : Array Value) : Prop := if b then h.IsList a vs else h.IsTuple a vs
theorem IsIt.at {b : Bool} {h h' : Heap} {it a : Addr} {i : Nat} (x : IsIt b h it a i) (e : ∀ o, h.get? it = some o → h'.get? it = some o) : IsIt b h' it a i := by
  cases b with
  | true => exact Heap.IsListIter.at (show h.IsListIter it a i from x) e
  | false => exact Heap.IsTupleIter.at (show h.IsTupleIter it a i from x) e
theorem IsSq.at {b : Bool} {h h' : Heap} {a : Addr} {vs : Array Value} (x : IsSq b h a vs) (e : ∀ o, h.get? a = some o → h'.get? a = some o) : IsSq b h' a vs := by
  cases b with
  | true => exact Heap.IsList.at (show h.IsList a vs from x) e
  | false => exact Heap.IsTuple.at (show h.IsTuple a vs from x) e
theorem IsIt.obj {b : Bool} {h : Heap} {it a : Addr} {i : Nat} (x : IsIt b h it a i) : ∃ o, h.get? it = some o ∧ ∀ v, o.data ≠ .cell v := by
  cases b with
  | true => obtain ⟨o, e, _, d⟩ := (show h.IsListIter it a i from x); exact ⟨o, e, fun v z => by rw [d] at z; cases z⟩
  | false => obtain ⟨o, e, _, d⟩ := (show h.IsTupleIter it a i from x); exact ⟨o, e, fun v z => by rw [d] at z; cases z⟩
section
variable {prog : Program} {w : World} {A : Around} {E : Value → Shared → Prop} {s : Shared}
theorem nx_tup {it t : Addr} {i : Nat} {vs : Array Value} {x : Value} {Q : Value → Shared → Prop} (hit : s.heap.IsTupleIter it t i) (ht : s.heap.IsTuple t vs) (hx : vs[i]? = some x)
    (hQ : ∀ h', h'.IsTupleIter it t (i + 1) → Heap.SameBut it s.heap h' → Q x { s with heap := h' }) : wpAny (model prog w) A (Builtin.SmallTypes.nextOf (.ref it)) Q E s := by
  obtain ⟨o, ho, hc, hd⟩ := id hit; obtain ⟨q, hq, _, m, hm⟩ := ht
  unfold Builtin.SmallTypes.nextOf
  refine wpAny_bind (wpAny_callSpecial?_slot (name := Str.ofString "__next__") hit.typeIs F.slot_tuple_iterator_next (wpAny_call_entry F.slot_tuple_iterator_next hit.typeIs F.entry_tuple_iterator_next ?_ (F.args_tuple_iterator_next_1 _)))
  show wpAny _ _ (field (.ref it) 0 >>= _) _ _ s; refine wpAny_bind (wpAny_field ho hd (x := .ref t) rfl ?_)
  show wpAny _ _ (if (Value.ref t == Value.none) = true then _ else _) _ _ s; rw [if_neg (show ¬ ((Value.ref t == Value.none) = true) by exact Bool.false_ne_true)]
  show wpAny _ _ (field (.ref it) 1 >>= _) _ _ s; refine wpAny_bind (wpAny_field ho hd (x := .int i 0) rfl ?_)
  show wpAny _ _ (seqItems? (.ref t) >>= _) _ _ s; refine wpAny_bind (wpAny_seqItems hq hm ?_); simp only [Int.toNat_natCast, hx]
  refine wpAny_bind (wpAny_setField ho hd (by simp) (wpAny_pure ⟨x, rfl, wpAny_pure (hQ _ ⟨_, Heap.get?_update_self _ ho (Obj.isFreed_of_fields (Obj.data_mapFields hd _)), (Obj.cls_mapFields ..).trans hc, by rw [Obj.data_mapFields hd]; simp [rawInt]⟩ (Heap.SameBut.update ..))⟩))
theorem nx_tup_end {it t : Addr} {i : Nat} {vs : Array Value} {Q : Value → Shared → Prop} (hh : A.handled = none) (hit : s.heap.IsTupleIter it t i) (ht : s.heap.IsTuple t vs) (hx : vs[i]? = none)
    (hE : ∀ h' e, Heap.ExtBut it s.heap h' → (∃ o, h'.get? e = some o ∧ o.cls = .type "StopIteration") → E (.ref e) { s with heap := h' }) : wpAny (model prog w) A (Builtin.SmallTypes.nextOf (.ref it)) Q E s := by
  obtain ⟨o, ho, hc, hd⟩ := id hit; obtain ⟨q, hq, _, m, hm⟩ := ht
  unfold Builtin.SmallTypes.nextOf
  refine wpAny_bind (wpAny_callSpecial?_slot (name := Str.ofString "__next__") hit.typeIs F.slot_tuple_iterator_next (wpAny_call_entry F.slot_tuple_iterator_next hit.typeIs F.entry_tuple_iterator_next ?_ (F.args_tuple_iterator_next_1 _)))
  show wpAny _ _ (field (.ref it) 0 >>= _) _ _ s; refine wpAny_bind (wpAny_field ho hd (x := .ref t) rfl ?_)
  show wpAny _ _ (if (Value.ref t == Value.none) = true then _ else _) _ _ s; rw [if_neg (show ¬ ((Value.ref t == Value.none) = true) by exact Bool.false_ne_true)]
  show wpAny _ _ (field (.ref it) 1 >>= _) _ _ s; refine wpAny_bind (wpAny_field ho hd (x := .int i 0) rfl ?_)
  show wpAny _ _ (seqItems? (.ref t) >>= _) _ _ s; refine wpAny_bind (wpAny_seqItems hq hm ?_); simp only [Int.toNat_natCast, hx]
  refine wpAny_bind (wpAny_rule (wpAny_bind (wpAny_setField ho hd (by simp) ?_))); show wpAny _ _ (newExc (.type "StopIteration") [] >>= _) _ _ _
  refine wpAny_bind ?_; simp only [newExc, newTuple]; refine wpAny_bind (wpAny_newObj_type ?_ (by size_fits))
  refine wpAny_bind (m := firstArgMember _ _) (wpAny_of_eq (a := Value.none) (by first | rfl | (simp only [firstArgMember]; rfl)) ?_); refine wpAny_newObj_type ?_ (by size_fits)
  simp only [raiseNew]; refine wpAny_bind (wpAny_handled ?_); first | rw [show A.in1.handled = none from hh] | rw [hh]
  refine wpAny_bind (wpAny_pure (wpAny_throw ?_)); exact hE _ _ (((Heap.SameBut.update ..).extBut.push _).push _) ⟨_, Heap.get?_push_size _ rfl, rfl⟩
end
theorem drw {prog : Program} {w : World} {A : Around} (b : Bool) (hh : A.handled = none) (it a : Addr) (hne : a ≠ it) (vs : Array Value) :
    Draws prog w A it [it, a] vs.size (fun i v => vs[i]? = some v) (fun i h => IsIt b h it a i ∧ IsSq b h a vs) := by
  cases b with
  | true => exact Draws.list hh it a hne vs
  | false => exact {
      live := fun _ _ st => let ⟨o, ho, _⟩ := (show Heap.IsTupleIter _ it a _ from st.1); ⟨o, ho⟩
      frame := fun _ _ _ st hk => ⟨st.1.at fun o e => hk it (by simp) o e, st.2.at fun o e => hk a (by simp) o e⟩
      item := fun i s Q E hi st hQ => nx_tup (show s.heap.IsTupleIter it a i from st.1) (show s.heap.IsTuple a vs from st.2) (x := vs[i]) (by simp [hi]) fun h' n sb => hQ _ h' s.toks (by simp [hi]) ⟨n, (show IsSq false s.heap a vs from st.2).at fun o e => sb.extBut a o hne e⟩ sb
      done := fun s Q E st hE => nx_tup_end hh (show s.heap.IsTupleIter it a vs.size from st.1) (show s.heap.IsTuple a vs from st.2) (by simp) hE }
section
variable {prog : Program} {w : World} {A : Around} {E : Value → Shared → Prop} {s : Shared}
abbrev itObj (b : Bool) (a : Addr) : Obj := { cls := .type (if b then "list_iterator" else "tuple_iterator"), data := .fields #[.ref a, .int 0 0] }
theorem iter_sq {b : Bool} {a : Addr} {vs : Array Value} {Q : Value → Shared → Prop} (h : IsSq b s.heap a vs) (hQ : Q (.ref s.heap.objs.size) { s with heap := s.heap.push (itObj b a) }) : wpAny (model prog w) A (pyIter (.ref a)) Q E s := by
  cases b with
  | true => exact wpAny_pyIter_list (show s.heap.IsList a vs from h) hQ
  | false => exact wpAny_pyIter_tuple (show s.heap.IsTuple a vs from h) hQ
theorem it_new (b : Bool) (h : Heap) (a : Addr) : IsIt b (h.push (itObj b a)) h.objs.size a 0 := by
  cases b with
  | true => exact ⟨_, Heap.get?_push_size _ rfl, rfl, rfl⟩
  | false => exact ⟨_, Heap.get?_push_size _ rfl, rfl, rfl⟩
/-- enumerate(x) is made -/
theorem meets_enumS (b : Bool) (a : Addr) (vs : Array Value) : Meets (Builtin.«enumerate.__new__» ⟨[.type "enumerate", .ref a], []⟩) (fun _ R s => IsSq b s.heap a vs ∧
      R (.ok (.ret (.ref (s.heap.push (itObj b a)).objs.size))) { s with heap := (s.heap.push (itObj b a)).push { cls := .type "enumerate", data := .fields #[.none, .bool false, .ref s.heap.objs.size, rawInt 0, .none, .none] } }) :=
  .of_wp fun prog w A R s h => by
    obtain ⟨hp, g, d, tk, os⟩ := s; obtain ⟨hl, h⟩ := h
    obtain ⟨o, ho⟩ : ∃ o, hp.get? a = some o := by
      cases b with
      | true => obtain ⟨o, e, _⟩ := (show hp.IsList a vs from hl); exact ⟨o, e⟩
      | false => obtain ⟨o, e, _⟩ := (show hp.IsTuple a vs from hl); exact ⟨o, e⟩
    have hsub := sub_enumerate
    have hL : IsSq b (Shared.heap ⟨hp, g, d, tk, os⟩) a vs := hl
    wp_walk using AutoSeq1.wpAny_loadPart' ho
    refine wpAny_stack_any fun st => wpAny_pure ?_
    split
    · rename_i c _ _ _ _ _
      cases (c == Value.type "enumerate") <;> (wp_walk using AutoSeq1.wpAny_loadPart' ho, iter_sq hL; exact ⟨_, rfl, h⟩)
    · wp_walk using AutoSeq1.wpAny_loadPart' ho, iter_sq hL
      exact ⟨_, rfl, h⟩
end
end L2

set_option Elab.async false
set_option linter.all false
set_option maxRecDepth 100000
set_option maxHeartbeats 1000000
namespace L2
open PySem PySem.Spec PyProof.Rows
def SqB (b : Bool) (K : PySem.W.Frag) (H : Hp) (a : Addr) (xs : List V) : Prop := if b then SqL K H a xs else SqT K H a xs
section
variable {X : Cx} {pins : List (Addr × Obj)} {σ : St} {H : Hp} {s : Shared}
theorem Inv.sq (I : Inv X pins σ H s) {b : Bool} {a : Addr} {xs : List V} (h : SqB b X.K H a xs) : ∃ its : List Value, Vals xs its ∧ IsSq b s.heap a its.toArray ∧ a < s.heap.objs.size := by
  cases b with
  | true => obtain ⟨its, rv, p, _⟩ := I.list (show SqL X.K H a xs from h); exact ⟨its, rv, p.isList, p.lt⟩
  | false =>
    obtain ⟨its, rv, p, _⟩ := I.tuple (show SqT X.K H a xs from h)
    have p' : s.heap.IsTuple a its.toArray := p
    exact ⟨its, rv, p', let ⟨_, e, _⟩ := p'; Heap.lt_size e⟩
theorem Inv.sq_inj (I : Inv X pins σ H s) {b : Bool} {a : Addr} {xs ys : List V} (h : SqB b X.K H a xs) (h2 : SqB b X.K H a ys) : xs = ys := by
  cases b with
  | true => exact I.list_inj h h2
  | false => exact I.tuple_inj h h2
end
/-! enumerate -/
def IteB (b : Bool) (K : PySem.W.Frag) (a : Addr) : It :=
  ⟨fun i H => ∃ (xs : List V) (x : V), SqB b K H a xs ∧ xs[i]? = some x, fun i H v H' => ∃ T x, v = .ref T ∧ H T = none ∧ H' = upd H T (.tup [.int (i : Nat), x]) ∧ ∀ xs, SqB b K H a xs → xs[i]? = some x, fun i H => ∃ xs : List V, SqB b K H a xs ∧ xs.length ≤ i⟩
theorem turn_enumB {P : Program} {w : World} {K : PySem.W.Frag} {elts : List Expr} {kk : Nat} {tpos : Pos} (b : Bool) (a e it : Addr) (hae : a ≠ e) (hai : a ≠ it) :
    Turn P w K (.Tuple elts kk tpos) (IteB b K a) [e, it] e (fun i h => (∃ old, IsEnum h e it ((i : Nat) : Int) old) ∧ IsIt b h it a i ∧ e ≠ it) where
  mem := List.mem_cons_self ..
  obj := fun i h ⟨⟨old, he⟩, hi, _⟩ c hc => by
    rcases List.mem_cons.mp hc with z | z
    · exact z ▸ ⟨_, he, fun v q => nomatch q⟩
    · rw [List.mem_singleton] at z; exact z ▸ hi.obj
  keep := fun i h h' ⟨⟨old, he⟩, hi, hne⟩ k => ⟨⟨old, k e (List.mem_cons_self ..) _ he⟩, hi.at fun o q => k it (by simp) o q, hne⟩
  item := by
    intro X hP hw hK hc i pins s σ H E I hf ⟨⟨old, he⟩, hit, hne⟩ ⟨xs, x, hq, hx⟩
    subst hP hw hK
    obtain ⟨its, rv, p, hal⟩ := I.sq hq
    obtain ⟨u, hu, ru⟩ := rv.get hx
    have hel : e < s.heap.objs.size := Heap.lt_size he
    have hil : it < s.heap.objs.size := by obtain ⟨_, q, _⟩ := hit.obj; exact Heap.lt_size q
    have hlt : i < its.toArray.size := by simp; exact (List.getElem?_eq_some_iff.mp hu).1
    refine wpAny_pyNext_enum_itemD (drw (A := X.A.in1) b (I.ok.hd hc) it a hai its.toArray) he ⟨hit, p⟩ hlt hne (fun z => by simp at z; rcases z with z | z; exact hne z; exact hae z.symm) fun y h' tk hy ho st hT hsz hk => ?_
    obtain rfl : y = u := by rw [List.getElem?_toArray] at hy; rw [hu] at hy; cases hy; rfl
    refine ⟨_, rfl, wpAny_letOwnedTupleGo_enum (s := { s with heap := h', toks := tk + 1 }) ho fun h'' he' sb => ?_⟩
    have hT2 := (sb.2 _ (Nat.ne_of_gt hel)).trans hT
    have new : ObjOk X.prog X.w (upd H s.heap.objs.size (.tup [.int (i : Nat), x])) h'' s.heap.objs.size (.tup [.int (i : Nat), x]) := ⟨by show 2 ≤ sizeLine; decide, [.int i tk, y], .cons ⟨_, rfl⟩ (.cons ru .nil), ⟨_, hT2, rfl, _, rfl⟩⟩
    have I1 : Inv X pins σ (upd H s.heap.objs.size (.tup [.int (i : Nat), x])) { s with heap := h'', toks := tk + 1 } := I.turnedNew (ch := [e, it]) (fun c ob hc q => (sb.2 c fun z => hc (by simp [z])).trans (hk c ob (fun z => hc (by simp [z])) (fun z => hc (by simp [z])) q)) hf (Nat.le_refl _) new
    refine ⟨.ref s.heap.objs.size, _, I1, rfl, ⟨_, x, rfl, I.hok.fresh (Nat.le_refl _), rfl, fun ys hy => by rw [I.sq_inj hy hq]; exact hx⟩, ⟨⟨y, by rw [show ((i + 1 : Nat) : Int) = (i : Int) + 1 by omega]; exact he'⟩, st.1.at fun o q => (sb.2 it hne.symm).trans q, hne⟩, fun c hc => ?_⟩
    have hcl : c < s.heap.objs.size := by
      simp only [List.mem_cons, List.not_mem_nil, or_false] at hc
      rcases hc with z | z <;> rw [z] <;> assumption
    rw [upd_ne (Nat.ne_of_lt hcl)]; exact (hf c hc).1
  done := by
    intro X hP hw hK hc i pins s σ H E I hf ⟨⟨old, he⟩, hit, hne⟩ ⟨xs, hq, hx⟩
    subst hP hw hK
    obtain ⟨its, rv, p, hal⟩ := I.sq hq
    have hl := rv.length
    cases b with
    | true =>
      obtain ⟨f0, f1, f2, f3, f4, f5⟩ := hf it (by simp)
      exact wpAny_pyNext_enum_end (I.ok.hd hc) he hit p (by simp; omega) fun h' eb => ⟨rfl, I.turned (t' := s.toks) (fun c o hb q => eb c o hb q) f0 f1 f3 f4 f5⟩
    | false =>
      obtain ⟨f0, f1, f2, f3, f4, f5⟩ := hf it (by simp)
      have hT : s.TypeIs (.ref e) "enumerate" := ⟨_, he, rfl⟩
      unfold pyNext
      refine wpAny_bind (wpAny_attempt (wpAny_callSpecial?_slot (name := Str.ofString "__next__") hT F.slot_enumerate_next (wpAny_call_entry F.slot_enumerate_next hT F.entry_enumerate_next ?_ (F.args_enumerate_next_1 _))))
      show wpAny _ _ (field (.ref e) 2 >>= _) _ _ _; refine wpAny_bind (wpAny_field he rfl (x := .ref it) rfl ?_)
      refine wpAny_bind (nx_tup_end (A := X.A.in1) (I.ok.hd hc) hit p (by simp; omega) fun h' x eb hx' => ?_)
      obtain ⟨o, ho, hcl⟩ := hx'
      refine wpAny_bind (wpAny_isInstance (T := "StopIteration") (b := true) ⟨o, ho, hcl⟩ isSubtype_stop ?_)
      exact wpAny_pure ⟨rfl, I.turned (t' := s.toks) (fun c o hb q => eb c o hb q) f0 f1 f3 f4 f5⟩
  self := fun A i s Q E ⟨⟨_, he⟩, _⟩ h => wpAny_pyIter_enum he h
theorem call_enumB {prog : Program} {w : World} {A : Around} {E : Value → Shared → Prop} {s : Shared} (b : Bool) {a : Addr} {vs : Array Value} {Q : Value → Shared → Prop} (hL : IsSq b s.heap a vs)
    (h : ∀ h', IsEnum h' (s.heap.objs.size + 1) s.heap.objs.size 0 .none → IsIt b h' s.heap.objs.size a 0 → (∀ c o, s.heap.get? c = some o → h'.get? c = some o) → Q (.ref (s.heap.objs.size + 1)) { s with heap := h' }) :
    wpAny (model prog w) A (call (.type "enumerate") [.ref a]) Q E s := by
  refine callType_new F.called_enumerate (by decide) (F.typeCall_enumerate_1 _) (F.newCall_enumerate_1 _) (fun obj => F.args_object_init_2 obj _) F.entry_enumerate_new (meets_enumS b a vs) ⟨hL, ?_⟩
  have hz : (s.heap.push (itObj b a)).objs.size = s.heap.objs.size + 1 := Heap.size_push ..
  show _ ∧ _
  rw [hz]
  have he := Heap.get?_push_size (s.heap.push (itObj b a)) (o := { cls := .type "enumerate", data := .fields #[.none, .bool false, .ref s.heap.objs.size, rawInt 0, .none, .none] }) rfl
  rw [hz] at he
  exact ⟨⟨_, he, rfl⟩, h _ he ((it_new b s.heap a).at fun o q => Heap.get?_push_of_some _ q) fun c o q => Heap.get?_push_of_some _ (Heap.get?_push_of_some _ q)⟩
def iEnumB (K : PySem.W.Frag) (ta : TA) : TI := fun σ H R => ta σ H fun vs H1 => ∃ b a xs, vs = [.ref a] ∧ SqB b K H1 a xs ∧ R (IteB b K a) H1
theorem pi_enumB {X : Cx} {e : Expr} {ta : TA} {p pos tpos : Pos} {elts : List Expr} {kk : Nat} (hg : Gl X "enumerate") (hm : X.mg "enumerate" = none) (ha : PA X [e] ta) (hs : starEach [e] X.env = [(false, eval e X.env)] := by rfl) :
    PI X (.Tuple elts kk tpos) (.Call (.Name "enumerate" p) [e] [] pos) (iEnumB X.K ta) := by
  intro pins s σ H R I h
  refine Call_ (ld_blt I hg hm boot_enumerate (PyProof.Rows.callWith_type1 (thn (ha pos pins s σ H _ I h) fun us s1 ⟨vs, H1, I1, r1, b, a, xs, ex, hq, q⟩ => ?_) hs rfl))
  subst ex
  cases r1 with
  | cons r rr =>
    cases rr; cases r
    obtain ⟨its, rv, p', hal⟩ := I1.sq hq
    refine call_enumB b p' fun h' he hit hk => wpAny_pyIter_enum he ?_
    have n1 : a ≠ s1.heap.objs.size + 1 := Nat.ne_of_lt (Nat.lt_succ_of_lt hal)
    have n2 : a ≠ s1.heap.objs.size := Nat.ne_of_lt hal
    refine ⟨s1.heap.objs.size + 1, [s1.heap.objs.size + 1, s1.heap.objs.size], _, _, H1, rfl, I1.kept (t' := s1.toks) hk, turn_enumB b a (s1.heap.objs.size + 1) s1.heap.objs.size n1 n2, ⟨⟨.none, he⟩, hit, Nat.succ_ne_self _⟩, fun c hc => ?_, q⟩
    have hle : s1.heap.objs.size ≤ c := by
      simp only [List.mem_cons, List.not_mem_nil, or_false] at hc
      rcases hc with z | z <;> rw [z]
      · exact Nat.le_succ _
      · exact Nat.le_refl _
    exact I1.fpOk hle (I1.hok.fresh hle)
end L2

set_option Elab.async false
set_option linter.all false
set_option maxRecDepth 100000
set_option maxHeartbeats 1000000
namespace L2
open PySem PySem.Spec PyProof.Rows
section
variable {prog : Program} {w : World} {A : Around} {E : Value → Shared → Prop} {s : Shared}
theorem nx_sq {b : Bool} {it a : Addr} {i : Nat} {vs : Array Value} {x : Value} {Q : Value → Shared → Prop} (hit : IsIt b s.heap it a i) (hl : IsSq b s.heap a vs) (hx : vs[i]? = some x)
    (hQ : ∀ h', IsIt b h' it a (i + 1) → Heap.SameBut it s.heap h' → Q x { s with heap := h' }) : wpAny (model prog w) A (Builtin.SmallTypes.nextOf (.ref it)) Q E s := by
  cases b with
  | true => exact wpAny_nextOf_list_item hit hl hx hQ
  | false => exact nx_tup hit hl hx hQ
theorem nx_sq_end {b : Bool} {it a : Addr} {i : Nat} {vs : Array Value} {Q : Value → Shared → Prop} (hh : A.handled = none) (hit : IsIt b s.heap it a i) (hl : IsSq b s.heap a vs) (hx : vs[i]? = none)
    (hE : ∀ h' e, Heap.ExtBut it s.heap h' → (∃ o, h'.get? e = some o ∧ o.cls = .type "StopIteration") → E (.ref e) { s with heap := h' }) : wpAny (model prog w) A (Builtin.SmallTypes.nextOf (.ref it)) Q E s := by
  cases b with
  | true => exact wpAny_nextOf_list_end hh hit hl hx hE
  | false => exact nx_tup_end hh hit hl hx hE
theorem IsIt.but {b : Bool} {h h' : Heap} {it a c : Addr} {i : Nat} (x : IsIt b h it a i) (k : Heap.ExtBut c h h') (n : it ≠ c) : IsIt b h' it a i := x.at fun o e => k it o n e
theorem IsSq.but {b : Bool} {h h' : Heap} {a c : Addr} {vs : Array Value} (x : IsSq b h a vs) (k : Heap.ExtBut c h h') (n : a ≠ c) : IsSq b h' a vs := x.at fun o e => k a o n e
theorem zipB_item {b1 b2 : Bool} {z TI TO i1 i2 l1 l2 : Addr} {k1 k2 : Nat} {xs ys : Array Value} {x y a b : Value} {Q : Value → Shared → Prop} (D : ZipApart z TI TO i1 i2 l1 l2)
    (hz : IsZip s.heap z TI TO .none) (hTI : IsPair s.heap TI (.ref i1) (.ref i2)) (hTO : IsPair s.heap TO a b) (h1 : IsIt b1 s.heap i1 l1 k1) (h2 : IsIt b2 s.heap i2 l2 k2) (hl1 : IsSq b1 s.heap l1 xs) (hl2 : IsSq b2 s.heap l2 ys) (hx : xs[k1]? = some x) (hy : ys[k2]? = some y)
    (hQ : ∀ h', IsZip h' z TI TO (rawInt s.heap.objs.size) → IsPair h' TO x y → IsIt b1 h' i1 l1 (k1 + 1) → IsIt b2 h' i2 l2 (k2 + 1) → IsPair h' s.heap.objs.size x y →
      (∀ c o, c ≠ z → c ≠ TO → c ≠ i1 → c ≠ i2 → s.heap.get? c = some o → h'.get? c = some o) → Q (.ref s.heap.objs.size) { s with heap := h' }) :
    wpAny (model prog w) A (Builtin.«zip.__next__» ⟨[.ref z], []⟩) (fun fin s' => ∃ v, fin = .done (.ret v) ∧ Q v s') E s := by
  show wpAny _ _ (field (.ref z) 2 >>= _) _ _ _; refine wpAny_bind (wpAny_field hz rfl (x := .bool false) rfl ?_)
  show wpAny _ _ (field (.ref z) 3 >>= _) _ _ _; refine wpAny_bind (wpAny_field hz rfl (x := .ref TI) rfl ?_); refine wpAny_bind (wpAny_seqItems hTI rfl ?_)
  show wpAny _ _ (Builtin.SmallTypes.ownedTupleIsFree (.ref z) >>= _) _ _ _; refine wpAny_bind ?_; unfold Builtin.SmallTypes.ownedTupleIsFree
  refine wpAny_bind (wpAny_field hz rfl (x := .none) rfl (wpAny_pure ?_)); simp only [if_true]; refine wpAny_bind (wpAny_rule ?_)
  refine wpAny_bind (wpAny_field hz rfl (x := .ref TO) rfl ?_); refine wpAny_bind (wpAny_setField_rec hz (by simp) fun g1 z1 s1 => ?_)
  replace z1 : IsZip g1 z TI TO .ellipsis := z1
  refine wpAny_bind ?_; simp only [List.zipIdx_cons, List.zipIdx_nil, List.forIn_cons, List.forIn_nil]
  refine wpAny_bind (wpAny_bind (wpAny_onRaise ?_)); show wpAny _ _ (Builtin.SmallTypes.nextOf (.ref i1) >>= _) _ _ _
  refine wpAny_bind (nx_sq (h1.but s1.extBut D.i1z) (hl1.but s1.extBut D.l1z) hx fun g2 a2 s2 => wpAny_pure ?_)
  have t2 : IsPair g2 TO a b := s2.extBut _ _ D.TOi1 (s1.extBut _ _ D.TOz hTO)
  refine wpAny_bind (wpAny_seqItems t2 rfl ?_); refine wpAny_bind (wpAny_updateSeq_pair t2 fun g3 t3 s3 => ?_)
  replace t3 : IsPair g3 TO x b := t3
  refine wpAny_bind (wpAny_letGo (wpAny_pure ?_)); refine wpAny_bind (wpAny_bind (wpAny_onRaise ?_)); show wpAny _ _ (Builtin.SmallTypes.nextOf (.ref i2) >>= _) _ _ _
  refine wpAny_bind (nx_sq (((h2.but s1.extBut D.i2z).but s2.extBut D.i12.symm).but s3.extBut D.TOi2.symm) (((hl2.but s1.extBut D.l2z).but s2.extBut D.l2i1).but s3.extBut D.l2TO) hy fun g4 a4 s4 => wpAny_pure ?_)
  have t4 : IsPair g4 TO x b := s4.extBut _ _ D.TOi2 t3
  refine wpAny_bind (wpAny_seqItems t4 rfl ?_); refine wpAny_bind (wpAny_updateSeq_pair t4 fun g5 t5 s5 => ?_)
  replace t5 : IsPair g5 TO x y := t5
  refine wpAny_bind (wpAny_letGo (wpAny_pure (wpAny_pure ?_))); refine wpAny_bind (wpAny_seqItems t5 rfl ?_); refine wpAny_bind (wpAny_newTuple ?_)
  have sz : g5.objs.size = s.heap.objs.size := by rw [s5.1, s4.1, s3.1, s2.1, s1.1]
  have z5 : IsZip g5 z TI TO .ellipsis := s5.extBut _ _ D.TOz.symm (s4.extBut _ _ D.i2z.symm (s3.extBut _ _ D.TOz.symm (s2.extBut _ _ D.i1z.symm z1)))
  have k5 : ∀ c o, c ≠ z → c ≠ TO → c ≠ i1 → c ≠ i2 → s.heap.get? c = some o → g5.get? c = some o := fun c o c1 c2 c3 c4 e => s5.extBut _ _ c2 (s4.extBut _ _ c4 (s3.extBut _ _ c2 (s2.extBut _ _ c3 (s1.extBut _ _ c1 e))))
  have p5 : IsIt b1 g5 i1 l1 (k1 + 1) := ((a2.but s3.extBut D.TOi1.symm).but s4.extBut D.i12).but s5.extBut D.TOi1.symm
  have q5 : IsIt b2 g5 i2 l2 (k2 + 1) := a4.but s5.extBut D.TOi2.symm
  have lz : z < g5.objs.size := Heap.lt_size z5
  show wpAny _ _ (Builtin.SmallTypes.ownedTupleHandOut (.ref z) (.ref g5.objs.size) >>= _) _ _ _; refine wpAny_bind ?_; unfold Builtin.SmallTypes.ownedTupleHandOut
  refine wpAny_bind (wpAny_setField_rec (show IsZip (g5.push { cls := .type "tuple", data := .seq #[x, y] }) z TI TO .ellipsis from Heap.get?_push_of_some _ z5) (by simp) fun g7 z7 s7 => ?_)
  replace z7 : IsZip g7 z TI TO (rawInt g5.objs.size) := z7
  refine wpAny_setField_rec z7 (by simp) fun g8 z8 s8 => ?_
  replace z8 : IsZip g8 z TI TO (rawInt g5.objs.size) := z8
  have up : ∀ c o, c ≠ z → g5.get? c = some o → g8.get? c = some o := fun c o c1 e => s8.extBut _ _ c1 (s7.extBut _ _ c1 (Heap.get?_push_of_some _ e))
  have T8 : IsPair g8 g5.objs.size x y := s8.extBut _ _ (Nat.ne_of_gt lz) (s7.extBut _ _ (Nat.ne_of_gt lz) (Heap.get?_push_size _ rfl))
  rw [sz] at z8 T8
  refine wpAny_pure ⟨_, rfl, ?_⟩; show Q (.ref g5.objs.size) _; rw [sz]
  exact hQ g8 z8 (up _ _ D.TOz t5) (p5.at fun o e => up _ o D.i1z e) (q5.at fun o e => up _ o D.i2z e) T8 fun c o c1 c2 c3 c4 e => up c o c1 (k5 c o c1 c2 c3 c4 e)
theorem zipB_end {b1 b2 : Bool} {z TI TO i1 i2 l1 l2 : Addr} {k1 k2 : Nat} {xs ys : Array Value} {a b : Value} {Q : Fin → Shared → Prop} (hh : A.handled = none) (D : ZipApart z TI TO i1 i2 l1 l2)
    (hz : IsZip s.heap z TI TO .none) (hTI : IsPair s.heap TI (.ref i1) (.ref i2)) (hTO : IsPair s.heap TO a b) (h1 : IsIt b1 s.heap i1 l1 k1) (h2 : IsIt b2 s.heap i2 l2 k2) (hl1 : IsSq b1 s.heap l1 xs) (hl2 : IsSq b2 s.heap l2 ys) (hend : xs[k1]? = none ∨ ys[k2]? = none)
    (hE : ∀ h' e, (∀ c o, c ≠ z → c ≠ TO → c ≠ i1 → c ≠ i2 → s.heap.get? c = some o → h'.get? c = some o) → (∃ o, h'.get? e = some o ∧ o.cls = .type "StopIteration") → E (.ref e) { s with heap := h' }) :
    wpAny (model prog w) A (Builtin.«zip.__next__» ⟨[.ref z], []⟩) Q E s := by
  show wpAny _ _ (field (.ref z) 2 >>= _) _ _ _; refine wpAny_bind (wpAny_field hz rfl (x := .bool false) rfl ?_)
  show wpAny _ _ (field (.ref z) 3 >>= _) _ _ _; refine wpAny_bind (wpAny_field hz rfl (x := .ref TI) rfl ?_); refine wpAny_bind (wpAny_seqItems hTI rfl ?_)
  show wpAny _ _ (Builtin.SmallTypes.ownedTupleIsFree (.ref z) >>= _) _ _ _; refine wpAny_bind ?_; unfold Builtin.SmallTypes.ownedTupleIsFree
  refine wpAny_bind (wpAny_field hz rfl (x := .none) rfl (wpAny_pure ?_)); simp only [if_true]; refine wpAny_bind (wpAny_rule ?_)
  refine wpAny_bind (wpAny_field hz rfl (x := .ref TO) rfl ?_); refine wpAny_bind (wpAny_setField_rec hz (by simp) fun g1 z1 s1 => ?_)
  replace z1 : IsZip g1 z TI TO .ellipsis := z1
  refine wpAny_bind ?_; simp only [List.zipIdx_cons, List.zipIdx_nil, List.forIn_cons, List.forIn_nil]
  refine wpAny_bind (wpAny_bind (wpAny_onRaise ?_)); show wpAny _ _ (Builtin.SmallTypes.nextOf (.ref i1) >>= _) _ _ _
  cases hx : xs[k1]? with
  | none =>
    refine wpAny_bind (nx_sq_end hh (h1.but s1.extBut D.i1z) (hl1.but s1.extBut D.l1z) hx fun g2 e s2 ⟨oe, hoe, hce⟩ => ?_)
    have z2 : IsZip g2 z TI TO .ellipsis := s2 _ _ D.i1z.symm z1
    have ne : e ≠ z := fun q => by rw [q, z2] at hoe; cases hoe; simp at hce
    refine wpAny_setField_rec z2 (by simp) fun g3 _ s3 => hE g3 e (fun c o c1 _ c3 _ q => s3.extBut _ _ c1 (s2 _ _ c3 (s1.extBut _ _ c1 q))) ⟨oe, s3.extBut _ _ ne hoe, hce⟩
  | some x =>
    have hy : ys[k2]? = none := hend.elim (fun q => by rw [hx] at q; cases q) id
    refine wpAny_bind (nx_sq (h1.but s1.extBut D.i1z) (hl1.but s1.extBut D.l1z) hx fun g2 a2 s2 => wpAny_pure ?_)
    have t2 : IsPair g2 TO a b := s2.extBut _ _ D.TOi1 (s1.extBut _ _ D.TOz hTO)
    refine wpAny_bind (wpAny_seqItems t2 rfl ?_); refine wpAny_bind (wpAny_updateSeq_pair t2 fun g3 t3 s3 => ?_)
    refine wpAny_bind (wpAny_letGo (wpAny_pure ?_)); refine wpAny_bind (wpAny_bind (wpAny_onRaise ?_)); show wpAny _ _ (Builtin.SmallTypes.nextOf (.ref i2) >>= _) _ _ _
    refine wpAny_bind (nx_sq_end hh (((h2.but s1.extBut D.i2z).but s2.extBut D.i12.symm).but s3.extBut D.TOi2.symm) (((hl2.but s1.extBut D.l2z).but s2.extBut D.l2i1).but s3.extBut D.l2TO) hy fun g4 e s4 ⟨oe, hoe, hce⟩ => ?_)
    have z4 : IsZip g4 z TI TO .ellipsis := s4 _ _ D.i2z.symm (s3.extBut _ _ D.TOz.symm (s2.extBut _ _ D.i1z.symm z1))
    have ne : e ≠ z := fun q => by rw [q, z4] at hoe; cases hoe; simp at hce
    refine wpAny_setField_rec z4 (by simp) fun g5 _ s5 => hE g5 e (fun c o c1 c2 c3 c4 q => s5.extBut _ _ c1 (s4 _ _ c4 (s3.extBut _ _ c2 (s2.extBut _ _ c3 (s1.extBut _ _ c1 q))))) ⟨oe, s5.extBut _ _ ne hoe, hce⟩
theorem zipB_next {b1 b2 : Bool} {z TI TO i1 i2 l1 l2 : Addr} {k1 k2 : Nat} {xs ys : Array Value} {x y a b : Value} {Q : Option Value → Shared → Prop} (D : ZipApart z TI TO i1 i2 l1 l2)
    (hz : IsZip s.heap z TI TO .none) (hTI : IsPair s.heap TI (.ref i1) (.ref i2)) (hTO : IsPair s.heap TO a b) (h1 : IsIt b1 s.heap i1 l1 k1) (h2 : IsIt b2 s.heap i2 l2 k2) (hl1 : IsSq b1 s.heap l1 xs) (hl2 : IsSq b2 s.heap l2 ys) (hx : xs[k1]? = some x) (hy : ys[k2]? = some y)
    (hQ : ∀ h', IsZip h' z TI TO (rawInt s.heap.objs.size) → IsPair h' TO x y → IsIt b1 h' i1 l1 (k1 + 1) → IsIt b2 h' i2 l2 (k2 + 1) → IsPair h' s.heap.objs.size x y →
      (∀ c o, c ≠ z → c ≠ TO → c ≠ i1 → c ≠ i2 → s.heap.get? c = some o → h'.get? c = some o) → Q (some (.ref s.heap.objs.size)) { s with heap := h' }) : wpAny (model prog w) A (pyNext (.ref z)) Q E s := by
  have hT : s.TypeIs (.ref z) "zip" := ⟨_, hz, rfl⟩
  unfold pyNext; exact wpAny_bind (wpAny_attempt (wpAny_callSpecial?_slot (name := Str.ofString "__next__") hT F.slot_zip_next (wpAny_call_entry F.slot_zip_next hT F.entry_zip_next (zipB_item D hz hTI hTO h1 h2 hl1 hl2 hx hy fun h' a1 a2 a3 a4 a5 a6 => wpAny_pure (hQ h' a1 a2 a3 a4 a5 a6)) (F.args_zip_next_1 _))))
theorem zipB_stop {b1 b2 : Bool} {z TI TO i1 i2 l1 l2 : Addr} {k1 k2 : Nat} {xs ys : Array Value} {a b : Value} {Q : Option Value → Shared → Prop} (hh : A.handled = none) (D : ZipApart z TI TO i1 i2 l1 l2)
    (hz : IsZip s.heap z TI TO .none) (hTI : IsPair s.heap TI (.ref i1) (.ref i2)) (hTO : IsPair s.heap TO a b) (h1 : IsIt b1 s.heap i1 l1 k1) (h2 : IsIt b2 s.heap i2 l2 k2) (hl1 : IsSq b1 s.heap l1 xs) (hl2 : IsSq b2 s.heap l2 ys) (hend : xs[k1]? = none ∨ ys[k2]? = none)
    (hQ : ∀ h', (∀ c o, c ≠ z → c ≠ TO → c ≠ i1 → c ≠ i2 → s.heap.get? c = some o → h'.get? c = some o) → Q none { s with heap := h' }) : wpAny (model prog w) A (pyNext (.ref z)) Q E s := by
  have hT : s.TypeIs (.ref z) "zip" := ⟨_, hz, rfl⟩
  unfold pyNext; refine wpAny_bind (wpAny_attempt (wpAny_callSpecial?_slot (name := Str.ofString "__next__") hT F.slot_zip_next (wpAny_call_entry F.slot_zip_next hT F.entry_zip_next (zipB_end hh D hz hTI hTO h1 h2 hl1 hl2 hend fun h' e hk ⟨o, ho, hc⟩ => ?_) (F.args_zip_next_1 _))))
  refine wpAny_bind (wpAny_isInstance (T := "StopIteration") (b := true) ⟨o, ho, hc⟩ isSubtype_stop (wpAny_pure (hQ _ hk)))
/-- zip(x, y) is made -/
abbrev zp1 (h : Heap) (b1 : Bool) (l1 : Addr) : Heap := h.push (itObj b1 l1)
abbrev zp2 (h : Heap) (b1 b2 : Bool) (l1 l2 : Addr) : Heap := (zp1 h b1 l1).push (itObj b2 l2)
abbrev zp3 (h : Heap) (b1 b2 : Bool) (l1 l2 : Addr) : Heap := (zp2 h b1 b2 l1 l2).push { cls := .type "tuple", data := .seq #[.ref h.objs.size, .ref (zp1 h b1 l1).objs.size] }
abbrev zp4 (h : Heap) (b1 b2 : Bool) (l1 l2 : Addr) : Heap := (zp3 h b1 b2 l1 l2).push { cls := .type "tuple", data := .seq #[.none, .none] }
abbrev zp5 (h : Heap) (b1 b2 : Bool) (l1 l2 : Addr) : Heap := (zp4 h b1 b2 l1 l2).push { cls := .type "zip", data := .fields #[.none, .bool false, .bool false, .ref (zp2 h b1 b2 l1 l2).objs.size, .ref (zp3 h b1 b2 l1 l2).objs.size] }
theorem meets_zipB (b1 b2 : Bool) (l1 l2 : Addr) (xs ys : Array Value) : Meets (Builtin.«zip.__new__» ⟨[.type "zip", .ref l1, .ref l2], []⟩) (fun _ R s => IsSq b1 s.heap l1 xs ∧ IsSq b2 s.heap l2 ys ∧
      R (.ok (.ret (.ref (zp4 s.heap b1 b2 l1 l2).objs.size))) { s with heap := zp5 s.heap b1 b2 l1 l2 }) :=
  .of_wp fun prog w A R s ⟨hl1, hl2, h⟩ => by
    obtain ⟨hp, g, d, tk, os⟩ := s
    have hsub := sub_zip
    have hL1 : IsSq b1 (Shared.heap ⟨hp, g, d, tk, os⟩) l1 xs := hl1
    have hL2 : IsSq b2 (Shared.heap ⟨hp.push (itObj b1 l1), g, d, tk, os⟩) l2 ys := IsSq.at hl2 fun o e => Heap.get?_push_of_some _ e
    wp_walk using iter_sq hL1, iter_sq hL2
    exact ⟨_, rfl, h⟩
theorem call_zipB (b1 b2 : Bool) {l1 l2 : Addr} {xs ys : Array Value} {Q : Value → Shared → Prop} (hl1 : IsSq b1 s.heap l1 xs) (hl2 : IsSq b2 s.heap l2 ys)
    (h : ∀ h', IsZip h' (s.heap.objs.size + 4) (s.heap.objs.size + 2) (s.heap.objs.size + 3) .none → IsPair h' (s.heap.objs.size + 2) (.ref s.heap.objs.size) (.ref (s.heap.objs.size + 1)) → IsPair h' (s.heap.objs.size + 3) .none .none → IsIt b1 h' s.heap.objs.size l1 0 → IsIt b2 h' (s.heap.objs.size + 1) l2 0 →
      (∀ c o, s.heap.get? c = some o → h'.get? c = some o) → Q (.ref (s.heap.objs.size + 4)) { s with heap := h' }) : wpAny (model prog w) A (call (.type "zip") [.ref l1, .ref l2]) Q E s := by
  refine callType_new F.called_zip (by decide) (F.typeCall_zip_2 _ _) (F.newCall_zip_2 _ _) (fun obj => F.args_object_init_3 obj _ _) F.entry_zip_new (meets_zipB b1 b2 l1 l2 xs ys) ⟨hl1, hl2, ?_⟩
  have y1 : (zp1 s.heap b1 l1).objs.size = s.heap.objs.size + 1 := Heap.size_push ..
  have y2 : (zp2 s.heap b1 b2 l1 l2).objs.size = s.heap.objs.size + 2 := by rw [Heap.size_push, y1]
  have y3 : (zp3 s.heap b1 b2 l1 l2).objs.size = s.heap.objs.size + 3 := by rw [Heap.size_push, y2]
  have y4 : (zp4 s.heap b1 b2 l1 l2).objs.size = s.heap.objs.size + 4 := by rw [Heap.size_push, y3]
  have g5 : (zp5 s.heap b1 b2 l1 l2).get? (zp4 s.heap b1 b2 l1 l2).objs.size = some _ := Heap.get?_push_size _ rfl
  have g4 : (zp5 s.heap b1 b2 l1 l2).get? (zp3 s.heap b1 b2 l1 l2).objs.size = some _ := Heap.get?_push_of_some _ (Heap.get?_push_size _ rfl)
  have g3 : (zp5 s.heap b1 b2 l1 l2).get? (zp2 s.heap b1 b2 l1 l2).objs.size = some _ := Heap.get?_push_of_some _ (Heap.get?_push_of_some _ (Heap.get?_push_size _ rfl))
  have a2 : IsIt b2 (zp5 s.heap b1 b2 l1 l2) (zp1 s.heap b1 l1).objs.size l2 0 := (it_new b2 _ l2).at fun o e => Heap.get?_push_of_some _ (Heap.get?_push_of_some _ (Heap.get?_push_of_some _ e))
  have a1 : IsIt b1 (zp5 s.heap b1 b2 l1 l2) s.heap.objs.size l1 0 := (it_new b1 _ l1).at fun o e => Heap.get?_push_of_some _ (Heap.get?_push_of_some _ (Heap.get?_push_of_some _ (Heap.get?_push_of_some _ e)))
  show _ ∧ _
  rw [y2, y3, y4] at g5; rw [y1, y2] at g3; rw [y3] at g4; rw [y1] at a2; rw [y4]
  exact ⟨⟨_, g5, rfl⟩, h _ g5 g3 g4 a1 a2 fun c o q => Heap.get?_push_of_some _ (Heap.get?_push_of_some _ (Heap.get?_push_of_some _ (Heap.get?_push_of_some _ (Heap.get?_push_of_some _ q))))⟩
end
def ItzB (b1 b2 : Bool) (K : PySem.W.Frag) (a b : Addr) : It :=
  ⟨fun i H => ∃ (xs ys : List V) (x y : V), SqB b1 K H a xs ∧ SqB b2 K H b ys ∧ xs[i]? = some x ∧ ys[i]? = some y,
    fun i H v H' => ∃ T x y, v = .ref T ∧ H T = none ∧ H' = upd H T (.tup [x, y]) ∧ (∀ xs, SqB b1 K H a xs → xs[i]? = some x) ∧ ∀ ys, SqB b2 K H b ys → ys[i]? = some y,
    fun i H => ∃ xs ys : List V, SqB b1 K H a xs ∧ SqB b2 K H b ys ∧ (xs.length ≤ i ∨ ys.length ≤ i)⟩
theorem turn_zipB {P : Program} {w : World} {K : PySem.W.Frag} {elts : List Expr} {kk : Nat} {tpos : Pos} (b1 b2 : Bool) {a b z TI TO i1 i2 : Addr} (D : ZipApart z TI TO i1 i2 a b) :
    Turn P w K (.Tuple elts kk tpos) (ItzB b1 b2 K a b) [z, TI, TO, i1, i2] z (fun i h => IsZip h z TI TO .none ∧ IsPair h TI (.ref i1) (.ref i2) ∧ (∃ x y, IsPair h TO x y) ∧ IsIt b1 h i1 a i ∧ IsIt b2 h i2 b i) where
  mem := List.mem_cons_self ..
  obj := fun i h ⟨hz, hTI, ⟨x, y, hTO⟩, h1, h2⟩ c hc => by
    simp only [List.mem_cons, List.not_mem_nil, or_false] at hc
    rcases hc with q | q | q | q | q
    · exact q ▸ ⟨_, hz, fun v q => nomatch q⟩
    · exact q ▸ ⟨_, hTI, fun v q => nomatch q⟩
    · exact q ▸ ⟨_, hTO, fun v q => nomatch q⟩
    · exact q ▸ h1.obj
    · exact q ▸ h2.obj
  keep := fun i h h' ⟨hz, hTI, ⟨x, y, hTO⟩, h1, h2⟩ k => ⟨k z (by simp) _ hz, k TI (by simp) _ hTI, ⟨x, y, k TO (by simp) _ hTO⟩, h1.at fun o q => k i1 (by simp) o q, h2.at fun o q => k i2 (by simp) o q⟩
  item := by
    intro X hP hw hK hc i pins s σ H E I hf ⟨hz, hTI, ⟨x0, y0, hTO⟩, h1, h2⟩ ⟨xs, ys, x, y, hqx, hqy, hx, hy⟩
    subst hP hw hK
    obtain ⟨its, rv, p, _⟩ := I.sq hqx; obtain ⟨its2, rv2, p2, _⟩ := I.sq hqy
    obtain ⟨u, hu, ru⟩ := rv.get hx; obtain ⟨u2, hu2, ru2⟩ := rv2.get hy
    have hzl : z < s.heap.objs.size := Heap.lt_size hz
    refine zipB_next D hz hTI hTO h1 h2 p p2 (x := u) (y := u2) (by simpa using hu) (by simpa using hu2) fun h' z' TO' h1' h2' hT hk => ?_
    refine ⟨_, rfl, wpAny_letOwnedTupleGo_zip (s := { s with heap := h' }) z' fun h'' z'' sb => ?_⟩
    have hT2 := (sb.2 _ (Nat.ne_of_gt hzl)).trans hT
    have new : ObjOk X.prog X.w (upd H s.heap.objs.size (.tup [x, y])) h'' s.heap.objs.size (.tup [x, y]) := ⟨by show 2 ≤ sizeLine; decide, [u, u2], .cons ru (.cons ru2 .nil), ⟨_, hT2, rfl, _, rfl⟩⟩
    have I1 : Inv X pins σ (upd H s.heap.objs.size (.tup [x, y])) { s with heap := h'' } :=
      I.turnedNew (t' := s.toks) (ch := [z, TI, TO, i1, i2]) (fun c o n q => (sb.2 c fun q' => n (by simp [q'])).trans (hk c o (fun q' => n (by simp [q'])) (fun q' => n (by simp [q'])) (fun q' => n (by simp [q'])) (fun q' => n (by simp [q'])) q)) hf (Nat.le_refl _) new
    refine ⟨.ref s.heap.objs.size, _, I1, rfl, ⟨_, x, y, rfl, I.hok.fresh (Nat.le_refl _), rfl, fun l hl => by rw [I.sq_inj hl hqx]; exact hx, fun l hl => by rw [I.sq_inj hl hqy]; exact hy⟩, ⟨z'', (sb.2 _ D.TIz).trans (hk _ _ D.TIz D.TITO D.TIi1 D.TIi2 hTI), ⟨u, u2, (sb.2 _ D.TOz).trans TO'⟩, h1'.at fun o q => (sb.2 _ D.i1z).trans q, h2'.at fun o q => (sb.2 _ D.i2z).trans q⟩, fun c hcm => ?_⟩
    have hlt : c < s.heap.objs.size := by
      simp only [List.mem_cons, List.not_mem_nil, or_false] at hcm
      rcases hcm with q | q | q | q | q
      · exact q ▸ hzl
      · exact q ▸ Heap.lt_size hTI
      · exact q ▸ Heap.lt_size hTO
      · obtain ⟨_, e1, _⟩ := h1.obj; exact q ▸ Heap.lt_size e1
      · obtain ⟨_, e1, _⟩ := h2.obj; exact q ▸ Heap.lt_size e1
    rw [upd_ne (Nat.ne_of_lt hlt)]; exact (hf c hcm).1
  done := by
    intro X hP hw hK hc i pins s σ H E I hf ⟨hz, hTI, ⟨x0, y0, hTO⟩, h1, h2⟩ ⟨xs, ys, hqx, hqy, hend⟩
    subst hP hw hK
    obtain ⟨its, rv, p, _⟩ := I.sq hqx; obtain ⟨its2, rv2, p2, _⟩ := I.sq hqy
    have l1 := rv.length; have l2 := rv2.length
    have he : its.toArray[i]? = none ∨ its2.toArray[i]? = none := hend.imp (fun q => by simp; omega) (fun q => by simp; omega)
    exact zipB_stop (I.ok.hd hc) D hz hTI hTO h1 h2 p p2 he fun h' hk => ⟨rfl, I.turnedL (t' := s.toks) (ch := [z, TI, TO, i1, i2]) (fun c o n q => hk c o (fun q' => n (by simp [q'])) (fun q' => n (by simp [q'])) (fun q' => n (by simp [q'])) (fun q' => n (by simp [q'])) q) hf⟩
  self := fun A i s Q E st h => wpAny_pyIter_zip st.1 h
def iZipB (K : PySem.W.Frag) (ta : TA) : TI := fun σ H R => ta σ H fun vs H1 => ∃ b1 b2 a b xs ys, vs = [.ref a, .ref b] ∧ SqB b1 K H1 a xs ∧ SqB b2 K H1 b ys ∧ R (ItzB b1 b2 K a b) H1
theorem pi_zipB {X : Cx} {e e2 : Expr} {ta : TA} {p pos tpos : Pos} {elts : List Expr} {kk : Nat} (hg : Gl X "zip") (hm : X.mg "zip" = none) (ha : PA X [e, e2] ta)
    (hs : starEach [e, e2] X.env = (false, eval e X.env) :: starEach [e2] X.env := by rfl) (hpl : (backTo pos (starEach [e2] X.env)).any (·.1) = false := by rfl) : PI X (.Tuple elts kk tpos) (.Call (.Name "zip" p) [e, e2] [] pos) (iZipB X.K ta) := by
  intro pins s σ H R I h
  refine Call_ (ld_blt I hg hm boot_zip5 (PyProof.Rows.callWith_type1 (thn (ha pos pins s σ H _ I h) fun us s1 ⟨vs, H1, I1, r1, b1, b2, a, b, xs, ys, ex, hqx, hqy, q⟩ => ?_) hs hpl))
  subst ex
  cases r1 with
  | cons r rr =>
    cases rr with
    | cons r' rr =>
      cases rr; cases r; cases r'
      obtain ⟨its, rv, p1, la⟩ := I1.sq hqx; obtain ⟨its2, rv2, p2, lb⟩ := I1.sq hqy
      refine call_zipB b1 b2 p1 p2 fun h' hz hTI hTO h1 h2 hk => wpAny_pyIter_zip hz ?_
      refine ⟨s1.heap.objs.size + 4, [s1.heap.objs.size + 4, s1.heap.objs.size + 2, s1.heap.objs.size + 3, s1.heap.objs.size, s1.heap.objs.size + 1], _, _, H1, rfl, I1.kept (t' := s1.toks) hk, turn_zipB b1 b2 (PySem.W.ktu_apart s1.heap.objs.size a b la lb), ⟨hz, hTI, ⟨_, _, hTO⟩, h1, h2⟩, fun c hcm => ?_, q⟩
      have hle : s1.heap.objs.size ≤ c := by
        simp only [List.mem_cons, List.not_mem_nil, or_false] at hcm
        rcases hcm with z | z | z | z | z <;> rw [z]
        all_goals first | exact Nat.le_refl _ | exact Nat.le_add_right _ _
      exact I1.fpOk hle (I1.hok.fresh hle)
end L2

set_option Elab.async false
set_option linter.all false
set_option maxRecDepth 100000
set_option maxHeartbeats 1000000
namespace HT
open PySem PySem.Spec PyProof.Rows L2
section
variable {prog : Program} {w : World} {A : Around} {E : Value → Shared → Prop} {s : Shared}
theorem mul_tup0 {l : Addr} {vs : List Value} {k : Int} {u : Tok} {Q : Value → Shared → Prop} (ht : IsTup s.heap l vs.toArray) (hv : vs ≠ []) (hk : k ≤ 0) (hk2 : -(2 ^ 62) < k)
    (h : Q (.ref s.heap.objs.size) { s with heap := s.heap.push { cls := .type "tuple", data := .seq #[] } }) : wpAny (model prog w) A (binaryOp .Mult (.ref l) (.int k u)) Q E s := by
  obtain ⟨⟨cls, dd, data, sl⟩, ho, hc, n, hd⟩ := id ht
  simp only at hc hd
  subst hc hd
  have hT : s.TypeIs (.ref l) "tuple" := ⟨_, ho, rfl⟩
  have em : vs.toArray.isEmpty = false := by cases vs with | nil => exact absurd rfl hv | cons _ _ => rfl
  refine wpAny_binaryOp_repeat_ref (T := "tuple") (U := "int") (by decide) hT (fun s' => typeIs_int s' k u) noFill_tmul PySem.F.fills_int_mul PySem.F.slot_int_rmul rep_tuple PySem.F.slot_int_index.lookup
    (call_meets PySem.F.slot_int_rmul (typeIs_int s k u) PySem.F.entry_int_rmul (PySem.F.args_int_rmul_2 _ _) (rmul_tup k u l vs.toArray n dd sl) ⟨ho, rfl, hT, ?_⟩)
  refine wpAny_call_entry PySem.F.slot_tuple_mul hT PySem.F.entry_tuple_mul ?_ (PySem.F.args_tuple_mul_2 _ _)
  obtain ⟨hp, g, d, tk, os⟩ := s
  unfold Builtin.«tuple.__mul__»
  wp_walk
  rw [show (decide (k < -(2 ^ 63)) || decide (k ≥ 2 ^ 63)) = false by rw [decide_eq_false (by omega), decide_eq_false (by omega)]; rfl, if_neg Bool.false_ne_true]
  refine wpAny_bind (tupleItemsOf_ (s := ⟨hp, g, d, tk, os⟩) ht ?_)
  show wpAny _ A.in1 (if (vs.toArray.isEmpty || k == 1) = true then _ else _) _ _ _
  rw [show (vs.toArray.isEmpty || k == 1) = false by rw [em, beq_eq_false_iff_ne.mpr (by omega)]; rfl, if_neg Bool.false_ne_true]
  show wpAny _ A.in1 (if (decide (k ≤ 0) || vs.toArray.isEmpty) = true then _ else _) _ _ _
  rw [show (decide (k ≤ 0) || vs.toArray.isEmpty) = true by rw [decide_eq_true hk]; rfl, if_pos rfl]
  exact wpAny_bind (m := Builtin.Tuple.tupleExact _) (wpAny_newObj_type (wpAny_pure ⟨_, rfl, h⟩) (by show (#[] : Array Value).size ≤ sizeLine; decide))
theorem mul_tup1 {l : Addr} {vs : List Value} {u : Tok} {Q : Value → Shared → Prop} (ht : IsTup s.heap l vs.toArray) (h : Q (.ref l) s) : wpAny (model prog w) A (binaryOp .Mult (.ref l) (.int 1 u)) Q E s := by
  obtain ⟨⟨cls, dd, data, sl⟩, ho, hc, n, hd⟩ := id ht
  simp only at hc hd
  subst hc hd
  have hT : s.TypeIs (.ref l) "tuple" := ⟨_, ho, rfl⟩
  refine wpAny_binaryOp_repeat_ref (T := "tuple") (U := "int") (by decide) hT (fun s' => typeIs_int s' 1 u) noFill_tmul PySem.F.fills_int_mul PySem.F.slot_int_rmul rep_tuple PySem.F.slot_int_index.lookup
    (call_meets PySem.F.slot_int_rmul (typeIs_int s 1 u) PySem.F.entry_int_rmul (PySem.F.args_int_rmul_2 _ _) (rmul_tup 1 u l vs.toArray n dd sl) ⟨ho, rfl, hT, ?_⟩)
  refine wpAny_call_entry PySem.F.slot_tuple_mul hT PySem.F.entry_tuple_mul ?_ (PySem.F.args_tuple_mul_2 _ _)
  obtain ⟨hp, g, d, tk, os⟩ := s
  unfold Builtin.«tuple.__mul__»
  wp_walk
  exact ⟨_, rfl, h⟩
end
end HT
namespace L2
open PySem PySem.Spec PyProof.Rows
section
variable {X : Cx} {ta tb tc td : TE} {a b c d : Expr} {pos : Pos}
/-- t * k of a tuple that is not empty -/
def rRepA (K : PySem.W.Frag) : R2 := fun x y H Q => rRepT K x y H Q ∨ ∃ a k xs, x = .ref a ∧ y = .int k ∧ SqT K H a xs ∧ xs ≠ [] ∧ ((k = 1 ∧ Q x H) ∨ (k ≤ 0 ∧ -(2 ^ 62) < k ∧ ∀ p, H p = none → Q (.ref p) (upd H p (.tup []))))
theorem op_repA : OpR X (binaryOp .Mult) (rRepA X.K) := by
  intro pins s σ H x y v u Q I rx ry h
  rcases h with h | ⟨a, k, xs, rfl, rfl, ha, hx, h⟩
  · exact op_repT pins s σ H x y v u Q I rx ry h
  · cases rx
    obtain ⟨t, rfl⟩ := ry
    obtain ⟨its, r, p, _⟩ := I.tuple ha
    rcases h with ⟨rfl, q⟩ | ⟨k1, k2, q⟩
    · exact HT.mul_tup1 p ⟨.ref a, H, I, rfl, q⟩
    · refine HT.mul_tup0 p (fun z => hx (r.nil_iff.mp z)) k1 k2 ?_
      exact ⟨.ref s.heap.objs.size, _, I.laid (t' := s.toks) (o := .tup []) (fun b ob q => Heap.get?_push_of_some _ q) (Nat.le_refl _) ⟨by show 0 ≤ sizeLine; omega, [], .nil, IsTup.new _ _⟩, rfl, q _ (I.hok.fresh (Nat.le_refl _))⟩
end
end L2

set_option Elab.async false
set_option linter.all false
set_option maxRecDepth 100000
set_option maxHeartbeats 1000000
namespace L2
open PySem PySem.Spec PyProof.Rows
section
variable {X : Cx}
/-- x is True, x is False -/
def datV : V → Bool
  | .non => true
  | .bl _ => true
  | .int _ => true
  | .str _ => true
  | .ref _ => true
  | _ => false
def rIsB : R2 := fun x y H Q => ∃ b, y = .bl b ∧ datV x = true ∧ Q (.bl (decide (x = .bl b))) H
def rNotB : R2 := fun x y H Q => ∃ b, y = .bl b ∧ datV x = true ∧ Q (.bl (!decide (x = .bl b))) H
/-- a, b, c = e, f, g -/
def tPar3 (i j k : Nat) (ta : TA) : TS := fun D σ H => ta σ H fun vs H1 => ∃ v w z, vs = [v, w, z] ∧ D.nx (((σ.set i (some v)).set j (some w)).set k (some z)) H1
end
end L2

set_option Elab.async false
set_option linter.all false
set_option maxRecDepth 100000
set_option maxHeartbeats 1000000
namespace DL
open PySem L2
abbrev D := PyData
/-- what is known and read alone: the script; a dict from ints to ints -/
inductive Scs where
  | ns (l : List Int) | es (l : List (Int × Int))
instance : Coe (List Int) Scs := ⟨Scs.ns⟩
/-- what stands in a slot: nothing that is told, data, a list of one's own, a list that was lent, the script -/
inductive Slot where
  | non | val (d : D) | own (ds : List D) | bor (ds : List D) | scr (ns : Scs)
abbrev Ev := List Slot
def kvI (p : Int × Int) : Key × V := (.inl p.1, .int p.2)
def dI (p : Int × Int) : D × D := (.int p.1, .int p.2)
/-! data in the heap: its lists stand at places that N names; a dict is known and stays -/
mutual
inductive Dn (K : PySem.W.Frag) (H : Hp) (N : Addr → Prop) : V → D → Prop
  | non : Dn K H N .non .none
  | bl (b : Bool) : Dn K H N (.bl b) (.bool b)
  | int (i : Int) : Dn K H N (.int i) (.int i)
  | str (x : Str) : Dn K H N (.str x) (.str x)
  | lst {a : Addr} {xs : List V} {ds : List D} : H a = some (.lst xs) → N a → DnAll K H N xs ds → Dn K H N (.ref a) (.list ds)
  | tup {a : Addr} {xs : List V} {ds : List D} : SqT K H a xs → DnAll K H N xs ds → Dn K H N (.ref a) (.tuple ds)
  | dct {a : Addr} {o : Obj} {es : List (Int × Int)} : H a = some (.frz o (.dK (es.map kvI))) → Dn K H N (.ref a) (.dict (es.map dI))
inductive DnAll (K : PySem.W.Frag) (H : Hp) (N : Addr → Prop) : List V → List D → Prop
  | nil : DnAll K H N [] []
  | cons {v : V} {vs : List V} {d : D} {ds : List D} : Dn K H N v d → DnAll K H N vs ds → DnAll K H N (v :: vs) (d :: ds)
end
/-- all that stands in H but at O stays -/
def Kp (O : Addr → Prop) (H H' : Hp) : Prop := ∀ a o, H a = some o → ¬ O a → H' a = some o
section
variable {K : PySem.W.Frag} {H H' : Hp} {N N' O : Addr → Prop}
theorem SqT.kp (hO : ∀ a, O a → ∃ ys, H a = some (.lst ys)) (k : Kp O H H') {a : Addr} {xs : List V} (h : SqT K H a xs) : SqT K H' a xs := by
  have no : ∀ o, H a = some o → (∀ ys, o ≠ .lst ys) → H' a = some o := fun o e n => k a o e fun z => by
    obtain ⟨ys, q⟩ := hO a z
    rw [q] at e; cases e; exact n _ rfl
  rcases h with (h | ⟨o, h⟩) | h
  · exact .inl (.inl (no _ h (by intro ys z; cases z)))
  · exact .inl (.inr ⟨o, no _ h (by intro ys z; cases z)⟩)
  · exact .inr h
mutual
theorem Dn.kp (hO : ∀ a, O a → ∃ ys, H a = some (.lst ys)) (hN : ∀ a, N a → ¬ O a) (hN' : ∀ a, N a → N' a) (k : Kp O H H') : ∀ {v : V} {d : D}, Dn K H N v d → Dn K H' N' v d
  | _, _, .non => .non
  | _, _, .bl b => .bl b
  | _, _, .int i => .int i
  | _, _, .str x => .str x
  | _, _, .lst e n q => .lst (k _ _ e (hN _ n)) (hN' _ n) (DnAll.kp hO hN hN' k q)
  | _, _, .tup e q => .tup (SqT.kp hO k e) (DnAll.kp hO hN hN' k q)
  | _, _, .dct e => .dct (k _ _ e fun z => by obtain ⟨ys, q⟩ := hO _ z; rw [q] at e; cases e)
theorem DnAll.kp (hO : ∀ a, O a → ∃ ys, H a = some (.lst ys)) (hN : ∀ a, N a → ¬ O a) (hN' : ∀ a, N a → N' a) (k : Kp O H H') : ∀ {vs : List V} {ds : List D}, DnAll K H N vs ds → DnAll K H' N' vs ds
  | _, _, .nil => .nil
  | _, _, .cons a b => .cons (Dn.kp hO hN hN' k a) (DnAll.kp hO hN hN' k b)
end
theorem Kp.of {O : Addr → Prop} (s : Same H H') : Kp O H H' := fun a o e _ => s a o e
theorem Dn.same (s : Same H H') (hN' : ∀ a, N a → N' a) {v : V} {d : D} (h : Dn K H N v d) : Dn K H' N' v d := h.kp (O := fun _ => False) (fun _ z => z.elim) (fun _ _ z => z) hN' (Kp.of s)
theorem DnAll.same (s : Same H H') (hN' : ∀ a, N a → N' a) {v : List V} {d : List D} (h : DnAll K H N v d) : DnAll K H' N' v d := h.kp (O := fun _ => False) (fun _ z => z.elim) (fun _ _ z => z) hN' (Kp.of s)
theorem Dn.mono (hN' : ∀ a, N a → N' a) {v : V} {d : D} (h : Dn K H N v d) : Dn K H N' v d := h.same (Same.refl H) hN'
theorem DnAll.mono (hN' : ∀ a, N a → N' a) {v : List V} {d : List D} (h : DnAll K H N v d) : DnAll K H N' v d := h.same (Same.refl H) hN'
theorem DnAll.len : ∀ {vs : List V} {ds : List D}, DnAll K H N vs ds → vs.length = ds.length
  | _, _, .nil => rfl
  | _, _, .cons _ b => by simp [DnAll.len b]
theorem DnAll.app : ∀ {vs ws : List V} {ds es : List D}, DnAll K H N vs ds → DnAll K H N ws es → DnAll K H N (vs ++ ws) (ds ++ es)
  | _, _, _, _, .nil, q => q
  | _, _, _, _, .cons a b, q => .cons a (DnAll.app b q)
theorem DnAll.take : ∀ {vs : List V} {ds : List D} (n : Nat), DnAll K H N vs ds → DnAll K H N (vs.take n) (ds.take n)
  | _, _, 0, _ => by simp; exact .nil
  | _, _, n + 1, .nil => by simp; exact .nil
  | _, _, n + 1, .cons a b => by simpa using DnAll.cons a (DnAll.take n b)
theorem DnAll.drop : ∀ {vs : List V} {ds : List D} (n : Nat), DnAll K H N vs ds → DnAll K H N (vs.drop n) (ds.drop n)
  | _, _, 0, q => by simpa using q
  | _, _, n + 1, .nil => by simp; exact .nil
  | _, _, n + 1, .cons a b => by simpa using DnAll.drop n b
theorem DnAll.rev : ∀ {vs : List V} {ds : List D}, DnAll K H N vs ds → DnAll K H N vs.reverse ds.reverse
  | _, _, .nil => by simp; exact .nil
  | _, _, .cons a b => by rw [List.reverse_cons, List.reverse_cons]; exact DnAll.app (DnAll.rev b) (.cons a .nil)
theorem DnAll.at : ∀ {vs : List V} {ds : List D} {i : Nat} {d : D}, DnAll K H N vs ds → ds[i]? = some d → ∃ v, vs[i]? = some v ∧ Dn K H N v d
  | _, _, _, _, .nil, e => by simp at e
  | _, _, 0, _, .cons a _, e => by simp at e; subst e; exact ⟨_, rfl, a⟩
  | _, _, i + 1, v, .cons _ b, e => by
    obtain ⟨d, h1, h2⟩ := DnAll.at (i := i) (d := v) b (by simpa using e)
    exact ⟨d, by simpa using h1, h2⟩
theorem DnAll.set : ∀ {vs : List V} {ds : List D} {v : V} {d : D} (i : Nat), DnAll K H N vs ds → Dn K H N v d → DnAll K H N (vs.set i v) (ds.set i d)
  | _, _, _, _, _, .nil, _ => .nil
  | _, _, _, _, 0, .cons _ b, q => .cons q b
  | _, _, _, _, i + 1, .cons a b, q => .cons a (DnAll.set i b q)
theorem DnAll.erase : ∀ {vs : List V} {ds : List D} (i : Nat), DnAll K H N vs ds → DnAll K H N (vs.eraseIdx i) (ds.eraseIdx i)
  | _, _, _, .nil => .nil
  | _, _, 0, .cons _ b => b
  | _, _, i + 1, .cons a b => .cons a (DnAll.erase i b)
theorem DnAll.ints : ∀ {vs : List V} {ns : List Int}, DnAll K H N vs (ns.map .int) → vs = ns.map V.int
  | _, [], .nil => rfl
  | _, n :: ns, .cons a b => by cases a; rw [List.map_cons, ← DnAll.ints b]
theorem DnAll.bools : ∀ {vs : List V} {ns : List Bool}, DnAll K H N vs (ns.map .bool) → vs = ns.map V.bl
  | _, [], .nil => rfl
  | _, n :: ns, .cons a b => by cases a; rw [List.map_cons, ← DnAll.bools b]
theorem DnAll.ofInts : ∀ (ns : List Int), DnAll K H N (ns.map V.int) (ns.map .int)
  | [] => .nil
  | n :: ns => .cons (.int n) (DnAll.ofInts ns)
end
/-! no list lies within -/
mutual
@[simp] def flat : D → Bool
  | .none => true
  | .bool _ => true
  | .int _ => true
  | .str _ => true
  | .list _ => false
  | .tuple ds => flatAll ds
  | .dict _ => true
@[simp] def flatAll : List D → Bool
  | [] => true
  | d :: ds => flat d && flatAll ds
end
section
variable {K : PySem.W.Frag} {H : Hp} {N N' : Addr → Prop}
mutual
theorem Dn.flat : ∀ {v : V} {d : D}, Dn K H N v d → DL.flat d = true → Dn K H N' v d
  | _, _, .non, _ => .non
  | _, _, .bl b, _ => .bl b
  | _, _, .int i, _ => .int i
  | _, _, .str x, _ => .str x
  | _, _, .lst e n q, h => by simp [DL.flat] at h
  | _, _, .tup e q, h => .tup e (DnAll.flat q (by simpa [DL.flat] using h))
  | _, _, .dct e, _ => .dct e
theorem DnAll.flat : ∀ {vs : List V} {ds : List D}, DnAll K H N vs ds → flatAll ds = true → DnAll K H N' vs ds
  | _, _, .nil, _ => .nil
  | _, _, .cons a b, h => by
    simp only [flatAll, Bool.and_eq_true] at h
    exact .cons (Dn.flat a h.1) (DnAll.flat b h.2)
end
end
/-! slots -/
def isO (ρ : Ev) (i : Nat) : Prop := ∃ ds : List D, ρ[i]? = some (.own ds) ∨ ρ[i]? = some (.bor ds)
def Own (σ : St) (ρ : Ev) (a : Addr) : Prop := ∃ i : Nat, isO ρ i ∧ σ[i]? = some (some (.ref a))
def OwnO (σ : St) (ρ : Ev) (a : Addr) : Prop := ∃ (i : Nat) (ds : List D), ρ[i]? = some (.own ds) ∧ σ[i]? = some (some (.ref a))
theorem OwnO.own {σ : St} {ρ : Ev} {a : Addr} (h : OwnO σ ρ a) : Own σ ρ a := let ⟨i, ds, e, s⟩ := h; ⟨i, ⟨ds, .inl e⟩, s⟩
/-- the script, or a dict -/
def Scr (K : PySem.W.Frag) (H : Hp) (a : Addr) : Scs → Prop
  | .ns ns => (∃ o, H a = some (.frz o (.lst (ns.map V.int)))) ∨ ∀ H' : Hp, SqL K H' a (ns.map V.int)
  | .es es => H a = some (.dK (es.map kvI))
theorem Scr.kp {K : PySem.W.Frag} {H H' : Hp} {a : Addr} {ns : Scs} {O : Addr → Prop} (h : Scr K H a ns) (hO : ∀ a, O a → ∃ ys, H a = some (.lst ys)) (k : Kp O H H') : Scr K H' a ns := by
  cases ns with
  | ns ns =>
    rcases h with ⟨o, h⟩ | h
    · refine .inl ⟨o, k a _ h fun z => ?_⟩
      obtain ⟨ys, y⟩ := hO a z
      rw [h] at y; cases y
    · exact .inr h
  | es es =>
    have h : H a = some (.dK (es.map kvI)) := h
    exact k a _ h fun z => by
      obtain ⟨ys, y⟩ := hO a z
      rw [h] at y; cases y
theorem Scr.sq {K : PySem.W.Frag} {H : Hp} {a : Addr} {ns : List Int} (h : Scr K H a ns) : SqL K H a (ns.map V.int) := by
  rcases h with ⟨o, h⟩ | h
  · exact .inl (.inr ⟨o, h⟩)
  · exact h H
theorem Scr.of {K : PySem.W.Frag} {H : Hp} {a : Addr} {ns : List Int} (ho : Only H) (h : SqL K H a (ns.map V.int)) : Scr K H a ns := by
  rcases h with (h | ⟨o, h⟩) | h
  · rcases ho a with z | ⟨o, xs, z⟩
    · rw [h] at z; cases z
    · rw [h] at z; cases z
  · exact .inl ⟨o, h⟩
  · exact .inr fun H' => .inr h
structure SlotsOk (K : PySem.W.Frag) (N : Addr → Prop) (H : Hp) (σ : St) (ρ : Ev) : Prop where
  len : ρ.length = σ.length
  inn : ∀ a, N a → H a ≠ none
  vals : ∀ (i : Nat) (d : D), ρ[i]? = some (.val d) → ∃ v : V, σ[i]? = some (some v) ∧ Dn K H N v d
  owns : ∀ (i : Nat) (ds : List D), (ρ[i]? = some (.own ds) ∨ ρ[i]? = some (.bor ds)) → ∃ (a : Addr) (vs : List V), σ[i]? = some (some (.ref a)) ∧ H a = some (.lst vs) ∧ DnAll K H N vs ds ∧ ¬ N a
  one : ∀ (i j : Nat) (a : Addr), isO ρ i → isO ρ j → σ[i]? = some (some (.ref a)) → σ[j]? = some (some (.ref a)) → i = j
  scrs : ∀ (i : Nat) (ns : Scs), ρ[i]? = some (.scr ns) → ∃ a : Addr, σ[i]? = some (some (.ref a)) ∧ Scr K H a ns
section
variable {K : PySem.W.Frag} {H H' : Hp} {N N' : Addr → Prop} {σ : St} {ρ ρ' : Ev}
theorem SlotsOk.hO (h : SlotsOk K N H σ ρ) : ∀ a, Own σ ρ a → ∃ ys, H a = some (.lst ys) := fun a ⟨i, ⟨ds, e⟩, s⟩ => by
  obtain ⟨b, vs, s', q, _⟩ := h.owns i ds e
  rw [s] at s'; cases s'
  exact ⟨vs, q⟩
theorem SlotsOk.hN (h : SlotsOk K N H σ ρ) : ∀ a, N a → ¬ Own σ ρ a := fun a n ⟨i, ⟨ds, e⟩, s⟩ => by
  obtain ⟨b, vs, s', q, _, nn⟩ := h.owns i ds e
  rw [s] at s'; cases s'
  exact nn n
/-- the heap has grown: new things alone -/
structure New (N : Addr → Prop) (H : Hp) (N' : Addr → Prop) (H' : Hp) : Prop where
  same : Same H H'
  up : ∀ a, N a → N' a
  new : ∀ a, N' a → N a ∨ H a = none
  inn : (∀ a, N a → H a ≠ none) → ∀ a, N' a → H' a ≠ none
theorem New.refl (N : Addr → Prop) (H : Hp) : New N H N H := ⟨Same.refl H, fun _ h => h, fun _ h => .inl h, fun h => h⟩
theorem upd_there {H : Hp} {p a : Addr} {o : HO} (h : H a ≠ none) : upd H p o a ≠ none := by
  unfold upd; split
  · intro z; cases z
  · exact h
theorem Same.none {H H' : Hp} (s : Same H H') {a : Addr} (h : H' a = none) : H a = none := s.free h
theorem New.trans {N N1 N2 : Addr → Prop} {H H1 H2 : Hp} (a : New N H N1 H1) (b : New N1 H1 N2 H2) : New N H N2 H2 := ⟨a.same.trans b.same, fun c h => b.up c (a.up c h), fun c h => by
  rcases b.new c h with q | q
  · exact a.new c q
  · exact .inr (a.same.free q), fun h => b.inn (a.inn h)⟩
theorem New.obj {N : Addr → Prop} {H : Hp} {p : Addr} {o : HO} (h : H p = none) : New N H N (upd H p o) := ⟨Same.new h, fun _ h => h, fun _ h => .inl h, fun h a n => upd_there (h a n)⟩
theorem New.tup {N : Addr → Prop} {H : Hp} {p : Addr} {xs : List V} (h : H p = none) : New N H N (upd H p (.tup xs)) := New.obj h
theorem New.lst {N : Addr → Prop} {H : Hp} {p : Addr} {xs : List V} (h : H p = none) : New N H (fun a => N a ∨ a = p) (upd H p (.lst xs)) := ⟨Same.new h, fun _ h => .inl h, fun a z => by
  rcases z with z | rfl
  · exact .inl z
  · exact .inr h, fun h a z => by
  rcases z with z | rfl
  · exact upd_there (h a z)
  · rw [upd_same]; intro y; cases y⟩
theorem SlotsOk.grow (h : SlotsOk K N H σ ρ) (n : New N H N' H') : SlotsOk K N' H' σ ρ where
  len := h.len
  inn := n.inn h.inn
  vals := fun i d e => let ⟨v, s, q⟩ := h.vals i d e; ⟨v, s, q.same n.same n.up⟩
  owns := fun i ds e => let ⟨a, vs, s, q, r, z⟩ := h.owns i ds e; ⟨a, vs, s, n.same _ _ q, r.same n.same n.up, fun y => by
    rcases n.new a y with y | y
    · exact z y
    · rw [q] at y; cases y⟩
  one := h.one
  scrs := fun i ns e => let ⟨a, s, q⟩ := h.scrs i ns e; ⟨a, s, q.kp (O := fun _ => False) (fun _ z => z.elim) (Kp.of n.same)⟩
/-- an expression has been reckoned: slots keep their kinds, data stays in them -/
structure Ex (K : PySem.W.Frag) (σ : St) (N : Addr → Prop) (H : Hp) (ρ : Ev) (N' : Addr → Prop) (H' : Hp) (ρ' : Ev) : Prop where
  up : ∀ a, N a → N' a
  new : ∀ a, N' a → N a ∨ H a = none
  kp : Kp (Own σ ρ) H H'
  dom : ∀ a, H' a = none → H a = none
  ok : SlotsOk K N' H' σ ρ'
  valE : ∀ (i : Nat) (d : D), ρ'[i]? = some (.val d) ↔ ρ[i]? = some (.val d)
  ownE : ∀ i : Nat, (∃ ds : List D, ρ'[i]? = some (.own ds)) ↔ ∃ ds : List D, ρ[i]? = some (.own ds)
  borE : ∀ i : Nat, (∃ ds : List D, ρ'[i]? = some (.bor ds)) ↔ ∃ ds : List D, ρ[i]? = some (.bor ds)
  scrE : ∀ (i : Nat) (s : Scs), ρ'[i]? = some (.scr s) ↔ ρ[i]? = some (.scr s)
theorem Ex.isO (e : Ex K σ N H ρ N' H' ρ') (i : Nat) : isO ρ' i ↔ isO ρ i := by
  constructor
  · rintro ⟨ds, q | q⟩
    · obtain ⟨ds, q⟩ := (e.ownE i).mp ⟨ds, q⟩; exact ⟨ds, .inl q⟩
    · obtain ⟨ds, q⟩ := (e.borE i).mp ⟨ds, q⟩; exact ⟨ds, .inr q⟩
  · rintro ⟨ds, q | q⟩
    · obtain ⟨ds, q⟩ := (e.ownE i).mpr ⟨ds, q⟩; exact ⟨ds, .inl q⟩
    · obtain ⟨ds, q⟩ := (e.borE i).mpr ⟨ds, q⟩; exact ⟨ds, .inr q⟩
theorem Ex.own (e : Ex K σ N H ρ N' H' ρ') (a : Addr) : Own σ ρ' a ↔ Own σ ρ a := by
  constructor
  · rintro ⟨i, o, s⟩; exact ⟨i, (e.isO i).mp o, s⟩
  · rintro ⟨i, o, s⟩; exact ⟨i, (e.isO i).mpr o, s⟩
theorem Ex.refl (h : SlotsOk K N H σ ρ) : Ex K σ N H ρ N H ρ := ⟨fun _ h => h, fun _ h => .inl h, fun _ _ h _ => h, fun _ h => h, h, fun _ _ => .rfl, fun _ => .rfl, fun _ => .rfl, fun _ _ => .rfl⟩
theorem Ex.trans {N1 N2 : Addr → Prop} {H1 H2 : Hp} {ρ1 ρ2 : Ev} (a : Ex K σ N H ρ N1 H1 ρ1) (b : Ex K σ N1 H1 ρ1 N2 H2 ρ2) : Ex K σ N H ρ N2 H2 ρ2 where
  up := fun c h => b.up c (a.up c h)
  new := fun c h => by
    rcases b.new c h with q | q
    · exact a.new c q
    · exact .inr (a.dom c q)
  kp := fun c o h n => b.kp c o (a.kp c o h n) fun z => n ((a.own c).mp z)
  dom := fun c h => a.dom c (b.dom c h)
  ok := b.ok
  valE := fun i d => (b.valE i d).trans (a.valE i d)
  ownE := fun i => (b.ownE i).trans (a.ownE i)
  borE := fun i => (b.borE i).trans (a.borE i)
  scrE := fun i s => (b.scrE i s).trans (a.scrE i s)
theorem Ex.grow (h : SlotsOk K N H σ ρ) (n : New N H N' H') : Ex K σ N H ρ N' H' ρ := ⟨n.up, n.new, Kp.of n.same, fun _ q => n.same.free q, h.grow n, fun _ _ => .rfl, fun _ => .rfl, fun _ => .rfl, fun _ _ => .rfl⟩
theorem Ex.more {N2 : Addr → Prop} {H2 : Hp} (a : Ex K σ N H ρ N' H' ρ') (n : New N' H' N2 H2) : Ex K σ N H ρ N2 H2 ρ' := a.trans (Ex.grow a.ok n)
/-- data that was read ahead stays -/
theorem Ex.dn (e : Ex K σ N H ρ N' H' ρ') (h : SlotsOk K N H σ ρ) {v : V} {d : D} (q : Dn K H N v d) : Dn K H' N' v d := q.kp h.hO h.hN e.up e.kp
theorem Ex.dnAll (e : Ex K σ N H ρ N' H' ρ') (h : SlotsOk K N H σ ρ) {v : List V} {d : List D} (q : DnAll K H N v d) : DnAll K H' N' v d := q.kp h.hO h.hN e.up e.kp
end
/-! readings as functions -/
abbrev ME := Ev → Option (D × Ev)
abbrev MA := Ev → Option (List D × Ev)
abbrev MT := Ev → Option (Bool × Ev)
def SimE (K : PySem.W.Frag) (t : TE) (E : ME) : Prop := ∀ (N : Addr → Prop) (H : Hp) (σ : St) (ρ ρ' : Ev) (d : D) (Q : VK), SlotsOk K N H σ ρ → E ρ = some (d, ρ') →
  (∀ (v : V) (N' : Addr → Prop) (H' : Hp), Ex K σ N H ρ N' H' ρ' → Dn K H' N' v d → Q v H') → t σ H Q
/-- a new list, one's own -/
def SimO (K : PySem.W.Frag) (t : TE) (E : MA) : Prop := ∀ (N : Addr → Prop) (H : Hp) (σ : St) (ρ ρ' : Ev) (ds : List D) (Q : VK), SlotsOk K N H σ ρ → E ρ = some (ds, ρ') →
  (∀ (a : Addr) (vs : List V) (N' : Addr → Prop) (H' : Hp), Ex K σ N H ρ N' H' ρ' → H a = none → ¬ N' a → H' a = some (.lst vs) → DnAll K H' N' vs ds → Q (.ref a) H') → t σ H Q
def SimA (K : PySem.W.Frag) (t : TA) (E : MA) : Prop := ∀ (N : Addr → Prop) (H : Hp) (σ : St) (ρ ρ' : Ev) (ds : List D) (Q : List V → Hp → Prop), SlotsOk K N H σ ρ → E ρ = some (ds, ρ') →
  (∀ (vs : List V) (N' : Addr → Prop) (H' : Hp), Ex K σ N H ρ N' H' ρ' → DnAll K H' N' vs ds → Q vs H') → t σ H Q
def SimT (K : PySem.W.Frag) (t : TT) (E : MT) : Prop := ∀ (N : Addr → Prop) (H : Hp) (σ : St) (ρ ρ' : Ev) (b : Bool) (Q : Bool → Hp → Prop), SlotsOk K N H σ ρ → E ρ = some (b, ρ') →
  (∀ (N' : Addr → Prop) (H' : Hp), Ex K σ N H ρ N' H' ρ' → Q b H') → t σ H Q
/-! expressions -/
@[simp] def varE (i : Nat) : ME := fun ρ => match ρ[i]? with
  | some (.val d) => some (d, ρ)
  | _ => none
@[simp] def cE (d : D) : ME := fun ρ => some (d, ρ)
@[simp] def op2E (f : D → D → Option D) (A B : ME) : ME := fun ρ => match A ρ with
  | some (a, ρ1) => match B ρ1 with
    | some (b, ρ2) => match f a b with
      | some d => some (d, ρ2)
      | none => none
    | none => none
  | none => none
@[simp] def op1E (f : D → Option D) (A : ME) : ME := fun ρ => match A ρ with
  | some (a, ρ1) => match f a with
    | some d => some (d, ρ1)
    | none => none
  | none => none
@[simp] def nilA : MA := fun ρ => some ([], ρ)
@[simp] def consA (A : ME) (B : MA) : MA := fun ρ => match A ρ with
  | some (a, ρ1) => match B ρ1 with
    | some (b, ρ2) => some (a :: b, ρ2)
    | none => none
  | none => none
@[simp] def cbE (f : List D → Option D) (A : MA) : ME := fun ρ => match A ρ with
  | some (a, ρ1) => match f a with
    | some d => some (d, ρ1)
    | none => none
  | none => none
def SimR2 (K : PySem.W.Frag) (r : R2) (f : D → D → Option D) : Prop := ∀ (N : Addr → Prop) (H : Hp) (x y : V) (a b d : D) (Q : VK), Dn K H N x a → Dn K H N y b → f a b = some d →
  (∀ v N' H', New N H N' H' → Dn K H' N' v d → Q v H') → r x y H Q
def SimR1 (K : PySem.W.Frag) (r : V → Hp → VK → Prop) (f : D → Option D) : Prop := ∀ (N : Addr → Prop) (H : Hp) (x : V) (a d : D) (Q : VK), Dn K H N x a → f a = some d →
  (∀ v N' H', New N H N' H' → Dn K H' N' v d → Q v H') → r x H Q
def SimRL (K : PySem.W.Frag) (r : List V → Hp → VK → Prop) (f : List D → Option D) : Prop := ∀ (N : Addr → Prop) (H : Hp) (xs : List V) (as : List D) (d : D) (Q : VK), DnAll K H N xs as → f as = some d →
  (∀ v N' H', New N H N' H' → Dn K H' N' v d → Q v H') → r xs H Q
def SimRM (K : PySem.W.Frag) (r : V → List V → Hp → VK → Prop) (f : D → List D → Option D) : Prop := ∀ (N : Addr → Prop) (H : Hp) (x : V) (xs : List V) (a : D) (as : List D) (d : D) (Q : VK), Dn K H N x a → DnAll K H N xs as → f a as = some d →
  (∀ v N' H', New N H N' H' → Dn K H' N' v d → Q v H') → r x xs H Q
section
variable {K : PySem.W.Frag}
theorem simE_var (i : Nat) : SimE K (tVar i) (varE i) := by
  intro N H σ ρ ρ' d Q ok e q
  unfold varE at e
  split at e
  · rename_i d' h
    cases e
    obtain ⟨v, s, z⟩ := ok.vals i _ h
    exact ⟨v, s, q v N H (Ex.refl ok) z⟩
  · cases e
theorem simE_c {v : V} {d : D} (h : ∀ N H, Dn K H N v d) : SimE K (tC v) (cE d) := by
  intro N H σ ρ ρ' d Q ok e q
  cases e
  exact q v N H (Ex.refl ok) (h N H)
theorem simE_int (i : Int) : SimE K (tC (.int i)) (cE (.int i)) := simE_c fun _ _ => .int i
theorem simE_bl (i : Bool) : SimE K (tC (.bl i)) (cE (.bool i)) := simE_c fun _ _ => .bl i
theorem simE_str (i : Str) : SimE K (tC (.str i)) (cE (.str i)) := simE_c fun _ _ => .str i
theorem simE_non : SimE K (tC .non) (cE .none) := simE_c fun _ _ => .non
theorem simE_op {r : R2} {f : D → D → Option D} {ta tb : TE} {A B : ME} (hr : SimR2 K r f) (ha : SimE K ta A) (hb : SimE K tb B) : SimE K (tOp r ta tb) (op2E f A B) := by
  intro N H σ ρ ρ' d Q ok e q
  unfold op2E at e
  split at e
  · rename_i a ρ1 h1
    split at e
    · rename_i b ρ2 h2
      split at e
      · rename_i d' h3
        cases e
        refine ha N H σ ρ _ _ _ ok h1 fun x N1 H1 x1 d1 => ?_
        refine hb N1 H1 σ _ _ _ _ x1.ok h2 fun y N2 H2 x2 d2 => ?_
        exact hr N2 H2 x y a b _ Q (x2.dn x1.ok d1) d2 h3 fun v N' H' n z => q v N' H' ((x1.trans x2).more n) z
      · cases e
    · cases e
  · cases e
theorem simE_un {r : V → Hp → VK → Prop} {f : D → Option D} {ta : TE} {A : ME} (hr : SimR1 K r f) (ha : SimE K ta A) : SimE K (tUn r ta) (op1E f A) := by
  intro N H σ ρ ρ' d Q ok e q
  unfold op1E at e
  split at e
  · rename_i a ρ1 h1
    split at e
    · rename_i d' h3
      cases e
      refine ha N H σ ρ _ _ _ ok h1 fun x N1 H1 x1 d1 => ?_
      exact hr N1 H1 x a _ Q d1 h3 fun v N' H' n z => q v N' H' (x1.more n) z
    · cases e
  · cases e
theorem simA_nil : SimA K tNil nilA := by
  intro N H σ ρ ρ' d Q ok e q
  cases e
  exact q [] N H (Ex.refl ok) .nil
theorem simA_cons {ta : TE} {tb : TA} {A : ME} {B : MA} (ha : SimE K ta A) (hb : SimA K tb B) : SimA K (tCons ta tb) (consA A B) := by
  intro N H σ ρ ρ' d Q ok e q
  unfold consA at e
  split at e
  · rename_i a ρ1 h1
    split at e
    · rename_i b ρ2 h2
      cases e
      refine ha N H σ ρ _ _ _ ok h1 fun x N1 H1 x1 d1 => ?_
      refine hb N1 H1 σ ρ1 _ b _ x1.ok h2 fun y N2 H2 x2 d2 => ?_
      exact q _ N2 H2 (x1.trans x2) (.cons (x2.dn x1.ok d1) d2)
    · cases e
  · cases e
theorem simE_cb {r : List V → Hp → VK → Prop} {f : List D → Option D} {ta : TA} {A : MA} (hr : SimRL K r f) (ha : SimA K ta A) : SimE K (tCB r ta) (cbE f A) := by
  intro N H σ ρ ρ' d Q ok e q
  unfold cbE at e
  split at e
  · rename_i a ρ1 h1
    split at e
    · rename_i d' h3
      cases e
      refine ha N H σ ρ _ _ _ ok h1 fun x N1 H1 x1 d1 => ?_
      exact hr N1 H1 x a _ Q d1 h3 fun v N' H' n z => q v N' H' (x1.more n) z
    · cases e
  · cases e
/-! tuples, lists -/
@[simp] def tupE (A : MA) : ME := fun ρ => match A ρ with
  | some (a, ρ1) => if a.length ≤ sizeLine then some (.tuple a, ρ1) else none
  | none => none
@[simp] def lstA (A : MA) : MA := fun ρ => match A ρ with
  | some (a, ρ1) => if a.length ≤ sizeLine then some (a, ρ1) else none
  | none => none
theorem simE_tup {ta : TA} {A : MA} (ha : SimA K ta A) : SimE K (tTup ta) (tupE A) := by
  intro N H σ ρ ρ' d Q ok e q
  unfold tupE at e
  split at e
  · rename_i a ρ1 h1
    split at e
    · rename_i hz
      cases e
      refine ha N H σ ρ _ a _ ok h1 fun x N1 H1 x1 d1 => ⟨by rw [d1.len]; exact hz, fun p hp => ?_⟩
      exact q _ N1 _ (x1.more (New.tup hp)) (.tup (SqT.of upd_same) (d1.same (Same.new hp) fun _ h => h))
    · cases e
  · cases e
theorem simO_lst {ta : TA} {A : MA} (ha : SimA K ta A) : SimO K (tLst ta) (lstA A) := by
  intro N H σ ρ ρ' d Q ok e q
  unfold lstA at e
  split at e
  · rename_i a ρ1 h1
    split at e
    · rename_i hz
      cases e
      refine ha N H σ ρ _ _ _ ok h1 fun x N1 H1 x1 d1 => ⟨by rw [d1.len]; exact hz, fun p hp => ?_⟩
      exact q p x N1 _ (x1.more (New.obj hp)) (x1.dom _ hp) (fun z => x1.ok.inn p z hp) upd_same (d1.same (Same.new hp) fun _ h => h)
    · cases e
  · cases e
end
end DL

set_option Elab.async false
set_option linter.all false
set_option maxRecDepth 100000
set_option maxHeartbeats 1000000
namespace DL
open PySem L2
section
variable {K : PySem.W.Frag} {H H' : Hp} {N N' : Addr → Prop} {σ : St} {ρ ρ' : Ev}
theorem SlotsOk.addN (h : SlotsOk K N H σ ρ) {a : Addr} (ha : H a ≠ none) (hn : ¬ Own σ ρ a) : SlotsOk K (fun b => N b ∨ b = a) H σ ρ where
  len := h.len
  inn := fun b z => by rcases z with z | rfl; exact h.inn b z; exact ha
  vals := fun i d e => let ⟨v, s, q⟩ := h.vals i d e; ⟨v, s, q.mono fun _ z => .inl z⟩
  owns := fun i ds e => let ⟨b, vs, s, q, r, z⟩ := h.owns i ds e; ⟨b, vs, s, q, r.mono fun _ z => .inl z, fun y => by
    rcases y with y | y
    · exact z y
    · subst y; exact hn ⟨i, ⟨ds, e⟩, s⟩⟩
  one := h.one
  scrs := h.scrs
/-- what one's own list becomes when it is told as data -/
@[simp] def frzE (A : MA) : ME := fun ρ => match A ρ with
  | some (ds, ρ') => some (.list ds, ρ')
  | none => none
theorem simE_of {t : TE} {A : MA} (h : SimO K t A) : SimE K t (frzE A) := by
  intro N H σ ρ ρ' d Q ok e q
  unfold frzE at e
  split at e
  · rename_i ds ρ1 h1
    cases e
    refine h N H σ ρ _ ds Q ok h1 fun a vs N' H' x hn nn hl hd => ?_
    have no : ¬ Own σ ρ' a := fun z => by
      obtain ⟨ys, y⟩ := ok.hO a ((x.own a).mp z)
      rw [hn] at y; cases y
    refine q (.ref a) (fun b => N' b ∨ b = a) H' ⟨fun b z => .inl (x.up b z), fun b z => ?_, x.kp, x.dom, x.ok.addN (by rw [hl]; intro z; cases z) no, x.valE, x.ownE, x.borE, x.scrE⟩ (.lst hl (.inr rfl) (hd.mono fun _ z => .inl z))
    rcases z with z | z
    · exact x.new b z
    · exact .inr (by rw [z]; exact hn)
  · cases e
/-! tests -/
@[simp] def bT (E : ME) : MT := fun ρ => match E ρ with
  | some (.bool b, ρ') => some (b, ρ')
  | _ => none
theorem simT_b {t : TE} {E : ME} (h : SimE K t E) : SimT K (tB t) (bT E) := by
  intro N H σ ρ ρ' b Q ok e q
  unfold bT at e
  split at e
  · rename_i b' ρ1 h1
    cases e
    exact h N H σ ρ _ _ _ ok h1 fun v N' H' x d => by cases d; exact ⟨_, rfl, q N' H' x⟩
  · cases e
theorem simT_test {t : TE} {E : ME} (h : SimE K t E) : SimT K (tTest t) (bT E) := simT_b h
@[simp] def andT (A B : MT) : MT := fun ρ => match A ρ with
  | some (true, ρ1) => B ρ1
  | some (false, ρ1) => some (false, ρ1)
  | none => none
@[simp] def orT (A B : MT) : MT := fun ρ => match A ρ with
  | some (true, ρ1) => some (true, ρ1)
  | some (false, ρ1) => B ρ1
  | none => none
@[simp] def notT (A : MT) : MT := fun ρ => match A ρ with
  | some (b, ρ1) => some (!b, ρ1)
  | none => none
@[simp] def yesT : MT := fun ρ => some (true, ρ)
theorem simT_yes : SimT K tYes yesT := by
  intro N H σ ρ ρ' b Q ok e q
  cases e
  exact q N H (Ex.refl ok)
theorem simT_and {t u : TT} {A B : MT} (ha : SimT K t A) (hb : SimT K u B) : SimT K (tAnd t u) (andT A B) := by
  intro N H σ ρ ρ' b Q ok e q
  unfold andT at e
  split at e
  · rename_i ρ1 h1
    exact ha N H σ ρ _ _ _ ok h1 fun N1 H1 x1 => iteT (hb N1 H1 σ _ _ _ _ x1.ok e fun N2 H2 x2 => q N2 H2 (x1.trans x2))
  · rename_i ρ1 h1
    cases e
    exact ha N H σ ρ _ _ _ ok h1 fun N1 H1 x1 => iteF (q N1 H1 x1)
  · cases e
theorem simT_or {t u : TT} {A B : MT} (ha : SimT K t A) (hb : SimT K u B) : SimT K (tOr t u) (orT A B) := by
  intro N H σ ρ ρ' b Q ok e q
  unfold orT at e
  split at e
  · rename_i ρ1 h1
    cases e
    exact ha N H σ ρ _ _ _ ok h1 fun N1 H1 x1 => iteT (q N1 H1 x1)
  · rename_i ρ1 h1
    exact ha N H σ ρ _ _ _ ok h1 fun N1 H1 x1 => iteF (hb N1 H1 σ _ _ _ _ x1.ok e fun N2 H2 x2 => q N2 H2 (x1.trans x2))
  · cases e
theorem simT_not {t : TT} {A : MT} (ha : SimT K t A) : SimT K (tNot t) (notT A) := by
  intro N H σ ρ ρ' b Q ok e q
  unfold notT at e
  split at e
  · rename_i b1 ρ1 h1
    cases e
    exact ha N H σ ρ _ _ _ ok h1 fun N1 H1 x1 => q N1 H1 x1
  · cases e
/-! and, or, not as values -/
@[simp] def andE (A B : ME) : ME := fun ρ => match A ρ with
  | some (.bool true, ρ1) => B ρ1
  | some (.bool false, ρ1) => some (.bool false, ρ1)
  | _ => none
@[simp] def orE (A B : ME) : ME := fun ρ => match A ρ with
  | some (.bool true, ρ1) => some (.bool true, ρ1)
  | some (.bool false, ρ1) => B ρ1
  | _ => none
@[simp] def notE (A : ME) : ME := fun ρ => match A ρ with
  | some (.bool b, ρ1) => some (.bool (!b), ρ1)
  | _ => none
theorem simE_and {ta tb : TE} {A B : ME} (ha : SimE K ta A) (hb : SimE K tb B) : SimE K (tAndV ta tb) (andE A B) := by
  intro N H σ ρ ρ' d Q ok e q
  unfold andE at e
  split at e
  · rename_i ρ1 h1
    exact ha N H σ ρ _ _ _ ok h1 fun v N1 H1 x1 d1 => by cases d1; exact ⟨true, rfl, iteT (hb N1 H1 σ _ _ _ _ x1.ok e fun v N2 H2 x2 d2 => q v N2 H2 (x1.trans x2) d2)⟩
  · rename_i ρ1 h1
    cases e
    exact ha N H σ ρ _ _ _ ok h1 fun v N1 H1 x1 d1 => by cases d1; exact ⟨false, rfl, iteF (q _ N1 H1 x1 (.bl false))⟩
  · cases e
theorem simE_or {ta tb : TE} {A B : ME} (ha : SimE K ta A) (hb : SimE K tb B) : SimE K (tOrV ta tb) (orE A B) := by
  intro N H σ ρ ρ' d Q ok e q
  unfold orE at e
  split at e
  · rename_i ρ1 h1
    cases e
    exact ha N H σ ρ _ _ _ ok h1 fun v N1 H1 x1 d1 => by cases d1; exact ⟨true, rfl, iteT (q _ N1 H1 x1 (.bl true))⟩
  · rename_i ρ1 h1
    exact ha N H σ ρ _ _ _ ok h1 fun v N1 H1 x1 d1 => by cases d1; exact ⟨false, rfl, iteF (hb N1 H1 σ _ _ _ _ x1.ok e fun v N2 H2 x2 d2 => q v N2 H2 (x1.trans x2) d2)⟩
  · cases e
theorem simE_not {ta : TE} {A : ME} (ha : SimE K ta A) : SimE K (tNotV ta) (notE A) := by
  intro N H σ ρ ρ' d Q ok e q
  unfold notE at e
  split at e
  · rename_i b ρ1 h1
    cases e
    exact ha N H σ ρ _ _ _ ok h1 fun v N1 H1 x1 d1 => by cases d1; exact ⟨b, rfl, q _ N1 H1 x1 (.bl _)⟩
  · cases e
@[simp] def ifE (T : MT) (A B : ME) : ME := fun ρ => match T ρ with
  | some (true, ρ1) => A ρ1
  | some (false, ρ1) => B ρ1
  | none => none
theorem simE_if {t : TT} {ta tb : TE} {T : MT} {A B : ME} (ht : SimT K t T) (ha : SimE K ta A) (hb : SimE K tb B) : SimE K (tIf t ta tb) (ifE T A B) := by
  intro N H σ ρ ρ' d Q ok e q
  unfold ifE at e
  split at e
  · rename_i ρ1 h1
    exact ht N H σ ρ _ _ _ ok h1 fun N1 H1 x1 => iteT (ha N1 H1 σ _ _ _ _ x1.ok e fun v N2 H2 x2 d2 => q v N2 H2 (x1.trans x2) d2)
  · rename_i ρ1 h1
    exact ht N H σ ρ _ _ _ ok h1 fun N1 H1 x1 => iteF (hb N1 H1 σ _ _ _ _ x1.ok e fun v N2 H2 x2 d2 => q v N2 H2 (x1.trans x2) d2)
  · cases e
@[simp] def chE (f g : D → D → Option D) (A B C : ME) : ME := fun ρ => match A ρ with
  | some (a, ρ1) => match B ρ1 with
    | some (b, ρ2) => match f a b with
      | some (.bool true) => match C ρ2 with
        | some (c, ρ3) => match g b c with
          | some d => some (d, ρ3)
          | none => none
        | none => none
      | some (.bool false) => some (.bool false, ρ2)
      | _ => none
    | none => none
  | none => none
theorem simE_ch {r r' : R2} {f g : D → D → Option D} {ta tb tc : TE} {A B C : ME} (hr : SimR2 K r f) (hr' : SimR2 K r' g) (ha : SimE K ta A) (hb : SimE K tb B) (hc : SimE K tc C) : SimE K (tChain r r' ta tb tc) (chE f g A B C) := by
  intro N H σ ρ ρ' d Q ok e q
  unfold chE at e
  split at e
  · rename_i a ρ1 h1
    split at e
    · rename_i b ρ2 h2
      refine ha N H σ ρ _ _ _ ok h1 fun x N1 H1 x1 d1 => ?_
      refine hb N1 H1 σ _ _ _ _ x1.ok h2 fun y N2 H2 x2 d2 => ?_
      split at e
      · rename_i h3
        split at e
        · rename_i c ρ3 h4
          split at e
          · rename_i d' h5
            cases e
            refine hr N2 H2 x y a b _ _ (x2.dn x1.ok d1) d2 h3 fun v N3 H3 n z => ?_
            cases z
            refine ⟨true, rfl, iteT ?_⟩
            have x3 := (x1.trans x2).more n
            refine hc N3 H3 σ _ _ _ _ x3.ok h4 fun w N4 H4 x4 d4 => ?_
            exact hr' N4 H4 y w b c _ _ (x4.dn x3.ok (d2.same n.same n.up)) d4 h5 fun v N5 H5 n5 z5 => q v N5 H5 ((x3.trans x4).more n5) z5
          · cases e
        · cases e
      · rename_i h3
        cases e
        refine hr N2 H2 x y a b _ _ (x2.dn x1.ok d1) d2 h3 fun v N3 H3 n z => ?_
        cases z
        exact ⟨false, rfl, iteF (q _ N3 H3 ((x1.trans x2).more n) (.bl false))⟩
      · cases e
    · cases e
  · cases e
@[simp] def ch3E (f g h : D → D → Option D) (A B C E : ME) : ME := fun ρ => match A ρ with
  | some (a, ρ1) => match B ρ1 with
    | some (b, ρ2) => match f a b with
      | some (.bool true) => match C ρ2 with
        | some (c, ρ3) => match g b c with
          | some (.bool true) => match E ρ3 with
            | some (e, ρ4) => match h c e with
              | some d => some (d, ρ4)
              | none => none
            | none => none
          | some (.bool false) => some (.bool false, ρ3)
          | _ => none
        | none => none
      | some (.bool false) => some (.bool false, ρ2)
      | _ => none
    | none => none
  | none => none
theorem simE_ch3 {r r' r'' : R2} {f g h : D → D → Option D} {ta tb tc td : TE} {A B C E : ME} (hr : SimR2 K r f) (hr' : SimR2 K r' g) (hr'' : SimR2 K r'' h) (ha : SimE K ta A) (hb : SimE K tb B) (hc : SimE K tc C) (hd : SimE K td E) : SimE K (tChain3 r r' r'' ta tb tc td) (ch3E f g h A B C E) := by
  intro N H σ ρ ρ' d Q ok e q
  unfold ch3E at e
  split at e
  · rename_i a ρ1 h1
    split at e
    · rename_i b ρ2 h2
      refine ha N H σ ρ _ _ _ ok h1 fun x N1 H1 x1 d1 => ?_
      refine hb N1 H1 σ _ _ _ _ x1.ok h2 fun y N2 H2 x2 d2 => ?_
      split at e
      · rename_i h3
        split at e
        · rename_i c ρ3 h4
          refine hr N2 H2 x y a b _ _ (x2.dn x1.ok d1) d2 h3 fun v N3 H3 n z => ?_
          cases z
          refine ⟨true, rfl, iteT ?_⟩
          have x3 := (x1.trans x2).more n
          refine hc N3 H3 σ _ _ _ _ x3.ok h4 fun w N4 H4 x4 d4 => ?_
          split at e
          · rename_i h5
            split at e
            · rename_i e1 ρ4 h6
              split at e
              · rename_i d' h7
                cases e
                refine hr' N4 H4 y w b c _ _ (x4.dn x3.ok (d2.same n.same n.up)) d4 h5 fun v N5 H5 n5 z5 => ?_
                cases z5
                refine ⟨true, rfl, iteT ?_⟩
                have x5 := (x3.trans x4).more n5
                refine hd N5 H5 σ _ _ _ _ x5.ok h6 fun w6 N6 H6 x6 d6 => ?_
                exact hr'' N6 H6 w w6 c e1 _ _ (x6.dn x5.ok (d4.same n5.same n5.up)) d6 h7 fun v N7 H7 n7 z7 => q v N7 H7 ((x5.trans x6).more n7) z7
              · cases e
            · cases e
          · rename_i h5
            cases e
            refine hr' N4 H4 y w b c _ _ (x4.dn x3.ok (d2.same n.same n.up)) d4 h5 fun v N5 H5 n5 z5 => ?_
            cases z5
            exact ⟨false, rfl, iteF (q _ N5 H5 ((x3.trans x4).more n5) (.bl false))⟩
          · cases e
        · cases e
      · rename_i h3
        cases e
        refine hr N2 H2 x y a b _ _ (x2.dn x1.ok d1) d2 h3 fun v N3 H3 n z => ?_
        cases z
        exact ⟨false, rfl, iteF (q _ N3 H3 ((x1.trans x2).more n) (.bl false))⟩
      · cases e
    · cases e
  · cases e
/-! calls -/
abbrev Fn := List D → Option D
def SpF (K : PySem.W.Frag) (F : Fn) : Sp := fun vs H Q _ => ∃ (N : Addr → Prop) (ds : List D) (d : D), (∀ a, N a → H a ≠ none) ∧ DnAll K H N vs ds ∧ F ds = some d ∧ ∀ (v : V) (N' : Addr → Prop) (H' : Hp), New N H N' H' → Dn K H' N' v d → Q v H'
abbrev FnO := List D → Option (List D)
def SpO (K : PySem.W.Frag) (F : FnO) : Sp := fun vs H Q _ => ∃ (N : Addr → Prop) (ds es : List D), (∀ a, N a → H a ≠ none) ∧ DnAll K H N vs ds ∧ F ds = some es ∧ ∀ (a : Addr) (us : List V) (N' : Addr → Prop) (H' : Hp), New N H N' H' → H a = none → ¬ N' a → H' a = some (.lst us) → DnAll K H' N' us es → Q (.ref a) H'
theorem simE_call {F : Fn} {t : TA} {A : MA} {E : XK} (ha : SimA K t A) : SimE K (tCall (SpF K F) [] E t) (cbE F A) := by
  intro N H σ ρ ρ' d Q ok e q
  unfold cbE at e
  split at e
  · rename_i ds ρ1 h1
    split at e
    · rename_i d' h2
      cases e
      refine ha N H σ ρ _ _ _ ok h1 fun vs N1 H1 x1 d1 => ?_
      refine ⟨N1, ds, _, x1.ok.inn, by rw [List.append_nil]; exact d1, h2, fun v N2 H2 n z => q v N2 H2 (x1.more n) z⟩
    · cases e
  · cases e
@[simp] def cbO (F : FnO) (A : MA) : MA := fun ρ => match A ρ with
  | some (a, ρ1) => match F a with
    | some d => some (d, ρ1)
    | none => none
  | none => none
theorem simO_call {F : FnO} {t : TA} {A : MA} {E : XK} (ha : SimA K t A) : SimO K (tCall (SpO K F) [] E t) (cbO F A) := by
  intro N H σ ρ ρ' d Q ok e q
  unfold cbO at e
  split at e
  · rename_i ds ρ1 h1
    split at e
    · rename_i d' h2
      cases e
      refine ha N H σ ρ _ _ _ ok h1 fun vs N1 H1 x1 d1 => ?_
      refine ⟨N1, ds, _, x1.ok.inn, by rw [List.append_nil]; exact d1, h2, fun a us N2 H2 n hn nn hl z => q a us N2 H2 (x1.more n) (x1.dom a hn) nn hl z⟩
    · cases e
  · cases e
/-! a list of one's own, or lent: read, written -/
@[simp] def getO (ρ : Ev) (i : Nat) : Option (List D) := match ρ[i]? with
  | some (.own ds) => some ds
  | some (.bor ds) => some ds
  | _ => none
@[simp] def putO (ρ : Ev) (i : Nat) (cs : List D) : Ev := match ρ[i]? with
  | some (.own _) => ρ.set i (.own cs)
  | some (.bor _) => ρ.set i (.bor cs)
  | _ => ρ
theorem getO_is {ρ : Ev} {i : Nat} {ds : List D} (h : getO ρ i = some ds) : ρ[i]? = some (.own ds) ∨ ρ[i]? = some (.bor ds) := by
  unfold getO at h
  split at h
  · cases h; exact .inl (by assumption)
  · cases h; exact .inr (by assumption)
  · cases h
theorem lt_of_get {α : Type} {l : List α} {i : Nat} {x : α} (h : l[i]? = some x) : i < l.length := (List.getElem?_eq_some_iff.mp h).1
theorem get_set {α : Type} {l : List α} {i j : Nat} {x : α} (h : i < l.length) : (l.set i x)[j]? = if i = j then some x else l[j]? := by
  rw [List.getElem?_set]
  by_cases e : i = j
  · rw [if_pos e, if_pos e, if_pos h]
  · rw [if_neg e, if_neg e]
theorem putO_get {ρ : Ev} {i : Nat} {ds cs : List D} (h : getO ρ i = some ds) (j : Nat) : (putO ρ i cs)[j]? = if i = j then (match ρ[i]? with | some (.own _) => some (.own cs) | some (.bor _) => some (.bor cs) | o => o) else ρ[j]? := by
  unfold putO
  rcases getO_is h with q | q
  · rw [q]; exact get_set (lt_of_get q)
  · rw [q]; exact get_set (lt_of_get q)
theorem putO_len (ρ : Ev) (i : Nat) (cs : List D) : (putO ρ i cs).length = ρ.length := by
  unfold putO; split <;> simp
/-- the list of a slot is written -/
theorem Ex.put (ok : SlotsOk K N H σ ρ) {i : Nat} {cs cs' : List D} {a : Addr} {us : List V} (hg : getO ρ i = some cs) (ha : σ[i]? = some (some (.ref a)))
    (up : ∀ b, N b → N' b) (new : ∀ b, N' b → N b ∨ H b = none) (kp : ∀ b o, H b = some o → b ≠ a → H' b = some o) (hl : H' a = some (.lst us)) (hd : DnAll K H' N' us cs') (hn : ¬ N' a) (hi : ∀ b, N' b → H' b ≠ none) :
    Ex K σ N H ρ N' H' (putO ρ i cs') := by
  have io : DL.isO ρ i := ⟨cs, getO_is hg⟩
  have oa : Own σ ρ a := ⟨i, io, ha⟩
  have kp' : Kp (Own σ ρ) H H' := fun b o e n => kp b o e fun z => n (z ▸ oa)
  have kpa : Kp (fun b => b = a) H H' := fun b o e n => kp b o e n
  have hOa : ∀ b, b = a → ∃ ys, H b = some (.lst ys) := fun b z => z ▸ ok.hO a oa
  have hNa : ∀ b, N b → ¬ b = a := fun b n z => ok.hN b n (z ▸ oa)
  refine ⟨up, new, kp', fun b e => ?_, ⟨by rw [putO_len]; exact ok.len, hi, fun j d e => ?_, fun j ds e => ?_, fun j k b hj hk => ?_, fun j ns e => ?_⟩, fun j d => ?_, fun j => ?_, fun j => ?_, fun j s => ?_⟩
  · cases h : H b with
    | none => rfl
    | some o =>
      by_cases z : b = a
      · subst z; rw [hl] at e; cases e
      · rw [kp b o h z] at e; cases e
  · rw [putO_get hg] at e
    split at e
    · rcases getO_is hg with q | q <;> (rw [q] at e; cases e)
    · obtain ⟨v, s, q⟩ := ok.vals j d e
      exact ⟨v, s, q.kp hOa hNa up kpa⟩
  · rw [putO_get hg] at e
    by_cases z : i = j
    · rw [if_pos z] at e
      subst z
      have : ds = cs' := by rcases getO_is hg with q | q <;> (rw [q] at e; rcases e with e | e <;> (cases e; try rfl))
      subst this
      exact ⟨a, us, ha, hl, hd, hn⟩
    · rw [if_neg z] at e
      obtain ⟨b, vs, s, q, r, n⟩ := ok.owns j ds e
      have nb : b ≠ a := fun y => z (ok.one i j a io ⟨ds, e⟩ ha (y ▸ s))
      refine ⟨b, vs, s, kp b _ q nb, r.kp hOa hNa up kpa, fun y => ?_⟩
      rcases new b y with y | y
      · exact n y
      · rw [q] at y; cases y
  · have f : ∀ j, DL.isO (putO ρ i cs') j → DL.isO ρ j := fun j ⟨ds, e⟩ => by
      rw [putO_get hg] at e
      by_cases z : i = j
      · exact z ▸ io
      · rw [if_neg z] at e; exact ⟨ds, e⟩
    exact ok.one j k b (f j hj) (f k hk)
  · rw [putO_get hg] at e
    split at e
    · rcases getO_is hg with q | q <;> (rw [q] at e; cases e)
    · obtain ⟨b, s, q⟩ := ok.scrs j ns e
      exact ⟨b, s, q.kp hOa kpa⟩
  · rw [putO_get hg]
    by_cases z : i = j
    · rw [if_pos z]; subst z
      rcases getO_is hg with q | q <;> (rw [q]; constructor <;> (intro y; cases y))
    · rw [if_neg z]
  · rw [putO_get hg]
    by_cases z : i = j
    · rw [if_pos z]; subst z
      rcases getO_is hg with q | q
      · rw [q]; exact ⟨fun _ => ⟨_, rfl⟩, fun _ => ⟨_, rfl⟩⟩
      · rw [q]; constructor <;> (rintro ⟨_, y⟩; cases y)
    · rw [if_neg z]
  · rw [putO_get hg]
    by_cases z : i = j
    · rw [if_pos z]; subst z
      rcases getO_is hg with q | q
      · rw [q]; constructor <;> (rintro ⟨_, y⟩; cases y)
      · rw [q]; exact ⟨fun _ => ⟨_, rfl⟩, fun _ => ⟨_, rfl⟩⟩
    · rw [if_neg z]
  · rw [putO_get hg]
    by_cases z : i = j
    · rw [if_pos z]; subst z
      rcases getO_is hg with q | q <;> (rw [q]; constructor <;> (intro y; cases y))
    · rw [if_neg z]
theorem Ex.upd (ok : SlotsOk K N H σ ρ) {i : Nat} {cs cs' : List D} {a : Addr} {vs us : List V} (hg : getO ρ i = some cs) (ha : σ[i]? = some (some (.ref a))) (hv : H a = some (.lst vs)) (hd : DnAll K H N us cs') : Ex K σ N H ρ N (upd H a (.lst us)) (putO ρ i cs') := by
  have io : DL.isO ρ i := ⟨cs, getO_is hg⟩
  have oa : Own σ ρ a := ⟨i, io, ha⟩
  have kpa : Kp (fun b => b = a) H (L2.upd H a (.lst us)) := fun b o e n => by rw [upd_ne n]; exact e
  exact Ex.put ok hg ha (fun _ z => z) (fun _ z => .inl z) (fun b o e n => by rw [upd_ne n]; exact e) upd_same (hd.kp (O := fun b => b = a) (fun b z => z ▸ ok.hO a oa) (fun b n z => ok.hN b n (z ▸ oa)) (fun _ z => z) kpa) (fun n => ok.hN a n oa) (fun b n => upd_there (ok.inn b n))
abbrev FnB := List D → List D → Option (D × List D)
def SpB (K : PySem.W.Frag) (F : FnB) : Sp := fun vs H Q _ => ∃ (N : Addr → Prop) (a : Addr) (us ws : List V) (cs cs' ds : List D) (d : D), vs = .ref a :: ws ∧ (∀ a, N a → H a ≠ none) ∧ ¬ N a ∧ H a = some (.lst us) ∧ DnAll K H N us cs ∧ DnAll K H N ws ds ∧ F cs ds = some (d, cs') ∧
  ∀ (v : V) (us' : List V) (N' : Addr → Prop) (H' : Hp), (∀ b, N b → N' b) → (∀ b, N' b → N b ∨ H b = none) → (∀ b o, H b = some o → b ≠ a → H' b = some o) → H' a = some (.lst us') → DnAll K H' N' us' cs' → ¬ N' a → (∀ b, N' b → H' b ≠ none) → Dn K H' N' v d → Q v H'
abbrev FnBO := List D → List D → Option (List D × List D)
def SpBO (K : PySem.W.Frag) (F : FnBO) : Sp := fun vs H Q _ => ∃ (N : Addr → Prop) (a : Addr) (us ws : List V) (cs cs' ds es : List D), vs = .ref a :: ws ∧ (∀ a, N a → H a ≠ none) ∧ ¬ N a ∧ H a = some (.lst us) ∧ DnAll K H N us cs ∧ DnAll K H N ws ds ∧ F cs ds = some (es, cs') ∧
  ∀ (l : Addr) (ls us' : List V) (N' : Addr → Prop) (H' : Hp), (∀ b, N b → N' b) → (∀ b, N' b → N b ∨ H b = none) → (∀ b o, H b = some o → b ≠ a → H' b = some o) → H' a = some (.lst us') → DnAll K H' N' us' cs' → ¬ N' a → (∀ b, N' b → H' b ≠ none) → H l = none → ¬ N' l → H' l = some (.lst ls) → DnAll K H' N' ls es → Q (.ref l) H'
@[simp] def cbB (F : FnB) (i : Nat) (A : MA) : ME := fun ρ => match getO ρ i with
  | some _ => match A ρ with
    | some (ds, ρ1) => match getO ρ1 i with
      | some cs => match F cs ds with
        | some (d, cs') => some (d, putO ρ1 i cs')
        | none => none
      | none => none
    | none => none
  | none => none
@[simp] def cbBO (F : FnBO) (i : Nat) (A : MA) : MA := fun ρ => match getO ρ i with
  | some _ => match A ρ with
    | some (ds, ρ1) => match getO ρ1 i with
      | some cs => match F cs ds with
        | some (d, cs') => some (d, putO ρ1 i cs')
        | none => none
      | none => none
    | none => none
  | none => none
theorem simE_callB {F : FnB} {i : Nat} {t : TA} {A : MA} {E : XK} (ha : SimA K t A) : SimE K (tCall (SpB K F) [] E (tCons (tVar i) t)) (cbB F i A) := by
  intro N H σ ρ ρ' d Q ok e q
  unfold cbB at e
  split at e
  · rename_i cs0 hg0
    obtain ⟨a, us0, sa, _⟩ := ok.owns i cs0 (getO_is hg0)
    split at e
    · rename_i ds ρ1 h1
      split at e
      · rename_i cs hg
        split at e
        · rename_i d' cs' h2
          cases e
          refine ⟨_, sa, ha N H σ ρ _ _ _ ok h1 fun vs N1 H1 x1 d1 => ?_⟩
          obtain ⟨b, us, sb, hl, hd, nn⟩ := x1.ok.owns i cs (getO_is hg)
          rw [sa] at sb; cases sb
          refine ⟨N1, a, us, vs, cs, cs', ds, _, by simp, x1.ok.inn, nn, hl, hd, d1, h2, fun v us' N2 H2 up new kp hl2 hd2 nn2 inn2 z => ?_⟩
          exact q v N2 H2 (x1.trans (Ex.put x1.ok hg sa up new kp hl2 hd2 nn2 inn2)) z
        · cases e
      · cases e
    · cases e
  · cases e
/-! x.append(e), x.pop(), x.pop(k), x.clear(): lists of one's own -/
@[simp] def appE (i : Nat) (A : ME) : ME := fun ρ => match getO ρ i with
  | some _ => match A ρ with
    | some (d, ρ1) => match getO ρ1 i with
      | some cs => if cs.length < sizeLine then some (.none, putO ρ1 i (cs ++ [d])) else none
      | none => none
    | none => none
  | none => none
theorem simE_append {i : Nat} {t : TE} {A : ME} (ha : SimE K t A) : SimE K (tBM K "list" rAppend (tVar i) (tCons t tNil)) (appE i A) := by
  intro N H σ ρ ρ' d Q ok e q
  unfold appE at e
  split at e
  · rename_i cs0 hg0
    obtain ⟨a, us0, sa, hl0, _⟩ := ok.owns i cs0 (getO_is hg0)
    split at e
    · rename_i d1 ρ1 h1
      split at e
      · rename_i cs hg
        split at e
        · rename_i hz
          cases e
          refine ⟨_, sa, .inl ⟨rfl, _, SqL.of hl0⟩, ha N H σ ρ _ _ _ ok h1 fun v N1 H1 x1 d1 => ?_⟩
          obtain ⟨b, us, sb, hl, hd, nn⟩ := x1.ok.owns i cs (getO_is hg)
          rw [sa] at sb; cases sb
          refine ⟨a, us, v, rfl, rfl, hl, by rw [hd.len]; exact hz, ?_⟩
          exact q .non N1 _ (x1.trans (Ex.upd x1.ok hg sa hl (hd.app (.cons d1 .nil)))) .non
        · cases e
      · cases e
    · cases e
  · cases e
@[simp] def popE (i : Nat) : ME := fun ρ => match getO ρ i with
  | some cs => match cs[cs.length - 1]? with
    | some d => if flat d then some (d, putO ρ i cs.dropLast) else none
    | none => none
  | none => none
theorem DnAll.dropLast {vs : List V} {ds : List D} (h : DnAll K H N vs ds) : DnAll K H N vs.dropLast ds.dropLast := by
  rw [List.dropLast_eq_take, List.dropLast_eq_take, h.len]
  exact h.take _
@[simp] def popAtE (i : Nat) (A : ME) : ME := fun ρ => match getO ρ i with
  | some _ => match A ρ with
    | some (.int k, ρ1) => match getO ρ1 i with
      | some cs => if -(2 ^ 63) ≤ k ∧ k < 2 ^ 63 then match seqIndex? k cs.length with
          | some j => match cs[j]? with
            | some d => some (d, putO ρ1 i (cs.eraseIdx j))
            | none => none
          | none => none
        else none
      | none => none
    | _ => none
  | none => none
/-! a list of one's own is looked at as data, for a while -/
@[simp] def flatS : Slot → Bool
  | .own ds => flatAll ds
  | .bor ds => flatAll ds
  | _ => true
@[simp] def peek (i : Nat) (A : ME) : ME := fun ρ => match getO ρ i with
  | some cs => match A (ρ.set i (.val (.list cs))) with
    | some (d, ρ1) => if flat d = true ∧ ρ1.all flatS = true then some (d, ρ1.set i (match ρ[i]? with | some s => s | none => .non)) else none
    | none => none
  | none => none
theorem peek_core {i : Nat} {cs : List D} {s0 : Slot} (ok : SlotsOk K N H σ ρ) (hg : getO ρ i = some cs) (hs0 : ρ[i]? = some s0) : ∃ a, σ[i]? = some (some (.ref a)) ∧ H a ≠ none ∧ SlotsOk K (fun b => N b ∨ b = a) H σ (ρ.set i (.val (.list cs))) ∧
    ∀ (N1 : Addr → Prop) (H1 : Hp) (ρ1 : Ev), Ex K σ (fun b => N b ∨ b = a) H (ρ.set i (.val (.list cs))) N1 H1 ρ1 → ρ1.all flatS = true → Ex K σ N H ρ (fun b => N1 b ∧ b ≠ a) H1 (ρ1.set i s0) := by
    have hgi := getO_is hg
    have hi : i < ρ.length := by rcases hgi with z | z <;> exact lt_of_get z
    obtain ⟨a, us, sa, hl, hd, nn⟩ := ok.owns i cs hgi
    have io : isO ρ i := ⟨cs, hgi⟩
    have gs : ∀ j, (ρ.set i (.val (.list cs)))[j]? = if i = j then some (.val (.list cs)) else ρ[j]? := fun j => get_set hi
    have fo : ∀ j, isO (ρ.set i (.val (.list cs))) j → isO ρ j ∧ i ≠ j := fun j ⟨ds, h⟩ => by
      rw [gs] at h
      by_cases z : i = j
      · rw [if_pos z] at h; rcases h with h | h <;> cases h
      · rw [if_neg z] at h; exact ⟨⟨ds, h⟩, z⟩
    have ok1 : SlotsOk K (fun b => N b ∨ b = a) H σ (ρ.set i (.val (.list cs))) := by
      refine ⟨by rw [List.length_set]; exact ok.len, fun b z => ?_, fun j d h => ?_, fun j ds h => ?_, fun j k b hj hk => ok.one j k b (fo j hj).1 (fo k hk).1, fun j ns h => ?_⟩
      · rcases z with z | rfl
        · exact ok.inn b z
        · rw [hl]; intro y; cases y
      · rw [gs] at h
        by_cases z : i = j
        · rw [if_pos z] at h; cases h; subst z
          exact ⟨_, sa, .lst hl (.inr rfl) (hd.mono fun _ y => .inl y)⟩
        · rw [if_neg z] at h
          obtain ⟨v, s, y⟩ := ok.vals j d h
          exact ⟨v, s, y.mono fun _ w => .inl w⟩
      · obtain ⟨oj, nij⟩ := fo j ⟨ds, h⟩
        rw [gs, if_neg nij] at h
        obtain ⟨b, vs, s, y1, y2, y3⟩ := ok.owns j ds h
        refine ⟨b, vs, s, y1, y2.mono fun _ w => .inl w, fun w => ?_⟩
        rcases w with w | w
        · exact y3 w
        · exact nij (ok.one i j a io oj sa (w ▸ s))
      · rw [gs] at h
        by_cases z : i = j
        · rw [if_pos z] at h; cases h
        · rw [if_neg z] at h; exact ok.scrs j ns h
    refine ⟨a, sa, (by rw [hl]; intro y; cases y), ok1, fun N1 H1 ρ1 x1 hf => ?_⟩
    have vi : ρ1[i]? = some (.val (.list cs)) := (x1.valE i _).mpr (by rw [gs, if_pos rfl])
    have li : i < ρ1.length := lt_of_get vi
    have gs2 : ∀ s j, (ρ1.set i s)[j]? = if i = j then some s else ρ1[j]? := fun s j => get_set li
    rw [hs0] at hgi
    have na : ¬ Own σ (ρ.set i (.val (.list cs))) a := fun ⟨j, oj, s⟩ => (fo j oj).2 (ok.one i j a io (fo j oj).1 sa s)
    have kp : Kp (Own σ ρ) H H1 := fun b o h n => x1.kp b o h fun ⟨j, oj, s⟩ => n ⟨j, (fo j oj).1, s⟩
    have hl1 : H1 a = some (.lst us) := x1.kp a _ hl na
    -- the places but a
    have up : ∀ b, N b → (N1 b ∧ b ≠ a) := fun b n => ⟨x1.up b (.inl n), fun z => nn (z ▸ n)⟩
    have hOx : ∀ b, Own σ (ρ.set i (.val (.list cs))) b → ∃ ys, H b = some (.lst ys) := ok1.hO
    have hNx : ∀ b, N b → ¬ Own σ (ρ.set i (.val (.list cs))) b := fun b n => ok1.hN b (.inl n)
    have back : ∀ j, isO (ρ1.set i s0) j → isO ρ j := fun j ⟨ds, h⟩ => by
      rw [gs2] at h
      by_cases z : i = j
      · exact z ▸ io
      · rw [if_neg z] at h
        exact (fo j ((x1.isO j).mp ⟨ds, h⟩)).1
    refine ⟨up, fun b n => ?_, kp, x1.dom, ⟨by rw [List.length_set]; exact x1.ok.len, fun b n => x1.ok.inn b n.1, fun j d h => ?_, fun j ds h => ?_, fun j k b hj hk => ok.one j k b (back j hj) (back k hk), fun j ns h => ?_⟩, fun j d => ?_, fun j => ?_, fun j => ?_, fun j s => ?_⟩
    · rcases x1.new b n.1 with y | y
      · rcases y with y | y
        · exact .inl y
        · exact absurd y n.2
      · exact .inr y
    · rw [gs2] at h
      by_cases z : i = j
      · rw [if_pos z] at h; cases h; rcases hgi with y | y <;> cases y
      · rw [if_neg z] at h
        have h' := (x1.valE j d).mp h
        rw [gs, if_neg z] at h'
        obtain ⟨v, s, y⟩ := ok.vals j d h'
        exact ⟨v, s, y.kp hOx hNx up x1.kp⟩
    · rw [gs2] at h
      by_cases z : i = j
      · subst z
        rw [if_pos rfl] at h
        have hds : ds = cs := by
          rcases hgi with y | y <;> (cases y; rcases h with h | h <;> (cases h; try rfl))
        subst hds
        exact ⟨a, us, sa, hl1, hd.kp hOx hNx up x1.kp, fun n => n.2 rfl⟩
      · rw [if_neg z] at h
        obtain ⟨b, vs, s, y1, y2, y3⟩ := x1.ok.owns j ds h
        have fl : flatAll ds = true := by
          have := List.all_eq_true.mp hf
          rcases h with h | h
          · exact this _ (List.mem_of_getElem? h)
          · exact this _ (List.mem_of_getElem? h)
        exact ⟨b, vs, s, y1, y2.flat fl, fun n => y3 n.1⟩
    · rw [gs2] at h
      by_cases z : i = j
      · rw [if_pos z] at h; cases h; rcases hgi with y | y <;> cases y
      · rw [if_neg z] at h; exact x1.ok.scrs j ns h
    · rw [gs2]
      by_cases z : i = j
      · subst z; rw [if_pos rfl, hs0]
      · rw [if_neg z, x1.valE, gs, if_neg z]
    · rw [gs2]
      by_cases z : i = j
      · subst z; rw [if_pos rfl, hs0]
      · rw [if_neg z, x1.ownE, gs, if_neg z]
    · rw [gs2]
      by_cases z : i = j
      · subst z; rw [if_pos rfl, hs0]
      · rw [if_neg z, x1.borE, gs, if_neg z]
    · rw [gs2]
      by_cases z : i = j
      · subst z; rw [if_pos rfl, hs0]
      · rw [if_neg z, x1.scrE, gs, if_neg z]
theorem simE_peek {i : Nat} {t : TE} {A : ME} (ha : SimE K t A) : SimE K t (peek i A) := by
  intro N H σ ρ ρ' d Q ok e q
  unfold peek at e
  split at e
  · rename_i cs hg
    obtain ⟨s0, hs0⟩ : ∃ s, ρ[i]? = some s := by rcases getO_is hg with z | z <;> exact ⟨_, z⟩
    obtain ⟨a, sa, _, ok1, back⟩ := peek_core ok hg hs0
    split at e
    · rename_i d1 ρ1 h1
      split at e
      · rename_i hf
        cases e
        simp only [hs0] at q
        exact ha _ H σ _ _ _ _ ok1 h1 fun v N1 H1 x1 d1 => q v _ H1 (back N1 H1 ρ1 x1 hf.2) (d1.flat hf.1)
      · cases e
    · cases e
  · cases e
@[simp] def peekO (i : Nat) (A : MA) : MA := fun ρ => match getO ρ i with
  | some cs => match A (ρ.set i (.val (.list cs))) with
    | some (ds, ρ1) => if flatAll ds = true ∧ ρ1.all flatS = true then some (ds, ρ1.set i (match ρ[i]? with | some s => s | none => .non)) else none
    | none => none
  | none => none
end
end DL

set_option Elab.async false
set_option linter.all false
set_option maxRecDepth 100000
set_option maxHeartbeats 1000000
namespace DL
open PySem L2
/-- a statement has been done -/
structure Stp (K : PySem.W.Frag) (N : Addr → Prop) (H : Hp) (σ : St) (ρ : Ev) (N' : Addr → Prop) (H' : Hp) (σ' : St) (ρ' : Ev) : Prop where
  up : ∀ a, N a → N' a
  new : ∀ a, N' a → N a ∨ H a = none ∨ OwnO σ ρ a
  kp : Kp (Own σ ρ) H H'
  dom : ∀ a, H' a = none → H a = none
  ok : SlotsOk K N' H' σ' ρ'
  oo : ∀ a, OwnO σ' ρ' a → OwnO σ ρ a ∨ H a = none
  bo : ∀ (i : Nat) (ds : List D), ρ'[i]? = some (.bor ds) → σ'[i]? = σ[i]? ∧ ∃ es : List D, ρ[i]? = some (.bor es)
  ob : ∀ (i : Nat) (ds : List D), ρ[i]? = some (.bor ds) → ∃ es : List D, ρ'[i]? = some (.bor es)
section
variable {K : PySem.W.Frag} {N N1 N2 : Addr → Prop} {H H1 H2 : Hp} {σ σ1 σ2 : St} {ρ ρ1 ρ2 : Ev}
theorem Stp.refl (h : SlotsOk K N H σ ρ) : Stp K N H σ ρ N H σ ρ := ⟨fun _ h => h, fun _ h => .inl h, fun _ _ h _ => h, fun _ h => h, h, fun _ h => .inl h, fun i ds h => ⟨rfl, ds, h⟩, fun i ds h => ⟨ds, h⟩⟩
theorem Stp.own (a : Stp K N H σ ρ N1 H1 σ1 ρ1) {b : Addr} (h : Own σ1 ρ1 b) : Own σ ρ b ∨ H b = none := by
  obtain ⟨i, ⟨ds, q⟩, s⟩ := h
  rcases q with q | q
  · rcases a.oo b ⟨i, ds, q, s⟩ with z | z
    · exact .inl z.own
    · exact .inr z
  · obtain ⟨e, es, r⟩ := a.bo i ds q
    exact .inl ⟨i, ⟨es, .inr r⟩, by rw [← e]; exact s⟩
theorem Stp.trans (a : Stp K N H σ ρ N1 H1 σ1 ρ1) (b : Stp K N1 H1 σ1 ρ1 N2 H2 σ2 ρ2) : Stp K N H σ ρ N2 H2 σ2 ρ2 where
  up := fun c h => b.up c (a.up c h)
  new := fun c h => by
    rcases b.new c h with q | q | q
    · exact a.new c q
    · exact .inr (.inl (a.dom c q))
    · rcases a.oo c q with q | q
      · exact .inr (.inr q)
      · exact .inr (.inl q)
  kp := fun c o h n => b.kp c o (a.kp c o h n) fun z => by
    rcases a.own z with z | z
    · exact n z
    · rw [h] at z; cases z
  dom := fun c h => a.dom c (b.dom c h)
  ok := b.ok
  oo := fun c h => by
    rcases b.oo c h with q | q
    · exact a.oo c q
    · exact .inr (a.dom c q)
  bo := fun i ds h => by
    obtain ⟨e, es, q⟩ := b.bo i ds h
    obtain ⟨e2, es2, q2⟩ := a.bo i es q
    exact ⟨e.trans e2, es2, q2⟩
  ob := fun i ds h => by
    obtain ⟨es, q⟩ := a.ob i ds h
    exact b.ob i es q
theorem Ex.stp (x : Ex K σ N H ρ N1 H1 ρ1) : Stp K N H σ ρ N1 H1 σ ρ1 := ⟨x.up, fun a h => (x.new a h).elim .inl fun z => .inr (.inl z), x.kp, x.dom, x.ok, fun a ⟨i, ds, e, s⟩ => by
    obtain ⟨es, q⟩ := (x.ownE i).mp ⟨ds, e⟩
    exact .inl ⟨i, es, q, s⟩, fun i ds h => ⟨rfl, (x.borE i).mp ⟨ds, h⟩⟩, fun i ds h => (x.borE i).mpr ⟨ds, h⟩⟩
inductive Fl where
  | nx | bk | ct | rt (d : D) | ro (ds : List D)
abbrev MS := Ev → Option (Fl × Ev)
def End (K : PySem.W.Frag) (T : Ends) (N : Addr → Prop) (H : Hp) (σ : St) (ρ : Ev) (f : Fl) (ρ' : Ev) : Prop := match f with
  | .nx => ∀ N' H' σ', Stp K N H σ ρ N' H' σ' ρ' → T.nx σ' H'
  | .bk => ∀ N' H' σ', Stp K N H σ ρ N' H' σ' ρ' → T.bk σ' H'
  | .ct => ∀ N' H' σ', Stp K N H σ ρ N' H' σ' ρ' → T.ct σ' H'
  | .rt d => ∀ N' H' σ' v, Stp K N H σ ρ N' H' σ' ρ' → Dn K H' N' v d → T.rt v H'
  | .ro ds => ∀ N' H' σ' a vs, Stp K N H σ ρ N' H' σ' ρ' → (H a = none ∨ OwnO σ ρ a) → ¬ N' a → H' a = some (.lst vs) → DnAll K H' N' vs ds → T.rt (.ref a) H'
theorem End.from {T : Ends} {f : Fl} {ρ' : Ev} (s : Stp K N H σ ρ N1 H1 σ1 ρ1) (e : End K T N H σ ρ f ρ') : End K T N1 H1 σ1 ρ1 f ρ' := by
  cases f with
  | nx => exact fun N' H' σ' z => e N' H' σ' (s.trans z)
  | bk => exact fun N' H' σ' z => e N' H' σ' (s.trans z)
  | ct => exact fun N' H' σ' z => e N' H' σ' (s.trans z)
  | rt d => exact fun N' H' σ' v z => e N' H' σ' v (s.trans z)
  | ro ds => exact fun N' H' σ' a vs z ha => e N' H' σ' a vs (s.trans z) (by
      rcases ha with h | h
      · exact .inl (s.dom a h)
      · rcases s.oo a h with h | h
        · exact .inr h
        · exact .inl h)
/-- the same but for what follows -/
theorem End.to {T T' : Ends} {f : Fl} {ρ' : Ev} (e : End K T N H σ ρ f ρ') (hf : f ≠ .nx) (h : T' = { T with nx := T'.nx }) : End K T' N H σ ρ f ρ' := by
  rw [h]
  cases f with
  | nx => exact absurd rfl hf
  | bk => exact e
  | ct => exact e
  | rt d => exact e
  | ro ds => exact e
def SimS (K : PySem.W.Frag) (t : TS) (S : MS) : Prop := ∀ (N : Addr → Prop) (H : Hp) (σ : St) (ρ ρ' : Ev) (f : Fl) (T : Ends), SlotsOk K N H σ ρ → S ρ = some (f, ρ') → End K T N H σ ρ f ρ' → t T σ H
/-! rows -/
@[simp] def nextS : MS := fun ρ => some (.nx, ρ)
@[simp] def brkS : MS := fun ρ => some (.bk, ρ)
@[simp] def cntS : MS := fun ρ => some (.ct, ρ)
@[simp] def nevS : MS := fun _ => none
@[simp] def seqS (A B : MS) : MS := fun ρ => match A ρ with
  | some (.nx, ρ1) => B ρ1
  | r => r
theorem simS_next : SimS K tNext nextS := by
  intro N H σ ρ ρ' f T ok e q
  cases e
  exact q N H σ (Stp.refl ok)
theorem simS_nev {t : TS} : SimS K t nevS := by
  intro N H σ ρ ρ' f T ok e q
  cases e
theorem simS_seq {t u : TS} {A B : MS} (ha : SimS K t A) (hb : SimS K u B) : SimS K (tSeq t u) (seqS A B) := by
  intro N H σ ρ ρ' f T ok e q
  unfold seqS at e
  split at e
  · rename_i ρ1 h1
    exact ha N H σ ρ _ .nx _ ok h1 fun N1 H1 σ1 s1 => hb N1 H1 σ1 _ _ f T s1.ok e (q.from s1)
  · rename_i r hr
    refine ha N H σ ρ ρ' f _ ok e (q.to (fun z => ?_) rfl)
    subst z
    exact hr ρ' e
@[simp] def exprS (A : ME) : MS := fun ρ => match A ρ with
  | some (_, ρ1) => some (.nx, ρ1)
  | none => none
theorem simS_expr {t : TE} {A : ME} (ha : SimE K t A) : SimS K (tDrop t) (exprS A) := by
  intro N H σ ρ ρ' f T ok e q
  unfold exprS at e
  split at e
  · rename_i d ρ1 h1
    cases e
    exact ha N H σ ρ _ d _ ok h1 fun v N1 H1 x1 _ => q N1 H1 σ x1.stp
  · cases e
@[simp] def retS (A : ME) : MS := fun ρ => match A ρ with
  | some (d, ρ1) => some (.rt d, ρ1)
  | none => none
theorem simS_ret {t : TE} {A : ME} (ha : SimE K t A) : SimS K (tRet t) (retS A) := by
  intro N H σ ρ ρ' f T ok e q
  unfold retS at e
  split at e
  · rename_i d ρ1 h1
    cases e
    exact ha N H σ ρ _ d _ ok h1 fun v N1 H1 x1 d1 => q N1 H1 σ v x1.stp d1
  · cases e
@[simp] def retOS (A : MA) : MS := fun ρ => match A ρ with
  | some (d, ρ1) => some (.ro d, ρ1)
  | none => none
theorem simS_retO {t : TE} {A : MA} (ha : SimO K t A) : SimS K (tRet t) (retOS A) := by
  intro N H σ ρ ρ' f T ok e q
  unfold retOS at e
  split at e
  · rename_i d ρ1 h1
    cases e
    exact ha N H σ ρ _ d _ ok h1 fun a vs N1 H1 x1 hn nn hl hd => q N1 H1 σ a vs x1.stp (.inl hn) nn hl hd
  · cases e
/-- return x, x a list of one's own -/
@[simp] def retVS (i : Nat) : MS := fun ρ => match ρ[i]? with
  | some (.own ds) => some (.ro ds, ρ)
  | _ => none
@[simp] def retNS : MS := fun ρ => some (.rt .none, ρ)
theorem simS_retN : SimS K tRetN retNS := by
  intro N H σ ρ ρ' f T ok e q
  cases e
  exact q N H σ .non (Stp.refl ok) .non
@[simp] def ifS (C : MT) (A B : MS) : MS := fun ρ => match C ρ with
  | some (true, ρ1) => A ρ1
  | some (false, ρ1) => B ρ1
  | none => none
theorem simS_if {c : TT} {t u : TS} {C : MT} {A B : MS} (hc : SimT K c C) (ha : SimS K t A) (hb : SimS K u B) : SimS K (tIfS c t u) (ifS C A B) := by
  intro N H σ ρ ρ' f T ok e q
  unfold ifS at e
  split at e
  · rename_i ρ1 h1
    exact hc N H σ ρ _ _ _ ok h1 fun N1 H1 x1 => iteT (ha N1 H1 σ _ _ f T x1.ok e (q.from x1.stp))
  · rename_i ρ1 h1
    exact hc N H σ ρ _ _ _ ok h1 fun N1 H1 x1 => iteF (hb N1 H1 σ _ _ f T x1.ok e (q.from x1.stp))
  · cases e
/-! stores -/
@[simp] def fit (ρ : Ev) (i : Nat) : Bool := match ρ[i]? with
  | some (.bor _) => false
  | some (.scr (.ns _)) => false
  | some _ => true
  | none => false
theorem Stp.put (ok : SlotsOk K N H σ ρ) {i : Nat} (hf : fit ρ i = true) {s : Slot} {v : Option V} (hs : ∀ d, s = .val d → ∃ w, v = some w ∧ Dn K H N w d)
    (ho : ∀ ds, s = .own ds → ∃ a vs, v = some (.ref a) ∧ H a = some (.lst vs) ∧ DnAll K H N vs ds ∧ ¬ N a ∧ ¬ Own σ ρ a) (hb : ∀ ds, s ≠ .bor ds) (hc : ∀ ns, s ≠ .scr ns) :
    SlotsOk K N H (σ.set i v) (ρ.set i s) := by
  have hi : i < ρ.length := by
    unfold fit at hf
    split at hf
    · cases hf
    · cases hf
    · exact lt_of_get (by assumption)
    · cases hf
  have hi2 : i < σ.length := by rw [← ok.len]; exact hi
  have g1 : ∀ j, (ρ.set i s)[j]? = if i = j then some s else ρ[j]? := fun j => get_set hi
  have g2 : ∀ j, (σ.set i v)[j]? = if i = j then some v else σ[j]? := fun j => get_set hi2
  have oo : ∀ j, i ≠ j → isO (ρ.set i s) j → isO ρ j := fun j n ⟨ds, h⟩ => by rw [g1, if_neg n] at h; exact ⟨ds, h⟩
  have oi : isO (ρ.set i s) i → ∃ ds, s = .own ds := fun ⟨ds, h⟩ => by
    rw [g1, if_pos rfl] at h
    rcases h with h | h
    · cases h; exact ⟨ds, rfl⟩
    · cases h; exact absurd rfl (hb ds)
  refine ⟨by rw [List.length_set, List.length_set]; exact ok.len, ok.inn, fun j d h => ?_, fun j ds h => ?_, fun j k a hj hk sj sk => ?_, fun j ns h => ?_⟩
  · rw [g1] at h; rw [g2]
    by_cases z : i = j
    · rw [if_pos z] at h ⊢; cases h
      obtain ⟨w, e, q⟩ := hs d rfl
      exact ⟨w, by rw [e], q⟩
    · rw [if_neg z] at h ⊢; exact ok.vals j d h
  · rw [g1] at h; rw [g2]
    by_cases z : i = j
    · rw [if_pos z] at h ⊢
      rcases h with h | h
      · cases h
        obtain ⟨a, vs, e, q1, q2, q3, _⟩ := ho ds rfl
        exact ⟨a, vs, by rw [e], q1, q2, q3⟩
      · cases h; exact absurd rfl (hb ds)
    · rw [if_neg z] at h ⊢; exact ok.owns j ds h
  · rw [g2] at sj sk
    by_cases z1 : i = j
    · by_cases z2 : i = k
      · exact z1.symm.trans z2
      · exfalso
        subst z1
        rw [if_pos rfl] at sj; rw [if_neg z2] at sk
        obtain ⟨ds, e⟩ := oi hj
        obtain ⟨b, vs, eb, _, _, _, no⟩ := ho ds e
        rw [eb] at sj; cases sj
        exact no ⟨k, oo k z2 hk, sk⟩
    · by_cases z2 : i = k
      · exfalso
        subst z2
        rw [if_pos rfl] at sk; rw [if_neg z1] at sj
        obtain ⟨ds, e⟩ := oi hk
        obtain ⟨b, vs, eb, _, _, _, no⟩ := ho ds e
        rw [eb] at sk; cases sk
        exact no ⟨j, oo j z1 hj, sj⟩
      · rw [if_neg z1] at sj; rw [if_neg z2] at sk
        exact ok.one j k a (oo j z1 hj) (oo k z2 hk) sj sk
  · rw [g1] at h; rw [g2]
    by_cases z : i = j
    · rw [if_pos z] at h; cases h; exact absurd rfl (hc ns)
    · rw [if_neg z] at h ⊢; exact ok.scrs j ns h
theorem fit_lt {i : Nat} (hf : fit ρ i = true) : i < ρ.length := by
  unfold fit at hf
  split at hf
  · cases hf
  · cases hf
  · exact lt_of_get (by assumption)
  · cases hf
theorem fit_bor {i : Nat} {ds : List D} (hf : fit ρ i = true) : ρ[i]? ≠ some (.bor ds) := fun z => by
  unfold fit at hf
  rw [z] at hf; cases hf
/-- a value is put into a slot -/
theorem Stp.val (ok : SlotsOk K N H σ ρ) {i : Nat} (hf : fit ρ i = true) {v : V} {d : D} (h : Dn K H N v d) : Stp K N H σ ρ N H (σ.set i (some v)) (ρ.set i (.val d)) := by
  have hi := fit_lt hf
  have hi2 : i < σ.length := by rw [← ok.len]; exact hi
  refine ⟨fun _ h => h, fun _ h => .inl h, fun _ _ h _ => h, fun _ h => h, Stp.put ok hf (fun d' z => by cases z; exact ⟨v, rfl, h⟩) (fun _ z => by cases z) (fun _ z => by cases z) (fun _ z => by cases z), fun a ⟨j, ds, e, s⟩ => ?_, fun j ds e => ?_, fun j ds e => ?_⟩
  · rw [get_set hi] at e; rw [get_set hi2] at s
    by_cases z : i = j
    · rw [if_pos z] at e; cases e
    · rw [if_neg z] at e s; exact .inl ⟨j, ds, e, s⟩
  · rw [get_set hi] at e
    by_cases z : i = j
    · rw [if_pos z] at e; cases e
    · rw [if_neg z] at e; rw [get_set hi2, if_neg z]; exact ⟨rfl, ds, e⟩
  · rw [get_set hi]
    by_cases z : i = j
    · subst z; exact absurd e (fit_bor hf)
    · rw [if_neg z]; exact ⟨ds, e⟩
theorem Stp.lst (ok : SlotsOk K N H σ ρ) {i : Nat} (hf : fit ρ i = true) {a : Addr} {vs : List V} {ds : List D} (hl : H a = some (.lst vs)) (hd : DnAll K H N vs ds) (nn : ¬ N a) (no : ¬ Own σ ρ a) {H0 : Hp} {N0 : Addr → Prop} {ρ0 : Ev} (x : Ex K σ N0 H0 ρ0 N H ρ) (hn : H0 a = none) :
    Stp K N0 H0 σ ρ0 N H (σ.set i (some (.ref a))) (ρ.set i (.own ds)) := by
  have hi := fit_lt hf
  have hi2 : i < σ.length := by rw [← ok.len]; exact hi
  refine ⟨x.up, fun a h => (x.new a h).elim .inl fun z => .inr (.inl z), x.kp, x.dom, Stp.put ok hf (fun d' z => by cases z) (fun _ z => by cases z; exact ⟨a, vs, rfl, hl, hd, nn, no⟩) (fun _ z => by cases z) (fun _ z => by cases z), fun b ⟨j, ds', e, s⟩ => ?_, fun j ds' e => ?_, fun j ds' e => ?_⟩
  · rw [get_set hi] at e; rw [get_set hi2] at s
    by_cases z : i = j
    · rw [if_pos z] at s; cases s; exact .inr hn
    · rw [if_neg z] at e s; exact x.stp.oo b ⟨j, ds', e, s⟩
  · rw [get_set hi] at e
    by_cases z : i = j
    · rw [if_pos z] at e; cases e
    · rw [if_neg z] at e; rw [get_set hi2, if_neg z]; exact ⟨rfl, (x.borE j).mp ⟨_, e⟩⟩
  · rw [get_set hi]
    obtain ⟨es, e⟩ := (x.borE j).mpr ⟨_, e⟩
    by_cases z : i = j
    · subst z; exact absurd e (fit_bor hf)
    · rw [if_neg z]; exact ⟨es, e⟩
/-- where a thing goes to -/
abbrev MG := D → Ev → Option Ev
/-- is: the slots that it may write -/
def SimG (K : PySem.W.Frag) (g : TG) (G : MG) (is : List Nat) : Prop := ∀ (N : Addr → Prop) (H : Hp) (σ : St) (ρ ρ' : Ev) (v : V) (d : D) (Q : St → Hp → Prop), SlotsOk K N H σ ρ → Dn K H N v d → G d ρ = some ρ' →
  (∀ σ', Stp K N H σ ρ N H σ' ρ' → σ'.length = σ.length → (∀ j, j ∉ is → σ'[j]? = σ[j]?) → (∀ j, j ∉ is → ρ'[j]? = ρ[j]?) → (∀ (j : Nat) s, j ∈ is → ρ'[j]? = some s → fit ρ' j = true) → Q σ' H) → g v σ H Q
def SimGs (K : PySem.W.Frag) (g : TGs) (G : List D → Ev → Option Ev) (is : List Nat) : Prop := ∀ (N : Addr → Prop) (H : Hp) (σ : St) (ρ ρ' : Ev) (vs : List V) (ds : List D) (Q : St → Hp → Prop), SlotsOk K N H σ ρ → DnAll K H N vs ds → G ds ρ = some ρ' →
  (∀ σ', Stp K N H σ ρ N H σ' ρ' → σ'.length = σ.length → (∀ j, j ∉ is → σ'[j]? = σ[j]?) → (∀ j, j ∉ is → ρ'[j]? = ρ[j]?) → (∀ (j : Nat) s, j ∈ is → ρ'[j]? = some s → fit ρ' j = true) → Q σ' H) → g vs σ H Q
@[simp] def nameG (i : Nat) : MG := fun d ρ => if fit ρ i then some (ρ.set i (.val d)) else none
theorem simG_name (i : Nat) : SimG K (gName i) (nameG i) [i] := by
  intro N H σ ρ ρ' v d Q ok hd e q
  unfold nameG at e
  split at e
  · rename_i hf
    cases e
    have hi := fit_lt hf
    have hi2 : i < σ.length := by rw [← ok.len]; exact hi
    refine q _ (Stp.val ok hf hd) (by simp) (fun j hj => ?_) (fun j hj => ?_) (fun j s hj hs => ?_)
    · rw [get_set hi2, if_neg (fun z => hj (by simp [z]))]
    · rw [get_set hi, if_neg (fun z => hj (by simp [z]))]
    · have : j = i := by simpa using hj
      subst this
      unfold fit; rw [get_set hi, if_pos rfl]
  · cases e
@[simp] def nilG : List D → Ev → Option Ev := fun ds ρ => match ds with
  | [] => some ρ
  | _ => none
@[simp] def consG (A : MG) (B : List D → Ev → Option Ev) : List D → Ev → Option Ev := fun ds ρ => match ds with
  | d :: ds => match A d ρ with
    | some ρ1 => B ds ρ1
    | none => none
  | [] => none
theorem simGs_nil : SimGs K gNil nilG [] := by
  intro N H σ ρ ρ' vs ds Q ok hd e q
  cases hd with
  | nil => cases e; exact ⟨rfl, q σ (Stp.refl ok) rfl (fun _ _ => rfl) (fun _ _ => rfl) (fun j s hj => by simp at hj)⟩
  | cons _ _ => cases e
theorem simGs_cons {g : TG} {u : TGs} {A : MG} {B : List D → Ev → Option Ev} {is js : List Nat} (ha : SimG K g A is) (hb : SimGs K u B js) : SimGs K (gCons g u) (consG A B) (is ++ js) := by
  intro N H σ ρ ρ' vs ds Q ok hd e q
  cases hd with
  | nil => cases e
  | cons h1 h2 =>
    rename_i v vs d ds
    unfold consG at e
    simp only at e
    split at e
    · rename_i ρ1 e1
      refine ⟨v, vs, rfl, ha N H σ ρ ρ1 v d _ ok h1 e1 fun σ1 s1 l1 k1 r1 f1 => ?_⟩
      refine hb N H σ1 ρ1 ρ' vs ds _ s1.ok h2 e fun σ2 s2 l2 k2 r2 f2 => ?_
      refine q σ2 (s1.trans s2) (l2.trans l1) (fun j hj => ?_) (fun j hj => ?_) (fun j s hj hs => ?_)
      · rw [List.mem_append, not_or] at hj; rw [k2 j hj.2, k1 j hj.1]
      · rw [List.mem_append, not_or] at hj; rw [r2 j hj.2, r1 j hj.1]
      · by_cases z : j ∈ js
        · exact f2 j s z hs
        · rcases List.mem_append.mp hj with y | y
          · have := r2 j z
            rw [this] at hs
            have := f1 j s y hs
            unfold fit at this ⊢
            rw [r2 j z]; exact this
          · exact absurd y z
    · cases e
@[simp] def tupG (n : Nat) (B : List D → Ev → Option Ev) : MG := fun d ρ => match d with
  | .tuple ds => if ds.length = n then B ds ρ else none
  | _ => none
theorem simG_tup {n : Nat} {u : TGs} {B : List D → Ev → Option Ev} {is : List Nat} (hb : SimGs K u B is) : SimG K (gTup K n u) (tupG n B) is := by
  intro N H σ ρ ρ' v d Q ok hd e q
  cases hd with
  | tup h1 h2 =>
    unfold tupG at e
    simp only at e
    split at e
    · rename_i hl
      exact ⟨_, _, rfl, h1, by rw [h2.len]; exact hl, hb N H σ ρ ρ' _ _ Q ok h2 e q⟩
    · cases e
  | non => cases e
  | bl _ => cases e
  | int _ => cases e
  | str _ => cases e
  | dct _ => cases e
  | lst _ _ _ => cases e
@[simp] def asgS (A : ME) (G : MG) : MS := fun ρ => match A ρ with
  | some (d, ρ1) => match G d ρ1 with
    | some ρ2 => some (.nx, ρ2)
    | none => none
  | none => none
theorem simS_asg {t : TE} {g : TG} {A : ME} {G : MG} {is : List Nat} (ha : SimE K t A) (hg : SimG K g G is) : SimS K (tAsg t g) (asgS A G) := by
  intro N H σ ρ ρ' f T ok e q
  unfold asgS at e
  split at e
  · rename_i d ρ1 h1
    split at e
    · rename_i ρ2 h2
      cases e
      exact ha N H σ ρ _ d _ ok h1 fun v N1 H1 x1 d1 => hg N1 H1 σ ρ1 _ v d _ x1.ok d1 h2 fun σ' s' _ _ _ _ => q N1 H1 σ' (x1.stp.trans s')
    · cases e
  · cases e
/-- x = a new list, one's own -/
@[simp] def setOS (i : Nat) (A : MA) : MS := fun ρ => match A ρ with
  | some (ds, ρ1) => if fit ρ1 i then some (.nx, ρ1.set i (.own ds)) else none
  | none => none
theorem simS_setO {t : TE} {i : Nat} {A : MA} (ha : SimO K t A) : SimS K (tAsg t (gName i)) (setOS i A) := by
  intro N H σ ρ ρ' f T ok e q
  unfold setOS at e
  split at e
  · rename_i ds ρ1 h1
    split at e
    · rename_i hf
      cases e
      refine ha N H σ ρ _ ds _ ok h1 fun a vs N1 H1 x1 hn nn hl hd => ?_
      have no : ¬ Own σ ρ1 a := fun z => by
        obtain ⟨ys, y⟩ := ok.hO a ((x1.own a).mp z)
        rw [hn] at y; cases y
      exact q N1 H1 _ (Stp.lst x1.ok hf hl hd nn no x1 hn)
    · cases e
  · cases e
/-- x[k] = e, x a list of one's own -/
@[simp] def setIxS (i : Nat) (C A : ME) : MS := fun ρ => match A ρ with
  | some (d, ρ1) => match getO ρ1 i with
    | some _ => match C ρ1 with
      | some (.int k, ρ2) => match getO ρ2 i with
        | some cs => match ixN cs.length k with
          | some j => some (.nx, putO ρ2 i (cs.set j d))
          | none => none
        | none => none
      | _ => none
    | none => none
  | none => none
theorem simS_setIx {t u : TE} {i : Nat} {C A : ME} (hc : SimE K u C) (ha : SimE K t A) : SimS K (tAsg t (gSub (tVar i) u rSetL)) (setIxS i C A) := by
  intro N H σ ρ ρ' f T ok e q
  unfold setIxS at e
  split at e
  · rename_i d ρ1 h1
    split at e
    · rename_i cs0 hg0
      split at e
      · rename_i k ρ2 h2
        split at e
        · rename_i cs hg
          split at e
          · rename_i j hj
            cases e
            refine ha N H σ ρ _ d _ ok h1 fun v N1 H1 x1 d1 => ?_
            obtain ⟨a, us0, sa, hl0, _⟩ := x1.ok.owns i cs0 (getO_is hg0)
            refine ⟨_, sa, hc N1 H1 σ _ _ _ _ x1.ok h2 fun w N2 H2 x2 d2 => ?_⟩
            cases d2
            obtain ⟨b, us, sb, hl, hd, nn⟩ := x2.ok.owns i cs (getO_is hg)
            rw [sa] at sb; cases sb
            refine ⟨a, us, k, j, rfl, rfl, hl, by rw [hd.len]; exact hj, ?_⟩
            have x3 := Ex.upd x2.ok hg sa hl (hd.set j (x2.dn x1.ok d1))
            exact q N2 _ σ ((x1.trans x2).trans x3).stp
          · cases e
        · cases e
      · cases e
    · cases e
  · cases e
/-- what is one's own is told as data from here on -/
@[simp] def frz (i : Nat) (ρ : Ev) : Ev := match ρ[i]? with
  | some (.own ds) => ρ.set i (.val (.list ds))
  | _ => ρ
theorem Stp.frz (ok : SlotsOk K N H σ ρ) (i : Nat) : ∃ N', Stp K N H σ ρ N' H σ (DL.frz i ρ) := by
  unfold DL.frz
  split
  · rename_i ds h
    obtain ⟨a, vs, s, hl, hd, nn⟩ := ok.owns i ds (.inl h)
    have hi := lt_of_get h
    have io : isO ρ i := ⟨ds, .inl h⟩
    refine ⟨fun b => N b ∨ b = a, fun _ z => .inl z, fun b z => ?_, fun _ _ z _ => z, fun _ z => z, ⟨by rw [List.length_set]; exact ok.len, fun b z => ?_, fun j d e => ?_, fun j es e => ?_, fun j k b hj hk sj sk => ?_, fun j ns e => ?_⟩, fun b ⟨j, es, e, sj⟩ => ?_, fun j es e => ?_, fun j es e => ?_⟩
    · rcases z with z | z
      · exact .inl z
      · exact .inr (.inr ⟨i, ds, h, z ▸ s⟩)
    · rcases z with z | rfl
      · exact ok.inn b z
      · rw [hl]; intro y; cases y
    · rw [get_set hi] at e
      by_cases z : i = j
      · rw [if_pos z] at e; cases e; subst z
        exact ⟨_, s, .lst hl (.inr rfl) (hd.mono fun _ y => .inl y)⟩
      · rw [if_neg z] at e
        obtain ⟨v, s, y⟩ := ok.vals j d e
        exact ⟨v, s, y.mono fun _ w => .inl w⟩
    · rw [get_set hi] at e
      by_cases z : i = j
      · rw [if_pos z] at e; rcases e with e | e <;> cases e
      · rw [if_neg z] at e
        obtain ⟨b, us, sb, y1, y2, y3⟩ := ok.owns j es e
        refine ⟨b, us, sb, y1, y2.mono fun _ w => .inl w, fun w => ?_⟩
        rcases w with w | w
        · exact y3 w
        · exact z (ok.one i j a io ⟨es, e⟩ s (w ▸ sb))
    · have f : ∀ j, isO (ρ.set i (.val (.list ds))) j → isO ρ j := fun j ⟨es, e⟩ => by
        rw [get_set hi] at e
        by_cases z : i = j
        · exact z ▸ io
        · rw [if_neg z] at e; exact ⟨es, e⟩
      exact ok.one j k b (f j hj) (f k hk) sj sk
    · rw [get_set hi] at e
      by_cases z : i = j
      · rw [if_pos z] at e; cases e
      · rw [if_neg z] at e; exact ok.scrs j ns e
    · rw [get_set hi] at e
      by_cases z : i = j
      · rw [if_pos z] at e; cases e
      · rw [if_neg z] at e; exact .inl ⟨j, es, e, sj⟩
    · rw [get_set hi] at e
      by_cases z : i = j
      · rw [if_pos z] at e; cases e
      · rw [if_neg z] at e; exact ⟨rfl, es, e⟩
    · rw [get_set hi]
      by_cases z : i = j
      · subst z; rw [h] at e; cases e
      · rw [if_neg z]; exact ⟨es, e⟩
  · exact ⟨N, Stp.refl ok⟩
@[simp] def frzS (i : Nat) (A : MS) : MS := fun ρ => A (frz i ρ)
theorem simS_frz {t : TS} {A : MS} (i : Nat) (h : SimS K t A) : SimS K t (frzS i A) := by
  intro N H σ ρ ρ' f T ok e q
  obtain ⟨N', s⟩ := Stp.frz ok i
  exact h N' H σ _ ρ' f T s.ok e (q.from s)
end
end DL

set_option Elab.async false
set_option linter.all false
set_option maxRecDepth 100000
set_option maxHeartbeats 1000000
namespace DL
open PySem L2
section
variable {K : PySem.W.Frag} {N N1 N2 : Addr → Prop} {H H1 H2 : Hp} {σ σ1 σ2 : St} {ρ ρ1 ρ2 : Ev}
/-! slots forgotten -/
@[simp] def wip (ρ : Ev) (i : Nat) : Ev := if fit ρ i then ρ.set i .non else ρ
@[simp] def wipL (ρ : Ev) (is : List Nat) : Ev := is.foldl wip ρ
theorem Stp.wip (ok : SlotsOk K N H σ ρ) (i : Nat) : Stp K N H σ ρ N H σ (DL.wip ρ i) := by
  unfold DL.wip
  split
  · rename_i hf
    have hi := fit_lt hf
    have f : ∀ j, isO (ρ.set i .non) j → isO ρ j := fun j ⟨es, e⟩ => by
      rw [get_set hi] at e
      by_cases z : i = j
      · rw [if_pos z] at e; rcases e with e | e <;> cases e
      · rw [if_neg z] at e; exact ⟨es, e⟩
    refine ⟨fun _ z => z, fun b z => .inl z, fun _ _ z _ => z, fun _ z => z, ⟨by rw [List.length_set]; exact ok.len, ok.inn, fun j d e => ?_, fun j es e => ?_, fun j k b hj hk => ok.one j k b (f j hj) (f k hk), fun j ns e => ?_⟩, fun b ⟨j, es, e, sj⟩ => ?_, fun j es e => ?_, fun j es e => ?_⟩
    · rw [get_set hi] at e
      by_cases z : i = j
      · rw [if_pos z] at e; cases e
      · rw [if_neg z] at e; exact ok.vals j d e
    · rw [get_set hi] at e
      by_cases z : i = j
      · rw [if_pos z] at e; rcases e with e | e <;> cases e
      · rw [if_neg z] at e; exact ok.owns j es e
    · rw [get_set hi] at e
      by_cases z : i = j
      · rw [if_pos z] at e; cases e
      · rw [if_neg z] at e; exact ok.scrs j ns e
    · rw [get_set hi] at e
      by_cases z : i = j
      · rw [if_pos z] at e; cases e
      · rw [if_neg z] at e; exact .inl ⟨j, es, e, sj⟩
    · rw [get_set hi] at e
      by_cases z : i = j
      · rw [if_pos z] at e; cases e
      · rw [if_neg z] at e; exact ⟨rfl, es, e⟩
    · rw [get_set hi]
      by_cases z : i = j
      · subst z; exact absurd e (fit_bor hf)
      · rw [if_neg z]; exact ⟨es, e⟩
  · exact Stp.refl ok
theorem Stp.wipL : ∀ (is : List Nat) {ρ : Ev}, SlotsOk K N H σ ρ → Stp K N H σ ρ N H σ (DL.wipL ρ is)
  | [], ρ, ok => Stp.refl ok
  | i :: is, ρ, ok => (Stp.wip ok i).trans (Stp.wipL is (Stp.wip ok i).ok)
/-! a, b = e, f -/
@[simp] def parS (i j : Nat) (A B : ME) : MS := fun ρ => match A ρ with
  | some (a, ρ1) => match B ρ1 with
    | some (b, ρ2) => if fit ρ2 i && fit (ρ2.set i (.val a)) j then some (.nx, (ρ2.set i (.val a)).set j (.val b)) else none
    | none => none
  | none => none
theorem simS_par {i j : Nat} {t u : TE} {A B : ME} (ha : SimE K t A) (hb : SimE K u B) : SimS K (tPar i j (tCons t (tCons u tNil))) (parS i j A B) := by
  intro N H σ ρ ρ' f T ok e q
  unfold parS at e
  split at e
  · rename_i a ρ1 h1
    split at e
    · rename_i b ρ2 h2
      split at e
      · rename_i hf
        rw [Bool.and_eq_true] at hf
        cases e
        refine ha N H σ ρ _ _ _ ok h1 fun v N1 H1 x1 d1 => ?_
        refine hb N1 H1 σ _ _ _ _ x1.ok h2 fun w N2 H2 x2 d2 => ?_
        have s1 := Stp.val x2.ok hf.1 (x2.dn x1.ok d1)
        have s2 := Stp.val s1.ok hf.2 d2
        exact ⟨v, w, rfl, q N2 H2 _ ((x1.trans x2).stp.trans (s1.trans s2))⟩
      · cases e
    · cases e
  · cases e
@[simp] def parOS (i j : Nat) (A : MA) (B : ME) : MS := fun ρ => match A ρ with
  | some (a, ρ1) => match B ρ1 with
    | some (b, ρ2) => if fit ρ2 i && fit (ρ2.set i (.own a)) j && (i != j) then some (.nx, (ρ2.set i (.own a)).set j (.val b)) else none
    | none => none
  | none => none
@[simp] def parVS (i j : Nat) (A : ME) (B : MA) : MS := fun ρ => match A ρ with
  | some (a, ρ1) => match B ρ1 with
    | some (b, ρ2) => if fit ρ2 j && fit (ρ2.set j (.own b)) i && (i != j) then some (.nx, (ρ2.set j (.own b)).set i (.val a)) else none
    | none => none
  | none => none
theorem set_comm {α : Type} {l : List α} {i j : Nat} {x y : α} (h : i ≠ j) : (l.set i x).set j y = (l.set j y).set i x := List.set_comm _ _ h
/-! walks -/
def Walk (K : PySem.W.Frag) (J : It) (N : Addr → Prop) (H : Hp) (O : Addr → Prop) (ds : List D) : Prop := ∀ (i : Nat) (H1 : Hp), Kp O H H1 →
  (∀ d, ds[i]? = some d → J.go i H1 ∧ ∀ x H2, J.yld i H1 x H2 → Same H1 H2 ∧ Dn K H2 N x d) ∧ (ds.length ≤ i → J.stop i H1)
def SimI (K : PySem.W.Frag) (wi : TI) (I : MA) : Prop := ∀ (N : Addr → Prop) (H : Hp) (σ : St) (ρ ρ' : Ev) (ds : List D) (R : It → Hp → Prop), SlotsOk K N H σ ρ → I ρ = some (ds, ρ') →
  (∀ J N' H', Ex K σ N H ρ N' H' ρ' → Walk K J N' H' (Own σ ρ) ds → R J H') → wi σ H R
theorem New.ofSame (s : Same H H1) : New N H N H1 := ⟨s, fun _ z => z, fun _ z => .inl z, fun h a n => by
  cases e : H a with
  | none => exact absurd e (h a n)
  | some o => rw [s a o e]; intro z; cases z⟩
/-- a list or a tuple -/
def itemsD : D → Option (List D)
  | .list ds => some ds
  | .tuple ds => some ds
  | _ => none
@[simp] theorem itemsD_e1 : itemsD (.list ds) = some ds := rfl
@[simp] theorem itemsD_e2 : itemsD (.tuple ds) = some ds := rfl
@[simp] def itA (A : ME) : MA := fun ρ => match A ρ with
  | some (d, ρ1) => match itemsD d with
    | some ds => some (ds, ρ1)
    | none => none
  | none => none
def iSeq (K : PySem.W.Frag) (tl : TE) : TI := fun σ H R => tl σ H fun x H1 => ∃ a, x = .ref a ∧ (((∃ xs, SqL K H1 a xs) ∧ R (Itl K a) H1) ∨ ((∃ xs, SqT K H1 a xs) ∧ R (Itt K a) H1))
theorem pi_seq {X : Cx} {tg l : Expr} {tl : TE} (hl : PE X l tl) : PI X tg l (iSeq X.K tl) := by
  intro pins s σ H R I h
  refine thn (hl pins s σ H _ I h) fun v s1 ⟨x, H1, I1, r1, q1⟩ => ?_
  obtain ⟨a, e, q1⟩ := q1
  subst e
  cases r1
  rcases q1 with ⟨⟨xs, hq⟩, q⟩ | ⟨⟨xs, hq⟩, q⟩
  · obtain ⟨its, rv, p, hz⟩ := I1.list hq
    refine wpAny_pyIter_list p.isList ?_
    refine ⟨s1.heap.objs.size, [s1.heap.objs.size], _, _, H1, rfl, I1.kept (t' := s1.toks) fun b o e => Heap.get?_push_of_some _ e, turn_list a _, ⟨_, Heap.get?_push_size _ rfl, rfl, rfl⟩, fun b hb => ?_, q⟩
    have e : b = s1.heap.objs.size := by simpa using hb
    subst e
    exact I1.fpOk (Nat.le_refl _) (I1.hok.fresh (Nat.le_refl _))
  · obtain ⟨its, rv, p, hz⟩ := I1.tuple hq
    refine wpAny_pyIter_tuple (show s1.heap.IsTuple a its.toArray from p) ?_
    refine ⟨s1.heap.objs.size, [s1.heap.objs.size], _, _, H1, rfl, I1.kept (t' := s1.toks) fun b o e => Heap.get?_push_of_some _ e, turn_tuple a _, ⟨_, Heap.get?_push_size _ rfl, rfl, rfl⟩, fun b hb => ?_, q⟩
    have e : b = s1.heap.objs.size := by simpa using hb
    subst e
    exact I1.fpOk (Nat.le_refl _) (I1.hok.fresh (Nat.le_refl _))
theorem pi_seqK {X : Cx} {K : PySem.W.Frag} (hK : X.K = K) {tg l : Expr} {tl : TE} (hl : PE X l tl) : PI X tg l (iSeq K tl) := hK ▸ pi_seq hl
theorem simI_seq {tl : TE} {A : ME} (ha : SimE K tl A) : SimI K (iSeq K tl) (itA A) := by
  intro N H σ ρ ρ' ds R ok e q
  unfold itA at e
  split at e
  · rename_i d ρ1 h1
    split at e
    · rename_i es h2
      cases e
      refine ha N H σ ρ _ d _ ok h1 fun v N1 H1 x1 d1 => ?_
      have hO : ∀ a, Own σ ρ a → ∃ ys, H1 a = some (.lst ys) := fun a z => x1.ok.hO a ((x1.own a).mpr z)
      have hN : ∀ a, N1 a → ¬ Own σ ρ a := fun a n z => x1.ok.hN a n ((x1.own a).mpr z)
      cases d1 with
      | lst hl nn hd =>
        rename_i a xs es
        cases h2
        refine ⟨a, rfl, .inl ⟨⟨xs, SqL.of hl⟩, q _ N1 H1 x1 fun i H2 k => ?_⟩⟩
        have hl2 : H2 a = some (.lst xs) := k a _ hl (hN a nn)
        refine ⟨fun d hd1 => ?_, fun hi => ⟨xs, SqL.of hl2, by rw [hd.len]; exact hi⟩⟩
        obtain ⟨v, hv, dv⟩ := hd.at hd1
        refine ⟨⟨xs, v, SqL.of hl2, hv⟩, fun x H3 ⟨e3, y⟩ => ?_⟩
        subst e3
        have := y xs (SqL.of hl2)
        rw [hv] at this; cases this
        exact ⟨Same.refl _, dv.kp hO hN (fun _ z => z) k⟩
      | tup hl hd =>
        rename_i a xs es
        cases h2
        refine ⟨a, rfl, .inr ⟨⟨xs, hl⟩, q _ N1 H1 x1 fun i H2 k => ?_⟩⟩
        have hl2 : SqT K H2 a xs := SqT.kp hO k hl
        refine ⟨fun d hd1 => ?_, fun hi => ⟨xs, hl2, by rw [hd.len]; exact hi⟩⟩
        obtain ⟨v, hv, dv⟩ := hd.at hd1
        refine ⟨⟨xs, v, hl2, hv⟩, fun x H3 ⟨e3, y⟩ => ?_⟩
        subst e3
        have := y xs hl2
        rw [hv] at this; cases this
        exact ⟨Same.refl _, dv.kp hO hN (fun _ z => z) k⟩
      | non => cases h2
      | bl _ => cases h2
      | int _ => cases h2
      | str _ => cases h2
      | dct _ => cases h2
    · cases e
  · cases e
def rangeD (lo : Int) (n : Nat) : List D := (List.range n).map fun (i : Nat) => .int (lo + i)
theorem walk_range {lo : Int} {n : Nat} {O : Addr → Prop} : Walk K (Itr lo n) N H O (rangeD lo n) := by
  intro i H1 k
  refine ⟨fun d hd => ?_, fun hi => (show n ≤ i by simpa [rangeD] using hi)⟩
  have hi : i < n := by simpa [rangeD] using lt_of_get hd
  have : d = .int (lo + i) := by
    have h : (rangeD lo n)[i]? = some (.int (lo + i)) := by simp [rangeD, hi]
    rw [h] at hd; exact (Option.some.inj hd).symm
  subst this
  refine ⟨hi, fun x H2 ⟨e, y⟩ => ?_⟩
  subst e y
  exact ⟨Same.refl _, .int _⟩
structure RngOk (j : Int) : Prop where
  lo : -(2 ^ 62) ≤ j
  hi : j < 2 ^ 62
@[simp low] theorem rngOk_iff {j : Int} : RngOk j ↔ (-4611686018427387904 ≤ j ∧ j < 4611686018427387904) := ⟨fun h => ⟨h.lo, h.hi⟩, fun h => ⟨h.1, h.2⟩⟩
theorem rngOk {j : Int} (h1 : -1000000000 ≤ j) (h2 : j < 1000000000) : RngOk j := ⟨by omega, by omega⟩
open Classical in
@[simp] noncomputable def rng1A (A : MA) : MA := fun ρ => match A ρ with
  | some ([.int j], ρ1) => if RngOk j then some (rangeD 0 j.toNat, ρ1) else none
  | _ => none
theorem simI_rng1 {ta : TA} {A : MA} (ha : SimA K ta A) : SimI K (iRng1 ta) (rng1A A) := by
  intro N H σ ρ ρ' ds R ok e q
  unfold rng1A at e
  split at e
  · rename_i j ρ1 h1
    split at e
    · rename_i hj
      cases e
      refine ha N H σ ρ _ _ _ ok h1 fun vs N1 H1 x1 d1 => ?_
      have : vs = [.int j] := DnAll.ints (ns := [j]) d1
      subst this
      exact ⟨j, rfl, hj.lo, hj.hi, q _ N1 H1 x1 walk_range⟩
    · cases e
  · cases e
open Classical in
@[simp] noncomputable def rng2A (A : MA) : MA := fun ρ => match A ρ with
  | some ([.int i, .int j], ρ1) => if RngOk i ∧ RngOk j then some (rangeD i (j - i).toNat, ρ1) else none
  | _ => none
/-! for -/
def forL (G : MG) (S : MS) (vs : List Nat) : List D → Ev → Option (Fl × Ev)
  | [], ρ => some (.nx, wipL ρ vs)
  | d :: ds, ρ => match G d (wipL ρ vs) with
    | some ρ1 => match S ρ1 with
      | some (.nx, ρ2) => forL G S vs ds ρ2
      | some (.ct, ρ2) => forL G S vs ds ρ2
      | some (.bk, ρ2) => some (.nx, wipL ρ2 vs)
      | some (.rt d, ρ2) => some (.rt d, ρ2)
      | some (.ro d, ρ2) => some (.ro d, ρ2)
      | none => none
    | none => none
@[simp] def forS (I : MA) (G : MG) (S : MS) (vs : List Nat) : MS := fun ρ => match I ρ with
  | some (ds, ρ1) => forL G S vs ds ρ1
  | none => none
theorem simS_for {wi : TI} {g : TG} {tb : TS} {I : MA} {G : MG} {S : MS} {is : List Nat} (vs : List Nat) (hi : SimI K wi I) (hg : SimG K g G is) (hb : SimS K tb S) : SimS K (tFor wi g tb) (forS I G S vs) := by
  intro N H σ ρ ρ' f T ok e q
  unfold forS at e
  split at e
  · rename_i ds ρ1 h1
    refine hi N H σ ρ ρ1 ds _ ok h1 fun J N1 H1 x1 wk => ?_
    have e1 := q.from x1.stp
    have wk : Walk K J N1 H1 (Own σ ρ1) ds := fun i H2 k => wk i H2 fun a o h n => k a o h fun z => n ((x1.own a).mp z)
    refine ⟨fun i m σ' H' => m = ds.length - i ∧ i ≤ ds.length ∧ ∃ N' ρ2, Stp K N1 H1 σ ρ1 N' H' σ' ρ2 ∧ forL G S vs (ds.drop i) ρ2 = some (f, ρ'), ⟨_, rfl, Nat.zero_le _, N1, ρ1, Stp.refl x1.ok, e⟩, ?_⟩
    rintro i m σ2 H2 ⟨rfl, hi, N2, ρ2, s2, e2⟩
    obtain ⟨wg, ws⟩ := wk i H2 s2.kp
    by_cases hlt : i < ds.length
    · obtain ⟨d, hd⟩ : ∃ d, ds[i]? = some d := ⟨_, List.getElem?_eq_getElem hlt⟩
      obtain ⟨go, yl⟩ := wg d hd
      have hdr : ds.drop i = d :: ds.drop (i + 1) := by
        rw [List.drop_eq_getElem_cons hlt]
        congr 1
        rw [List.getElem?_eq_getElem hlt] at hd; exact Option.some.inj hd
      rw [hdr] at e2
      unfold forL at e2
      refine .inr ⟨go, fun σ' H' => ∃ N' ρ3, Stp K N1 H1 σ ρ1 N' H' σ' ρ3 ∧ forL G S vs (ds.drop (i + 1)) ρ3 = some (f, ρ'), fun σ' H' ⟨N', ρ3, s3, e3⟩ => ⟨_, (show ds.length - (i + 1) < ds.length - i by omega), rfl, hlt, N', ρ3, s3, e3⟩, fun x H3 y => ?_⟩
      obtain ⟨sm, dx⟩ := yl x H3 y
      have xg : Ex K σ2 N2 H2 ρ2 N2 H3 ρ2 := Ex.grow s2.ok (New.ofSame sm)
      have sw := Stp.wipL vs xg.ok
      have s3 := s2.trans (xg.stp.trans sw)
      split at e2
      · rename_i ρ3 h3
        refine hg N2 H3 σ2 _ ρ3 x d _ s3.ok (dx.mono s2.up) h3 fun σ4 s4 _ _ _ _ => ?_
        have s5 := s3.trans s4
        split at e2
        · rename_i ρ4 h4
          exact hb N2 H3 σ4 ρ3 ρ4 .nx _ s4.ok h4 fun N6 H6 σ6 s6 => ⟨N6, ρ4, s5.trans s6, e2⟩
        · rename_i ρ4 h4
          exact hb N2 H3 σ4 ρ3 ρ4 .ct _ s4.ok h4 fun N6 H6 σ6 s6 => ⟨N6, ρ4, s5.trans s6, e2⟩
        · rename_i ρ4 h4
          cases e2
          exact hb N2 H3 σ4 ρ3 ρ4 .bk _ s4.ok h4 fun N6 H6 σ6 s6 => e1 N6 H6 σ6 (s5.trans (s6.trans (Stp.wipL vs s6.ok)))
        · rename_i d4 ρ4 h4
          cases e2
          exact hb N2 H3 σ4 ρ3 _ (.rt d4) _ s4.ok h4 (e1.from s5)
        · rename_i d4 ρ4 h4
          cases e2
          exact hb N2 H3 σ4 ρ3 _ (.ro d4) _ s4.ok h4 (e1.from s5)
        · cases e2
      · cases e2
    · have : ds.drop i = [] := List.drop_eq_nil_of_le (by omega)
      rw [this] at e2
      unfold forL at e2
      cases e2
      exact .inl ⟨ws (by omega), e1 N2 H2 σ2 (s2.trans (Stp.wipL vs s2.ok))⟩
  · cases e
/-! while -/
def slotN : Slot → Nat
  | .val (.int i) => i.natAbs
  | _ => 0
def fuelN (ρ : Ev) : Nat := (ρ.map slotN).sum + 2
def whL (C : MT) (S : MS) : Nat → Ev → Option (Fl × Ev)
  | 0, _ => none
  | n + 1, ρ => match C ρ with
    | some (true, ρ1) => match S ρ1 with
      | some (.nx, ρ2) => whL C S n ρ2
      | some (.ct, ρ2) => whL C S n ρ2
      | some (.bk, ρ2) => some (.nx, ρ2)
      | some (.rt d, ρ2) => some (.rt d, ρ2)
      | some (.ro d, ρ2) => some (.ro d, ρ2)
      | none => none
    | some (false, ρ1) => some (.nx, ρ1)
    | none => none
@[simp] def whS (C : MT) (S : MS) : MS := fun ρ => whL C S (fuelN ρ) ρ
theorem simS_while {tc : TT} {tb : TS} {C : MT} {S : MS} (hc : SimT K tc C) (hb : SimS K tb S) : SimS K (tWhile tc tb) (whS C S) := by
  intro N H σ ρ ρ' f T ok e q
  unfold whS at e
  refine ⟨fun m σ' H' => ∃ N' ρ2, Stp K N H σ ρ N' H' σ' ρ2 ∧ whL C S m ρ2 = some (f, ρ'), ⟨_, N, ρ, Stp.refl ok, e⟩, ?_⟩
  rintro m σ2 H2 ⟨N2, ρ2, s2, e2⟩
  cases m with
  | zero => unfold whL at e2; cases e2
  | succ n =>
    unfold whL at e2
    split at e2
    · rename_i ρ3 h3
      refine hc N2 H2 σ2 _ _ _ _ s2.ok h3 fun N3 H3 x3 => iteT ?_
      have s3 := s2.trans x3.stp
      refine ⟨fun σ' H' => ∃ N' ρ4, Stp K N H σ ρ N' H' σ' ρ4 ∧ whL C S n ρ4 = some (f, ρ'), fun σ' H' h => ⟨n, Nat.lt_succ_self n, h⟩, ?_⟩
      split at e2
      · rename_i ρ4 h4
        exact hb N3 H3 σ2 ρ3 ρ4 .nx _ x3.ok h4 fun N6 H6 σ6 s6 => ⟨N6, ρ4, s3.trans s6, e2⟩
      · rename_i ρ4 h4
        exact hb N3 H3 σ2 ρ3 ρ4 .ct _ x3.ok h4 fun N6 H6 σ6 s6 => ⟨N6, ρ4, s3.trans s6, e2⟩
      · rename_i ρ4 h4
        cases e2
        exact hb N3 H3 σ2 ρ3 _ .bk _ x3.ok h4 fun N6 H6 σ6 s6 => q N6 H6 σ6 (s3.trans s6)
      · rename_i d4 ρ4 h4
        cases e2
        exact hb N3 H3 σ2 ρ3 _ (.rt d4) _ x3.ok h4 (q.from s3)
      · rename_i d4 ρ4 h4
        cases e2
        exact hb N3 H3 σ2 ρ3 _ (.ro d4) _ x3.ok h4 (q.from s3)
      · cases e2
    · rename_i ρ3 h3
      cases e2
      exact hc N2 H2 σ2 _ _ _ _ s2.ok h3 fun N3 H3 x3 => iteF (q N3 H3 σ2 (s2.trans x3.stp))
    · cases e2
/-! comprehensions -/
@[simp] def setL (ρ : Ev) (vs : List Nat) (f : Nat → Slot) : Ev := vs.foldl (fun ρ j => ρ.set j (f j)) ρ
theorem setL_len (vs : List Nat) (f : Nat → Slot) : ∀ ρ : Ev, (setL ρ vs f).length = ρ.length := by
  induction vs with
  | nil => intro ρ; rfl
  | cons v vs ih => intro ρ; show (setL (ρ.set v (f v)) vs f).length = _; rw [ih]; simp
theorem setL_get (vs : List Nat) (f : Nat → Slot) : ∀ (ρ : Ev) (j : Nat), (setL ρ vs f)[j]? = if j ∈ vs ∧ j < ρ.length then some (f j) else ρ[j]? := by
  induction vs with
  | nil => intro ρ j; simp [setL]
  | cons v vs ih =>
    intro ρ j
    show (setL (ρ.set v (f v)) vs f)[j]? = _
    rw [ih, List.length_set]
    by_cases h : j ∈ vs ∧ j < ρ.length
    · rw [if_pos h, if_pos ⟨List.mem_cons_of_mem _ h.1, h.2⟩]
    · rw [if_neg h, List.getElem?_set]
      by_cases e : v = j
      · subst e
        rw [if_pos rfl]
        by_cases hl : v < ρ.length
        · rw [if_pos hl, if_pos ⟨List.mem_cons_self .., hl⟩]
        · rw [if_neg hl, if_neg (fun z => hl z.2)]
          exact (List.getElem?_eq_none (by omega)).symm
      · rw [if_neg e]
        by_cases hm : j ∈ v :: vs ∧ j < ρ.length
        · exfalso
          rcases List.mem_cons.mp hm.1 with z | z
          · exact e z.symm
          · exact h ⟨z, hm.2⟩
        · rw [if_neg hm]
theorem wipe_get : ∀ (vs : List Nat) (σ : St) (j : Nat), (wipe σ vs)[j]? = if j ∈ vs ∧ j < σ.length then some none else σ[j]?
  | [], σ, j => by simp [wipe]
  | v :: vs, σ, j => by
    unfold wipe
    rw [List.getElem?_set, wipe_get vs, wipe_length]
    by_cases e : v = j
    · subst e
      rw [if_pos rfl]
      by_cases hl : v < σ.length
      · rw [if_pos hl, if_pos ⟨List.mem_cons_self .., hl⟩]
      · rw [if_neg hl, if_neg (fun z => hl z.2)]
        exact (List.getElem?_eq_none (by omega)).symm
    · rw [if_neg e]
      by_cases h : j ∈ vs ∧ j < σ.length
      · rw [if_pos h, if_pos ⟨List.mem_cons_of_mem _ h.1, h.2⟩]
      · rw [if_neg h, if_neg]
        rintro ⟨z, zl⟩
        rcases List.mem_cons.mp z with z | z
        · exact e z.symm
        · exact h ⟨z, zl⟩
theorem wipe_eq {vs : List Nat} {σ σ' : St} (hl : σ'.length = σ.length) (h : ∀ j, j ∉ vs → σ'[j]? = σ[j]?) : wipe σ' vs = wipe σ vs := by
  apply List.ext_getElem?
  intro j
  rw [wipe_get, wipe_get, hl]
  by_cases z : j ∈ vs
  · by_cases y : j < σ.length
    · rw [if_pos ⟨z, y⟩, if_pos ⟨z, y⟩]
    · rw [if_neg (fun w => y w.2), if_neg (fun w => y w.2), List.getElem?_eq_none (by omega), List.getElem?_eq_none (by omega)]
  · rw [if_neg (fun w => z w.1), if_neg (fun w => z w.1)]; exact h j z
@[simp] def plainS : Slot → Bool
  | .val _ => true
  | .non => true
  | _ => false
@[simp] def okW (ρ : Ev) (vs : List Nat) : Bool := vs.all fun i => match ρ[i]? with
  | some s => plainS s
  | none => true
def lcL (G : MG) (C : MT) (E : ME) (vs : List Nat) : List D → Ev → List D → Option (List D × Ev)
  | [], ρ, acc => some (acc, ρ)
  | d :: ds, ρ, acc => match G d ρ with
    | some ρ1 => match C ρ1 with
      | some (true, ρ2) => match E ρ2 with
        | some (x, ρ3) => lcL G C E vs ds (setL ρ3 vs fun _ => .non) (acc ++ [x])
        | none => none
      | some (false, ρ2) => lcL G C E vs ds (setL ρ2 vs fun _ => .non) acc
      | none => none
    | none => none
@[simp] def lcA (I : MA) (G : MG) (C : MT) (E : ME) (vs : List Nat) : MA := fun ρ => match I ρ with
  | some (ds, ρ1) => if okW ρ1 vs = true ∧ ds.length ≤ sizeLine then match lcL G C E vs ds (setL ρ1 vs fun _ => .non) [] with
      | some (acc, ρ2) => some (acc, setL ρ2 vs fun j => ρ1.getD j .non)
      | none => none
    else none
  | none => none
end
end DL

set_option Elab.async false
set_option linter.all false
set_option maxRecDepth 100000
set_option maxHeartbeats 1000000
namespace DL
open PySem L2
section
variable {K : PySem.W.Frag} {N N1 N2 : Addr → Prop} {H H1 H2 : Hp} {σ σ1 σ2 : St} {ρ ρ1 ρ2 : Ev}
/-- within a comprehension's block, its own slots being forgotten -/
structure Blk (K : PySem.W.Frag) (vs : List Nat) (σ : St) (N1 : Addr → Prop) (H1 : Hp) (ρ1 : Ev) (N' : Addr → Prop) (H' : Hp) (ρ' : Ev) : Prop where
  up : ∀ a, N1 a → N' a
  new : ∀ a, N' a → N1 a ∨ H1 a = none
  kp : Kp (Own σ ρ1) H1 H'
  dom : ∀ a, H' a = none → H1 a = none
  ok : SlotsOk K N' H' (wipe σ vs) ρ'
  len : ρ'.length = ρ1.length
  valE : ∀ (j : Nat) (d : D), j ∉ vs → (ρ'[j]? = some (.val d) ↔ ρ1[j]? = some (.val d))
  ownE : ∀ (j : Nat), j ∉ vs → ((∃ ds : List D, ρ'[j]? = some (.own ds)) ↔ ∃ ds : List D, ρ1[j]? = some (.own ds))
  borE : ∀ (j : Nat), j ∉ vs → ((∃ ds : List D, ρ'[j]? = some (.bor ds)) ↔ ∃ ds : List D, ρ1[j]? = some (.bor ds))
  scrE : ∀ (j : Nat) (s : Scs), j ∉ vs → (ρ'[j]? = some (.scr s) ↔ ρ1[j]? = some (.scr s))
  inn : ∀ (j : Nat), j ∈ vs → j < ρ1.length → ρ'[j]? = some .non
theorem okW_at {vs : List Nat} (h : okW ρ vs = true) {j : Nat} (hj : j ∈ vs) {s : Slot} (e : ρ[j]? = some s) : plainS s = true := by
  have := List.all_eq_true.mp h j hj
  rw [e] at this
  exact this
theorem wipe_out (vs : List Nat) (σ : St) {j : Nat} (h : j ∉ vs) : (wipe σ vs)[j]? = σ[j]? := by rw [wipe_get, if_neg (fun z => h z.1)]
theorem Blk.own {vs : List Nat} {N' : Addr → Prop} {H' : Hp} {ρ' : Ev} (b : Blk K vs σ N1 H1 ρ1 N' H' ρ') (hw : okW ρ1 vs = true) {a : Addr} (h : Own (wipe σ vs) ρ' a) : Own σ ρ1 a := by
  obtain ⟨j, ⟨ds, e⟩, s⟩ := h
  by_cases z : j ∈ vs
  · exfalso
    have lj : j < ρ'.length := by rcases e with e | e <;> exact lt_of_get e
    have := b.inn j z (by rw [← b.len]; exact lj)
    rw [this] at e
    rcases e with e | e <;> cases e
  · rw [wipe_out vs σ z] at s
    rcases e with e | e
    · obtain ⟨es, e⟩ := (b.ownE j z).mp ⟨ds, e⟩
      exact ⟨j, ⟨es, .inl e⟩, s⟩
    · obtain ⟨es, e⟩ := (b.borE j z).mp ⟨ds, e⟩
      exact ⟨j, ⟨es, .inr e⟩, s⟩
theorem setN_get (ρ : Ev) (vs : List Nat) (j : Nat) : (setL ρ vs fun _ => .non)[j]? = if j ∈ vs ∧ j < ρ.length then some .non else ρ[j]? := setL_get vs _ ρ j
theorem setN_out {ρ : Ev} {vs : List Nat} {j : Nat} (h : j ∉ vs) : (setL ρ vs fun _ => .non)[j]? = ρ[j]? := by rw [setN_get, if_neg (fun z => h z.1)]
theorem setN_in {ρ : Ev} {vs : List Nat} {j : Nat} {s : Slot} (h : (setL ρ vs fun _ => .non)[j]? = some s) (hs : s ≠ .non) : j ∉ vs ∧ ρ[j]? = some s := by
  rw [setN_get] at h
  split at h
  · cases h; exact absurd rfl hs
  · rename_i z
    refine ⟨fun y => z ⟨y, lt_of_get h⟩, h⟩
/-- slots are forgotten, the state with them -/
theorem SlotsOk.forget {vs : List Nat} {σ' : St} (ok : SlotsOk K N H σ ρ) (hl : σ'.length = σ.length) (hs : ∀ j, j ∉ vs → σ'[j]? = σ[j]?) : SlotsOk K N H σ' (setL ρ vs fun _ => .non) := by
  have f : ∀ j, isO (setL ρ vs fun _ => .non) j → isO ρ j ∧ j ∉ vs := fun j ⟨ds, e⟩ => by
    rcases e with e | e
    · obtain ⟨n, e⟩ := setN_in e (by intro z; cases z); exact ⟨⟨ds, .inl e⟩, n⟩
    · obtain ⟨n, e⟩ := setN_in e (by intro z; cases z); exact ⟨⟨ds, .inr e⟩, n⟩
  refine ⟨by rw [setL_len, hl]; exact ok.len, ok.inn, fun j d e => ?_, fun j ds e => ?_, fun j k a hj hk sj sk => ?_, fun j ns e => ?_⟩
  · obtain ⟨n, e⟩ := setN_in e (by intro z; cases z)
    rw [hs j n]; exact ok.vals j d e
  · obtain ⟨_, n⟩ := f j ⟨ds, e⟩
    rw [hs j n]
    rw [setN_out n] at e
    exact ok.owns j ds e
  · rw [hs j (f j hj).2] at sj; rw [hs k (f k hk).2] at sk
    exact ok.one j k a (f j hj).1 (f k hk).1 sj sk
  · obtain ⟨n, e⟩ := setN_in e (by intro z; cases z)
    rw [hs j n]; exact ok.scrs j ns e
theorem Blk.start {vs : List Nat} (ok : SlotsOk K N1 H1 σ ρ1) {D : Addr} (hD : H1 D = none) : Blk K vs σ N1 H1 ρ1 N1 (upd H1 D (.lst [])) (setL ρ1 vs fun _ => .non) where
  up := fun _ h => h
  new := fun _ h => .inl h
  kp := Kp.of (Same.new hD)
  dom := fun a h => (Same.new hD).free h
  ok := (ok.grow (New.obj hD)).forget (wipe_length σ vs) (fun j h => wipe_out vs σ h)
  len := setL_len ..
  valE := fun j d h => by rw [setN_out h]
  ownE := fun j h => by rw [setN_out h]
  borE := fun j h => by rw [setN_out h]
  scrE := fun j d h => by rw [setN_out h]
  inn := fun j h hl => by rw [setN_get, if_pos ⟨h, hl⟩]
theorem simO_lc {wi : TI} {g : TG} {tt : TT} {te : TE} {I : MA} {G : MG} {C : MT} {E : ME} {is vs : List Nat} (hi : SimI K wi I) (hg : SimG K g G is) (hv : ∀ j, j ∈ is → j ∈ vs) (hc : SimT K tt C) (he : SimE K te E) : SimO K (tLc wi g tt te vs) (lcA I G C E vs) := by
  intro N H σ ρ ρ' out Q ok e q
  unfold lcA at e
  split at e
  · rename_i ds ρ1 h1
    split at e
    · rename_i hw
      obtain ⟨hw, hz⟩ := hw
      split at e
      · rename_i acc ρ2 h2
        cases e
        refine hi N H σ ρ ρ1 ds _ ok h1 fun J N1 H1 x1 wk L hL => ?_
        have wk : Walk K J N1 H1 (Own σ ρ1) ds := fun i H2 k => wk i H2 fun a o h n => k a o h fun z => n ((x1.own a).mp z)
        have noL : ¬ Own σ ρ1 L := fun z => by obtain ⟨ys, y⟩ := x1.ok.hO L z; rw [hL] at y; cases y
        have nL : ¬ N1 L := fun z => x1.ok.inn L z hL
        refine ⟨fun i m H' => m = ds.length - i ∧ i ≤ ds.length ∧ ∃ N' ρ3 as us, Blk K vs σ N1 H1 ρ1 N' H' ρ3 ∧ H' L = some (.lst us) ∧ DnAll K H' N' us as ∧ ¬ N' L ∧ as.length ≤ i ∧ lcL G C E vs (ds.drop i) ρ3 as = some (out, ρ2),
          ⟨_, rfl, Nat.zero_le _, N1, _, [], [], Blk.start x1.ok hL, upd_same, .nil, nL, Nat.le_refl _, h2⟩, ?_⟩
        rintro i m H3 ⟨rfl, hile, N3, ρ3, as, us, b3, l3, d3, n3, len3, e3⟩
        obtain ⟨wg, ws⟩ := wk i H3 b3.kp
        by_cases hlt : i < ds.length
        · obtain ⟨d, hd⟩ : ∃ d, ds[i]? = some d := ⟨_, List.getElem?_eq_getElem hlt⟩
          obtain ⟨go, yl⟩ := wg d hd
          have hdr : ds.drop i = d :: ds.drop (i + 1) := by
            rw [List.drop_eq_getElem_cons hlt]
            congr 1
            rw [List.getElem?_eq_getElem hlt] at hd; exact Option.some.inj hd
          rw [hdr] at e3
          unfold lcL at e3
          refine .inr ⟨go, fun H' => ∃ N' ρ4 as us, Blk K vs σ N1 H1 ρ1 N' H' ρ4 ∧ H' L = some (.lst us) ∧ DnAll K H' N' us as ∧ ¬ N' L ∧ as.length ≤ i + 1 ∧ lcL G C E vs (ds.drop (i + 1)) ρ4 as = some (out, ρ2),
            fun H' h => ⟨_, (show ds.length - (i + 1) < ds.length - i by omega), rfl, hlt, h⟩, fun x H4 y => ?_⟩
          obtain ⟨sm, dx⟩ := yl x H4 y
          have ok4 : SlotsOk K N3 H4 (wipe σ vs) ρ3 := b3.ok.grow (New.ofSame sm)
          have l4 : H4 L = some (.lst us) := sm _ _ l3
          have d4 : DnAll K H4 N3 us as := d3.same sm fun _ z => z
          split at e3
          · rename_i ρ5 h5
            refine hg N3 H4 _ ρ3 ρ5 x d _ ok4 (dx.mono b3.up) h5 fun σ5 s5 len5 k5 r5 f5 => ?_
            have hσ : ∀ j, j ∉ vs → σ5[j]? = σ[j]? := fun j hj => (k5 j fun z => hj (hv j z)).trans (wipe_out vs σ hj)
            have lσ : σ5.length = σ.length := len5.trans (wipe_length σ vs)
            refine ⟨wipe_eq lσ hσ, ?_⟩
            have own5 : ∀ a, Own σ5 ρ5 a → Own σ ρ1 a ∨ H4 a = none := fun a z => by
              rcases s5.own z with z | z
              · exact .inl (b3.own hw z)
              · exact .inr z
            -- what stands behind a turn
            have fin : ∀ (N6 : Addr → Prop) (H6 : Hp) (ρ6 : Ev) (us6 : List V), Ex K σ5 N3 H4 ρ5 N6 H6 ρ6 → Blk K vs σ N1 H1 ρ1 N6 (upd H6 L (.lst us6)) (setL ρ6 vs fun _ => .non) ∧ H6 L = some (.lst us) ∧ ¬ N6 L := fun N6 H6 ρ6 us6 x6 => by
              have no5 : ¬ Own σ5 ρ5 L := fun z => by
                rcases own5 L z with z | z
                · exact noL z
                · rw [l4] at z; cases z
              have l6 : H6 L = some (.lst us) := x6.kp L _ l4 no5
              have n6 : ¬ N6 L := fun z => by
                rcases x6.new L z with z | z
                · exact n3 z
                · rw [l4] at z; cases z
              have no6 : ¬ Own σ5 ρ6 L := fun z => no5 ((x6.own L).mp z)
              have kpL : Kp (fun b => b = L) H6 (upd H6 L (.lst us6)) := fun b o e n => by rw [upd_ne n]; exact e
              have hOL : ∀ b, b = L → ∃ ys, H6 b = some (.lst ys) := fun b z => ⟨us, by rw [z]; exact l6⟩
              have hNL : ∀ b, N6 b → ¬ b = L := fun b n z => n6 (z ▸ n)
              have ok6 : SlotsOk K N6 (upd H6 L (.lst us6)) σ5 ρ6 := by
                refine ⟨x6.ok.len, fun b n => upd_there (x6.ok.inn b n), fun j d e => ?_, fun j ds e => ?_, x6.ok.one, fun j ns e => ?_⟩
                · obtain ⟨v, s, z⟩ := x6.ok.vals j d e
                  exact ⟨v, s, z.kp hOL hNL (fun _ z => z) kpL⟩
                · obtain ⟨b, vs', s, z1, z2, z3⟩ := x6.ok.owns j ds e
                  have nb : b ≠ L := fun y => no6 ⟨j, ⟨ds, e⟩, y ▸ s⟩
                  exact ⟨b, vs', s, kpL b _ z1 nb, z2.kp hOL hNL (fun _ z => z) kpL, z3⟩
                · obtain ⟨b, s, z⟩ := x6.ok.scrs j ns e
                  exact ⟨b, s, z.kp hOL kpL⟩
              refine ⟨⟨fun a z => x6.up a (b3.up a z), fun a z => ?_, fun a o h n => ?_, fun a z => ?_, ok6.forget (by rw [wipe_length]; exact lσ.symm) (fun j hj => by rw [wipe_out vs σ hj, hσ j hj]), ?_, fun j d hj => ?_, fun j hj => ?_, fun j hj => ?_, fun j sc hj => ?_, fun j hj hl => ?_⟩, l6, n6⟩
              · rcases x6.new a z with z | z
                · exact b3.new a z
                · exact .inr (b3.dom a (sm.free z))
              · have nL' : a ≠ L := fun z => by rw [z, hL] at h; cases h
                rw [upd_ne nL']
                refine x6.kp a o (sm _ _ (b3.kp a o h n)) fun z => ?_
                rcases own5 a z with z | z
                · exact n z
                · rw [sm _ _ (b3.kp a o h n)] at z; cases z
              · have nL' : a ≠ L := fun y => by rw [y, upd_same] at z; cases z
                rw [upd_ne nL'] at z
                exact b3.dom a (sm.free (x6.dom a z))
              · rw [setL_len, x6.ok.len, lσ, ← x1.ok.len]
              · rw [setN_out hj, x6.valE, r5 j (fun z => hj (hv j z))]; exact b3.valE j d hj
              · rw [setN_out hj, x6.ownE, r5 j (fun z => hj (hv j z))]; exact b3.ownE j hj
              · rw [setN_out hj, x6.borE, r5 j (fun z => hj (hv j z))]; exact b3.borE j hj
              · rw [setN_out hj, x6.scrE, r5 j (fun z => hj (hv j z))]; exact b3.scrE j sc hj
              · rw [setN_get, if_pos ⟨hj, by rw [x6.ok.len, lσ, ← x1.ok.len]; exact hl⟩]
            split at e3
            · rename_i ρ6 h6
              refine hc N3 H4 σ5 ρ5 ρ6 true _ s5.ok h6 fun N6 H6 x6 => iteT ?_
              split at e3
              · rename_i z7 ρ7 h7
                refine he N6 H6 σ5 ρ6 ρ7 z7 _ x6.ok h7 fun v N7 H7 x7 d7 => ?_
                have x67 := x6.trans x7
                obtain ⟨b8, l8, n8⟩ := fin N7 H7 ρ7 (us ++ [v]) x67
                refine ⟨us, l8, by rw [d3.len]; omega, N7, _, as ++ [z7], us ++ [v], b8, upd_same, ?_, n8, by rw [List.length_append, List.length_singleton]; omega, e3⟩
                have hOL : ∀ b, b = L → ∃ ys, H7 b = some (.lst ys) := fun b z => ⟨us, by rw [z]; exact l8⟩
                have hNL : ∀ b, N7 b → ¬ b = L := fun b n z => n8 (z ▸ n)
                have kpL : Kp (fun b => b = L) H7 (upd H7 L (.lst (us ++ [v]))) := fun b o e n => by rw [upd_ne n]; exact e
                have dd : DnAll K H7 N7 us as := x67.dnAll s5.ok d4
                exact (dd.app (.cons d7 .nil)).kp hOL hNL (fun _ z => z) kpL
              · cases e3
            · rename_i ρ6 h6
              refine hc N3 H4 σ5 ρ5 ρ6 false _ s5.ok h6 fun N6 H6 x6 => iteF ?_
              obtain ⟨b8, l8, n8⟩ := fin N6 H6 ρ6 us x6
              have same : upd H6 L (.lst us) = H6 := by
                funext b
                by_cases z : b = L
                · rw [z, upd_same, l8]
                · rw [upd_ne z]
              rw [same] at b8
              exact ⟨N6, _, as, us, b8, l8, x6.dnAll s5.ok d4, n8, by omega, e3⟩
            · cases e3
          · cases e3
        · have : ds.drop i = [] := List.drop_eq_nil_of_le (by omega)
          rw [this] at e3
          unfold lcL at e3
          cases e3
          refine .inl ⟨ws (by omega), ?_⟩
          have back : ∀ j, (setL ρ2 vs fun j => ρ1.getD j .non)[j]? = if j ∈ vs ∧ j < ρ2.length then some (ρ1.getD j .non) else ρ2[j]? := fun j => setL_get vs _ ρ2 j
          have bin : ∀ j, j ∈ vs → (setL ρ2 vs fun j => ρ1.getD j .non)[j]? = ρ1[j]? := fun j hj => by
            rw [back]
            by_cases hl : j < ρ2.length
            · rw [if_pos ⟨hj, hl⟩]
              have hl1 : j < ρ1.length := by rw [← b3.len]; exact hl
              rw [List.getD_eq_getElem?_getD, List.getElem?_eq_getElem hl1]; rfl
            · rw [if_neg (fun z => hl z.2), List.getElem?_eq_none (by omega), List.getElem?_eq_none (by rw [← b3.len]; omega)]
          have bout : ∀ j, j ∉ vs → (setL ρ2 vs fun j => ρ1.getD j .non)[j]? = ρ2[j]? := fun j hj => by rw [back, if_neg (fun z => hj z.1)]
          have bo : ∀ j, isO (setL ρ2 vs fun j => ρ1.getD j .non) j → isO ρ2 j ∧ j ∉ vs := fun j ⟨es, h⟩ => by
            by_cases hj : j ∈ vs
            · exfalso
              rw [bin j hj] at h
              rcases h with h | h
              · have := okW_at hw hj h; cases this
              · have := okW_at hw hj h; cases this
            · rw [bout j hj] at h; exact ⟨⟨es, h⟩, hj⟩
          have okF : SlotsOk K N3 H3 σ (setL ρ2 vs fun j => ρ1.getD j .non) := by
            refine ⟨by rw [setL_len, b3.len]; exact x1.ok.len, b3.ok.inn, fun j d h => ?_, fun j es h => ?_, fun j k a hj hk sj sk => ?_, fun j ns h => ?_⟩
            · by_cases hj : j ∈ vs
              · rw [bin j hj] at h
                obtain ⟨v, s, z⟩ := x1.ok.vals j d h
                exact ⟨v, s, z.kp x1.ok.hO x1.ok.hN b3.up b3.kp⟩
              · rw [bout j hj] at h
                obtain ⟨v, s, z⟩ := b3.ok.vals j d h
                rw [wipe_out vs σ hj] at s
                exact ⟨v, s, z⟩
            · have hj := (bo j ⟨es, h⟩).2
              rw [bout j hj] at h
              obtain ⟨a, ls, s, z⟩ := b3.ok.owns j es h
              rw [wipe_out vs σ hj] at s
              exact ⟨a, ls, s, z⟩
            · rw [← wipe_out vs σ (bo j hj).2] at sj; rw [← wipe_out vs σ (bo k hk).2] at sk
              exact b3.ok.one j k a (bo j hj).1 (bo k hk).1 sj sk
            · by_cases hj : j ∈ vs
              · rw [bin j hj] at h
                have := okW_at hw hj h; cases this
              · rw [bout j hj] at h
                obtain ⟨a, s, z⟩ := b3.ok.scrs j ns h
                rw [wipe_out vs σ hj] at s
                exact ⟨a, s, z⟩
          have xF : Ex K σ N1 H1 ρ1 N3 H3 (setL ρ2 vs fun j => ρ1.getD j .non) := by
            refine ⟨b3.up, b3.new, b3.kp, b3.dom, okF, fun j d => ?_, fun j => ?_, fun j => ?_, fun j sc => ?_⟩
            · by_cases hj : j ∈ vs
              · rw [bin j hj]
              · rw [bout j hj]; exact b3.valE j d hj
            · by_cases hj : j ∈ vs
              · rw [bin j hj]
              · rw [bout j hj]; exact b3.ownE j hj
            · by_cases hj : j ∈ vs
              · rw [bin j hj]
              · rw [bout j hj]; exact b3.borE j hj
            · by_cases hj : j ∈ vs
              · rw [bin j hj]
              · rw [bout j hj]; exact b3.scrE j sc hj
          exact q L us N3 H3 (x1.trans xF) (x1.dom L hL) n3 l3 d3
      · cases e
    · cases e
  · cases e
end
end DL

set_option Elab.async false
set_option linter.all false
set_option maxRecDepth 100000
set_option maxHeartbeats 1000000
namespace DL
open PySem L2
section
variable {K : PySem.W.Frag} {N N1 N2 : Addr → Prop} {H H1 H2 : Hp} {σ σ1 σ2 : St} {ρ ρ1 ρ2 : Ev}
/-! a def -/
@[simp] def startE (nl : Nat) (ds : List D) : Ev := ds.map .val ++ List.replicate nl .non
theorem startE_get {nl : Nat} {ds : List D} {i : Nat} {s : Slot} (h : (startE nl ds)[i]? = some s) : (∃ d, ds[i]? = some d ∧ s = .val d) ∨ s = .non := by
  unfold startE at h
  rw [List.getElem?_append] at h
  split at h
  · rw [List.getElem?_map] at h
    cases e : ds[i]? with
    | none => rw [e] at h; cases h
    | some d => rw [e] at h; cases h; exact .inl ⟨d, rfl, rfl⟩
  · rw [List.getElem?_replicate] at h
    split at h
    · cases h; exact .inr rfl
    · cases h
theorem start_get {Nn : List Str} {vs : List V} {i : Nat} {v : V} (h : vs[i]? = some v) : (L2.start Nn vs)[i]? = some (some v) := by
  unfold L2.start
  rw [List.getElem?_append, if_pos (by rw [List.length_map]; exact lt_of_get h), List.getElem?_map, h]; rfl
theorem SlotsOk.start0 {Nn : List Str} {vs : List V} {ds : List D} {nl : Nat} (hl : Nn.length = ds.length + nl) (inn : ∀ a, N a → H a ≠ none) (h : DnAll K H N vs ds) : SlotsOk K N H (L2.start Nn vs) (startE nl ds) := by
  have lv := h.len
  refine ⟨?_, inn, fun i d e => ?_, fun i es e => ?_, fun i j a ⟨es, e⟩ => ?_, fun i ns e => ?_⟩
  · unfold startE L2.start
    simp only [List.length_append, List.length_map, List.length_replicate]
    omega
  · rcases startE_get e with ⟨d', e1, e2⟩ | e2
    · cases e2
      obtain ⟨v, hv, dv⟩ := h.at e1
      exact ⟨v, start_get hv, dv⟩
    · cases e2
  · rcases e with e | e
    · rcases startE_get e with ⟨d', e1, e2⟩ | e2 <;> cases e2
    · rcases startE_get e with ⟨d', e1, e2⟩ | e2 <;> cases e2
  · rcases e with e | e
    · rcases startE_get e with ⟨d', e1, e2⟩ | e2 <;> cases e2
    · rcases startE_get e with ⟨d', e1, e2⟩ | e2 <;> cases e2
  · rcases startE_get e with ⟨d', e1, e2⟩ | e2 <;> cases e2
theorem startE_O {nl : Nat} {ds : List D} {σ : St} {a : Addr} : ¬ Own σ (startE nl ds) a := fun ⟨i, ⟨es, e⟩, _⟩ => by
  rcases e with e | e
  · rcases startE_get e with ⟨d', e1, e2⟩ | e2 <;> cases e2
  · rcases startE_get e with ⟨d', e1, e2⟩ | e2 <;> cases e2
theorem Stp.newOf {nl : Nat} {ds : List D} {σ' : St} {N' : Addr → Prop} {H' : Hp} {ρ' : Ev} (s : Stp K N H σ (startE nl ds) N' H' σ' ρ') : New N H N' H' := ⟨fun a o e => s.kp a o e startE_O, s.up, fun a z => by
  rcases s.new a z with z | z | z
  · exact .inl z
  · exact .inr z
  · exact absurd z.own startE_O, fun _ => s.ok.inn⟩
@[simp] def outF (r : Option (Fl × Ev)) : Option D := match r with
  | some (.rt d, _) => some d
  | some (.nx, _) => some .none
  | some (.ro es, _) => some (.list es)
  | _ => none
@[simp] def outO (r : Option (Fl × Ev)) : Option (List D) := match r with
  | some (.ro es, _) => some es
  | _ => none
@[simp] def runF (np nl : Nat) (S : MS) : Fn := fun ds => if ds.length = np then outF (S (startE nl ds)) else none
@[simp] def runO (np nl : Nat) (S : MS) : FnO := fun ds => if ds.length = np then outO (S (startE nl ds)) else none
theorem lenF {np nl : Nat} {S : MS} {vs : List V} {H : Hp} {Q : VK} {E : XK} (h : SpF K (runF np nl S) vs H Q E) : vs.length = np := by
  obtain ⟨N, ds, d, _, hd, e, _⟩ := h
  unfold runF at e
  split at e
  · rename_i hl; rw [hd.len]; exact hl
  · cases e
theorem lenO {np nl : Nat} {S : MS} {vs : List V} {H : Hp} {Q : VK} {E : XK} (h : SpO K (runO np nl S) vs H Q E) : vs.length = np := by
  obtain ⟨N, ds, d, _, hd, e, _⟩ := h
  unfold runO at e
  split at e
  · rename_i hl; rw [hd.len]; exact hl
  · cases e
theorem fnF {np nl : Nat} {S : MS} {t : TS} {vs : List V} {H : Hp} {Q : VK} {E : XK} {Nn : List Str} (hs : SimS K t S) (hN : Nn.length = np + nl) (h : SpF K (runF np nl S) vs H Q E) : t { nx := fun _ H' => Q .non H', rt := Q } (L2.start Nn vs) H := by
  obtain ⟨N, ds, d, inn, hd, e, q⟩ := h
  unfold runF at e
  split at e
  · rename_i hl
    have ok := SlotsOk.start0 (Nn := Nn) (nl := nl) (by rw [hl]; exact hN) inn hd
    unfold outF at e
    split at e
    · rename_i d' ρ' h1
      cases e
      exact hs N H _ _ ρ' _ _ ok h1 fun N' H' σ' v s dv => q v N' H' s.newOf dv
    · rename_i ρ' h1
      cases e
      exact hs N H _ _ ρ' _ _ ok h1 fun N' H' σ' s => q _ N' H' s.newOf .non
    · rename_i es ρ' h1
      cases e
      refine hs N H _ _ ρ' _ _ ok h1 fun N' H' σ' a us s ha nn hl hd => ?_
      have hn : H a = none := ha.resolve_right fun z => startE_O z.own
      have n := s.newOf
      refine q (.ref a) (fun b => N' b ∨ b = a) H' ⟨n.same, fun b z => .inl (n.up b z), fun b z => ?_, fun h b z => ?_⟩ (.lst hl (.inr rfl) (hd.mono fun _ z => .inl z))
      · rcases z with z | z
        · exact n.new b z
        · exact .inr (by rw [z]; exact hn)
      · rcases z with z | z
        · exact n.inn h b z
        · rw [z, hl]; intro y; cases y
    · cases e
  · cases e
theorem fnO {np nl : Nat} {S : MS} {t : TS} {vs : List V} {H : Hp} {Q : VK} {E : XK} {Nn : List Str} (hs : SimS K t S) (hN : Nn.length = np + nl) (h : SpO K (runO np nl S) vs H Q E) : t { nx := fun _ H' => Q .non H', rt := Q } (L2.start Nn vs) H := by
  obtain ⟨N, ds, d, inn, hd, e, q⟩ := h
  unfold runO at e
  split at e
  · rename_i hl
    have ok := SlotsOk.start0 (Nn := Nn) (nl := nl) (by rw [hl]; exact hN) inn hd
    unfold outO at e
    split at e
    · rename_i es ρ' h1
      cases e
      exact hs N H _ _ ρ' _ _ ok h1 fun N' H' σ' a us s ha nn hl hd => q a us N' H' s.newOf (ha.resolve_right fun z => startE_O z.own) nn hl hd
    · cases e
  · cases e
/-! a def to which a list is lent -/
@[simp] def startB (nl : Nat) (cs ds : List D) : Ev := .bor cs :: startE nl ds
theorem startB_O {nl : Nat} {cs ds : List D} {i : Nat} (h : isO (startB nl cs ds) i) : i = 0 := by
  obtain ⟨es, e⟩ := h
  cases i with
  | zero => rfl
  | succ j =>
    exfalso
    rcases e with e | e
    · rcases startE_get (show (startE nl ds)[j]? = _ from e) with ⟨d', e1, e2⟩ | e2 <;> cases e2
    · rcases startE_get (show (startE nl ds)[j]? = _ from e) with ⟨d', e1, e2⟩ | e2 <;> cases e2
theorem SlotsOk.startB {Nn : List Str} {ws us : List V} {cs ds : List D} {a : Addr} {nl : Nat} (hl : Nn.length = 1 + ds.length + nl) (inn : ∀ a, N a → H a ≠ none) (na : ¬ N a) (ha : H a = some (.lst us)) (hc : DnAll K H N us cs) (h : DnAll K H N ws ds) :
    SlotsOk K N H (L2.start Nn (.ref a :: ws)) (startB nl cs ds) := by
  have lv := h.len
  have s0 : (L2.start Nn (.ref a :: ws))[0]? = some (some (.ref a)) := rfl
  have sj : ∀ j v, ws[j]? = some v → (L2.start Nn (.ref a :: ws))[j + 1]? = some (some v) := fun j v e => start_get (vs := .ref a :: ws) (i := j + 1) (by simpa using e)
  refine ⟨?_, inn, fun i d e => ?_, fun i es e => ?_, fun i j b hi hj _ _ => (startB_O hi).trans (startB_O hj).symm, fun i ns e => ?_⟩
  · unfold DL.startB startE L2.start
    simp only [List.length_append, List.length_map, List.length_replicate, List.length_cons]
    omega
  · cases i with
    | zero => cases e
    | succ j =>
      rcases startE_get (show (startE nl ds)[j]? = _ from e) with ⟨d', e1, e2⟩ | e2
      · cases e2
        obtain ⟨v, hv, dv⟩ := h.at e1
        exact ⟨v, sj j v hv, dv⟩
      · cases e2
  · have : i = 0 := startB_O ⟨es, e⟩
    subst this
    have e' : some (Slot.bor cs) = some (.own es) ∨ some (Slot.bor cs) = some (.bor es) := e
    rcases e' with e' | e'
    · cases e'
    · cases e'
      exact ⟨a, us, s0, ha, hc, na⟩
  · cases i with
    | zero => cases e
    | succ j => rcases startE_get (show (startE nl ds)[j]? = _ from e) with ⟨d', e1, e2⟩ | e2 <;> cases e2
def borAt (ρ : Ev) : Option (List D) := match ρ with
  | .bor cs :: _ => some cs
  | _ => none
@[simp] def outB (r : Option (Fl × Ev)) : Option (D × List D) := match r with
  | some (.rt d, .bor cs :: _) => some (d, cs)
  | some (.nx, .bor cs :: _) => some (.none, cs)
  | _ => none
@[simp] def outBO (r : Option (Fl × Ev)) : Option (List D × List D) := match r with
  | some (.ro d, .bor cs :: _) => some (d, cs)
  | _ => none
@[simp] def runB (np nl : Nat) (S : MS) : FnB := fun cs ds => if 1 + ds.length = np then outB (S (startB nl cs ds)) else none
@[simp] def runBO (np nl : Nat) (S : MS) : FnBO := fun cs ds => if 1 + ds.length = np then outBO (S (startB nl cs ds)) else none
theorem lenB {np nl : Nat} {S : MS} {vs : List V} {H : Hp} {Q : VK} {E : XK} (h : SpB K (runB np nl S) vs H Q E) : vs.length = np := by
  obtain ⟨N, a, us, ws, cs, cs', ds, d, rfl, _, _, _, _, hd, e, _⟩ := h
  unfold runB at e
  split at e
  · rename_i hl; rw [List.length_cons, hd.len]; omega
  · cases e
/-- behind a def to which the list at a was lent -/
theorem Stp.back {nl : Nat} {cs ds cs' : List D} {ρ' : Ev} {Nn : List Str} {ws us : List V} {a : Addr} {σ' : St} {N' : Addr → Prop} {H' : Hp} (ha : H a = some (.lst us)) (s : Stp K N H (L2.start Nn (.ref a :: ws)) (DL.startB nl cs ds) N' H' σ' (.bor cs' :: ρ')) :
    (∀ b, N' b → N b ∨ H b = none) ∧ (∀ b o, H b = some o → b ≠ a → H' b = some o) ∧ ∃ us', H' a = some (.lst us') ∧ DnAll K H' N' us' cs' ∧ ¬ N' a := by
  have s0 : (L2.start Nn (.ref a :: ws))[0]? = some (some (.ref a)) := rfl
  refine ⟨fun b z => ?_, fun b o e n => s.kp b o e fun ⟨i, hi, si⟩ => ?_, ?_⟩
  · rcases s.new b z with z | z | ⟨i, es, e, si⟩
    · exact .inl z
    · exact .inr z
    · exfalso
      have := startB_O ⟨es, .inl e⟩
      subst this
      cases e
  · have := startB_O hi
    subst this
    rw [s0] at si; cases si; exact n rfl
  · obtain ⟨b, us', sb, q1, q2, q3⟩ := s.ok.owns 0 cs' (.inr rfl)
    rw [(s.bo 0 cs' rfl).1, s0] at sb
    cases sb
    exact ⟨us', q1, q2, q3⟩
theorem fnB {np nl : Nat} {S : MS} {t : TS} {vs : List V} {H : Hp} {Q : VK} {E : XK} {Nn : List Str} (hs : SimS K t S) (hN : Nn.length = np + nl) (h : SpB K (runB np nl S) vs H Q E) : t { nx := fun _ H' => Q .non H', rt := Q } (L2.start Nn vs) H := by
  obtain ⟨N, a, us, ws, cs, cs', ds, d, rfl, inn, na, ha, hc, hd, e, q⟩ := h
  unfold runB at e
  split at e
  · rename_i hl
    have ok := SlotsOk.startB (Nn := Nn) (nl := nl) (by omega) inn na ha hc hd
    unfold outB at e
    split at e
    · rename_i d' cs2 ρ' h1
      cases e
      refine hs N H _ _ _ _ _ ok h1 fun N' H' σ' v s dv => ?_
      obtain ⟨b1, b2, us', b3, b4, b5⟩ := Stp.back ha s
      exact q v us' N' H' s.up b1 b2 b3 b4 b5 s.ok.inn dv
    · rename_i cs2 ρ' h1
      cases e
      refine hs N H _ _ _ _ _ ok h1 fun N' H' σ' s => ?_
      obtain ⟨b1, b2, us', b3, b4, b5⟩ := Stp.back ha s
      exact q _ us' N' H' s.up b1 b2 b3 b4 b5 s.ok.inn .non
    · cases e
  · cases e
/-! the law itself: the script -/
@[simp] def startL (nl : Nat) (ns : List Int) : Ev := .scr ns :: List.replicate nl .non
theorem SlotsOk.law {Nn : List Str} {a : Addr} {ns : List Int} {nl : Nat} (hl : Nn.length = 1 + nl) (h : Scr K H a ns) : SlotsOk K (fun _ => False) H (L2.start Nn [.ref a]) (startL nl ns) := by
  have z : ∀ i s, (startL nl ns)[i]? = some s → (i = 0 ∧ s = .scr ns) ∨ s = .non := fun i s e => by
    cases i with
    | zero => cases e; exact .inl ⟨rfl, rfl⟩
    | succ j =>
      have e : (List.replicate nl Slot.non)[j]? = some s := e
      rw [List.getElem?_replicate] at e
      split at e
      · cases e; exact .inr rfl
      · cases e
  have no : ∀ i, ¬ isO (startL nl ns) i := fun i ⟨es, e⟩ => by
    rcases e with e | e
    · rcases z i _ e with ⟨_, y⟩ | y <;> cases y
    · rcases z i _ e with ⟨_, y⟩ | y <;> cases y
  refine ⟨?_, fun _ z => z.elim, fun i d e => ?_, fun i es e => absurd ⟨es, e⟩ (no i), fun i j b hi => absurd hi (no i), fun i ms e => ?_⟩
  · unfold startL L2.start
    simp only [List.length_append, List.length_map, List.length_replicate, List.length_cons, List.length_nil]
    omega
  · rcases z i _ e with ⟨_, y⟩ | y <;> cases y
  · rcases z i _ e with ⟨rfl, y⟩ | y
    · cases y; exact ⟨a, rfl, h⟩
    · cases y
/-- the law's promise: at every script it is reckoned to True -/
def SpL (K : PySem.W.Frag) (nl : Nat) (S : MS) : Sp := fun vs H Q _ => ∃ (a : Addr) (ns : List Int) (ρ : Ev), vs = [.ref a] ∧ Scr K H a ns ∧ S (startL nl ns) = some (.rt (.bool true), ρ) ∧ ∀ H', Q (.bl true) H'
theorem lenL {nl : Nat} {S : MS} {vs : List V} {H : Hp} {Q : VK} {E : XK} (h : SpL K nl S vs H Q E) : vs.length = 1 := by
  obtain ⟨a, ns, ρ, rfl, _⟩ := h; rfl
theorem fnL {nl : Nat} {S : MS} {t : TS} {vs : List V} {H : Hp} {Q : VK} {E : XK} {Nn : List Str} (hs : SimS K t S) (hN : Nn.length = 1 + nl) (h : SpL K nl S vs H Q E) : t { nx := fun _ H' => Q .non H', rt := Q } (L2.start Nn vs) H := by
  obtain ⟨a, ns, ρ, rfl, ha, e, q⟩ := h
  exact hs _ H _ _ ρ _ _ (SlotsOk.law hN ha) e fun N' H' σ' v s dv => by cases dv; exact q H'
/-! a def of the script and a number -/
abbrev FnS := List Int → List D → Option D
def SpS (K : PySem.W.Frag) (F : FnS) : Sp := fun vs H Q _ => ∃ (N : Addr → Prop) (a : Addr) (ns : List Int) (ws : List V) (ds : List D) (d : D), vs = .ref a :: ws ∧ (∀ a, N a → H a ≠ none) ∧ Scr K H a ns ∧ DnAll K H N ws ds ∧ F ns ds = some d ∧
  ∀ (v : V) (N' : Addr → Prop) (H' : Hp), New N H N' H' → Dn K H' N' v d → Q v H'
@[simp] def startS (nl : Nat) (ns : List Int) (ds : List D) : Ev := .scr ns :: startE nl ds
theorem startS_O {nl : Nat} {ns : List Int} {ds : List D} {i : Nat} : ¬ isO (startS nl ns ds) i := fun ⟨es, e⟩ => by
  cases i with
  | zero => rcases e with e | e <;> cases e
  | succ j =>
    rcases e with e | e
    · rcases startE_get (show (startE nl ds)[j]? = _ from e) with ⟨d', e1, e2⟩ | e2 <;> cases e2
    · rcases startE_get (show (startE nl ds)[j]? = _ from e) with ⟨d', e1, e2⟩ | e2 <;> cases e2
theorem SlotsOk.startS {Nn : List Str} {ws : List V} {ns : List Int} {ds : List D} {a : Addr} {nl : Nat} (hl : Nn.length = 1 + ds.length + nl) (inn : ∀ a, N a → H a ≠ none) (ha : Scr K H a ns) (h : DnAll K H N ws ds) :
    SlotsOk K N H (L2.start Nn (.ref a :: ws)) (startS nl ns ds) := by
  have lv := h.len
  have sj : ∀ j v, ws[j]? = some v → (L2.start Nn (.ref a :: ws))[j + 1]? = some (some v) := fun j v e => start_get (vs := .ref a :: ws) (i := j + 1) (by simpa using e)
  refine ⟨?_, inn, fun i d e => ?_, fun i es e => absurd ⟨es, e⟩ startS_O, fun i j b hi => absurd hi startS_O, fun i ms e => ?_⟩
  · unfold DL.startS startE L2.start
    simp only [List.length_append, List.length_map, List.length_replicate, List.length_cons]
    omega
  · cases i with
    | zero => cases e
    | succ j =>
      rcases startE_get (show (startE nl ds)[j]? = _ from e) with ⟨d', e1, e2⟩ | e2
      · cases e2
        obtain ⟨v, hv, dv⟩ := h.at e1
        exact ⟨v, sj j v hv, dv⟩
      · cases e2
  · cases i with
    | zero => cases e; exact ⟨a, rfl, ha⟩
    | succ j => rcases startE_get (show (startE nl ds)[j]? = _ from e) with ⟨d', e1, e2⟩ | e2 <;> cases e2
@[simp] def runS (np nl : Nat) (S : MS) : FnS := fun ns ds => if 1 + ds.length = np then outF (S (startS nl ns ds)) else none
theorem lenS {np nl : Nat} {S : MS} {vs : List V} {H : Hp} {Q : VK} {E : XK} (h : SpS K (runS np nl S) vs H Q E) : vs.length = np := by
  obtain ⟨N, a, ns, ws, ds, d, rfl, _, _, hd, e, _⟩ := h
  unfold runS at e
  split at e
  · rename_i hl; rw [List.length_cons, hd.len]; omega
  · cases e
theorem fnS {np nl : Nat} {S : MS} {t : TS} {vs : List V} {H : Hp} {Q : VK} {E : XK} {Nn : List Str} (hs : SimS K t S) (hN : Nn.length = np + nl) (h : SpS K (runS np nl S) vs H Q E) : t { nx := fun _ H' => Q .non H', rt := Q } (L2.start Nn vs) H := by
  obtain ⟨N, a, ns, ws, ds, d, rfl, inn, ha, hd, e, q⟩ := h
  unfold runS at e
  split at e
  · rename_i hl
    have ok := SlotsOk.startS (Nn := Nn) (nl := nl) (by omega) inn ha hd
    have nw : ∀ {N' H' σ' ρ'}, Stp K N H (L2.start Nn (.ref a :: ws)) (DL.startS nl ns ds) N' H' σ' ρ' → New N H N' H' := fun s => ⟨fun b o e => s.kp b o e fun ⟨i, hi, _⟩ => startS_O hi, s.up, fun b z => by
      rcases s.new b z with z | z | z
      · exact .inl z
      · exact .inr z
      · obtain ⟨i, hi, _⟩ := z.own; exact absurd hi startS_O, fun _ => s.ok.inn⟩
    unfold outF at e
    split at e
    · rename_i d' ρ' h1
      cases e
      exact hs N H _ _ ρ' _ _ ok h1 fun N' H' σ' v s dv => q v N' H' (nw s) dv
    · rename_i ρ' h1
      cases e
      exact hs N H _ _ ρ' _ _ ok h1 fun N' H' σ' s => q _ N' H' (nw s) .non
    · rename_i es ρ' h1
      cases e
      refine hs N H _ _ ρ' _ _ ok h1 fun N' H' σ' a us s ha nn hl hd => ?_
      have hn : H a = none := ha.resolve_right fun z => by obtain ⟨i, hi, _⟩ := z.own; exact absurd hi startS_O
      have n := nw s
      refine q (.ref a) (fun b => N' b ∨ b = a) H' ⟨n.same, fun b z => .inl (n.up b z), fun b z => ?_, fun h b z => ?_⟩ (.lst hl (.inr rfl) (hd.mono fun _ z => .inl z))
      · rcases z with z | z
        · exact n.new b z
        · exact .inr (by rw [z]; exact hn)
      · rcases z with z | z
        · exact n.inn h b z
        · rw [z, hl]; intro y; cases y
    · cases e
  · cases e
@[simp] def getS (ρ : Ev) (i : Nat) : Option (List Int) := match ρ[i]? with
  | some (.scr (.ns ns)) => some ns
  | _ => none
theorem getS_is {i : Nat} {ns : List Int} (h : getS ρ i = some ns) : ρ[i]? = some (.scr ns) := by
  unfold getS at h
  split at h
  · cases h; assumption
  · cases h
@[simp] def cbS (F : FnS) (i : Nat) (A : MA) : ME := fun ρ => match getS ρ i with
  | some ns => match A ρ with
    | some (ds, ρ1) => match F ns ds with
      | some d => some (d, ρ1)
      | none => none
    | none => none
  | none => none
theorem simE_callS {F : FnS} {i : Nat} {t : TA} {A : MA} {E : XK} (ha : SimA K t A) : SimE K (tCall (SpS K F) [] E (tCons (tVar i) t)) (cbS F i A) := by
  intro N H σ ρ ρ' d Q ok e q
  unfold cbS at e
  split at e
  · rename_i ns hg
    obtain ⟨a, sa, sc⟩ := ok.scrs i ns (getS_is hg)
    split at e
    · rename_i ds ρ1 h1
      split at e
      · rename_i d' h2
        cases e
        refine ⟨_, sa, ha N H σ ρ _ _ _ ok h1 fun vs N1 H1 x1 d1 => ?_⟩
        exact ⟨N1, a, ns, vs, ds, _, by simp, x1.ok.inn, sc.kp ok.hO x1.kp, d1, h2, fun v N2 H2 n z => q v N2 H2 (x1.more n) z⟩
      · cases e
    · cases e
  · cases e
/-- len(script) -/
@[simp] def lenScr (i : Nat) : ME := fun ρ => match getS ρ i with
  | some ns => some (.int ns.length, ρ)
  | none => none
theorem simE_lenScr {i : Nat} : SimE K (tCB (fun xs H Q => ∃ x n, xs = [x] ∧ LenV K x H n ∧ Q (.int n) H) (tCons (tVar i) tNil)) (lenScr i) := by
  intro N H σ ρ ρ' d Q ok e q
  unfold lenScr at e
  split at e
  · rename_i ns hg
    cases e
    obtain ⟨a, sa, sc⟩ := ok.scrs i ns (getS_is hg)
    refine ⟨_, sa, _, ns.length, rfl, .inl ⟨_, sc.sq, by rw [List.length_map]⟩, q _ N H (Ex.refl ok) (.int _)⟩
  · cases e
/-- script[k] -/
@[simp] def ixScr (i : Nat) (A : ME) : ME := fun ρ => match getS ρ i with
  | some ns => match A ρ with
    | some (.int k, ρ1) => match atI ns k with
      | some n => some (.int n, ρ1)
      | none => none
    | _ => none
  | none => none
theorem atI_map {α β : Type} (f : α → β) (xs : List α) (i : Int) : atI (xs.map f) i = (atI xs i).map f := by
  unfold atI
  rw [List.length_map]
  cases ixN xs.length i with
  | none => rfl
  | some j => simp
theorem simE_ixScr {i : Nat} {t : TE} {A : ME} (ha : SimE K t A) : SimE K (tOp (rIx K) (tVar i) t) (ixScr i A) := by
  intro N H σ ρ ρ' d Q ok e q
  unfold ixScr at e
  split at e
  · rename_i ns hg
    obtain ⟨a, sa, sc⟩ := ok.scrs i ns (getS_is hg)
    split at e
    · rename_i k ρ1 h1
      split at e
      · rename_i n h2
        cases e
        refine ⟨_, sa, ha N H σ ρ _ _ _ ok h1 fun v N1 H1 x1 d1 => ?_⟩
        cases d1
        exact .inl ⟨a, _, k, .int n, rfl, rfl, (sc.kp ok.hO x1.kp).sq, by rw [atI_map, h2]; rfl, q _ N1 H1 x1 (.int n)⟩
      · cases e
    · cases e
  · cases e
end
end DL

set_option Elab.async false
set_option linter.all false
set_option maxRecDepth 100000
set_option maxHeartbeats 1000000
namespace DL
open PySem L2
section
variable {X : Cx} {K : PySem.W.Frag}
/-! operators -/
theorem opR_or {f : Value → Value → Sem Value} {r r' : R2} (a : OpR X f r) (b : OpR X f r') : OpR X f (fun x y H Q => r x y H Q ∨ r' x y H Q) := by
  intro pins s σ H x y v u Q I rx ry h
  rcases h with h | h
  · exact a pins s σ H x y v u Q I rx ry h
  · exact b pins s σ H x y v u Q I rx ry h
def rAddStr : R2 := fun x y H Q => ∃ i j, x = .str i ∧ y = .str j ∧ i.length + j.length ≤ sizeLine ∧ Q (.str (i ++ j)) H
def rAddU (K : PySem.W.Frag) : R2 := fun x y H Q => rI0 (fun i j => .int (i + j)) x y H Q ∨ (rCat x y H Q ∨ (rCatT2 K x y H Q ∨ rAddStr x y H Q))
theorem op_addU : OpR X (binaryOp .Add) (rAddU X.K) := opR_or op_add (opR_or op_cat (opR_or op_catT2 op_add_str))
def addD : D → D → Option D
  | .int i, .int j => some (.int (i + j))
  | .list xs, .list ys => if xs.length + ys.length ≤ sizeLine then some (.list (xs ++ ys)) else none
  | .tuple xs, .tuple ys => if xs.length + ys.length ≤ sizeLine then some (.tuple (xs ++ ys)) else none
  | .str a, .str b => if a.length + b.length ≤ sizeLine then some (.str (a ++ b)) else none
  | _, _ => none
@[simp] theorem addD_e1 : addD (.int i) (.int j) = some (.int (i + j)) := rfl
@[simp] theorem addD_e2 : addD (.list xs) (.list ys) = if xs.length + ys.length ≤ sizeLine then some (.list (xs ++ ys)) else none := rfl
@[simp] theorem addD_e3 : addD (.tuple xs) (.tuple ys) = if xs.length + ys.length ≤ sizeLine then some (.tuple (xs ++ ys)) else none := rfl
@[simp] theorem addD_e4 : addD (.str a) (.str b) = if a.length + b.length ≤ sizeLine then some (.str (a ++ b)) else none := rfl
theorem sr_add : SimR2 K (rAddU K) addD := by
  intro N H x y a b d Q hx hy e q
  unfold addD at e
  split at e
  · cases e; cases hx; cases hy
    exact .inl ⟨_, _, rfl, rfl, q _ N H (New.refl N H) (.int _)⟩
  · split at e
    · cases e
      rename_i hz
      cases hx with
      | lst h1 n1 d1 =>
        cases hy with
        | lst h2 n2 d2 =>
          exact .inr (.inl ⟨_, _, _, _, rfl, rfl, h1, h2, by rw [d1.len, d2.len]; exact hz, fun p hp => q _ _ _ (New.lst hp) (.lst upd_same (.inr rfl) ((d1.app d2).same (Same.new hp) fun _ z => .inl z))⟩)
    · cases e
  · split at e
    · cases e
      rename_i hz
      cases hx with
      | tup h1 d1 =>
        cases hy with
        | tup h2 d2 =>
          refine .inr (.inr (.inl ⟨_, _, _, _, rfl, rfl, h1, h2, by rw [d1.len, d2.len]; exact hz, fun e => ?_, fun e => ?_, fun p hp => q _ _ _ (New.tup hp) (.tup (SqT.of upd_same) ((d1.app d2).same (Same.new hp) fun _ z => z))⟩))
          · subst e; cases d1
            exact q _ N H (New.refl N H) (.tup h2 d2)
          · subst e; cases d2
            exact q _ N H (New.refl N H) (by rw [List.append_nil]; exact .tup h1 d1)
    · cases e
  · split at e
    · cases e
      rename_i hz
      cases hx; cases hy
      exact .inr (.inr (.inr ⟨_, _, rfl, rfl, hz, q _ N H (New.refl N H) (.str _)⟩))
    · cases e
  · cases e
def subD : D → D → Option D
  | .int i, .int j => some (.int (i - j))
  | _, _ => none
@[simp] theorem subD_e1 : subD (.int i) (.int j) = some (.int (i - j)) := rfl
theorem sr_sub : SimR2 K (rI0 fun i j => .int (i - j)) subD := by
  intro N H x y a b d Q hx hy e q
  unfold subD at e
  split at e
  · cases e; cases hx; cases hy
    exact ⟨_, _, rfl, rfl, q _ N H (New.refl N H) (.int _)⟩
  · cases e
open Builtin.Int in
def mulG (i j : Int) : Bool := decide (intBits i ≤ 64) || decide (intBits j ≤ 64) || decide (intBits i + intBits j ≤ 134217728)
theorem mulG_ok {i j : Int} (h : mulG i j = true) : IntMulOk i j := by
  unfold mulG at h
  simp only [Bool.or_eq_true, decide_eq_true_eq] at h
  rcases h with (h | h) | h
  · exact .of_left h
  · exact .of_right h
  · exact .of_le (Nat.le_refl _) (Nat.le_refl _) h
theorem op_mulB : OpR X (binaryOp .Mult) (rI (fun i j => mulG i j = true) fun i j => .int (i * j)) := opI fun _ _ _ _ _ _ _ hc q => PyProof.Rows.mul_int q (mulG_ok hc)
def mulD : D → D → Option D
  | .int i, .int j => if mulG i j then some (.int (i * j)) else none
  | _, _ => none
@[simp] theorem mulD_e1 : mulD (.int i) (.int j) = if mulG i j then some (.int (i * j)) else none := rfl
theorem sr_mul : SimR2 K (rI (fun i j => mulG i j = true) fun i j => .int (i * j)) mulD := by
  intro N H x y a b d Q hx hy e q
  unfold mulD at e
  split at e
  · split at e
    · cases e; cases hx; cases hy
      rename_i hg
      exact ⟨_, _, rfl, rfl, hg, q _ N H (New.refl N H) (.int _)⟩
    · cases e
  · cases e
def divG (j : Int) : Bool := decide (j ≠ 0) && decide (j.natAbs.log2 < 9000)
theorem op_fdivG : OpR X (binaryOp .FloorDiv) (rI (fun _ j => divG j = true) fun i j => .int (i.fdiv j)) := opI fun _ _ _ _ _ _ _ hc q => by
  simp only [divG, Bool.and_eq_true, decide_eq_true_eq] at hc
  exact PyProof.Rows.floordiv_int hc.1 q (.inl (PyProof.noPylong_of_log2 hc.2))
def fdivD : D → D → Option D
  | .int i, .int j => if divG j then some (.int (i.fdiv j)) else none
  | _, _ => none
@[simp] theorem fdivD_e1 : fdivD (.int i) (.int j) = if divG j then some (.int (i.fdiv j)) else none := rfl
theorem sr_fdiv : SimR2 K (rI (fun _ j => divG j = true) fun i j => .int (i.fdiv j)) fdivD := by
  intro N H x y a b d Q hx hy e q
  unfold fdivD at e
  split at e
  · split at e
    · cases e; cases hx; cases hy
      rename_i hg
      exact ⟨_, _, rfl, rfl, hg, q _ N H (New.refl N H) (.int _)⟩
    · cases e
  · cases e
def modD : D → D → Option D
  | .int i, .int j => if j ≠ 0 then some (.int (i.fmod j)) else none
  | _, _ => none
@[simp] theorem modD_e1 : modD (.int i) (.int j) = if j ≠ 0 then some (.int (i.fmod j)) else none := rfl
theorem sr_mod : SimR2 K (rI (fun _ j => j ≠ 0) fun i j => .int (i.fmod j)) modD := by
  intro N H x y a b d Q hx hy e q
  unfold modD at e
  split at e
  · split at e
    · cases e; cases hx; cases hy
      rename_i hg
      exact ⟨_, _, rfl, rfl, hg, q _ N H (New.refl N H) (.int _)⟩
    · cases e
  · cases e
def powD : D → D → Option D
  | .int i, .int j => if 0 ≤ j ∧ j ≤ 1000000 ∧ i.natAbs < 2 ^ 64 then some (.int (i ^ j.toNat)) else none
  | _, _ => none
@[simp] theorem powD_e1 : powD (.int i) (.int j) = if 0 ≤ j ∧ j ≤ 1000000 ∧ i.natAbs < 2 ^ 64 then some (.int (i ^ j.toNat)) else none := rfl
theorem sr_pow : SimR2 K (rI CPow fun i j => .int (i ^ j.toNat)) powD := by
  intro N H x y a b d Q hx hy e q
  unfold powD at e
  split at e
  · split at e
    · cases e; cases hx; cases hy
      rename_i hg
      exact ⟨_, _, rfl, rfl, hg, q _ N H (New.refl N H) (.int _)⟩
    · cases e
  · cases e
def cmpD (p : Int → Int → Bool) : D → D → Option D
  | .int i, .int j => some (.bool (p i j))
  | _, _ => none
@[simp] theorem cmpD_e1 (p : Int → Int → Bool) : cmpD p (.int i) (.int j) = some (.bool (p i j)) := rfl
theorem sr_cmp {p : Int → Int → Bool} : SimR2 K (rI0 fun i j => .bl (p i j)) (cmpD p) := by
  intro N H x y a b d Q hx hy e q
  unfold cmpD at e
  split at e
  · cases e; cases hx; cases hy
    exact ⟨_, _, rfl, rfl, q _ N H (New.refl N H) (.bl _)⟩
  · cases e
abbrev ltD := cmpD fun i j => decide (i < j)
abbrev leD := cmpD fun i j => decide (i ≤ j)
abbrev gtD := cmpD fun i j => decide (j < i)
abbrev geD := cmpD fun i j => decide (j ≤ i)
theorem sr_lt : SimR2 K (rI0 fun i j => .bl (decide (i < j))) ltD := sr_cmp
theorem sr_le : SimR2 K (rI0 fun i j => .bl (decide (i ≤ j))) leD := sr_cmp
theorem sr_gt : SimR2 K (rI0 fun i j => .bl (decide (j < i))) gtD := sr_cmp
theorem sr_ge : SimR2 K (rI0 fun i j => .bl (decide (j ≤ i))) geD := sr_cmp
section
variable {H : Hp} {N : Addr → Prop}
mutual
theorem Dn.dp : ∀ {v : V} {d : D}, Dn K H N v d → d.hasDict = false → Dp K H v d
  | _, _, .non, _ => .non
  | _, _, .bl b, _ => .bl b
  | _, _, .int i, _ => .int i
  | _, _, .str x, _ => .str x
  | _, _, .lst e n q, h => .lst (SqL.of e) (DnAll.dp q (by simpa [PyData.hasDict] using h))
  | _, _, .tup e q, h => .tup e (DnAll.dp q (by simpa [PyData.hasDict] using h))
  | _, _, .dct _, h => by simp [PyData.hasDict] at h
theorem DnAll.dp : ∀ {vs : List V} {ds : List D}, DnAll K H N vs ds → PyData.hasDictAll ds = false → DpAll K H vs ds
  | _, _, .nil, _ => .nil
  | _, _, .cons a b, h => by
    simp only [PyData.hasDictAll, Bool.or_eq_false_iff] at h
    exact .cons (Dn.dp a h.1) (DnAll.dp b h.2)
end
mutual
theorem noDict_lay : ∀ {d : D}, d.canLay0 = true → d.hasDict = false
  | .none, _ => by simp [PyData.hasDict]
  | .bool _, _ => by simp [PyData.hasDict]
  | .int _, _ => by simp [PyData.hasDict]
  | .str _, _ => by simp [PyData.hasDict]
  | .list xs, h => by simpa [PyData.hasDict] using noDict_layAll (ds := xs) (by simpa [PyData.canLay0] using h)
  | .tuple xs, h => by simpa [PyData.hasDict] using noDict_layAll (ds := xs) (by simpa [PyData.canLay0] using h)
  | .dict _, h => by simp [PyData.canLay0] at h
theorem noDict_layAll : ∀ {ds : List D}, PyData.canLayAll0 ds = true → PyData.hasDictAll ds = false
  | [], _ => by simp [PyData.hasDictAll]
  | d :: ds, h => by
    simp only [PyData.canLayAll0, Bool.and_eq_true] at h
    simp [PyData.hasDictAll, noDict_lay h.1, noDict_layAll h.2]
end
theorem noDict_shaped {d : D} (h : SeqAt.shaped d = true) : d.hasDict = false := noDict_lay (SeqAt.canLay_of_shaped h)
end
def eqP (a b : D) : Option Bool := match a, b with
  | .int i, .int j => some (decide (i = j))
  | .str x, .str y => some (decide (x = y))
  | .bool x, .bool y => some (decide (x = y))
  | a, b => if SeqAt.shaped a = true ∧ SeqAt.shaped b = true then some (PyData.eqv a b) else none
def eqD : D → D → Option D := fun a b => match eqP a b with
  | some c => some (.bool c)
  | none => none
def neD : D → D → Option D := fun a b => match eqP a b with
  | some c => some (.bool (!c))
  | none => none
def rEqU (K : PySem.W.Frag) : R2 := fun x y H Q => rEq x y H Q ∨ rEqD K x y H Q
def rNeU (K : PySem.W.Frag) : R2 := fun x y H Q => rNe x y H Q ∨ rNeD K x y H Q
theorem op_eqU (hu : X.A.units + 64 < cLine) : OpR X (compareOp .Eq) (rEqU X.K) := opR_or op_eq (op_eqD hu)
theorem op_neU (hu : X.A.units + 64 < cLine) : OpR X (compareOp .NotEq) (rNeU X.K) := opR_or op_ne (op_neD hu)
theorem eqP_ok {N : Addr → Prop} {H : Hp} {x y : V} {a b : D} {c : Bool} (hx : Dn K H N x a) (hy : Dn K H N y b) (e : eqP a b = some c) : (scal x y = true ∧ decide (x = y) = c) ∨ (SeqAt.shaped a = true ∧ SeqAt.shaped b = true ∧ PyData.eqv a b = c) := by
  unfold eqP at e
  split at e
  · cases e; cases hx; cases hy; exact .inl ⟨rfl, by simp⟩
  · cases e; cases hx; cases hy; exact .inl ⟨rfl, by simp⟩
  · cases e; cases hx; cases hy; exact .inl ⟨rfl, by simp⟩
  · split at e
    · rename_i hs
      cases e
      exact .inr ⟨hs.1, hs.2, rfl⟩
    · cases e
theorem sr_eq : SimR2 K (rEqU K) eqD := by
  intro N H x y a b d Q hx hy e q
  unfold eqD at e
  split at e
  · rename_i c hc
    cases e
    rcases eqP_ok hx hy hc with ⟨h1, h2⟩ | ⟨h1, h2, h3⟩
    · exact .inl ⟨h1, by rw [h2]; exact q _ N H (New.refl N H) (.bl _)⟩
    · exact .inr ⟨a, b, hx.dp (noDict_shaped h1), hy.dp (noDict_shaped h2), h1, h2, by rw [h3]; exact q _ N H (New.refl N H) (.bl _)⟩
  · cases e
theorem sr_ne : SimR2 K (rNeU K) neD := by
  intro N H x y a b d Q hx hy e q
  unfold neD at e
  split at e
  · rename_i c hc
    cases e
    rcases eqP_ok hx hy hc with ⟨h1, h2⟩ | ⟨h1, h2, h3⟩
    · exact .inl ⟨h1, by rw [h2]; exact q _ N H (New.refl N H) (.bl _)⟩
    · exact .inr ⟨a, b, hx.dp (noDict_shaped h1), hy.dp (noDict_shaped h2), h1, h2, by rw [h3]; exact q _ N H (New.refl N H) (.bl _)⟩
  · cases e
@[simp] theorem eqP_int (i j : Int) : eqP (.int i) (.int j) = some (decide (i = j)) := rfl
@[simp] theorem eqP_str (i j : Str) : eqP (.str i) (.str j) = some (decide (i = j)) := rfl
@[simp] theorem eqD_int (i j : Int) : eqD (.int i) (.int j) = some (.bool (decide (i = j))) := rfl
@[simp] theorem neD_int (i j : Int) : neD (.int i) (.int j) = some (.bool (!decide (i = j))) := rfl
@[simp] theorem eqD_str (i j : Str) : eqD (.str i) (.str j) = some (.bool (decide (i = j))) := rfl
@[simp] theorem neD_str (i j : Str) : neD (.str i) (.str j) = some (.bool (!decide (i = j))) := rfl
def isND : D → D → Option D
  | .none, .none => some (.bool true)
  | _, .none => some (.bool false)
  | _, _ => none
def notND : D → D → Option D
  | .none, .none => some (.bool false)
  | _, .none => some (.bool true)
  | _, _ => none
@[simp] theorem isND_none : isND (.none) .none = some (.bool true) := rfl
@[simp] theorem isND_bool : isND (.bool b) .none = some (.bool false) := rfl
@[simp] theorem isND_int : isND (.int i) .none = some (.bool false) := rfl
@[simp] theorem isND_str : isND (.str s) .none = some (.bool false) := rfl
@[simp] theorem isND_list : isND (.list l) .none = some (.bool false) := rfl
@[simp] theorem isND_tuple : isND (.tuple l) .none = some (.bool false) := rfl
@[simp] theorem isND_dict : isND (.dict kv) .none = some (.bool false) := rfl
@[simp] theorem notND_none : notND (.none) .none = some (.bool false) := rfl
@[simp] theorem notND_bool : notND (.bool b) .none = some (.bool true) := rfl
@[simp] theorem notND_int : notND (.int i) .none = some (.bool true) := rfl
@[simp] theorem notND_str : notND (.str s) .none = some (.bool true) := rfl
@[simp] theorem notND_list : notND (.list l) .none = some (.bool true) := rfl
@[simp] theorem notND_tuple : notND (.tuple l) .none = some (.bool true) := rfl
@[simp] theorem notND_dict : notND (.dict kv) .none = some (.bool true) := rfl
theorem sr_isN : SimR2 K (fun x y H Q => y = .non ∧ Q (.bl (decide (x = .non))) H) isND := by
  intro N H x y a b d Q hx hy e q
  cases hy with
  | non =>
    refine ⟨rfl, ?_⟩
    cases hx <;> (simp only [isND] at e; cases e; exact q _ N H (New.refl N H) (.bl _))
  | _ => simp only [isND] at e; cases hx <;> cases e
/-! in -/
def flat1 : D → Bool
  | .none => true
  | .bool _ => true
  | .int _ => true
  | .str _ => true
  | _ => false
@[simp] theorem flat1_none : flat1 .none = true := rfl
@[simp] theorem flat1_bool (b : Bool) : flat1 (.bool b) = true := rfl
@[simp] theorem flat1_int (b : Int) : flat1 (.int b) = true := rfl
@[simp] theorem flat1_str (b : Str) : flat1 (.str b) = true := rfl
def inD (neg : Bool) : D → D → Option D := fun a b => match itemsD b with
  | some ds => if flat1 a && ds.all flat1 then some (.bool (if neg then !ds.any fun c => PyData.eqv c a else ds.any fun c => PyData.eqv c a)) else none
  | none => none
theorem Dn.flat1 {H : Hp} {N : Addr → Prop} {v : V} {d : D} (h : Dn K H N v d) (f : DL.flat1 d = true) : flatV v = true := by
  cases h <;> first | rfl | (simp [DL.flat1] at f)
theorem DnAll.flat1 {H : Hp} {N : Addr → Prop} : ∀ {vs : List V} {ds : List D}, DnAll K H N vs ds → ds.all DL.flat1 = true → vs.all flatV = true
  | _, _, .nil, _ => rfl
  | _, _, .cons a b, h => by
    simp only [List.all_cons, Bool.and_eq_true] at h ⊢
    exact ⟨Dn.flat1 a h.1, DnAll.flat1 b h.2⟩
theorem eqV_dn {H : Hp} {N : Addr → Prop} {v w : V} {d e : D} (h : Dn K H N v d) (k : Dn K H N w e) (f : DL.flat1 d = true) (g : DL.flat1 e = true) : eqV v w = PyData.eqv d e := by
  cases h <;> cases k <;> first | (simp [DL.flat1] at f; done) | (simp [DL.flat1] at g; done) | (simp [eqV, PyData.eqv]; done) | skip

theorem any_dn {H : Hp} {N : Addr → Prop} {x : V} {a : D} (hx : Dn K H N x a) (fa : DL.flat1 a = true) : ∀ {vs : List V} {ds : List D}, DnAll K H N vs ds → ds.all DL.flat1 = true → inV x vs = ds.any fun c => PyData.eqv c a
  | _, _, .nil, _ => rfl
  | _, _, .cons h t, f => by
    simp only [List.all_cons, Bool.and_eq_true] at f
    have ih := any_dn hx fa t f.2
    unfold inV at ih ⊢
    rw [List.any_cons, List.any_cons, eqV_dn h hx f.1 fa, ih]
theorem sr_in (neg : Bool) : SimR2 K (rIn K neg) (inD neg) := by
  intro N H x y a b d Q hx hy e q
  unfold inD at e
  split at e
  · rename_i ds hb
    split at e
    · rename_i hf
      rw [Bool.and_eq_true] at hf
      cases e
      cases hy with
      | lst h1 n1 d1 =>
        cases hb
        refine ⟨_, _, rfl, .inl (SqL.of h1), hx.flat1 hf.1, d1.flat1 hf.2, ?_⟩
        rw [any_dn hx hf.1 d1 hf.2]
        exact q _ N H (New.refl N H) (.bl _)
      | tup h1 d1 =>
        cases hb
        refine ⟨_, _, rfl, .inr h1, hx.flat1 hf.1, d1.flat1 hf.2, ?_⟩
        rw [any_dn hx hf.1 d1 hf.2]
        exact q _ N H (New.refl N H) (.bl _)
      | non => cases hb
      | bl _ => cases hb
      | int _ => cases hb
      | str _ => cases hb
      | dct _ => cases hb
    · cases e
  · cases e
/-! x[k] -/
def ixD : D → D → Option D := fun a b => match itemsD a, b with
  | some ds, .int k => atI ds k
  | _, _ => none
@[simp] theorem ixD_list (ds : List D) (k : Int) : ixD (.list ds) (.int k) = L2.atI ds k := rfl
@[simp] theorem ixD_tuple (ds : List D) (k : Int) : ixD (.tuple ds) (.int k) = L2.atI ds k := rfl
theorem DnAll.atI {H : Hp} {N : Addr → Prop} {vs : List V} {ds : List D} {k : Int} {d : D} (h : DnAll K H N vs ds) (e : L2.atI ds k = some d) : ∃ v, L2.atI vs k = some v ∧ Dn K H N v d := by
  unfold L2.atI at e ⊢
  rw [h.len]
  cases hj : ixN ds.length k with
  | none => rw [hj] at e; cases e
  | some j =>
    rw [hj] at e
    obtain ⟨v, hv, dv⟩ := h.at (i := j) e
    exact ⟨v, hv, dv⟩
theorem sr_ix : SimR2 K (rIx K) ixD := by
  intro N H x y a b d Q hx hy e q
  unfold ixD at e
  split at e
  · rename_i ds k ha
    cases hy
    cases hx with
    | lst h1 n1 d1 =>
      cases ha
      obtain ⟨v, hv, dv⟩ := d1.atI e
      exact .inl ⟨_, _, k, v, rfl, rfl, SqL.of h1, hv, q v N H (New.refl N H) dv⟩
    | tup h1 d1 =>
      cases ha
      obtain ⟨v, hv, dv⟩ := d1.atI e
      exact .inr (.inl ⟨_, _, k, v, rfl, rfl, h1, hv, q v N H (New.refl N H) dv⟩)
    | non => cases ha
    | bl _ => cases ha
    | int _ => cases ha
    | str _ => cases ha
    | dct _ => cases ha
  · cases e
/-! slices -/
def cutD (xs : List D) (lo hi : Option Int) : List D := (xs.drop (HT.sIx xs.length 0 lo)).take (HT.sIx xs.length xs.length hi - HT.sIx xs.length 0 lo)
theorem DnAll.cut {H : Hp} {N : Addr → Prop} {vs : List V} {ds : List D} (lo hi : Option Int) (h : DnAll K H N vs ds) : DnAll K H N (cutV vs lo hi) (cutD ds lo hi) := by
  unfold cutV cutD
  rw [h.len]
  exact (h.drop _).take _
abbrev MO := Ev → Option (Option Int × Ev)
def SimOp (K : PySem.W.Frag) (t : TO) (E : MO) : Prop := ∀ (N : Addr → Prop) (H : Hp) (σ : St) (ρ ρ' : Ev) (b : Option Int) (Q : Option Int → Hp → Prop), SlotsOk K N H σ ρ → E ρ = some (b, ρ') →
  (∀ (N' : Addr → Prop) (H' : Hp), Ex K σ N H ρ N' H' ρ' → Q b H') → t σ H Q
@[simp] def noO : MO := fun ρ => some (none, ρ)
@[simp] def someO (A : ME) : MO := fun ρ => match A ρ with
  | some (.int k, ρ1) => some (some k, ρ1)
  | _ => none
theorem simOp_none : SimOp K tNoPart noO := by
  intro N H σ ρ ρ' b Q ok e q
  cases e
  exact q N H (Ex.refl ok)
theorem simOp_some {t : TE} {A : ME} (ha : SimE K t A) : SimOp K (tPart t) (someO A) := by
  intro N H σ ρ ρ' b Q ok e q
  unfold someO at e
  split at e
  · rename_i k ρ1 h1
    cases e
    exact ha N H σ ρ _ _ _ ok h1 fun v N1 H1 x1 d1 => by cases d1; exact ⟨k, rfl, q N1 H1 x1⟩
  · cases e
/-- a list's or a tuple's slice -/
def rSlU (K : PySem.W.Frag) : V → Option Int → Option Int → Hp → VK → Prop := fun x lo hi H Q => rSlL K x lo hi H Q ∨ rSlT2 K x lo hi H Q
theorem sl_U : SlR X (rSlU X.K) := by
  intro pins s σ H x v vl vu lo hi sl Q I rx hs pl pu h
  rcases h with h | h
  · exact sl_list pins s σ H x v vl vu lo hi sl Q I rx hs pl pu h
  · exact sl_tup2 pins s σ H x v vl vu lo hi sl Q I rx hs pl pu h
@[simp] def slE (A : ME) (B C : MO) : ME := fun ρ => match A ρ with
  | some (a, ρ1) => match B ρ1 with
    | some (lo, ρ2) => match C ρ2 with
      | some (hi, ρ3) => match a with
        | .list ds => some (.list (cutD ds lo hi), ρ3)
        | .tuple ds => some (.tuple (cutD ds lo hi), ρ3)
        | _ => none
      | none => none
    | none => none
  | none => none
theorem cut_all {xs : List D} {vs : List V} {lo hi : Option Int} (hl : vs.length = xs.length) (h : cutV vs lo hi = vs) : cutD xs lo hi = xs := by
  have e : (cutV vs lo hi).length = vs.length := by rw [h]
  unfold cutV at e
  rw [List.length_take, List.length_drop] at e
  unfold cutD
  rw [hl] at e
  by_cases z : xs.length = 0
  · rw [List.length_eq_zero_iff] at z; subst z; simp
  · have h1 : HT.sIx xs.length 0 lo = 0 := by omega
    rw [h1] at e ⊢
    rw [List.drop_zero, List.take_of_length_le (by omega)]
theorem simE_sl {t : TE} {u w : TO} {A : ME} {B C : MO} (ha : SimE K t A) (hb : SimOp K u B) (hc : SimOp K w C) : SimE K (tSl (rSlU K) t u w) (slE A B C) := by
  intro N H σ ρ ρ' d Q ok e q
  unfold slE at e
  split at e
  · rename_i a ρ1 h1
    split at e
    · rename_i lo ρ2 h2
      split at e
      · rename_i hi ρ3 h3
        refine ha N H σ ρ _ _ _ ok h1 fun v N1 H1 x1 d1 => ?_
        refine hb N1 H1 σ _ _ _ _ x1.ok h2 fun N2 H2 x2 => ?_
        refine hc N2 H2 σ _ _ _ _ x2.ok h3 fun N3 H3 x3 => ?_
        have x := (x1.trans x2).trans x3
        have d3 : Dn K H3 N3 v a := x3.dn x2.ok (x2.dn x1.ok d1)
        split at e
        · cases e
          cases d3 with
          | lst l3 n3 a3 => exact .inl ⟨_, _, rfl, SqL.of l3, fun p hp => q _ _ _ (x.more (New.lst hp)) (.lst upd_same (.inr rfl) ((a3.cut lo hi).same (Same.new hp) fun _ z => .inl z))⟩
        · cases e
          cases d3 with
          | tup l3 a3 =>
            refine .inr ⟨_, _, rfl, l3, fun e => ?_, fun p hp => q _ _ _ (x.more (New.tup hp)) (.tup (SqT.of upd_same) ((a3.cut lo hi).same (Same.new hp) fun _ z => z))⟩
            exact q _ _ _ x (by rw [cut_all a3.len e]; exact .tup l3 a3)
        · cases e
      · cases e
    · cases e
  · cases e
/-! calls of built-ins -/
def lenD : List D → Option D
  | [.list ds] => some (.int ds.length)
  | [.tuple ds] => some (.int ds.length)
  | [.str x] => if x.length ≤ sizeLine then some (.int x.length) else none
  | _ => none
@[simp] theorem lenD_e1 : lenD [.list ds] = some (.int ds.length) := rfl
@[simp] theorem lenD_e2 : lenD [.tuple ds] = some (.int ds.length) := rfl
@[simp] theorem lenD_e3 : lenD [.str x] = if x.length ≤ sizeLine then some (.int x.length) else none := rfl
theorem sr_len : SimRL K (fun xs H Q => ∃ x n, xs = [x] ∧ LenV K x H n ∧ Q (.int n) H) lenD := by
  intro N H xs as d Q hx e q
  unfold lenD at e
  split at e
  · cases e
    cases hx with
    | cons h t =>
      cases t
      cases h with
      | lst h1 n1 d1 => exact ⟨_, _, rfl, .inl ⟨_, SqL.of h1, rfl⟩, by rw [d1.len]; exact q _ N H (New.refl N H) (.int _)⟩
  · cases e
    cases hx with
    | cons h t =>
      cases t
      cases h with
      | tup h1 d1 => exact ⟨_, _, rfl, .inr ⟨_, h1, rfl⟩, by rw [d1.len]; exact q _ N H (New.refl N H) (.int _)⟩
  · split at e
    · rename_i hz
      cases e
      cases hx with
      | cons h t => cases t; cases h; exact ⟨_, _, rfl, ⟨hz, rfl⟩, q _ N H (New.refl N H) (.int _)⟩
    · cases e
  · cases e
def tupleD : List D → Option D
  | [.list ds] => some (.tuple ds)
  | [.tuple ds] => some (.tuple ds)
  | _ => none
@[simp] theorem tupleD_e1 : tupleD [.list ds] = some (.tuple ds) := rfl
@[simp] theorem tupleD_e2 : tupleD [.tuple ds] = some (.tuple ds) := rfl
theorem sr_tuple : SimRL K (fun xs H Q => ∃ p ys, xs = [.ref p] ∧ ((SqL K H p ys ∧ ∀ l, H l = none → Q (.ref l) (upd H l (.tup ys))) ∨ (SqT K H p ys ∧ Q (.ref p) H))) tupleD := by
  intro N H xs as d Q hx e q
  unfold tupleD at e
  split at e
  · cases e
    cases hx with
    | cons h t =>
      cases t
      cases h with
      | lst h1 n1 d1 => exact ⟨_, _, rfl, .inl ⟨SqL.of h1, fun l hl => q _ _ _ (New.tup hl) (.tup (SqT.of upd_same) (d1.same (Same.new hl) fun _ z => z))⟩⟩
  · cases e
    cases hx with
    | cons h t =>
      cases t
      cases h with
      | tup h1 d1 => exact ⟨_, _, rfl, .inr ⟨h1, q _ N H (New.refl N H) (.tup h1 d1)⟩⟩
  · cases e
/-- a built-in that makes a list -/
def SimRLO (K : PySem.W.Frag) (r : List V → Hp → VK → Prop) (f : List D → Option (List D)) : Prop := ∀ (N : Addr → Prop) (H : Hp) (xs : List V) (as es : List D) (Q : VK), (∀ a, N a → H a ≠ none) → DnAll K H N xs as → f as = some es →
  (∀ a us N' H', New N H N' H' → H a = none → ¬ N' a → H' a = some (.lst us) → DnAll K H' N' us es → Q (.ref a) H') → r xs H Q
theorem simO_cb {r : List V → Hp → VK → Prop} {f : List D → Option (List D)} {ta : TA} {A : MA} (hr : SimRLO K r f) (ha : SimA K ta A) : SimO K (tCB r ta) (cbO f A) := by
  intro N H σ ρ ρ' d Q ok e q
  unfold cbO at e
  split at e
  · rename_i a ρ1 h1
    split at e
    · rename_i d' h3
      cases e
      refine ha N H σ ρ _ _ _ ok h1 fun x N1 H1 x1 d1 => ?_
      exact hr N1 H1 x a _ Q x1.ok.inn d1 h3 fun l us N' H' n hn nn hl z => q l us N' H' (x1.more n) (x1.dom l hn) nn hl z
    · cases e
  · cases e
def listD : List D → Option (List D)
  | [d] => itemsD d
  | _ => none
@[simp] theorem listD_one (d : D) : listD [d] = itemsD d := rfl
theorem sr_list : SimRLO K (fun xs H Q => ∃ p ys, xs = [.ref p] ∧ (SqL K H p ys ∨ SqT K H p ys) ∧ ∀ l, H l = none → Q (.ref l) (upd H l (.lst ys))) listD := by
  intro N H xs as d Q inn hx e q
  unfold listD at e
  split at e
  · cases hx with
    | cons h t =>
      cases t
      cases h with
      | lst h1 n1 d1 => cases e; exact ⟨_, _, rfl, .inl (SqL.of h1), fun l hl => q l _ N _ (New.obj hl) hl (fun z => inn l z hl) upd_same (d1.same (Same.new hl) fun _ z => z)⟩
      | tup h1 d1 => cases e; exact ⟨_, _, rfl, .inr h1, fun l hl => q l _ N _ (New.obj hl) hl (fun z => inn l z hl) upd_same (d1.same (Same.new hl) fun _ z => z)⟩
      | non => cases e
      | bl _ => cases e
      | int _ => cases e
      | str _ => cases e
      | dct _ => cases e
  · cases e
/-- a list of ints, of truths -/
def intsD : List D → Option (List Int)
  | [] => some []
  | .int i :: ds => match intsD ds with
    | some is => some (i :: is)
    | none => none
  | _ => none
@[simp] theorem intsD_nil : intsD [] = some [] := rfl
@[simp] theorem intsD_cons (i : Int) (ds : List D) : intsD (.int i :: ds) = match intsD ds with | some is => some (i :: is) | none => none := rfl
theorem intsD_eq : ∀ {ds : List D} {ns : List Int}, intsD ds = some ns → ds = ns.map .int
  | [], ns, e => by cases e; rfl
  | .int i :: ds, ns, e => by
    unfold intsD at e
    split at e
    · rename_i is h
      cases e
      rw [intsD_eq h]; rfl
    · cases e
  | .none :: _, _, e => by cases e
  | .bool _ :: _, _, e => by cases e
  | .str _ :: _, _, e => by cases e
  | .list _ :: _, _, e => by cases e
  | .tuple _ :: _, _, e => by cases e
  | .dict _ :: _, _, e => by cases e
@[simp] theorem intsD_map (ns : List Int) : intsD (ns.map .int) = some ns := by
  induction ns with
  | nil => rfl
  | cons n ns ih => show (match intsD (ns.map .int) with | some is => some (n :: is) | none => none) = _; rw [ih]
def boolsD : List D → Option (List Bool)
  | [] => some []
  | .bool i :: ds => match boolsD ds with
    | some is => some (i :: is)
    | none => none
  | _ => none
@[simp] theorem boolsD_nil : boolsD [] = some [] := rfl
@[simp] theorem boolsD_cons (i : Bool) (ds : List D) : boolsD (.bool i :: ds) = match boolsD ds with | some is => some (i :: is) | none => none := rfl
theorem boolsD_eq : ∀ {ds : List D} {ns : List Bool}, boolsD ds = some ns → ds = ns.map .bool
  | [], ns, e => by cases e; rfl
  | .bool i :: ds, ns, e => by
    unfold boolsD at e
    split at e
    · rename_i is h
      cases e
      rw [boolsD_eq h]; rfl
    · cases e
  | .none :: _, _, e => by cases e
  | .int _ :: _, _, e => by cases e
  | .str _ :: _, _, e => by cases e
  | .list _ :: _, _, e => by cases e
  | .tuple _ :: _, _, e => by cases e
  | .dict _ :: _, _, e => by cases e
@[simp] theorem boolsD_map (ns : List Bool) : boolsD (ns.map .bool) = some ns := by
  induction ns with
  | nil => rfl
  | cons n ns ih => show (match boolsD (ns.map .bool) with | some is => some (n :: is) | none => none) = _; rw [ih]
def allD : List D → Option D
  | [.list ds] => match boolsD ds with
    | some bs => some (.bool (bs.all id))
    | none => none
  | _ => none
@[simp] theorem allD_e1 : allD [.list ds] = match boolsD ds with
    | some bs => some (.bool (bs.all id))
    | none => none := rfl
theorem sr_all : SimRL K (rAll K) allD := by
  intro N H xs as d Q hx e q
  unfold allD at e
  split at e
  · split at e
    · rename_i bs hb
      cases e
      cases hx with
      | cons h t =>
        cases t
        cases h with
        | lst h1 n1 d1 =>
          rw [boolsD_eq hb] at d1
          have := d1.bools
          subst this
          exact ⟨_, bs, rfl, SqL.of h1, q _ N H (New.refl N H) (.bl _)⟩
    · cases e
  · cases e
def anyD : List D → Option D
  | [.list ds] => match boolsD ds with
    | some bs => some (.bool (bs.any id))
    | none => none
  | _ => none
@[simp] theorem anyD_e1 : anyD [.list ds] = match boolsD ds with
    | some bs => some (.bool (bs.any id))
    | none => none := rfl
def max2D : List D → Option D
  | [.int i, .int j] => some (.int (if j > i then j else i))
  | _ => none
@[simp] theorem max2D_e1 : max2D [.int i, .int j] = some (.int (if j > i then j else i)) := rfl
def min2D : List D → Option D
  | [.int i, .int j] => some (.int (if j < i then j else i))
  | _ => none
@[simp] theorem min2D_e1 : min2D [.int i, .int j] = some (.int (if j < i then j else i)) := rfl
theorem sr_max2 : SimRL K (fun xs H Q => ∃ i j, xs = [.int i, .int j] ∧ Q (.int (if j > i then j else i)) H) max2D := by
  intro N H xs as d Q hx e q
  unfold max2D at e
  split at e
  · rename_i i j
    cases e
    have : xs = [.int i, .int j] := DnAll.ints (ns := [i, j]) hx
    subst this
    exact ⟨i, j, rfl, q _ N H (New.refl N H) (.int _)⟩
  · cases e
theorem sr_min2 : SimRL K (fun xs H Q => ∃ i j, xs = [.int i, .int j] ∧ Q (.int (if j < i then j else i)) H) min2D := by
  intro N H xs as d Q hx e q
  unfold min2D at e
  split at e
  · rename_i i j
    cases e
    have : xs = [.int i, .int j] := DnAll.ints (ns := [i, j]) hx
    subst this
    exact ⟨i, j, rfl, q _ N H (New.refl N H) (.int _)⟩
  · cases e
def absD : List D → Option D
  | [.int i] => some (.int (if i < 0 then -i else i))
  | _ => none
@[simp] theorem absD_e1 : absD [.int i] = some (.int (if i < 0 then -i else i)) := rfl
theorem sr_abs : SimRL K (fun xs H Q => ∃ i, xs = [.int i] ∧ Q (.int (if i < 0 then -i else i)) H) absD := by
  intro N H xs as d Q hx e q
  unfold absD at e
  split at e
  · rename_i i
    cases e
    have : xs = [.int i] := DnAll.ints (ns := [i]) hx
    subst this
    exact ⟨i, rfl, q _ N H (New.refl N H) (.int _)⟩
  · cases e
def int1D : List D → Option D
  | [.int i] => some (.int i)
  | [.bool b] => some (.int (if b then 1 else 0))
  | _ => none
@[simp] theorem int1D_e1 : int1D [.int i] = some (.int i) := rfl
@[simp] theorem int1D_e2 : int1D [.bool b] = some (.int (if b then 1 else 0)) := rfl
theorem sr_int1 : SimRL K (fun xs H Q => (∃ i, xs = [.int i] ∧ Q (.int i) H) ∨ ∃ k, xs = [.bl k] ∧ Q (.int (if k then 1 else 0)) H) int1D := by
  intro N H xs as d Q hx e q
  unfold int1D at e
  split at e
  · rename_i i
    cases e
    have : xs = [.int i] := DnAll.ints (ns := [i]) hx
    subst this
    exact .inl ⟨i, rfl, q _ N H (New.refl N H) (.int _)⟩
  · rename_i i
    cases e
    have : xs = [.bl i] := DnAll.bools (ns := [i]) hx
    subst this
    exact .inr ⟨i, rfl, q _ N H (New.refl N H) (.int _)⟩
  · cases e
/-! isinstance(x, T) -/
def isiD (T : String) : D → Option D := fun d => some (.bool (match d with
  | .none => T == "NoneType"
  | .bool _ => T == "int" || T == "bool"
  | .int _ => T == "int"
  | .str _ => T == "str"
  | .list _ => T == "list"
  | .tuple _ => T == "tuple"
  | .dict _ => T == "dict"))
end
end DL

set_option Elab.async false
set_option linter.all false
set_option maxRecDepth 100000
set_option maxHeartbeats 1000000
namespace DL
open PySem L2
section
variable {X : Cx} {K : PySem.W.Frag}
/-! isinstance(x, T) of data -/
def tyOf : D → String
  | .none => "NoneType"
  | .bool _ => "bool"
  | .int _ => "int"
  | .str _ => "str"
  | .list _ => "list"
  | .tuple _ => "tuple"
  | .dict _ => "dict"
def rIsi (K : PySem.W.Frag) : List V → Hp → VK → Prop := fun xs H Q => ∃ N v d T b, xs = [v, .ty T] ∧ Dn K H N v d ∧ PySem.W.kitOne K (.type (tyOf d)) (.type T) = some b ∧ Q (.bl b) H
theorem cr_isiD : CallR X (.builtin "isinstance") (rIsi X.K) := by
  intro pins s σ H xs us Q I r h
  obtain ⟨N, v, d, T, b, rfl, hd, e, q⟩ := h
  cases r with
  | cons r1 rt =>
    cases rt with
    | cons r2 rn =>
      cases rn
      cases r2
      have fin : ∀ tk, EP X pins σ Q (.bool b) { s with toks := tk } := fun tk => ⟨.bl b, H, I.tok tk, rfl, q⟩
      cases hd with
      | non => exact isinst_ok I r1 .non e fin
      | bl b => exact isinst_ok I r1 (.bl _) e fin
      | int b => exact isinst_ok I r1 (.int _) e fin
      | str b => exact isinst_ok I r1 (.str _) e fin
      | lst hs _ _ => exact isinst_ok I r1 (.lst hs) e fin
      | tup hs _ =>
        cases r1
        obtain ⟨its, rv, ⟨o, ho, hc, _⟩, _⟩ := I.tuple hs
        exact PySem.W.kia_one PySem.W.kitx_tuple I.kIn ⟨o, ho, hc⟩ e (fun z => nomatch z) fin
      | @dct a ob es hs =>
        cases r1
        obtain ⟨_, _, _, vs, _, p⟩ := (show ObjOk X.prog X.w H s.heap a (.frz ob (.dK (es.map kvI))) from I.hok a _ hs)
        obtain ⟨o, _, _, h1, h2, _⟩ := p
        exact PySem.W.kia_one PySem.W.kitx_dict I.kIn ⟨o, h1, h2.1⟩ e (fun z => nomatch z) fin
theorem kit_int (K : PySem.W.Frag) (d : D) : PySem.W.kitOne K (.type (tyOf d)) (.type "int") = some (match d with | .int _ => true | .bool _ => true | _ => false) := by cases d <;> rfl
theorem kit_bool (K : PySem.W.Frag) (d : D) : PySem.W.kitOne K (.type (tyOf d)) (.type "bool") = some (match d with | .bool _ => true | _ => false) := by cases d <;> rfl
theorem kit_tuple (K : PySem.W.Frag) (d : D) : PySem.W.kitOne K (.type (tyOf d)) (.type "tuple") = some (match d with | .tuple _ => true | _ => false) := by cases d <;> rfl
def isInt : D → Bool | .int _ => true | .bool _ => true | _ => false
@[simp] theorem isInt_none : isInt (.none) = false := rfl
@[simp] theorem isInt_bool : isInt (.bool b) = true := rfl
@[simp] theorem isInt_int : isInt (.int i) = true := rfl
@[simp] theorem isInt_str : isInt (.str s) = false := rfl
@[simp] theorem isInt_list : isInt (.list l) = false := rfl
@[simp] theorem isInt_tuple : isInt (.tuple l) = false := rfl
@[simp] theorem isInt_dict : isInt (.dict kv) = false := rfl
def isBool : D → Bool | .bool _ => true | _ => false
@[simp] theorem isBool_none : isBool (.none) = false := rfl
@[simp] theorem isBool_bool : isBool (.bool b) = true := rfl
@[simp] theorem isBool_int : isBool (.int i) = false := rfl
@[simp] theorem isBool_str : isBool (.str s) = false := rfl
@[simp] theorem isBool_list : isBool (.list l) = false := rfl
@[simp] theorem isBool_tuple : isBool (.tuple l) = false := rfl
@[simp] theorem isBool_dict : isBool (.dict kv) = false := rfl
def isStr : D → Bool | .str _ => true | _ => false
@[simp] theorem isStr_none : isStr (.none) = false := rfl
@[simp] theorem isStr_bool : isStr (.bool b) = false := rfl
@[simp] theorem isStr_int : isStr (.int i) = false := rfl
@[simp] theorem isStr_str : isStr (.str s) = true := rfl
@[simp] theorem isStr_list : isStr (.list l) = false := rfl
@[simp] theorem isStr_tuple : isStr (.tuple l) = false := rfl
@[simp] theorem isStr_dict : isStr (.dict kv) = false := rfl
def isTup : D → Bool | .tuple _ => true | _ => false
@[simp] theorem isTup_none : isTup (.none) = false := rfl
@[simp] theorem isTup_bool : isTup (.bool b) = false := rfl
@[simp] theorem isTup_int : isTup (.int i) = false := rfl
@[simp] theorem isTup_str : isTup (.str s) = false := rfl
@[simp] theorem isTup_list : isTup (.list l) = false := rfl
@[simp] theorem isTup_tuple : isTup (.tuple l) = true := rfl
@[simp] theorem isTup_dict : isTup (.dict kv) = false := rfl
def isLst : D → Bool | .list _ => true | _ => false
@[simp] theorem isLst_none : isLst (.none) = false := rfl
@[simp] theorem isLst_bool : isLst (.bool b) = false := rfl
@[simp] theorem isLst_int : isLst (.int i) = false := rfl
@[simp] theorem isLst_str : isLst (.str s) = false := rfl
@[simp] theorem isLst_list : isLst (.list l) = true := rfl
@[simp] theorem isLst_tuple : isLst (.tuple l) = false := rfl
@[simp] theorem isLst_dict : isLst (.dict kv) = false := rfl
theorem simE_isi {T : String} {f : D → Bool} (hf : ∀ d, PySem.W.kitOne K (.type (tyOf d)) (.type T) = some (f d)) {t : TE} {A : ME} (ha : SimE K t A) : SimE K (tCB (rIsi K) (tCons t (tCons (tC (.ty T)) tNil))) (op1E (fun d => some (.bool (f d))) A) := by
  intro N H σ ρ ρ' d Q ok e q
  unfold op1E at e
  split at e
  · rename_i a ρ1 h1
    cases e
    refine ha N H σ ρ _ _ _ ok h1 fun x N1 H1 x1 d1 => ?_
    exact ⟨_, x, a, T, f a, rfl, d1, hf a, q _ N1 H1 x1 (.bl _)⟩
  · cases e
/-! repr -/
section
variable {pins : List (Addr × Obj)} {σ : St} {H : Hp} {s : Shared} {N : Addr → Prop}
theorem not_sys (I : Inv X pins σ H s) {a : Addr} {o : HO} (e : H a = some o) : a ≠ sysModules := fun z => by
  obtain ⟨ob, h⟩ := I.mod.sys
  have := (I.bs _ _ h).2
  rw [← z, e] at this; cases this
theorem reads_ints {h : Heap} {P : Program} {w : World} : ∀ {es : List (Int × Int)} {vs : List (Key × Value)} {xs : List DictEntry}, KV (es.map kvI) vs → Pairs (mixKind P w) xs vs →
    ReadsAll h (xs.map (·.key)) (es.map fun p => .int p.1) [] ∧ ReadsAll h (xs.map (·.val)) (es.map fun p => .int p.2) []
  | [], _, _, .nil, .nil => ⟨.nil, .nil⟩
  | p :: es, _, _, .cons r rs, .cons q1 q2 qs => by
    obtain ⟨h1, tk, h2⟩ := r
    obtain ⟨i1, i2⟩ := reads_ints rs qs
    rw [← h1] at q1
    obtain ⟨tk2, e2⟩ := Value.isInt_shape (k := p.1) q1
    refine ⟨?_, ?_⟩
    · rw [List.map_cons, List.map_cons, e2]; exact .cons (as := []) (bs := []) (.int _ tk2) i1
    · rw [List.map_cons, List.map_cons, q2, h2]; exact .cons (as := []) (bs := []) (.int _ tk) i2
mutual
theorem Dn.reads (I : Inv X pins σ H s) : ∀ {v : V} {d : D} {u : Value}, Dn X.K H N v d → RelV v u → ∃ as, Reads s.heap u d as ∧ sysModules ∉ as
  | _, _, _, .non, r => by cases r; exact ⟨_, .none, by simp⟩
  | _, _, _, .bl b, r => by cases r; exact ⟨_, .bool b, by simp⟩
  | _, _, _, .int i, r => by obtain ⟨t, rfl⟩ := r; exact ⟨_, .int i t, by simp⟩
  | _, _, _, .str x, r => by obtain ⟨t, rfl⟩ := r; exact ⟨_, .str x t, by simp⟩
  | _, _, _, .lst (a := a) e _ q, r => by
    cases r
    obtain ⟨its, rv, ⟨o, n, ho, hc, _, hd⟩, _⟩ := I.list (SqL.of e)
    obtain ⟨as, hr, hn⟩ := DnAll.reads I q rv
    refine ⟨_, Reads.list ho hc hd hr, ?_⟩
    rw [List.mem_cons, not_or]
    exact ⟨fun z => not_sys I e z.symm, hn⟩
  | _, _, _, .tup e q, r => by
    cases r
    obtain ⟨its, rv, ⟨o, ho, hc, n, hd⟩, _⟩ := I.tuple e
    obtain ⟨as, hr, hn⟩ := DnAll.reads I q rv
    exact ⟨_, Reads.tuple ho hc hd hr, hn⟩
  | _, _, _, .dct (a := a) (o := ob) (es := es) e, r => by
    cases r
    obtain ⟨_, _, hsm, vs, rel, o, xs, ep, h1, h2, h3, _, h5, _⟩ := (show ObjOk X.prog X.w H s.heap a (.frz ob (.dK (es.map kvI))) from I.hok a _ e)
    obtain ⟨i1, i2⟩ := reads_ints (h := s.heap) rel h5
    refine ⟨_, Reads.dict (kvs := es.map dI) h1 h2.1 h3 (as := []) (bs := []) (by rw [List.map_map]; exact i1) (by rw [List.map_map]; exact i2), ?_⟩
    simp only [List.append_nil, List.mem_singleton]
    exact fun z => by rw [← z] at hsm; simp at hsm
theorem DnAll.reads (I : Inv X pins σ H s) : ∀ {vs : List V} {ds : List D} {us : List Value}, DnAll X.K H N vs ds → Vals vs us → ∃ as, ReadsAll s.heap us ds as ∧ sysModules ∉ as
  | _, _, _, .nil, r => by cases r; exact ⟨_, .nil, by simp⟩
  | _, _, _, .cons a b, r => by
    cases r with
    | cons r1 r2 =>
      obtain ⟨as, q1, n1⟩ := Dn.reads I a r1
      obtain ⟨bs, q2, n2⟩ := DnAll.reads I b r2
      exact ⟨_, .cons q1 q2, by rw [List.mem_append, not_or]; exact ⟨n1, n2⟩⟩
end
end
def rRepr (K : PySem.W.Frag) : List V → Hp → VK → Prop := fun xs H Q => ∃ (N : Addr → Prop) (v : V) (d : D), xs = [v] ∧ Dn K H N v d ∧ d.showable = true ∧ d.depth ≤ 60 ∧ d.shown.length ≤ sizeLine ∧ Q (.str d.shown) H
theorem cr_reprD {k : Nat} (hr : Room k X.A) : CallR X (.builtin "repr") (rRepr X.K) := by
  intro pins s σ H xs us Q I r h
  obtain ⟨N, v, d, rfl, hd, hs, hdep, hsz, q⟩ := h
  obtain ⟨u, rfl, rx⟩ := vals1 r
  obtain ⟨as, rd, hn⟩ := Dn.reads I hd rx
  have hu := hr.un
  have far : ∀ a, v = .ref a → wpAny (model X.prog X.w) X.A (call (.builtin "repr") [u]) (EP X pins σ Q) X.xe s := fun a e => by
    subst e
    cases rx
    exact repr_of_reads' rd hs (fun _ => hn) hr.gd (by omega) (fun _ _ e => e) (fun h' u tk kp => ⟨.str d.shown, H, I.kept kp, ⟨u, rfl⟩, q⟩) hsz
  cases hd with
  | non => cases rx; simp only [PyData.shown] at q; exact PySem.P.repr_of_none ⟨.str _, H, I.tok _, ⟨_, rfl⟩, q⟩
  | bl b => cases rx; simp only [PyData.shown] at q; exact PySem.P.repr_of_bool ⟨.str _, H, I.tok _, ⟨_, rfl⟩, q⟩
  | int i => obtain ⟨t, rfl⟩ := rx; simp only [PyData.shown] at q; exact PySem.P.repr_of_int (by simpa [PyData.showable] using hs) ⟨.str _, H, I.tok _, ⟨_, rfl⟩, q⟩
  | str x => obtain ⟨t, rfl⟩ := rx; simp only [PyData.shown] at q hsz; exact PySem.P.repr_of_str ⟨.str _, H, I.tok _, ⟨_, rfl⟩, q⟩ hsz
  | lst _ _ _ => exact far _ rfl
  | tup _ _ => exact far _ rfl
  | dct _ => exact far _ rfl
/-- data that repr tells -/
def shows (d : D) : Bool := d.showable && decide (d.depth ≤ 60) && decide (d.shown.length ≤ sizeLine)
def reprD : List D → Option D
  | [d] => if shows d then some (.str d.shown) else none
  | _ => none
@[simp] theorem reprD_e1 : reprD [d] = if shows d then some (.str d.shown) else none := rfl
theorem sr_repr : SimRL K (rRepr K) reprD := by
  intro N H xs as d Q hx e q
  unfold reprD at e
  split at e
  · split at e
    · rename_i hs
      cases e
      cases hx with
      | cons h t =>
        cases t
        unfold shows at hs
        simp only [Bool.and_eq_true, decide_eq_true_eq] at hs
        exact ⟨_, _, _, rfl, h, hs.1.1, hs.1.2, hs.2, q _ N H (New.refl N H) (.str _)⟩
    · cases e
  · cases e
/-! sum of a list or tuple of ints -/
section
open PySem.Spec PyProof.Rows
variable {prog : Program} {w : World} {A : Around} {E : Value → Shared → Prop} {s : Shared} {l : Addr} {its : List Value} {ns : List Int} {Q : Value → Shared → Prop}
end
def rSumU (K : PySem.W.Frag) : List V → Hp → VK → Prop := fun vs H Q => ∃ (a : Addr) (ns : List Int), vs = [V.ref a] ∧ (SqL K H a (ns.map V.int) ∨ SqT K H a (ns.map V.int)) ∧ Q (.int ns.sum) H
def sumD : List D → Option D
  | [d] => match itemsD d with
    | some ds => match intsD ds with
      | some ns => some (.int ns.sum)
      | none => none
    | none => none
  | _ => none
@[simp] theorem sumD_e1 : sumD [d] = match itemsD d with
    | some ds => match intsD ds with
      | some ns => some (.int ns.sum)
      | none => none
    | none => none := rfl
/-! sorted, max, min of a list of ints -/
def insI (x : Int) : List Int → List Int
  | [] => [x]
  | y :: ys => if x ≤ y then x :: y :: ys else y :: insI x ys
def sortI (ns : List Int) : List Int := ns.foldr insI []
def sortedD : List D → Option (List D)
  | [.list ds] => match intsD ds with
    | some ns => if ns.length < 64 then some ((sortI ns).map .int) else none
    | none => none
  | _ => none
@[simp] theorem sortedD_e1 : sortedD [.list ds] = match intsD ds with
    | some ns => if ns.length < 64 then some ((sortI ns).map .int) else none
    | none => none := rfl
def maxLD : List D → Option D
  | [.list ds] => match intsD ds with
    | some (n :: ns) => some (.int (ns.foldl max n))
    | _ => none
  | _ => none
@[simp] theorem maxLD_e1 : maxLD [.list ds] = match intsD ds with
    | some (n :: ns) => some (.int (ns.foldl max n))
    | _ => none := rfl
def minLD : List D → Option D
  | [.list ds] => match intsD ds with
    | some (n :: ns) => some (.int (ns.foldl min n))
    | _ => none
  | _ => none
@[simp] theorem minLD_e1 : minLD [.list ds] = match intsD ds with
    | some (n :: ns) => some (.int (ns.foldl min n))
    | _ => none := rfl
/-! sorted(set(xs)) -/
def insS (x : Int) : List Int → List Int
  | [] => [x]
  | y :: ys => if x < y then x :: y :: ys else if x = y then y :: ys else y :: insS x ys
def sset (ns : List Int) : List Int := ns.foldr insS []
@[simp] def ssA (A : ME) : MA := fun ρ => match A ρ with
  | some (.list ds, ρ1) => match intsD ds with
    | some ns => if ns.length < 64 then some ((sset ns).map .int, ρ1) else none
    | none => none
  | _ => none
/-! methods that read -/
@[simp] def bmE (f : D → List D → Option D) (A : ME) (B : MA) : ME := fun ρ => match A ρ with
  | some (a, ρ1) => match B ρ1 with
    | some (bs, ρ2) => match f a bs with
      | some d => some (d, ρ2)
      | none => none
    | none => none
  | none => none
def listOnly (f : D → List D → Option D) : D → List D → Option D
  | .list ds, bs => f (.list ds) bs
  | _, _ => none
@[simp] def lstE (A : ME) : ME := fun ρ => match A ρ with
  | some (.list ds, ρ1) => some (.list ds, ρ1)
  | _ => none
def countD : D → List D → Option D
  | .list ds, [a] => if flat1 a && ds.all flat1 then some (.int (ds.countP fun c => PyData.eqv c a : Nat)) else none
  | _, _ => none
@[simp] theorem countD_e1 : countD (.list ds) [a] = if flat1 a && ds.all flat1 then some (.int (ds.countP fun c => PyData.eqv c a : Nat)) else none := rfl
theorem count_dn {H : Hp} {N : Addr → Prop} {x : V} {a : D} (hx : Dn K H N x a) (fa : DL.flat1 a = true) : ∀ {vs : List V} {ds : List D}, DnAll K H N vs ds → ds.all DL.flat1 = true → vs.countP (fun z => eqV z x) = ds.countP fun c => PyData.eqv c a
  | _, _, .nil, _ => rfl
  | _, _, .cons h t, f => by
    simp only [List.all_cons, Bool.and_eq_true] at f
    rw [List.countP_cons, List.countP_cons, count_dn hx fa t f.2, eqV_dn h hx f.1 fa]
def negD : D → Option D
  | .int i => some (.int (-i))
  | _ => none
@[simp] theorem negD_e1 : negD (.int i) = some (.int (-i)) := rfl
theorem sr_neg : SimR1 K (rU fun i => .int (-i)) negD := by
  intro N H x a d Q hx e q
  unfold negD at e
  split at e
  · cases e; cases hx; exact ⟨_, rfl, q _ N H (New.refl N H) (.int _)⟩
  · cases e
/-! the rules with the written part named -/
theorem kAdd (hK : X.K = K) : OpR X (binaryOp .Add) (rAddU K) := hK ▸ op_addU
theorem kEq (hK : X.K = K) {k : Nat} (hr : Room k X.A) : OpR X (compareOp .Eq) (rEqU K) := hK ▸ op_eqU hr.units
theorem kNe (hK : X.K = K) {k : Nat} (hr : Room k X.A) : OpR X (compareOp .NotEq) (rNeU K) := hK ▸ op_neU hr.units
theorem kIn (hK : X.K = K) : OpR X (compareOp .In) (rIn K false) := hK ▸ op_in_seq
theorem kIx (hK : X.K = K) : IxR X (rIx K) := hK ▸ ix_seq
theorem kSl (hK : X.K = K) : SlR X (rSlU K) := hK ▸ sl_U
theorem kLen (hK : X.K = K) : CallR X (.builtin "len") (fun xs H Q => ∃ x n, xs = [x] ∧ LenV K x H n ∧ Q (.int n) H) := hK ▸ call_len
theorem kTuple (hK : X.K = K) : CallR X (.type "tuple") (fun xs H Q => ∃ p ys, xs = [.ref p] ∧ ((SqL K H p ys ∧ ∀ l, H l = none → Q (.ref l) (upd H l (.tup ys))) ∨ (SqT K H p ys ∧ Q (.ref p) H))) := hK ▸ call_tuple_of
theorem kList (hK : X.K = K) : CallR X (.type "list") (fun xs H Q => ∃ p ys, xs = [.ref p] ∧ (SqL K H p ys ∨ SqT K H p ys) ∧ ∀ l, H l = none → Q (.ref l) (upd H l (.lst ys))) := hK ▸ call_list_of
theorem kAll (hK : X.K = K) (hc : X.calm = true) : CallR X (.builtin "all") (rAll K) := hK ▸ cr_all hc
theorem kIsi (hK : X.K = K) : CallR X (.builtin "isinstance") (rIsi K) := hK ▸ cr_isiD
theorem kRepr (hK : X.K = K) {k : Nat} (hr : Room k X.A) : CallR X (.builtin "repr") (rRepr K) := hK ▸ cr_reprD hr
theorem kBM (hK : X.K = K) {E : Expr} {T : String} {r : V → List V → Hp → VK → Prop} {to : TE} {t : TA} (h : PE X E (tBM X.K T r to t)) : PE X E (tBM K T r to t) := hK ▸ h
theorem kPgTup {es : List Expr} {kk : Nat} {pos : Pos} {n : Nat} {t : TGs} (hK : X.K = K) (h : PG X (.Tuple es kk pos) (gTup X.K n t)) : PG X (.Tuple es kk pos) (gTup K n t) := hK ▸ h
end
end DL

set_option Elab.async false
set_option linter.all false
set_option maxRecDepth 100000
set_option maxHeartbeats 1000000
namespace DL
open PySem L2
/-! over data alone: how loops and comprehensions are reckoned -/
theorem sizeLine_val : sizeLine = 16777216 := by decide
theorem ixN_nat {n j : Nat} (h : j < n) : ixN n (j : Int) = some j := by
  unfold ixN
  rw [if_pos (by omega), if_pos (by omega)]; simp
theorem atI_at {α : Type} {xs : List α} {j : Nat} (h : j < xs.length) : atI xs (j : Int) = some xs[j] := by
  unfold atI; rw [ixN_nat h]; simp [h]
/-- an item at a drawn place -/
theorem atI_in {α : Type} {xs : List α} {k : Int} (h0 : 0 ≤ k) (h1 : k < xs.length) : ∃ x, atI xs k = some x ∧ x ∈ xs := by
  obtain ⟨j, rfl⟩ : ∃ j : Nat, k = j := ⟨k.toNat, by omega⟩
  have h : j < xs.length := by omega
  exact ⟨xs[j], atI_at h, List.getElem_mem h⟩
theorem mulG_l {i j : Int} (h : i.natAbs < 2 ^ 64) : mulG i j = true := by
  have : Builtin.Int.intBits i ≤ 64 := intBits_le_64 (by omega) (by omega)
  unfold mulG; simp [this]
theorem mulG_r {i j : Int} (h : j.natAbs < 2 ^ 64) : mulG i j = true := by
  have : Builtin.Int.intBits j ≤ 64 := intBits_le_64 (by omega) (by omega)
  unfold mulG; simp [this]
theorem divG_small {j : Int} (h0 : j ≠ 0) (h : j.natAbs < 2 ^ 64) : divG j = true := by
  have : j.natAbs.log2 < 64 := by
    have hp : j.natAbs ≠ 0 := by omega
    exact (Nat.log2_lt hp).mpr h
  simp [divG, h0]; omega
/-- one turn of a comprehension -/
@[simp] def lcStep (G : MG) (C : MT) (E : ME) (vs : List Nat) (d : D) (ρ : Ev) : Option (Option D × Ev) := match G d ρ with
  | some ρ1 => match C ρ1 with
    | some (true, ρ2) => match E ρ2 with
      | some (x, ρ3) => some (some x, setL ρ3 vs fun _ => .non)
      | none => none
    | some (false, ρ2) => some (none, setL ρ2 vs fun _ => .non)
    | none => none
  | none => none
theorem lcL_step {G : MG} {C : MT} {E : ME} {vs : List Nat} {d : D} {ds acc : List D} {ρ : Ev} : lcL G C E vs (d :: ds) ρ acc = match lcStep G C E vs d ρ with
    | some (o, ρ') => lcL G C E vs ds ρ' (acc ++ o.toList)
    | none => none := by
  conv => lhs; unfold lcL
  unfold lcStep
  cases h1 : G d ρ with
  | none => rfl
  | some ρ1 =>
    simp only
    cases h2 : C ρ1 with
    | none => rfl
    | some c =>
      obtain ⟨b, ρ2⟩ := c
      cases b with
      | false => simp
      | true =>
        simp only
        cases h3 : E ρ2 with
        | none => rfl
        | some c => rfl
theorem lcL_cons {G : MG} {C : MT} {E : ME} {vs : List Nat} {d : D} {ds acc : List D} {ρ ρ' : Ev} {o : Option D} (h : lcStep G C E vs d ρ = some (o, ρ')) : lcL G C E vs (d :: ds) ρ acc = lcL G C E vs ds ρ' (acc ++ o.toList) := by
  rw [lcL_step, h]
theorem lcL_opt {α : Type} {G : MG} {C : MT} {E : ME} {vs : List Nat} (enc : α → D) (ρ : Ev) (f : α → Option D) : ∀ (xs : List α) (acc : List D), (∀ x ∈ xs, lcStep G C E vs (enc x) ρ = some (f x, ρ)) → lcL G C E vs (xs.map enc) ρ acc = some (acc ++ xs.filterMap f, ρ)
  | [], acc, _ => by simp [lcL]
  | x :: xs, acc, h => by
    rw [List.map_cons, lcL_cons (h x (List.mem_cons_self ..)), lcL_opt enc ρ f xs _ fun y hy => h y (List.mem_cons_of_mem _ hy)]
    cases hf : f x with
    | none => simp [hf]
    | some y => simp [hf]
theorem filterMap_if {α β : Type} (p : α → Bool) (g : α → β) : ∀ xs : List α, xs.filterMap (fun x => if p x then some (g x) else none) = (xs.filter p).map g
  | [] => rfl
  | x :: xs => by
    have ih := filterMap_if p g xs
    by_cases hp : p x = true
    · simp [hp, ih]
    · simp [hp, ih]
/-- one turn of a loop that goes on -/
@[simp] def turn (G : MG) (S : MS) (vs : List Nat) (d : D) (ρ : Ev) : Option Ev := match G d ρ with
  | some ρ1 => match S ρ1 with
    | some (.nx, ρ2) => some (wipL ρ2 vs)
    | some (.ct, ρ2) => some (wipL ρ2 vs)
    | _ => none
  | none => none
theorem forL_eq {G : MG} {S : MS} {vs : List Nat} {d : D} {ds : List D} {ρ : Ev} : forL G S vs (d :: ds) ρ = match G d (wipL ρ vs) with
    | some ρ1 => match S ρ1 with
      | some (.nx, ρ2) => forL G S vs ds ρ2
      | some (.ct, ρ2) => forL G S vs ds ρ2
      | some (.bk, ρ2) => some (.nx, wipL ρ2 vs)
      | some (.rt d, ρ2) => some (.rt d, ρ2)
      | some (.ro d, ρ2) => some (.ro d, ρ2)
      | none => none
    | none => none := rfl
theorem forL_cons {G : MG} {S : MS} {vs : List Nat} {d : D} {ds : List D} {ρ ρ' : Ev} (h : turn G S vs d (wipL ρ vs) = some ρ') : ∃ ρ2, wipL ρ2 vs = ρ' ∧ forL G S vs (d :: ds) ρ = forL G S vs ds ρ2 := by
  unfold turn at h
  split at h
  · rename_i ρ1 h1
    split at h
    · rename_i ρ2 h2
      cases h
      exact ⟨ρ2, rfl, by rw [forL_eq, h1]; simp only [h2]⟩
    · rename_i ρ2 h2
      cases h
      exact ⟨ρ2, rfl, by rw [forL_eq, h1]; simp only [h2]⟩
    · cases h
  · cases h
theorem forL_of {α β : Type} {G : MG} {S : MS} {vs : List Nat} (enc : α → D) (env : β → Ev) (f : β → α → β) (P : β → Prop) : ∀ (xs : List α) (b : β) (ρ : Ev), wipL ρ vs = env b → P b → (∀ b x, x ∈ xs → P b → turn G S vs (enc x) (env b) = some (env (f b x)) ∧ P (f b x)) →
    forL G S vs (xs.map enc) ρ = some (.nx, env (xs.foldl f b)) ∧ P (xs.foldl f b)
  | [], b, ρ, h0, hp, _ => ⟨by rw [List.map_nil]; unfold forL; rw [h0]; rfl, hp⟩
  | x :: xs, b, ρ, h0, hp, h => by
    obtain ⟨h1, h2⟩ := h b x (List.mem_cons_self ..) hp
    rw [← h0] at h1
    obtain ⟨ρ2, h3, h4⟩ := forL_cons (ds := xs.map enc) h1
    obtain ⟨h5, h6⟩ := forL_of enc env f P xs (f b x) ρ2 h3 h2 fun b y hy => h b y (List.mem_cons_of_mem _ hy)
    exact ⟨by rw [List.map_cons, h4, h5]; rfl, h6⟩
/-- a loop by an invariant of the slots -/
theorem forL_all {α : Type} {G : MG} {S : MS} {vs : List Nat} (enc : α → D) (I : Nat → Ev → Prop) : ∀ (xs : List α) (i : Nat) (ρ : Ev), I i (wipL ρ vs) → (∀ i ρ x, x ∈ xs → I i ρ → ∃ ρ', turn G S vs (enc x) ρ = some ρ' ∧ I (i + 1) ρ') →
    ∃ ρ', forL G S vs (xs.map enc) ρ = some (.nx, ρ') ∧ I (i + xs.length) ρ'
  | [], i, ρ, h0, _ => ⟨_, rfl, h0⟩
  | x :: xs, i, ρ, h0, h => by
    obtain ⟨ρ', h1, h2⟩ := h i _ x (List.mem_cons_self ..) h0
    obtain ⟨ρ2, h3, h4⟩ := forL_cons (ds := xs.map enc) h1
    obtain ⟨ρ3, h5, h6⟩ := forL_all enc I xs (i + 1) ρ2 (by rw [h3]; exact h2) fun i ρ y hy => h i ρ y (List.mem_cons_of_mem _ hy)
    exact ⟨ρ3, by rw [List.map_cons, h4, h5], by rw [List.length_cons]; rw [show i + (xs.length + 1) = i + 1 + xs.length by omega]; exact h6⟩
theorem rangeD_map (lo : Int) (n : Nat) : rangeD lo n = (List.range n).map fun (i : Nat) => (.int (lo + i)) := rfl
theorem lcA_opt {α : Type} {I : MA} {G : MG} {C : MT} {E : ME} {vs : List Nat} (enc : α → D) (f : α → Option D) (xs : List α) (ρ ρ1 : Ev) (hI : I ρ = some (xs.map enc, ρ1)) (hw : okW ρ1 vs = true) (hz : xs.length ≤ sizeLine)
    (h : ∀ x ∈ xs, lcStep G C E vs (enc x) (setL ρ1 vs fun _ => .non) = some (f x, setL ρ1 vs fun _ => .non)) (hr : setL (setL ρ1 vs fun _ => .non) vs (fun j => ρ1.getD j .non) = ρ1) : lcA I G C E vs ρ = some (xs.filterMap f, ρ1) := by
  unfold lcA
  simp only [hI]
  rw [if_pos ⟨hw, by rw [List.length_map]; exact hz⟩, lcL_opt enc _ f xs [] h]
  simp only [hr, List.nil_append]
theorem lcA_of {α : Type} {I : MA} {G : MG} {C : MT} {E : ME} {vs : List Nat} (enc : α → D) (g : α → D) (xs : List α) (ρ ρ1 : Ev) (hI : I ρ = some (xs.map enc, ρ1)) (hw : okW ρ1 vs = true) (hz : xs.length ≤ sizeLine)
    (h : ∀ x ∈ xs, lcStep G C E vs (enc x) (setL ρ1 vs fun _ => .non) = some (some (g x), setL ρ1 vs fun _ => .non)) (hr : setL (setL ρ1 vs fun _ => .non) vs (fun j => ρ1.getD j .non) = ρ1) : lcA I G C E vs ρ = some (xs.map g, ρ1) := by
  rw [lcA_opt enc (fun x => some (g x)) xs ρ ρ1 hI hw hz h hr]
  congr 2
  clear h hI hz
  induction xs with
  | nil => rfl
  | cons x xs ih => simp
theorem lcA_filter {α : Type} {I : MA} {G : MG} {C : MT} {E : ME} {vs : List Nat} (enc : α → D) (p : α → Bool) (g : α → D) (xs : List α) (ρ ρ1 : Ev) (hI : I ρ = some (xs.map enc, ρ1)) (hw : okW ρ1 vs = true) (hz : xs.length ≤ sizeLine)
    (h : ∀ x ∈ xs, lcStep G C E vs (enc x) (setL ρ1 vs fun _ => .non) = some (if p x then some (g x) else none, setL ρ1 vs fun _ => .non)) (hr : setL (setL ρ1 vs fun _ => .non) vs (fun j => ρ1.getD j .non) = ρ1) : lcA I G C E vs ρ = some ((xs.filter p).map g, ρ1) := by
  rw [lcA_opt enc (fun x => if p x then some (g x) else none) xs ρ ρ1 hI hw hz h hr, filterMap_if]
/-- the law's own loop: each turn leaves the slots as they were -/
theorem forL_law {B : MS} {vs : List Nat} {i : Nat} {ρ0 : Ev} (n : Nat) (ρ : Ev) (h0 : wipL ρ vs = ρ0) (h : ∀ k : Nat, turn (nameG i) B vs (.int k) ρ0 = some ρ0) : forL (nameG i) B vs (rangeD 0 n) ρ = some (.nx, ρ0) := by
  obtain ⟨ρ', h1, h2⟩ := forL_all (G := nameG i) (S := B) (vs := vs) (fun i : Nat => (.int (0 + i))) (fun _ ρ => ρ = ρ0) (List.range n) 0 ρ h0 fun _ ρ k _ e => ⟨ρ0, by rw [e, Int.zero_add]; exact h k, rfl⟩
  rw [rangeD_map, h1, h2]
/-- its bounds -/
theorem law_n (a : Nat) (b : Int) (h0 : 0 ≤ b) (h : b < 1000) : (-(2 ^ 62) : Int) ≤ (if (if b < (a : Int) then b else a) > 1 then (if b < (a : Int) then b else a) else 1) ∧ (if (if b < (a : Int) then b else a) > 1 then (if b < (a : Int) then b else a) else 1) < 2 ^ 62 := by
  split <;> split <;> omega
/-! spans, books -/
def sD (s : Sn) : D := .tuple [.int s.1, .int s.2.1, .int s.2.2]
def bD (bk : List Sn) : D := .tuple (bk.map sD)
def good (s : Sn) : Prop := 0 ≤ s.1 ∧ s.1 < s.2.1 ∧ s.2.1 ≤ 999 ∧ 0 ≤ s.2.2 ∧ s.2.2 ≤ 4
@[simp] theorem shaped_int (i : Int) : SeqAt.shaped (.int i) = true := by simp [SeqAt.shaped, PyData.canLay0, PyData.depth]
@[simp] theorem shaped_bool (i : Bool) : SeqAt.shaped (.bool i) = true := by simp [SeqAt.shaped, PyData.canLay0, PyData.depth]
@[simp] theorem shaped_none : SeqAt.shaped .none = true := by simp [SeqAt.shaped, PyData.canLay0, PyData.depth]
@[simp] theorem eqv_int (i j : Int) : PyData.eqv (.int i) (.int j) = (i == j) := by simp [PyData.eqv]
@[simp] theorem eqv_str (i j : Str) : PyData.eqv (.str i) (.str j) = (i == j) := by simp [PyData.eqv]
@[simp] theorem bD_fold (bk : List Sn) : PyData.tuple (bk.map sD) = bD bk := rfl
@[simp] theorem itemsD_bD (bk : List Sn) : itemsD (bD bk) = some (bk.map sD) := rfl
@[simp] theorem isTup_bD (bk : List Sn) : isTup (bD bk) = true := rfl
@[simp] theorem lenD_bD (bk : List Sn) : lenD [bD bk] = some (.int bk.length) := by unfold bD; rw [lenD_e2, List.length_map]
@[simp] theorem ixD_bD (bk : List Sn) (k : Int) : ixD (bD bk) (.int k) = (atI bk k).map sD := by unfold bD; rw [ixD_tuple, atI_map]
theorem small {n : Nat} (h : n ≤ 1000) : n ≤ sizeLine := by rw [sizeLine_val]; omega
structure Good (bk : List Sn) : Prop where
  all : ∀ s ∈ bk, good s
  one : 1 ≤ bk.length
  most : bk.length ≤ 40
theorem Good.small {bk : List Sn} (h : Good bk) : bk.length ≤ sizeLine := DL.small (by have := h.most; omega)
theorem bools_const {α : Type} (xs : List α) : boolsD (xs.map fun _ => (PyData.bool true)) = some (xs.map fun _ => true) := by
  have := boolsD_map (xs.map fun _ => true)
  rwa [List.map_map] at this
theorem canLay_sD : ∀ bk : List Sn, PyData.canLayAll0 (bk.map sD) = true
  | [] => by simp [PyData.canLayAll0]
  | s :: bk => by simp [PyData.canLayAll0, PyData.canLay0, sD, canLay_sD bk]
theorem depth_sD : ∀ bk : List Sn, PyData.depthAll (bk.map sD) ≤ 2
  | [] => by simp [PyData.depthAll]
  | s :: bk => by
    have h := depth_sD bk
    simp only [List.map_cons, PyData.depthAll, sD, PyData.depth]
    simp
    omega
theorem shaped_sDl (bk : List Sn) : SeqAt.shaped (.list (bk.map sD)) = true := by
  have h := depth_sD bk
  unfold SeqAt.shaped
  rw [Bool.and_eq_true]
  refine ⟨by simp [PyData.canLay0, canLay_sD], decide_eq_true ?_⟩
  simp only [PyData.depth]
  omega
theorem flat_sD (s : Sn) : flat (sD s) = true := by simp [sD]
theorem flatAll_sD : ∀ bk : List Sn, flatAll (bk.map sD) = true
  | [] => rfl
  | s :: bk => by simp [flat_sD, flatAll_sD bk]
end DL

set_option Elab.async false
set_option linter.all false
set_option maxRecDepth 100000
set_option maxHeartbeats 1000000
namespace DL
open PySem L2
section
variable {K : PySem.W.Frag} {N N' : Addr → Prop} {H H' : Hp} {σ : St} {ρ ρ' : Ev}
theorem pi_zipU {X : Cx} (hK : X.K = K) {e e2 : Expr} {ta : TA} {p pos tpos : Pos} {elts : List Expr} {kk : Nat} (hg : Gl X "zip") (hm : X.mg "zip" = none) (ha : PA X [e, e2] ta)
    (hs : starEach [e, e2] X.env = (false, eval e X.env) :: starEach [e2] X.env := by rfl) (hpl : (backTo pos (starEach [e2] X.env)).any (·.1) = false := by rfl) : PI X (.Tuple elts kk tpos) (.Call (.Name "zip" p) [e, e2] [] pos) (iZipB K ta) := hK ▸ pi_zipB hg hm ha hs hpl
theorem pi_enumU {X : Cx} (hK : X.K = K) {e : Expr} {ta : TA} {p pos tpos : Pos} {elts : List Expr} {kk : Nat} (hg : Gl X "enumerate") (hm : X.mg "enumerate" = none) (ha : PA X [e] ta) (hs : starEach [e] X.env = [(false, eval e X.env)] := by rfl) :
    PI X (.Tuple elts kk tpos) (.Call (.Name "enumerate" p) [e] [] pos) (iEnumB K ta) := hK ▸ pi_enumB hg hm ha hs
/-- data that is walked -/
theorem Dn.seq {O : Addr → Prop} (hO : ∀ a, O a → ∃ ys, H a = some (.lst ys)) (hN : ∀ a, N a → ¬ O a) {v : V} {d : D} {es : List D} (h : Dn K H N v d) (e : itemsD d = some es) :
    ∃ b a xs, v = .ref a ∧ DnAll K H N xs es ∧ ∀ H2, Kp O H H2 → SqB b K H2 a xs := by
  cases h with
  | lst hl nn hd =>
    cases e
    exact ⟨true, _, _, rfl, hd, fun H2 k => SqL.of (k _ _ hl (hN _ nn))⟩
  | tup hl hd =>
    cases e
    exact ⟨false, _, _, rfl, hd, fun H2 k => SqT.kp hO k hl⟩
  | non => cases e
  | bl _ => cases e
  | int _ => cases e
  | str _ => cases e
  | dct _ => cases e
def pairD (p : D × D) : D := .tuple [p.1, p.2]
@[simp] def zipA (A : MA) : MA := fun ρ => match A ρ with
  | some ([d1, d2], ρ1) => match itemsD d1, itemsD d2 with
    | some xs, some ys => some ((xs.zip ys).map pairD, ρ1)
    | _, _ => none
  | _ => none
theorem simI_zip {ta : TA} {A : MA} (ha : SimA K ta A) : SimI K (iZipB K ta) (zipA A) := by
  intro N H σ ρ ρ' ds R ok e q
  unfold zipA at e
  split at e
  · rename_i d1 d2 ρ1 h1
    split at e
    · rename_i es fs h2 h3
      cases e
      refine ha N H σ ρ _ _ _ ok h1 fun vs N1 H1 x1 dd => ?_
      have hO : ∀ a, Own σ ρ a → ∃ ys, H1 a = some (.lst ys) := fun a z => x1.ok.hO a ((x1.own a).mpr z)
      have hN : ∀ a, N1 a → ¬ Own σ ρ a := fun a n z => x1.ok.hN a n ((x1.own a).mpr z)
      cases dd with
      | cons u1 r1 =>
        cases r1 with
        | cons u2 r2 =>
          cases r2
          obtain ⟨b1, a, xs, rfl, da, ka⟩ := u1.seq hO hN h2
          obtain ⟨b2, b, ys, rfl, db, kb⟩ := u2.seq hO hN h3
          refine ⟨b1, b2, a, b, xs, ys, rfl, ka H1 fun _ _ z _ => z, kb H1 fun _ _ z _ => z, q _ N1 H1 x1 fun i H2 k => ⟨fun d hd => ?_, fun hi => ?_⟩⟩
          · rw [List.getElem?_map, Option.map_eq_some_iff] at hd
            obtain ⟨⟨p1, p2⟩, hp, rfl⟩ := hd
            rw [List.getElem?_zip_eq_some] at hp
            obtain ⟨x, hx, dx⟩ := da.at hp.1
            obtain ⟨y, hy, dy⟩ := db.at hp.2
            refine ⟨⟨xs, ys, x, y, ka H2 k, kb H2 k, hx, hy⟩, fun v H3 ⟨T, x', y', ev, hT, e3, fx, fy⟩ => ?_⟩
            have ex := fx xs (ka H2 k); rw [hx] at ex; cases ex
            have ey := fy ys (kb H2 k); rw [hy] at ey; cases ey
            subst ev e3
            refine ⟨Same.new hT, .tup (SqT.of upd_same) ?_⟩
            exact .cons ((dx.kp hO hN (fun _ z => z) k).same (Same.new hT) fun _ z => z) (.cons ((dy.kp hO hN (fun _ z => z) k).same (Same.new hT) fun _ z => z) .nil)
          · refine ⟨xs, ys, ka H2 k, kb H2 k, ?_⟩
            rw [List.length_map, List.length_zip] at hi
            rw [da.len, db.len]; omega
    · cases e
  · cases e
@[simp] def enumA (A : MA) : MA := fun ρ => match A ρ with
  | some ([d1], ρ1) => match itemsD d1 with
    | some xs => some ((xs.zipIdx).map fun p => .tuple [.int (p.2 : Nat), p.1], ρ1)
    | none => none
  | _ => none
theorem simI_enum {ta : TA} {A : MA} (ha : SimA K ta A) : SimI K (iEnumB K ta) (enumA A) := by
  intro N H σ ρ ρ' ds R ok e q
  unfold enumA at e
  split at e
  · rename_i d1 ρ1 h1
    split at e
    · rename_i es h2
      cases e
      refine ha N H σ ρ _ _ _ ok h1 fun vs N1 H1 x1 dd => ?_
      have hO : ∀ a, Own σ ρ a → ∃ ys, H1 a = some (.lst ys) := fun a z => x1.ok.hO a ((x1.own a).mpr z)
      have hN : ∀ a, N1 a → ¬ Own σ ρ a := fun a n z => x1.ok.hN a n ((x1.own a).mpr z)
      cases dd with
      | cons u1 r1 =>
        cases r1
        obtain ⟨b1, a, xs, rfl, da, ka⟩ := u1.seq hO hN h2
        refine ⟨b1, a, xs, rfl, ka H1 fun _ _ z _ => z, q _ N1 H1 x1 fun i H2 k => ⟨fun d hd => ?_, fun hi => ?_⟩⟩
        · rw [List.getElem?_map, List.getElem?_zipIdx] at hd
          simp only [Option.map_map, Option.map_eq_some_iff] at hd
          obtain ⟨d0, h0, rfl⟩ := hd
          obtain ⟨x, hx, dx⟩ := da.at h0
          refine ⟨⟨xs, x, ka H2 k, hx⟩, fun v H3 ⟨T, x', ev, hT, e3, fx⟩ => ?_⟩
          have ex := fx xs (ka H2 k); rw [hx] at ex; cases ex
          subst ev e3
          refine ⟨Same.new hT, .tup (SqT.of upd_same) ?_⟩
          have : ((0 + i : Nat) : Int) = (i : Int) := by omega
          simp only [Function.comp, this]
          exact .cons (.int _) (.cons ((dx.kp hO hN (fun _ z => z) k).same (Same.new hT) fun _ z => z) .nil)
        · refine ⟨xs, ka H2 k, ?_⟩
          rw [List.length_map, List.length_zipIdx] at hi
          rw [da.len]; exact hi
    · cases e
  · cases e
theorem DnAll.rep {vs : List V} {ds : List D} (h : DnAll K H N vs ds) : ∀ n : Nat, DnAll K H N (List.replicate n vs).flatten (List.replicate n ds).flatten
  | 0 => .nil
  | n + 1 => by rw [List.replicate_succ, List.replicate_succ, List.flatten_cons, List.flatten_cons]; exact h.app (DnAll.rep h n)
structure RepOk (xs : List D) (k : Int) : Prop where
  a : xs ≠ []
  b : -(2 ^ 62) < k
  c : k < 2 ^ 62
  d : xs.length * k.toNat ≤ sizeLine
open Classical in
/-- t * k -/
noncomputable def repAD : D → D → Option D
  | .tuple xs, .int k => if RepOk xs k then some (.tuple (List.replicate k.toNat xs).flatten) else none
  | _, _ => none
open Classical in
@[simp] theorem repAD_e {xs : List D} {k : Int} : repAD (.tuple xs) (.int k) = if RepOk xs k then some (.tuple (List.replicate k.toNat xs).flatten) else none := rfl
theorem kRepA {X : Cx} (hK : X.K = K) : OpR X (binaryOp .Mult) (rRepA K) := hK ▸ op_repA
/-- x is True -/
def isBD : D → D → Option D
  | d, .bool b => some (.bool (match d with | .bool c => c == b | _ => false))
  | _, _ => none
def notBD : D → D → Option D
  | d, .bool b => some (.bool (!(match d with | .bool c => c == b | _ => false)))
  | _, _ => none
@[simp] theorem isBD_e {c b : Bool} : isBD (.bool c) (.bool b) = some (.bool (c == b)) := rfl
@[simp] theorem notBD_e {c b : Bool} : notBD (.bool c) (.bool b) = some (.bool (!(c == b))) := rfl
theorem sr_isB : SimR2 K rIsB isBD := by
  intro N H x y a b d Q hx hy e q
  cases hy with
  | bl b =>
    cases hx with
    | bl c =>
      cases e
      refine ⟨b, rfl, rfl, ?_⟩
      have e : decide (V.bl c = V.bl b) = (c == b) := by cases b <;> cases c <;> rfl
      rw [e]; exact q (.bl (c == b)) N H (New.refl N H) (.bl _)
    | non => cases e; exact ⟨b, rfl, rfl, q (.bl false) N H (New.refl N H) (.bl _)⟩
    | int _ => cases e; exact ⟨b, rfl, rfl, q (.bl false) N H (New.refl N H) (.bl _)⟩
    | str _ => cases e; exact ⟨b, rfl, rfl, q (.bl false) N H (New.refl N H) (.bl _)⟩
    | lst _ _ _ => cases e; exact ⟨b, rfl, rfl, q (.bl false) N H (New.refl N H) (.bl _)⟩
    | tup _ _ => cases e; exact ⟨b, rfl, rfl, q (.bl false) N H (New.refl N H) (.bl _)⟩
    | dct _ => cases e; exact ⟨b, rfl, rfl, q (.bl false) N H (New.refl N H) (.bl _)⟩
  | _ => cases hx <;> cases e
/-- x.clear() -/
@[simp] def clrE (i : Nat) : ME := fun ρ => match getO ρ i with
  | some _ => some (.none, putO ρ i [])
  | none => none
/-- t[::-1] -/
@[simp] def revE (A : ME) : ME := fun ρ => match A ρ with
  | some (.tuple ds, ρ1) => some (.tuple ds.reverse, ρ1)
  | _ => none
theorem pe_revK {X : Cx} (hK : X.K = K) {e : Expr} {te : TE} {j : Nat} {p1 p2 p3 pos : Pos} (he : PE X e te) : PE X (.Subscript e (.Slice none none (some (.UnaryOp .USub (.Constant (.int 1) j p1) p3)) p2) pos) (tRev K te) := hK ▸ pe_rev he
theorem simE_rev {t : TE} {A : ME} (ha : SimE K t A) : SimE K (tRev K t) (revE A) := by
  intro N H σ ρ ρ' d Q ok e q
  unfold revE at e
  split at e
  · rename_i ds ρ1 h1
    cases e
    refine ha N H σ ρ _ _ _ ok h1 fun v N1 H1 x1 d1 => ?_
    cases d1 with
    | tup ht hd => exact ⟨_, _, rfl, ht, fun p hp => q _ N1 _ (x1.more (New.tup hp)) (.tup (SqT.of upd_same) (hd.rev.same (Same.new hp) fun _ h => h))⟩
  · cases e
/-- a, b, c = e, f, g -/
@[simp] def par3S (i j k : Nat) (A B C : ME) : MS := fun ρ => match A ρ with
  | some (a, ρ1) => match B ρ1 with
    | some (b, ρ2) => match C ρ2 with
      | some (c, ρ3) => if fit ρ3 i && (fit (ρ3.set i (.val a)) j && fit ((ρ3.set i (.val a)).set j (.val b)) k) then some (.nx, ((ρ3.set i (.val a)).set j (.val b)).set k (.val c)) else none
      | none => none
    | none => none
  | none => none
@[simp] def par3OS (i j k : Nat) (A : MA) (B C : ME) : MS := fun ρ => match A ρ with
  | some (a, ρ1) => match B ρ1 with
    | some (b, ρ2) => match C ρ2 with
      | some (c, ρ3) => if fit ρ3 i && (fit (ρ3.set i (.own a)) j && fit ((ρ3.set i (.own a)).set j (.val b)) k) && (i != j && i != k) then some (.nx, ((ρ3.set i (.own a)).set j (.val b)).set k (.val c)) else none
      | none => none
    | none => none
  | none => none
end
end DL

set_option Elab.async false
set_option linter.all false
set_option maxRecDepth 100000
set_option maxHeartbeats 1000000
namespace DL
open PySem L2
/-- a def with defaults: they stand in the tuple at T -/
structure FunD (K : PySem.W.Frag) (x qual : Str) (st : Stmt) (f : Addr) (fd : FuncData) (T : Addr) (ds : Array Value) : Prop where
  ex : ∃ (oc : Value) (od : Option Addr) (kV doc pm : Value) (an : Option Addr) (cdv ct : Value) (osl : Array (Option Value)),
    fd = PySem.W.fnOf x qual (defArgs st) (defBody st) (defScope st) (.ref T) kV doc pm an cdv ct ∧ K.lookup f = some ⟨oc, od, .func fd, osl⟩ ∧ PySem.W.codeIn K cdv qual = true
  kp : PySem.W.keepIn K (.ref f) = true
  df : ∃ (o : Obj) (n : Nat), K.lookup T = some o ∧ o.data = .seq ds n
section
variable {P : Program} {w : World} {K : PySem.W.Frag} {mg : Str → Option Value} {base : Heap}
theorem FunD.ok {x qual : Str} {st : Stmt} {f : Addr} {fd : FuncData} {T : Addr} {ds : Array Value} {N ps : List Str} {k : Nat} {sp : Sp} (F : FunD K x qual st f fd T ds) (S : FnScope N ps (defScope st)) (len : ∀ vs H Q E, sp vs H Q E → vs.length = ps.length)
    (hbody : ∀ (cdv : Value) (A : Around) (outer : List Env) (s : Shared) (H : Hp) (vs : List V) (Q : VK) (E : XK), Room k (A.deeper (PyProof.Rows.envOfC qual (defScope st) s.heap.objs.size f cdv)) → sp vs H Q E →
      ∃ t, PSs (cxOf CX0 P w K mg base N qual (defScope st) f cdv A outer s H E).nox (defBody st) t ∧ t { nx := fun _ H' => Q .non H', rt := Q } (start N vs) H) : FnOk P w K mg base CX0 (k + 1) f fd ps sp := by
  obtain ⟨oc, od, kV, doc, pm, an, cdv, ct, osl, rfl, lk, hcd⟩ := F.ex
  refine fn_of lk hcd S len fun A outer s H vs Q E hr hsp => ?_
  obtain ⟨t, h, q⟩ := hbody cdv A outer s H vs Q E hr hsp
  exact ⟨t, h.nox, q⟩
theorem FunD.binds {x qual : Str} {st : Stmt} {f : Addr} {fd : FuncData} {T : Addr} {ds : Array Value} {ps : List Str} {es : List Value} (F : FunD K x qual st f fd T ds)
    (h : ∀ (kV doc pm : Value) (an : Option Addr) (cdv ct : Value) (us : List Value), (us ++ es).length = ps.length → ∃ k : Option (Array Value) → Sem (List (Str × Value)), bindArgs (PySem.W.fnOf x qual (defArgs st) (defBody st) (defScope st) (.ref T) kV doc pm an cdv ct) ⟨us, []⟩ = (seqItems? (.ref T) >>= k) ∧ k (some ds) = pure (ps.zip (us ++ es))) : Binds K fd ps es := by
  obtain ⟨oc, od, kV, doc, pm, an, cdv, ct, osl, rfl, lk, hcd⟩ := F.ex
  obtain ⟨o, n, lo, so⟩ := F.df
  intro s us X hl
  obtain ⟨k, h1, h2⟩ := h kV doc pm an cdv ct us hl
  exact BindsTo.of_defaults (T := T) rfl (X _ _ lo) so h1 h2
end
/-- a call that leaves the last one to its default: a text -/
@[simp] def cbD (F : Fn) (x : Str) (A : MA) : ME := fun ρ => match A ρ with
  | some (ds, ρ1) => match F (ds ++ [.str x]) with
    | some d => some (d, ρ1)
    | none => none
  | none => none
end DL

set_option Elab.async false
set_option linter.all false
set_option maxRecDepth 100000
set_option maxHeartbeats 1000000
namespace DL
open PySem L2
section
variable {K : PySem.W.Frag}
/-- a dict of texts written out, and an item of it -/
@[simp] def dictE (ks : List Str) (A : MA) (W : ME) : ME := fun ρ => match A ρ with
  | some (ds, ρ1) => match W ρ1 with
    | some (.str w, ρ2) => match (ks.zip ds).lookup w with
      | some d => some (d, ρ2)
      | none => none
    | _ => none
  | none => none
def SimP (K : PySem.W.Frag) (ks : List Str) (trs : List (TE × TE)) (E : MA) : Prop := ∀ (N : Addr → Prop) (H : Hp) (σ : St) (ρ ρ' : Ev) (ds : List D) (Q : List (V × V) → Hp → Prop), SlotsOk K N H σ ρ → E ρ = some (ds, ρ') →
  (∀ (vs : List V) (N' : Addr → Prop) (H' : Hp), Ex K σ N H ρ N' H' ρ' → DnAll K H' N' vs ds → vs.length = ks.length → Q ((ks.map V.str).zip vs) H') → tPairs trs σ H Q
mutual
theorem Dn.dic {H : Hp} {N : Addr → Prop} {p : Addr} {kvs : List (Key × V)} {o : HO} (hp : H p = some (.dK kvs)) : ∀ {v : V} {d : D}, Dn K H N v d → Dn K (upd H p o) N v d
  | _, _, .non => .non
  | _, _, .bl b => .bl b
  | _, _, .int i => .int i
  | _, _, .str x => .str x
  | _, _, .lst (a := a) e n q => .lst (by
      have : a ≠ p := fun z => by rw [z, hp] at e; cases e
      rw [upd_ne this]; exact e) n (DnAll.dic hp q)
  | _, _, .tup (a := a) e q => .tup (by
      rcases e with (e | ⟨u, e⟩) | e
      · have : a ≠ p := fun z => by rw [z, hp] at e; cases e
        exact .inl (.inl (by rw [upd_ne this]; exact e))
      · have : a ≠ p := fun z => by rw [z, hp] at e; cases e
        exact .inl (.inr ⟨u, by rw [upd_ne this]; exact e⟩)
      · exact .inr e) (DnAll.dic hp q)
  | _, _, .dct (a := a) e => .dct (by
      have : a ≠ p := fun z => by rw [z, hp] at e; cases e
      rw [upd_ne this]; exact e)
theorem DnAll.dic {H : Hp} {N : Addr → Prop} {p : Addr} {kvs : List (Key × V)} {o : HO} (hp : H p = some (.dK kvs)) : ∀ {vs : List V} {ds : List D}, DnAll K H N vs ds → DnAll K (upd H p o) N vs ds
  | _, _, .nil => .nil
  | _, _, .cons a b => .cons (Dn.dic hp a) (DnAll.dic hp b)
end
theorem SlotsOk.dic {H : Hp} {N : Addr → Prop} {σ : St} {ρ : Ev} {p : Addr} {kvs : List (Key × V)} {o : HO} (hp : H p = some (.dK kvs)) (h : SlotsOk K N H σ ρ) (hn : ∀ (i : Nat) (es : List (Int × Int)), ρ[i]? = some (.scr (.es es)) → σ[i]? ≠ some (some (.ref p))) : SlotsOk K N (upd H p o) σ ρ where
  len := h.len
  inn := fun a n => upd_there (h.inn a n)
  vals := fun i d e => let ⟨v, s, q⟩ := h.vals i d e; ⟨v, s, q.dic hp⟩
  owns := fun i ds e => by
    obtain ⟨a, vs, s, q, r, z⟩ := h.owns i ds e
    have : a ≠ p := fun y => by rw [y, hp] at q; cases q
    exact ⟨a, vs, s, by rw [upd_ne this]; exact q, r.dic hp, z⟩
  one := h.one
  scrs := fun i ns e => by
    obtain ⟨a, s, q⟩ := h.scrs i ns e
    refine ⟨a, s, ?_⟩
    cases ns with
    | ns ns =>
      rcases q with ⟨u, q⟩ | q
      · have : a ≠ p := fun y => by rw [y, hp] at q; cases q
        exact .inl ⟨u, by rw [upd_ne this]; exact q⟩
      · exact .inr q
    | es es =>
      have : a ≠ p := fun y => hn i es e (y ▸ s)
      have q : H a = some (.dK (es.map kvI)) := q
      show upd H p o a = _
      rw [upd_ne this]; exact q
structure RepLOk (xs : List D) (k : Int) : Prop where
  b : -(2 ^ 63) ≤ k
  c : k < 2 ^ 63
  d : xs.length * k.toNat ≤ sizeLine
open Classical in
/-- l * k -/
noncomputable def repLD : D → D → Option D
  | .list xs, .int k => if RepLOk xs k then some (.list (List.replicate k.toNat xs).flatten) else none
  | _, _ => none
open Classical in
theorem repLD_e {xs : List D} {k : Int} : repLD (.list xs) (.int k) = if RepLOk xs k then some (.list (List.replicate k.toNat xs).flatten) else none := rfl
end
end DL

set_option Elab.async false
set_option linter.all false
set_option maxRecDepth 100000
set_option maxHeartbeats 1000000
namespace DL
open PySem L2
/-! tuples of ints in a row: which is the least -/
def lexI : List Int → List Int → Bool
  | [], [] => false
  | [], _ :: _ => true
  | _ :: _, [] => false
  | x :: r, y :: t => if x = y then lexI r t else decide (x < y)
/-! min over a list whose items the heap tells apart; kw: what was written as default= -/
section
variable {prog : Program} {w : World} {A : Around} {R : Result → Shared → Prop} {it l st : Addr} {xs : Array Value} {bt : Nat → Nat → Bool} {good : Heap → Prop} {kw : List (Str × Value)}
/-- the records at it and st may change -/
def But2 (it st : Addr) (h h' : Heap) : Prop := ∀ b o, b ≠ it → b ≠ st → h.get? b = some o → h'.get? b = some o
theorem But2.tr {it st : Addr} {h h' h'' : Heap} (a : But2 it st h h') (b : But2 it st h' h'') : But2 it st h h'' := fun x o n1 n2 e => b x o n1 n2 (a x o n1 n2 e)
def LtAll (prog : Program) (w : World) (A : Around) (good : Heap → Prop) (xs : Array Value) (bt : Nat → Nat → Bool) : Prop := ∀ i j vi vj (z : Shared) (Q E : Value → Shared → Prop), xs[i]? = some vi → xs[j]? = some vj → good z.heap → Q (.bool (bt i j)) z → wpAny (model prog w) A (richCompare .Lt vi vj) Q E z
variable {E Q : Value → Shared → Prop} {z : Shared}
/-- what stood stays -/
abbrev Olds (h h' : Heap) : Prop := ∀ b o, h.get? b = some o → h'.get? b = some o
end
/-! the order of rows of ints -/
def lessR (rows : List (List Int)) (i j : Nat) : Bool := lexI (rows.getD i []) (rows.getD j [])
/-- the first of the least rows -/
def leastR (rows : List (List Int)) : List Int := rows.getD (argBest (lessR rows) (rows.length - 1)) []
/-! the call -/
def TupsI (K : PySem.W.Frag) (H : Hp) (rs : List V) (rows : List (List Int)) : Prop := rs.length = rows.length ∧ ∀ (i : Nat) (v : V), rs[i]? = some v → ∃ (b : Addr) (xs : List Int), v = V.ref b ∧ rows[i]? = some xs ∧ SqT K H b (xs.map V.int)
def rMinT (K : PySem.W.Frag) : List V → Hp → VK → Prop := fun vs H Q => ∃ (a : Addr) (rs : List V) (rows : List (List Int)), vs = [V.ref a] ∧ SqL K H a rs ∧ TupsI K H rs rows ∧ 0 < rs.length ∧
  ∀ v, rs[argBest (lessR rows) (rows.length - 1)]? = some v → Q v H
section
variable {X : Cx}
end
/-! by data -/
def rowD : D → Option (List Int)
  | .tuple ds => intsD ds
  | _ => none
def rowsD : List D → Option (List (List Int))
  | [] => some []
  | d :: ds => match rowD d, rowsD ds with
    | some r, some rs => some (r :: rs)
    | _, _ => none
def rwD (r : List Int) : D := .tuple (r.map .int)
def minTD : List D → Option D
  | [.list ds] => match rowsD ds with
    | some (r :: rs) => some (rwD (leastR (r :: rs)))
    | _ => none
  | _ => none
section
variable {K : PySem.W.Frag}
end
end DL

set_option Elab.async false
set_option linter.all false
set_option maxRecDepth 100000
set_option maxHeartbeats 1000000
namespace DL
open PySem L2
/-! (*t, x): the items of a tuple, then others -/
def tStar (K : PySem.W.Frag) (te : TE) (t : TA) : TA := fun σ H Q => te σ H fun x H1 => ∃ (a : Addr) (xs : List V), x = .ref a ∧ SqT K H1 a xs ∧ t σ H1 fun ys H2 => Q (xs ++ ys) H2
@[simp] def starA (A : ME) (B : MA) : MA := fun ρ => match A ρ with
  | some (.tuple ds, ρ1) => match B ρ1 with
    | some (es, ρ2) => some (ds ++ es, ρ2)
    | none => none
  | _ => none
section
variable {K : PySem.W.Frag}
/-! a tuple that is walked while some list grows -/
def SimIt (K : PySem.W.Frag) (wi : TI) (ds : List D) : Prop := ∀ (N : Addr → Prop) (H : Hp) (σ : St) (ρ : Ev) (R : It → Hp → Prop), SlotsOk K N H σ ρ →
  (∀ J N' H', Ex K σ N H ρ N' H' ρ → (∀ O : Addr → Prop, (∀ a, O a → ∃ ys, H' a = some (.lst ys)) → (∀ a, N' a → ¬ O a) → Walk K J N' H' O ds) → R J H') → wi σ H R
variable {N N1 N2 : Addr → Prop} {H H1 H2 : Hp} {σ σ1 σ2 : St} {ρ ρ1 ρ2 : Ev}
theorem SlotsOk.put (ok : SlotsOk K N H σ ρ) {L : Addr} {us us' : List V} (hL : H L = some (.lst us)) (no : ¬ Own σ ρ L) (nN : ¬ N L) : SlotsOk K N (upd H L (.lst us')) σ ρ := by
  have kpL : Kp (fun b => b = L) H (upd H L (.lst us')) := fun b o e n => by rw [upd_ne n]; exact e
  have hOL : ∀ b, b = L → ∃ ys, H b = some (.lst ys) := fun b z => ⟨us, by rw [z]; exact hL⟩
  have hNL : ∀ b, N b → ¬ b = L := fun b n z => nN (z ▸ n)
  refine ⟨ok.len, fun b n => upd_there (ok.inn b n), fun j d e => ?_, fun j ds e => ?_, ok.one, fun j ns e => ?_⟩
  · obtain ⟨v, s, z⟩ := ok.vals j d e
    exact ⟨v, s, z.kp hOL hNL (fun _ z => z) kpL⟩
  · obtain ⟨b, vs', s, z1, z2, z3⟩ := ok.owns j ds e
    have nb : b ≠ L := fun y => no ⟨j, ⟨ds, e⟩, y ▸ s⟩
    exact ⟨b, vs', s, kpL b _ z1 nb, z2.kp hOL hNL (fun _ z => z) kpL, z3⟩
  · obtain ⟨b, s, z⟩ := ok.scrs j ns e
    exact ⟨b, s, z.kp hOL kpL⟩
/-- slots that say nothing: the state there is free -/
theorem SlotsOk.off {vs : List Nat} (ok : SlotsOk K N H σ ρ) (hl : σ1.length = σ.length) (hs : ∀ j, j ∉ vs → σ1[j]? = σ[j]?) (l1 : ρ1.length = ρ.length) (r1 : ∀ j, j ∉ vs → ρ1[j]? = ρ[j]?) (r2 : ∀ j, j ∈ vs → j < ρ.length → ρ1[j]? = some .non) : SlotsOk K N H σ1 ρ1 := by
  have : (setL ρ vs fun _ => .non) = ρ1 := by
    apply List.ext_getElem?
    intro j
    rw [setN_get]
    by_cases z : j ∈ vs
    · by_cases y : j < ρ.length
      · rw [if_pos ⟨z, y⟩, r2 j z y]
      · rw [if_neg (fun w => y w.2), List.getElem?_eq_none (by omega), List.getElem?_eq_none (by omega)]
    · rw [if_neg (fun w => z w.1), r1 j z]
  rw [← this]
  exact ok.forget hl hs
def inL (f : D → Option D) : List D → List D → Option (List D)
  | [], acc => some acc
  | c :: cs, acc => match f c with
    | some x => inL f cs (acc ++ [x])
    | none => none
def outL (f : D → D → Option D) (cs : List D) : List D → List D → Option (List D)
  | [], acc => some acc
  | d :: ds, acc => match inL (f d) cs acc with
    | some acc' => outL f cs ds acc'
    | none => none
@[simp] def nonAt (ρ : Ev) (i : Nat) : Bool := match ρ[i]? with
  | some .non => true
  | _ => false
@[simp] def lc2A (I : MA) (a b : Nat) (cs : List D) (f : D → D → Option D) : MA := fun ρ => match I ρ with
  | some (ds, ρ1) => if nonAt ρ1 a = true ∧ nonAt ρ1 b = true ∧ ds.length * cs.length ≤ sizeLine then match outL f cs ds [] with
      | some out => some (out, ρ1)
      | none => none
    else none
  | none => none
/-- between two turns: (σ, N1, H1, ρ1) at the start, L grows -/
structure Gro (K : PySem.W.Frag) (O : Addr → Prop) (σ : St) (N1 : Addr → Prop) (H1 : Hp) (ρ : Ev) (N' : Addr → Prop) (H' : Hp) : Prop where
  up : ∀ a, N1 a → N' a
  new : ∀ a, N' a → N1 a ∨ H1 a = none
  kp : Kp O H1 H'
  dom : ∀ a, H' a = none → H1 a = none
  ok : SlotsOk K N' H' σ ρ
end
def starD (d c : D) : Option D := match d with
  | .tuple ds => if ds.length + 1 ≤ sizeLine then some (.tuple (ds ++ [c])) else none
  | _ => none
end DL

set_option Elab.async false
set_option linter.all false
set_option maxRecDepth 100000
set_option maxHeartbeats 1000000
namespace DL
open PySem L2
section
variable {K : PySem.W.Frag} {N N0 N1 : Addr → Prop} {H H0 H1 : Hp} {σ σ0 σ1 : St} {ρ ρ0 ρ1 : Ev}
/-! a def that gives back two lists of its own, in a tuple -/
abbrev MP := Ev → Option (List D × List D)
def EndP (K : PySem.W.Frag) (T : Ends) (N : Addr → Prop) (H : Hp) (σ : St) (ρ : Ev) (ds es : List D) : Prop := ∀ N' H' σ' ρ' p a b us vs, Stp K N H σ ρ N' H' σ' ρ' → (H a = none ∨ OwnO σ ρ a) → (H b = none ∨ OwnO σ ρ b) → a ≠ b → ¬ N' a → ¬ N' b → H' a = some (.lst us) → H' b = some (.lst vs) → DnAll K H' N' us ds → DnAll K H' N' vs es → H' p = none →
  T.rt (.ref p) (upd H' p (.tup [.ref a, .ref b]))
def SimPr (K : PySem.W.Frag) (t : TS) (S : MP) : Prop := ∀ (N : Addr → Prop) (H : Hp) (σ : St) (ρ : Ev) (ds es : List D) (T : Ends), SlotsOk K N H σ ρ → S ρ = some (ds, es) → EndP K T N H σ ρ ds es → t T σ H
@[simp] def seqP (A : MS) (B : MP) : MP := fun ρ => match A ρ with
  | some (.nx, ρ1) => B ρ1
  | _ => none
@[simp] def retP (i j : Nat) : MP := fun ρ => match ρ[i]?, ρ[j]? with
  | some (.own ds), some (.own es) => if i != j then some (ds, es) else none
  | _, _ => none
abbrev FnP := List D → Option (List D × List D)
def SpP (K : PySem.W.Frag) (F : FnP) : Sp := fun vs H Q _ => ∃ (N : Addr → Prop) (ds es gs : List D), (∀ a, N a → H a ≠ none) ∧ DnAll K H N vs ds ∧ F ds = some (es, gs) ∧ ∀ (p a b : Addr) (us ws : List V) (N' : Addr → Prop) (H' : Hp), New N H N' H' → H a = none → H b = none → a ≠ b → ¬ N' a → ¬ N' b → H' p = some (.tup [.ref a, .ref b]) → H' a = some (.lst us) → H' b = some (.lst ws) → DnAll K H' N' us es → DnAll K H' N' ws gs → Q (.ref p) H'
@[simp] def runP (np nl : Nat) (S : MP) : FnP := fun ds => if ds.length = np then S (startE nl ds) else none
theorem lenP {np nl : Nat} {S : MP} {vs : List V} {H : Hp} {Q : VK} {E : XK} (h : SpP K (runP np nl S) vs H Q E) : vs.length = np := by
  obtain ⟨N, ds, es, gs, _, hd, e, _⟩ := h
  unfold runP at e
  split at e
  · rename_i hl; rw [hd.len]; exact hl
  · cases e
/-- x, y = f(..), f giving back two lists of its own -/
@[simp] def un2S (i j : Nat) (F : FnP) (A : MA) : MS := fun ρ => match A ρ with
  | some (ds, ρ1) => match F ds with
    | some (es, gs) => if fit ρ1 i && fit (ρ1.set i (.own es)) j && (i != j) then some (.nx, (ρ1.set i (.own es)).set j (.own gs)) else none
    | none => none
  | none => none
@[simp] def parOOS (i j : Nat) (A B : MA) : MS := fun ρ => match A ρ with
  | some (a, ρ1) => match B ρ1 with
    | some (b, ρ2) => if fit ρ2 i && fit (ρ2.set i (.own a)) j && (i != j) then some (.nx, (ρ2.set i (.own a)).set j (.own b)) else none
    | none => none
  | none => none
end
/-! sorted(xs), xs a list of tuples of ints -/
def sh0 : Nat → Bool := fun _ => false
def refOf : Value → V
  | .ref a => .ref a
  | _ => .non
def rowOf (h : Heap) (v : Value) : List Int := ((PyProof.Rows.G.tupKeyC h sh0 v).getD []).map fun z => match z with
  | .inl i => i
  | .inr _ => 0
def rSortT (K : PySem.W.Frag) : List V → Hp → VK → Prop := fun vs H Q => ∃ (a : Addr) (rs : List V) (rows : List (List Int)), vs = [V.ref a] ∧ SqL K H a rs ∧ TupsI K H rs rows ∧ (∀ r ∈ rows, r ≠ []) ∧
  ∀ (ps : List (V × List Int)) (p : Addr), ps.Perm (rs.zip rows) → (ps.map Prod.snd).Pairwise (fun x y => lexI y x = false) → H p = none → Q (.ref p) (upd H p (.lst (ps.map Prod.fst)))
def insR (r : List Int) : List (List Int) → List (List Int)
  | [] => [r]
  | x :: l => if lexI x r then x :: insR r l else r :: x :: l
def sortR : List (List Int) → List (List Int)
  | [] => []
  | r :: l => insR r (sortR l)
def noNil : List (List Int) → Bool
  | [] => true
  | r :: l => !r.isEmpty && noNil l
def sortTD : List D → Option (List D)
  | [.list ds] => match rowsD ds with
    | some rows => if noNil rows then some ((sortR rows).map rwD) else none
    | none => none
  | _ => none
section
variable {K : PySem.W.Frag}
end
end DL

set_option Elab.async false
set_option linter.all false
set_option maxRecDepth 100000
set_option maxHeartbeats 1000000
namespace DL
open PySem L2
/-! a dict from ints to ints: how often -/
def getI (es : List (Int × Int)) (k : Int) : Int := ((es.find? fun p => decide (p.1 = k)).map (·.2)).getD 0
def putI (es : List (Int × Int)) (k v : Int) : List (Int × Int) := if (es.any fun p => decide (p.1 = k)) = true then es.map (fun p => if p.1 = k then (p.1, v) else p) else es ++ [(k, v)]
def cntI (es : List (Int × Int)) (k : Int) : List (Int × Int) := putI es k (getI es k + 1)
section
variable {K : PySem.W.Frag} {N N1 N2 : Addr → Prop} {H H1 H2 : Hp} {σ σ1 σ2 : St} {ρ ρ1 ρ2 : Ev}
@[simp] def notEs : Slot → Bool
  | .scr (.es _) => false
  | _ => true
@[simp] def noEs (ρ : Ev) : Bool := ρ.all notEs
theorem noEs_at (h : noEs ρ = true) {i : Nat} {es : List (Int × Int)} : ρ[i]? ≠ some (.scr (.es es)) := fun e => by
  have := List.all_eq_true.mp h _ (List.mem_of_getElem? e)
  cases this
/-- steps, but for what stands at p -/
structure StpD (p : Addr) (K : PySem.W.Frag) (N : Addr → Prop) (H : Hp) (σ : St) (ρ : Ev) (N' : Addr → Prop) (H' : Hp) (σ' : St) (ρ' : Ev) : Prop where
  up : ∀ a, N a → N' a
  new : ∀ a, N' a → N a ∨ H a = none ∨ OwnO σ ρ a
  kp : Kp (fun b => Own σ ρ b ∨ b = p) H H'
  dom : ∀ a, H' a = none → H a = none
  ok : SlotsOk K N' H' σ' ρ'
  oo : ∀ a, OwnO σ' ρ' a → OwnO σ ρ a ∨ H a = none
  bo : ∀ (i : Nat) (ds : List D), ρ'[i]? = some (.bor ds) → σ'[i]? = σ[i]? ∧ ∃ es : List D, ρ[i]? = some (.bor es)
  ob : ∀ (i : Nat) (ds : List D), ρ[i]? = some (.bor ds) → ∃ es : List D, ρ'[i]? = some (.bor es)
theorem Stp.hole (p : Addr) (s : Stp K N H σ ρ N1 H1 σ1 ρ1) : StpD p K N H σ ρ N1 H1 σ1 ρ1 := ⟨s.up, s.new, fun a o h n => s.kp a o h fun z => n (.inl z), s.dom, s.ok, s.oo, s.bo, s.ob⟩
theorem StpD.own {p : Addr} (a : StpD p K N H σ ρ N1 H1 σ1 ρ1) {b : Addr} (h : Own σ1 ρ1 b) : Own σ ρ b ∨ H b = none := by
  obtain ⟨i, ⟨ds, q⟩, s⟩ := h
  rcases q with q | q
  · rcases a.oo b ⟨i, ds, q, s⟩ with z | z
    · exact .inl z.own
    · exact .inr z
  · obtain ⟨e, es, r⟩ := a.bo i ds q
    exact .inl ⟨i, ⟨es, .inr r⟩, by rw [← e]; exact s⟩
theorem StpD.trans {p : Addr} (a : StpD p K N H σ ρ N1 H1 σ1 ρ1) (b : Stp K N1 H1 σ1 ρ1 N2 H2 σ2 ρ2) : StpD p K N H σ ρ N2 H2 σ2 ρ2 where
  up := fun c h => b.up c (a.up c h)
  new := fun c h => by
    rcases b.new c h with q | q | q
    · exact a.new c q
    · exact .inr (.inl (a.dom c q))
    · rcases a.oo c q with q | q
      · exact .inr (.inr q)
      · exact .inr (.inl q)
  kp := fun c o h n => b.kp c o (a.kp c o h n) fun z => by
    rcases a.own z with z | z
    · exact n (.inl z)
    · rw [h] at z; cases z
  dom := fun c h => a.dom c (b.dom c h)
  ok := b.ok
  oo := fun c h => by
    rcases b.oo c h with q | q
    · exact a.oo c q
    · exact .inr (a.dom c q)
  bo := fun i ds h => by
    obtain ⟨e, es, q⟩ := b.bo i ds h
    obtain ⟨e2, es2, q2⟩ := a.bo i es q
    exact ⟨e.trans e2, es2, q2⟩
  ob := fun i ds h => by
    obtain ⟨es, q⟩ := a.ob i ds h
    exact b.ob i es q
theorem StpD.dic {p : Addr} {kvs : List (Key × V)} {o : HO} (a : StpD p K N H σ ρ N1 H1 σ1 ρ1) (hp : H1 p = some (.dK kvs)) (hn : noEs ρ1 = true) : StpD p K N H σ ρ N1 (upd H1 p o) σ1 ρ1 where
  up := a.up
  new := a.new
  kp := fun c u h n => by
    have : c ≠ p := fun z => n (.inr z)
    rw [upd_ne this]
    exact a.kp c u h n
  dom := fun c h => by
    have : c ≠ p := fun z => by rw [z, upd_same] at h; cases h
    rw [upd_ne this] at h
    exact a.dom c h
  ok := a.ok.dic hp fun i es h => absurd h (noEs_at hn)
  oo := a.oo
  bo := a.bo
  ob := a.ob
/-- a slot says nothing, what stands in it is new -/
theorem Stp.nons (ok : SlotsOk K N H σ ρ) {i : Nat} (hf : fit ρ i = true) (v : Option V) : Stp K N H σ ρ N H (σ.set i v) (ρ.set i .non) := by
  have hi := fit_lt hf
  have hi2 : i < σ.length := by rw [← ok.len]; exact hi
  refine ⟨fun _ h => h, fun _ h => .inl h, fun _ _ h _ => h, fun _ h => h, Stp.put ok hf (fun d' z => by cases z) (fun _ z => by cases z) (fun _ z => by cases z) (fun _ z => by cases z), fun a ⟨j, ds, e, s⟩ => ?_, fun j ds e => ?_, fun j ds e => ?_⟩
  · rw [get_set hi] at e; rw [get_set hi2] at s
    by_cases z : i = j
    · rw [if_pos z] at e; cases e
    · rw [if_neg z] at e s; exact .inl ⟨j, ds, e, s⟩
  · rw [get_set hi] at e
    by_cases z : i = j
    · rw [if_pos z] at e; cases e
    · rw [if_neg z] at e; rw [get_set hi2, if_neg z]; exact ⟨rfl, ds, e⟩
  · rw [get_set hi]
    by_cases z : i = j
    · subst z; exact absurd e (fit_bor hf)
    · rw [if_neg z]; exact ⟨ds, e⟩
/-- a slot tells of the dict that stands in it -/
theorem Stp.dct (ok : SlotsOk K N H σ ρ) {i : Nat} (hf : fit ρ i = true) {a : Addr} {es : List (Int × Int)} (hs : σ[i]? = some (some (.ref a))) (ha : H a = some (.dK (es.map kvI))) : Stp K N H σ ρ N H σ (ρ.set i (.scr (.es es))) := by
  have hi := fit_lt hf
  have f : ∀ j, isO (ρ.set i (.scr (.es es))) j → isO ρ j := fun j ⟨ds, e⟩ => by
    rw [get_set hi] at e
    by_cases z : i = j
    · rw [if_pos z] at e; rcases e with e | e <;> cases e
    · rw [if_neg z] at e; exact ⟨ds, e⟩
  refine ⟨fun _ z => z, fun b z => .inl z, fun _ _ z _ => z, fun _ z => z, ⟨by rw [List.length_set]; exact ok.len, ok.inn, fun j d e => ?_, fun j ds e => ?_, fun j k b hj hk => ok.one j k b (f j hj) (f k hk), fun j ns e => ?_⟩, fun b ⟨j, ds, e, sj⟩ => ?_, fun j ds e => ?_, fun j ds e => ?_⟩
  · rw [get_set hi] at e
    by_cases z : i = j
    · rw [if_pos z] at e; cases e
    · rw [if_neg z] at e; exact ok.vals j d e
  · rw [get_set hi] at e
    by_cases z : i = j
    · rw [if_pos z] at e; rcases e with e | e <;> cases e
    · rw [if_neg z] at e; exact ok.owns j ds e
  · rw [get_set hi] at e
    by_cases z : i = j
    · rw [if_pos z] at e
      cases e
      subst z
      exact ⟨a, hs, ha⟩
    · rw [if_neg z] at e; exact ok.scrs j ns e
  · rw [get_set hi] at e
    by_cases z : i = j
    · rw [if_pos z] at e; cases e
    · rw [if_neg z] at e; exact .inl ⟨j, ds, e, sj⟩
  · rw [get_set hi] at e
    by_cases z : i = j
    · rw [if_pos z] at e; cases e
    · rw [if_neg z] at e; exact ⟨rfl, ds, e⟩
  · rw [get_set hi]
    by_cases z : i = j
    · subst z; exact absurd e (fit_bor hf)
    · rw [if_neg z]; exact ⟨ds, e⟩
/-- what is told stays, whatever the dict at p becomes -/
theorem Dn.hole {p : Addr} {kvs kvs1 : List (Key × V)} {O : Addr → Prop} (hO : ∀ a, O a → ∃ ys, H a = some (.lst ys)) (hN : ∀ a, N a → ¬ O a) (hp : H p = some (.dK kvs)) (hp1 : H1 p = some (.dK kvs1)) (k : Kp (fun b => O b ∨ b = p) H H1) {v : V} {d : D} (h : Dn K H N v d) : Dn K H1 N v d := by
  have k' : Kp O H (upd H1 p (.dK kvs)) := fun b o e n => by
    by_cases z : b = p
    · subst z
      rw [hp] at e; cases e
      exact upd_same ..
    · rw [upd_ne z]
      exact k b o e fun y => y.elim n z
  have h1 := h.kp hO hN (fun _ z => z) k'
  have h2 := h1.dic (o := .dK kvs1) (upd_same ..)
  have e : upd (upd H1 p (.dK kvs)) p (.dK kvs1) = H1 := by
    rw [upd_upd]
    funext b
    by_cases z : b = p
    · subst z; rw [upd_same, hp1]
    · rw [upd_ne z]
  rw [e] at h2
  exact h2
theorem SqT.hole {p : Addr} {kvs : List (Key × V)} {O : Addr → Prop} (hO : ∀ a, O a → ∃ ys, H a = some (.lst ys)) (hp : H p = some (.dK kvs)) (k : Kp (fun b => O b ∨ b = p) H H1) {a : Addr} {xs : List V} (h : SqT K H a xs) : SqT K H1 a xs := by
  have no : ∀ o, H a = some o → (∀ ys, o ≠ .lst ys) → (∀ ys, o ≠ .dK ys) → H1 a = some o := fun o e n n2 => k a o e fun z => by
    rcases z with z | z
    · obtain ⟨ys, q⟩ := hO a z
      rw [q] at e; cases e; exact n _ rfl
    · rw [z, hp] at e; cases e; exact n2 _ rfl
  rcases h with (h | ⟨o, h⟩) | h
  · exact .inl (.inl (no _ h (by intro ys z; cases z) (by intro ys z; cases z)))
  · exact .inl (.inr ⟨o, no _ h (by intro ys z; cases z) (by intro ys z; cases z)⟩)
  · exact .inr h
/-- a statement that leaves slot c as it is -/
def SimC (K : PySem.W.Frag) (c : Nat) (t : TS) (S : MS) : Prop := ∀ (N : Addr → Prop) (H : Hp) (σ : St) (ρ ρ' : Ev) (T : Ends), SlotsOk K N H σ ρ → S ρ = some (.nx, ρ') → (∀ N' H' σ', Stp K N H σ ρ N' H' σ' ρ' → σ'[c]? = σ[c]? → T.nx σ' H') → t T σ H
/-- for x in ..: S; c[t] = c.get(t, 0) + 1 -/
def cntL (t : Nat) (G : MG) (S : MS) (vs : List Nat) : List D → List (Int × Int) → Ev → Option (List (Int × Int) × Ev)
  | [], es, ρ => some (es, wipL ρ vs)
  | d :: ds, es, ρ => match G d (wipL ρ vs) with
    | some ρ1 => match S ρ1 with
      | some (.nx, ρ2) => match ρ2[t]? with
        | some (.val (.int k)) => if es.length < sizeLine ∧ noEs ρ2 = true then cntL t G S vs ds (cntI es k) ρ2 else none
        | _ => none
      | _ => none
    | none => none
abbrev tPut (K : PySem.W.Frag) (c t : Nat) : TS := sDPut (tVar c) (tVar t) (tOp (rAddU K) (tDGet2 (tVar c) (tVar t) (tC (.int 0))) (tC (.int 1)))
/-- a statement behind which slot c holds a new dict (and tells nothing of it) -/
def SimN (K : PySem.W.Frag) (c : Nat) (t : TS) (S : MS) : Prop := ∀ (N : Addr → Prop) (H : Hp) (σ : St) (ρ ρ' : Ev) (T : Ends), SlotsOk K N H σ ρ → S ρ = some (.nx, ρ') →
  (∀ (p : Addr) (N' : Addr → Prop) (H' : Hp) (σ' : St), H p = none → Stp K N H σ ρ N' H' σ' ρ' → H' p = some (.dK []) → σ'[c]? = some (some (.ref p)) → T.nx σ' H') → t T σ H
@[simp] def newS (c : Nat) : MS := fun ρ => if fit ρ c then some (.nx, ρ.set c .non) else none
theorem simN_new (c : Nat) : SimN K c (tAsg tDNewK (gName c)) (newS c) := by
  intro N H σ ρ ρ' T ok e q
  unfold newS at e
  split at e
  · rename_i hf
    cases e
    intro p hp
    have x0 : Ex K σ N H ρ N (upd H p (.dK [])) ρ := Ex.grow ok (New.obj hp)
    have hi2 : c < σ.length := by rw [← ok.len]; exact fit_lt hf
    exact q p N _ _ hp (x0.stp.trans (Stp.nons x0.ok hf (some (.ref p)))) (upd_same ..) (by rw [get_set hi2, if_pos rfl])
  · cases e
/-- c, j = {}, e -/
@[simp] def newPS (c j : Nat) (B : ME) : MS := fun ρ => match B ρ with
  | some (b, ρ1) => if fit ρ1 c && fit (ρ1.set c .non) j && (c != j) then some (.nx, (ρ1.set c .non).set j (.val b)) else none
  | none => none
/-- i, j, c = e, f, {} -/
@[simp] def new3S (i j c : Nat) (A B : ME) : MS := fun ρ => match A ρ with
  | some (a, ρ1) => match B ρ1 with
    | some (b, ρ2) => if fit ρ2 i && fit (ρ2.set i (.val a)) j && fit ((ρ2.set i (.val a)).set j (.val b)) c then some (.nx, ((ρ2.set i (.val a)).set j (.val b)).set c .non) else none
    | none => none
  | none => none
@[simp] def countS (c t : Nat) (P : MS) (A : ME) (G : MG) (S : MS) (vs : List Nat) : MS := fun ρ => match P ρ with
  | some (.nx, ρ0) => match itA A ρ0 with
    | some (ds, ρ1) => match cntL t G S vs ds [] ρ1 with
      | some (es, ρ2) => if fit ρ2 c then some (.nx, ρ2.set c (.scr (.es es))) else none
      | none => none
    | none => none
  | _ => none
end
end DL

set_option Elab.async false
set_option linter.all false
set_option maxRecDepth 100000
set_option maxHeartbeats 1000000
namespace SX
open PySem PyProof.Rows L2
section
variable {prog : Program} {w : World} {A : Around} {E : Value → Shared → Prop} {s : Shared}
end
end SX
namespace L2
open PySem PySem.Spec PyProof.Rows
section
variable {X : Cx}
def rSortDK : List V → Hp → VK → Prop := fun xs H Q => ∃ (a : Addr) (es : List (Int × Int)), xs = [.ref a] ∧ H a = some (.dK (es.map DL.kvI)) ∧ ∀ (p : Addr) (ns : List Int), H p = none → ns.Perm (es.map (·.1)) → ns.Pairwise (· ≤ ·) → Q (.ref p) (upd H p (.lst (ns.map V.int)))
def rListDK : List V → Hp → VK → Prop := fun xs H Q => ∃ (a : Addr) (es : List (Int × Int)), xs = [.ref a] ∧ H a = some (.dK (es.map DL.kvI)) ∧ ∀ (p : Addr), H p = none → Q (.ref p) (upd H p (.lst ((es.map (·.1)).map V.int)))
/-- sorted(xs), xs a list of ints of any length -/
def rSortAny (K : PySem.W.Frag) : List V → Hp → VK → Prop := fun xs H Q => ∃ (a : Addr) (ms : List Int), xs = [.ref a] ∧ SqL K H a (ms.map V.int) ∧ ∀ (p : Addr) (ns : List Int), H p = none → ns.Perm ms → ns.Pairwise (· ≤ ·) → Q (.ref p) (upd H p (.lst (ns.map V.int)))
end
end L2
namespace DL
open PySem L2
section
variable {K : PySem.W.Frag} {N N1 N2 : Addr → Prop} {H H1 H2 : Hp} {σ σ1 σ2 : St} {ρ ρ1 ρ2 : Ev}
/-! a dict is read -/
@[simp] def getE (ρ : Ev) (i : Nat) : Option (List (Int × Int)) := match ρ[i]? with
  | some (.scr (.es es)) => some es
  | _ => none
def lookI (es : List (Int × Int)) (k : Int) : Option Int := (es.find? fun p => decide (p.1 = k)).map (·.2)
@[simp] def dgE (c : Nat) (A : ME) : ME := fun ρ => match getE ρ c with
  | some es => match A ρ with
    | some (.int k, ρ1) => match lookI es k with
      | some v => some (.int v, ρ1)
      | none => none
    | _ => none
  | none => none
@[simp] def sortDA (c : Nat) : MA := fun ρ => match getE ρ c with
  | some es => some ((sortI (es.map (·.1))).map .int, ρ)
  | none => none
@[simp] def listDA (c : Nat) : MA := fun ρ => match getE ρ c with
  | some es => some ((es.map (·.1)).map .int, ρ)
  | none => none
def sortAD : List D → Option (List D)
  | [.list ds] => match intsD ds with
    | some ns => some ((sortI ns).map .int)
    | none => none
  | _ => none
@[simp] theorem sortAD_e1 : sortAD [.list ds] = match intsD ds with
    | some ns => some ((sortI ns).map .int)
    | none => none := rfl
/-- a call that leaves the last one to its default, and gives back a new list -/
@[simp] def cbOD (F : FnO) (x : Str) (A : MA) : MA := fun ρ => match A ρ with
  | some (ds, ρ1) => match F (ds ++ [.str x]) with
    | some d => some (d, ρ1)
    | none => none
  | none => none
/-! the count, reckoned -/
def cntF (ks : List Int) : List (Int × Int) := ks.foldl cntI []
end
end DL

set_option Elab.async false
set_option linter.all false
set_option maxRecDepth 100000
set_option maxHeartbeats 1000000
namespace SX
open PySem PyProof.Rows L2
section
variable {prog : Program} {w : World} {A : Around} {E : Value → Shared → Prop} {s : Shared}
end
end SX
namespace L2
open PySem PySem.Spec PyProof.Rows
section
variable {X : Cx}
/-- sorted(xs), xs a list or a tuple of ints, of any length -/
def rSortB (K : PySem.W.Frag) : List V → Hp → VK → Prop := fun xs H Q => ∃ (a : Addr) (ms : List Int), xs = [.ref a] ∧ (SqL K H a (ms.map V.int) ∨ SqT K H a (ms.map V.int)) ∧ ∀ (p : Addr) (ns : List Int), H p = none → ns.Perm ms → ns.Pairwise (· ≤ ·) → Q (.ref p) (upd H p (.lst (ns.map V.int)))
end
end L2
namespace DL
open PySem L2
section
variable {K : PySem.W.Frag}
def sortBD : List D → Option (List D)
  | [d] => match itemsD d with
    | some ds => match intsD ds with
      | some ns => some ((sortI ns).map .int)
      | none => none
    | none => none
  | _ => none
@[simp] theorem sortBD_e1 : sortBD [d] = match itemsD d with
    | some ds => match intsD ds with
      | some ns => some ((sortI ns).map .int)
      | none => none
    | none => none := rfl
end
end DL

set_option Elab.async false
set_option linter.all false
set_option maxRecDepth 100000
set_option maxHeartbeats 1000000
namespace L2
open PySem PySem.Spec PyProof.Rows
section
variable {X : Cx}
/-- xs[::-1] of a list: a new list -/
def tRevL (K : PySem.W.Frag) (te : TE) : TE := fun σ H Q => te σ H fun x H1 => ∃ a xs, x = .ref a ∧ SqL K H1 a xs ∧ ∀ p, H1 p = none → Q (.ref p) (upd H1 p (.lst xs.reverse))
end
end L2
namespace DL
open PySem L2
section
variable {K : PySem.W.Frag}
@[simp] def revLA (A : ME) : MA := fun ρ => match A ρ with
  | some (.list ds, ρ1) => some (ds.reverse, ρ1)
  | _ => none
end
end DL

set_option Elab.async false
set_option linter.all false
set_option maxRecDepth 100000
set_option maxHeartbeats 1000000
/-! list(range(n)), min(xs, default=n) -/
namespace L2
open PySem PySem.Spec PyProof.Rows
section
variable {X : Cx}
structure RngL (j : Int) : Prop where
  lo : 0 ≤ j
  hi : j ≤ 2 ^ 24
def tLR (ta : TA) : TE := fun σ H Q => ta σ H fun vs H1 => ∃ j : Int, vs = [.int j] ∧ RngL j ∧ ∀ l, H1 l = none → Q (.ref l) (upd H1 l (.lst ((List.range j.toNat).map fun (i : Nat) => V.int (0 + i))))
/-! min with a default -/
def tMD (K : PySem.W.Frag) (te tk : TE) : TE := fun σ H Q => te σ H fun v H1 => tk σ H1 fun d H2 => ∃ (a : Addr) (ns : List Int) (n : Int), v = .ref a ∧ d = .int n ∧ SqL K H2 a (ns.map V.int) ∧ (ns = [] → Q (.int n) H2) ∧ ∀ m, m ∈ ns → (∀ y, y ∈ ns → m ≤ y) → Q (.int m) H2
end
end L2
namespace DL
open PySem L2
section
variable {K : PySem.W.Frag}
open Classical in
@[simp] noncomputable def lrA (A : MA) : MA := fun ρ => match A ρ with
  | some ([.int j], ρ1) => if RngL j then some (rangeD 0 j.toNat, ρ1) else none
  | _ => none
def minDD (n : Int) : D → Option D
  | .list ds => match intsD ds with
    | some [] => some (.int n)
    | some (m :: ns) => some (.int (ns.foldl min m))
    | none => none
  | _ => none
@[simp] def mdE (n : Int) (A : ME) : ME := fun ρ => match A ρ with
  | some (d, ρ1) => match minDD n d with
    | some r => some (r, ρ1)
    | none => none
  | none => none
end
end DL

set_option Elab.async false
set_option linter.all false
set_option maxRecDepth 100000
set_option maxHeartbeats 1000000
namespace DL
open PySem L2
/-! {} and {0: 1} as data: known from the beginning, they stay -/
def tOddD (es : List (Int × Int)) : TE := fun _ H Q => ∀ (p : Addr) (o : Obj), H p = none → Q (.ref p) (upd H p (.frz o (.dK (es.map kvI))))
section
variable {X : Cx} {K : PySem.W.Frag} {pos : Pos}
theorem pe_oddOf {e : Expr} {t : TE} (es : List (Int × Int)) (h : PE X e t) (ht : ∀ σ H, t σ H fun v H1 => ∃ p, v = .ref p ∧ H p = none ∧ H1 = upd H p (.dK (es.map kvI))) : PE X e (tOddD es) := by
  intro pins s σ H Q I q
  refine thn (h pins s σ H _ I (ht σ H)) fun u s1 ⟨v, H1, I1, r, p, ev, hp, eH⟩ => ?_
  subst ev eH
  obtain ⟨od, I2⟩ := I1.lock (d := p) (upd_same ..) trivial
  rw [upd_upd] at I2
  exact ⟨_, _, I2, r, q p od hp⟩
theorem pe_odd0 : PE X (.Dict [] [] pos) (tOddD []) := pe_oddOf [] pe_dnewK fun σ H p hp => ⟨p, rfl, hp, rfl⟩
theorem pe_odd1 {pa pb : Pos} {ka kb} : PE X (.Dict [some (.Constant (.int 0) ka pa)] [.Constant (.int 1) kb pb] pos) (tOddD [(0, 1)]) :=
  pe_oddOf [(0, 1)] (pe_disp (pps_cons pe_int pe_int pps_nil) (by rfl) (by rfl) (fun z => by cases z) (by show 1 ≤ 15; omega)) fun σ H p hp => ⟨upd_same, [(.inl 0, .int 1)], rfl, by decide, p, rfl, hp, by rw [upd_upd]; rfl⟩
theorem simE_odd (es : List (Int × Int)) : SimE K (tOddD es) (cE (.dict (es.map dI))) := by
  intro N H σ ρ ρ' d Q ok e q
  cases e
  exact fun p o hp => q _ N _ (Ex.grow ok (New.obj hp)) (.dct (upd_same ..))
theorem simE_odd0 : SimE K (tOddD []) (cE (.dict [])) := simE_odd []
theorem simE_odd1 : SimE K (tOddD [(0, 1)]) (cE (.dict [(.int 0, .int 1)])) := simE_odd [(0, 1)]
/-- xs + ys, a new list, one's own -/
@[simp] def catA (A B : ME) : MA := fun ρ => match A ρ with
  | some (.list xs, ρ1) => match B ρ1 with
    | some (.list ys, ρ2) => if xs.length + ys.length ≤ sizeLine then some (xs ++ ys, ρ2) else none
    | _ => none
  | _ => none
/-- a def that calls itself: nothing is promised at depth 0 -/
theorem fn_zero {P : Program} {w : World} {mg : Str → Option Value} {base : Heap} {CX : CXT} {k : Nat} {f : Addr} {fd : FuncData} {ps : List Str} {sp : Sp} (h : ∀ vs H Q E, ¬ sp vs H Q E) : FnOk P w K mg base CX k f fd ps sp :=
  ⟨fun vs H Q E q => (h vs H Q E q).elim, fun A outer s H args us vs Q E _ _ _ _ q => (h vs H Q E q).elim⟩
theorem spB_none {vs : List V} {H : Hp} {Q : VK} {E : XK} : ¬ SpB K (fun _ _ => none) vs H Q E := by
  rintro ⟨_, _, _, _, _, _, _, _, _, _, _, _, _, _, z, _⟩; cases z
end
end DL

set_option Elab.async false
set_option linter.all false
set_option maxRecDepth 100000
set_option maxHeartbeats 1000000
namespace DL
open PySem L2
/-! fractions -/
def fr (q : Rat) : D := .tuple [.int q.num, .int q.den]
/-- top and bottom are below 2 ^ B -/
structure Sz (B : Nat) (q : Rat) : Prop where
  n : q.num.natAbs < 2 ^ B
  d : q.den < 2 ^ B
theorem Sz.mono {A B : Nat} {q : Rat} (h : Sz A q) (hl : A ≤ B) : Sz B q := ⟨Nat.lt_of_lt_of_le h.n (Nat.pow_le_pow_right (by decide) hl), Nat.lt_of_lt_of_le h.d (Nat.pow_le_pow_right (by decide) hl)⟩
theorem natAbs_div_le (a : Int) (g : Nat) : (a / (g : Int)).natAbs ≤ a.natAbs := by
  cases g with
  | zero => simp
  | succ n =>
    have := Int.natAbs_ediv_le_natAbs a ((n + 1 : Nat) : Int)
    exact this
theorem num_of {a b : Int} (hb : 0 < b) : (Rat.divInt a b).num = a / (Int.gcd a b : Nat) := by
  rw [Rat.num_divInt, Int.sign_eq_one_of_pos hb, Int.one_mul, Int.gcd_comm]
theorem den_of {a b : Int} (hb : 0 < b) : ((Rat.divInt a b).den : Int) = b / (Int.gcd a b : Nat) := by
  rw [Rat.den_divInt, if_neg (by omega), Int.gcd_comm]
  have : (b.natAbs : Int) = b := Int.natAbs_of_nonneg (by omega)
  rw [Int.natCast_ediv, this]
theorem sz_divInt {a b : Int} {B : Nat} (hb : 0 < b) (h1 : a.natAbs < 2 ^ B) (h2 : b.natAbs < 2 ^ B) : Sz B (Rat.divInt a b) := by
  refine ⟨?_, ?_⟩
  · rw [num_of hb]; exact Nat.lt_of_le_of_lt (natAbs_div_le ..) h1
  · have h := den_of (a := a) hb
    have := natAbs_div_le b (Int.gcd a b)
    omega
theorem lt_mul {a b : Int} {A B : Nat} (h1 : a.natAbs < 2 ^ A) (h2 : b.natAbs < 2 ^ B) : (a * b).natAbs < 2 ^ (A + B) := by
  rw [Int.natAbs_mul, Nat.pow_add]
  exact Nat.mul_lt_mul'' h1 h2
theorem lt_up {a : Int} {A B : Nat} (h : a.natAbs < 2 ^ A) (hl : A ≤ B) : a.natAbs < 2 ^ B := Nat.lt_of_lt_of_le h (Nat.pow_le_pow_right (by decide) hl)
theorem Sz.dI {B : Nat} {q : Rat} (h : Sz B q) : ((q.den : Int)).natAbs < 2 ^ B := by have := h.d; omega
theorem sz0 : Sz 1 0 := ⟨by decide, by decide⟩
/-! rows -/
structure Row where
  t : Int
  w : Int
  e : List Int
def Row.D (r : Row) : D := .tuple [.int r.t, .int r.w, .tuple (r.e.map .int)]
def endTimes (bk : List Sn) : List Int := sset ((bk.filter fun s => decide (s.2.2 ≠ 0)).map fun s => s.2.1)
def wat (t : Int) (s : Sn) : Bool := decide (s.1 < t) && decide (t ≤ s.2.1)
def countW (bk : List Sn) (t : Int) : Int := ((bk.filter (wat t)).length : Nat)
def countE (bk : List Sn) (t k : Int) : Int := ((bk.filter fun s => decide (s.2.1 = t) && decide (s.2.2 = k)).length : Nat)
def endsL (bk : List Sn) (t : Int) : List Int := [countE bk t 1, countE bk t 2, countE bk t 3, countE bk t 4]
def rowsL (bk : List Sn) : List Row := (endTimes bk).map fun t => ⟨t, countW bk t, endsL bk t⟩
def stD (p : Int × Rat) : D := .tuple [.int p.1, fr p.2]
/-- what is known of a row -/
structure RowOk (r : Row) : Prop where
  t : 0 < r.t ∧ r.t ≤ 999
  w : 0 < r.w ∧ r.w ≤ 40
  e : r.e.length = 4 ∧ ∀ x ∈ r.e, 0 ≤ x ∧ x ≤ 40
theorem RowOk.sum {r : Row} (h : RowOk r) : 0 ≤ r.e.sum ∧ r.e.sum ≤ 160 := by
  obtain ⟨t, w, e⟩ := r
  obtain ⟨h1, h2⟩ := h.e
  simp only at h1 h2
  obtain ⟨a, b, c, d, rfl⟩ : ∃ a b c d, e = [a, b, c, d] := by
    match e, h1 with
    | [a, b, c, d], _ => exact ⟨a, b, c, d, rfl⟩
  simp only [List.mem_cons, List.not_mem_nil, or_false, forall_eq_or_imp, forall_eq] at h2
  simp only [List.sum_cons, List.sum_nil]
  omega
def Row.rate (r : Row) : Rat := Rat.divInt r.e.sum r.w
theorem RowOk.sz {r : Row} (h : RowOk r) : Sz 8 r.rate := by
  have := h.sum; have := h.w
  exact sz_divInt h.w.1 (by omega) (by omega)
/-- sums of rates, row by row -/
def accL (a : Rat) : List Row → List (Int × Rat)
  | [] => []
  | r :: rs => (r.t, a + r.rate) :: accL (a + r.rate) rs
def ratesL (bk : List Sn) : List (Int × Rat) := accL 0 (rowsL bk)
end DL

set_option Elab.async false
set_option linter.all false
set_option maxRecDepth 100000
set_option maxHeartbeats 1000000
namespace DL
open PySem L2
/-- a reading of a list that changes no slot -/
abbrev Is (A : MA) (ρ : Ev) (xs : List D) : Prop := A ρ = some (xs, ρ)
/-- a loop in each turn of which the slots stay -/
theorem forL_same {α : Type} {G : MG} {S : MS} {vs : List Nat} (enc : α → D) (ρ0 : Ev) (xs : List α) (ρ : Ev) (h0 : wipL ρ vs = ρ0) (h : ∀ x ∈ xs, turn G S vs (enc x) ρ0 = some ρ0) : forL G S vs (xs.map enc) ρ = some (.nx, ρ0) :=
  (forL_of enc (fun _ : Unit => ρ0) (fun _ _ => ()) (fun _ => True) xs () ρ h0 trivial fun _ x hx _ => ⟨h x hx, trivial⟩).1
/-- the same, of data as they are -/
theorem forL_sameD {G : MG} {S : MS} {vs : List Nat} (ρ0 : Ev) (ds : List D) (ρ : Ev) (h0 : wipL ρ vs = ρ0) (h : ∀ d ∈ ds, turn G S vs d ρ0 = some ρ0) : forL G S vs ds ρ = some (.nx, ρ0) := by
  have := forL_same (G := G) (S := S) (vs := vs) (fun d : D => d) ρ0 ds ρ h0 h
  rwa [List.map_id'] at this
/-- a loop by an invariant of the slots that the turns count -/
theorem forL_inD {G : MG} {S : MS} {vs : List Nat} (I : Nat → Ev → Prop) (ds : List D) (ρ : Ev) (h0 : I 0 (wipL ρ vs)) (h : ∀ i ρ d, d ∈ ds → I i ρ → ∃ ρ', turn G S vs d ρ = some ρ' ∧ I (i + 1) ρ') : ∃ ρ', forL G S vs ds ρ = some (.nx, ρ') ∧ I ds.length ρ' := by
  have := forL_all (G := G) (S := S) (vs := vs) (fun d : D => d) I ds 0 ρ h0 h
  rw [List.map_id', Nat.zero_add] at this
  exact this
/-! places and slices -/
/-! data whose text is short -/
structure Sh (w k : Nat) (d : D) : Prop where
  sh : d.showable = true
  tx : d.shown.length ≤ w
  dp : d.depth ≤ k
structure ShL (w k : Nat) (ds : List D) : Prop where
  sh : PyData.showableAll ds = true
  tx : ((PyData.shownAll ds).map (·.length)).sum ≤ w
  dp : PyData.depthAll ds ≤ k
theorem Sh.mono {w k w' k' : Nat} {d : D} (h : Sh w k d) (hw : w ≤ w') (hk : k ≤ k') : Sh w' k' d := ⟨h.sh, Nat.le_trans h.tx hw, Nat.le_trans h.dp hk⟩
theorem ShL.mono {w k w' k' : Nat} {d : List D} (h : ShL w k d) (hw : w ≤ w') (hk : k ≤ k') : ShL w' k' d := ⟨h.sh, Nat.le_trans h.tx hw, Nat.le_trans h.dp hk⟩
theorem Sh.int {B : Nat} {i : Int} (h : i.natAbs < 2 ^ B) (hB : B ≤ 1900 := by omega) : Sh (B + 2) 0 (.int i) := by
  have hl : i.natAbs.log2 < B + 1 := by
    by_cases z : i.natAbs = 0
    · rw [z]; show 0 < B + 1; omega
    · have := (Nat.log2_lt z).mpr h; omega
  refine ⟨?_, ?_, ?_⟩
  · simp only [PyData.showable, decide_eq_true_eq]; omega
  · simp only [PyData.shown]
    rw [PySem.ofString_length]
    exact int_text_length_le (by omega) hl
  · simp [PyData.depth]
theorem Sh.none : Sh 4 0 .none := ⟨rfl, by simp only [PyData.shown]; decide, by simp [PyData.depth]⟩
theorem Sh.bool (b : Bool) : Sh 5 0 (.bool b) := ⟨rfl, by cases b <;> simp only [PyData.shown] <;> decide, by simp [PyData.depth]⟩
theorem ShL.nil : ShL 0 0 [] := ⟨by simp [PyData.showableAll], by simp [PyData.shownAll], by simp [PyData.depthAll]⟩
theorem ShL.cons {w k w' k' : Nat} {d : D} {ds : List D} (h : Sh w k d) (t : ShL w' k' ds) : ShL (w + w') (max k k') (d :: ds) := by
  have a := h.tx; have b := t.tx; have c := h.dp; have e := t.dp
  exact ⟨by simp [PyData.showableAll, h.sh, t.sh], by simp only [PyData.shownAll, List.map_cons, List.sum_cons]; omega, by simp only [PyData.depthAll]; omega⟩
theorem shownAll_len : ∀ ds : List D, (PyData.shownAll ds).length = ds.length
  | [] => by simp [PyData.shownAll]
  | d :: ds => by simp [PyData.shownAll, shownAll_len ds]
theorem Sh.tup {w k : Nat} {ds : List D} (h : ShL w k ds) : Sh (w + 2 * ds.length + 3) (k + 1) (.tuple ds) := by
  have b := h.tx; have e := h.dp
  refine ⟨by simp [PyData.showable, h.sh], ?_, by simp only [PyData.depth]; omega⟩
  simp only [PyData.shown]
  have := tupleText_len_le (PyData.shownAll ds)
  rw [shownAll_len] at this
  omega
theorem Sh.lst {w k : Nat} {ds : List D} (h : ShL w k ds) : Sh (w + 2 * ds.length + 3) (k + 1) (.list ds) := by
  have b := h.tx; have e := h.dp
  refine ⟨by simp [PyData.showable, h.sh], ?_, by simp only [PyData.depth]; omega⟩
  simp only [PyData.shown]
  have := listText_len_le (PyData.shownAll ds)
  rw [shownAll_len] at this
  omega
theorem ShL.map {α : Type} {w k : Nat} {f : α → D} : ∀ {l : List α}, (∀ x ∈ l, Sh w k (f x)) → ShL (l.length * w) k (l.map f)
  | [], _ => ⟨by simp [PyData.showableAll], by simp [PyData.shownAll], by simp [PyData.depthAll]⟩
  | x :: l, h => by
    have t := ShL.map (l := l) fun y hy => h y (List.mem_cons_of_mem _ hy)
    exact (ShL.cons (h x (List.mem_cons_self ..)) t).mono (by rw [List.length_cons, Nat.succ_mul]; omega) (by omega)
theorem Sh.mapT {α : Type} {w k n : Nat} {f : α → D} {l : List α} (h : ∀ x ∈ l, Sh w k (f x)) (hl : l.length ≤ n) : Sh (n * (w + 2) + 3) (k + 1) (.tuple (l.map f)) := by
  refine (Sh.tup (ShL.map h)).mono ?_ (Nat.le_refl _)
  rw [List.length_map]
  have := Nat.mul_le_mul_right (w + 2) hl
  rw [Nat.mul_add l.length] at this
  omega
theorem Sh.mapL {α : Type} {w k n : Nat} {f : α → D} {l : List α} (h : ∀ x ∈ l, Sh w k (f x)) (hl : l.length ≤ n) : Sh (n * (w + 2) + 3) (k + 1) (.list (l.map f)) := by
  refine (Sh.lst (ShL.map h)).mono ?_ (Nat.le_refl _)
  rw [List.length_map]
  have := Nat.mul_le_mul_right (w + 2) hl
  rw [Nat.mul_add l.length] at this
  omega
theorem Sh.shows {w k : Nat} {d : D} (h : Sh w k d) (hw : w ≤ 16777216 := by omega) (hk : k ≤ 60 := by omega) : DL.shows d = true := by
  unfold DL.shows
  rw [h.sh, decide_eq_true (Nat.le_trans h.dp hk), decide_eq_true (Nat.le_trans h.tx (by rw [sizeLine_val]; exact hw))]; rfl
theorem Sz.sh {B : Nat} {q : Rat} (h : Sz B q) (hB : B ≤ 1900 := by omega) : Sh (2 * B + 11) 1 (fr q) :=
  (Sh.tup (ShL.cons (Sh.int h.n hB) (ShL.cons (Sh.int h.dI hB) ShL.nil))).mono (by simp; omega) (by omega)
end DL
namespace DL
open PySem L2
theorem flatAll_of {α : Type} {f : α → D} (h : ∀ x, flat (f x) = true) : ∀ l : List α, flatAll (l.map f) = true
  | [] => rfl
  | x :: l => by simp [h x, flatAll_of h l]
@[simp] theorem flat_fr (q : Rat) : flat (fr q) = true := by simp [fr]
@[simp] theorem flat_stD (p : Int × Rat) : flat (stD p) = true := by simp [stD]
@[simp] theorem flatAll_stD (l : List (Int × Rat)) : flatAll (l.map stD) = true := flatAll_of flat_stD l
@[simp] theorem flatAll_int (l : List Int) : flatAll (l.map .int) = true := flatAll_of (fun _ => rfl) l
@[simp] theorem flatAll_fr (l : List Rat) : flatAll (l.map fr) = true := flatAll_of flat_fr l
end DL
namespace DL
theorem ite_le {α : Type} {n k : Nat} {a b : α} (h : n ≤ k) : (if n ≤ k then a else b) = a := if_pos h
theorem ite_lt {α : Type} {n k : Nat} {a b : α} (h : n < k) : (if n < k then a else b) = a := if_pos h
end DL
namespace DL
open PySem L2
theorem fmod_in (n : Int) {b : Int} (h : 0 < b) : 0 ≤ n.fmod b ∧ n.fmod b < b := by
  rw [Int.fmod_eq_emod_of_nonneg n (by omega)]
  exact ⟨Int.emod_nonneg n (by omega), Int.emod_lt_of_pos n h⟩
/-! what is told row by row -/
def accF (f : Rat → Row → Rat) (a : Rat) : List Row → List (Int × Rat)
  | [] => []
  | r :: rs => (r.t, f a r) :: accF f (f a r) rs
def lastL (t : Int) (a : Rat) (l : List (Int × Rat)) : Rat := l.foldl (fun a p => if p.1 ≤ t then p.2 else a) a
def rowsUp (rs : List Row) : Prop := rs.Pairwise fun a b => a.t < b.t
/-! shares -/
def Row.left (r : Row) : Rat := Rat.divInt (r.w - r.e.sum) r.w
/-- how many end at a time -/
def countA (bk : List Sn) (t : Int) : Nat := (bk.filter fun s => decide (s.2.1 = t) && decide (s.2.2 ≠ 0)).length
/-- a row: no more end than are watched -/
structure RowOk2 (r : Row) : Prop extends RowOk r where
  s : 0 ≤ r.e.sum ∧ r.e.sum ≤ r.w
def sharesL (bk : List Sn) : List (Int × Rat) := accF (fun a r => a * r.left) 1 (rowsL bk)
def shareAt (bk : List Sn) (t : Int) : Rat := lastL t 1 (sharesL bk)
end DL
namespace DL
open PySem L2
theorem rangeN (n : Nat) : rangeD 0 n = (List.range n).map fun (i : Nat) => (.int i) := by rw [rangeD_map]; refine List.map_congr_left fun i _ => ?_; rw [Int.zero_add]
end DL

set_option Elab.async false
set_option linter.all false
set_option maxRecDepth 100000
set_option maxHeartbeats 1000000
namespace DL
open PySem L2
def optI : Option Int → D
  | none => .none
  | some i => .int i
/-! fractions -/
theorem shaped_fr (q : Rat) : SeqAt.shaped (fr q) = true := by simp [fr, SeqAt.shaped, PyData.canLay0, PyData.canLayAll0, PyData.depth, PyData.depthAll]
theorem eqv_fr (p q : Rat) : PyData.eqv (fr p) (fr q) = decide (p = q) := by
  have : (p = q) ↔ (p.num = q.num ∧ (p.den : Int) = q.den) := ⟨fun h => by subst h; exact ⟨rfl, rfl⟩, fun h => Rat.ext h.1 (by have := h.2; omega)⟩
  simp [fr, PyData.eqv, PyData.eqvAll, this]
  rfl
theorem eqP_fr (p q : Rat) : eqP (fr p) (fr q) = some (decide (p = q)) := by
  have : eqP (fr p) (fr q) = if SeqAt.shaped (fr p) = true ∧ SeqAt.shaped (fr q) = true then some (PyData.eqv (fr p) (fr q)) else none := rfl
  rw [this, shaped_fr, shaped_fr, eqv_fr]; rfl
@[simp] theorem eqD_fr (p q : Rat) : eqD (fr p) (fr q) = some (.bool (decide (p = q))) := by simp [eqD, eqP_fr]
@[simp] theorem neD_fr (p q : Rat) : neD (fr p) (fr q) = some (.bool (!decide (p = q))) := by simp [neD, eqP_fr]
/-! lists against the empty one -/
theorem eqv_list_nil (ds : List D) : PyData.eqv (.list ds) (.list []) = ds.isEmpty := by
  cases ds <;> simp [PyData.eqv, PyData.eqvAll]
theorem ne_nilD {ds : List D} (h : SeqAt.shaped (.list ds) = true) : neD (.list ds) (.list []) = some (.bool (!ds.isEmpty)) := by
  have h2 : SeqAt.shaped (.list []) = true := shaped_sDl []
  have : eqP (.list ds) (.list []) = if SeqAt.shaped (.list ds) = true ∧ SeqAt.shaped (.list []) = true then some (PyData.eqv (.list ds) (.list [])) else none := by cases ds <;> rfl
  simp [neD, this, h, h2, eqv_list_nil]
theorem eq_nilD {ds : List D} (h : SeqAt.shaped (.list ds) = true) : eqD (.list ds) (.list []) = some (.bool ds.isEmpty) := by
  have h2 : SeqAt.shaped (.list []) = true := shaped_sDl []
  have : eqP (.list ds) (.list []) = if SeqAt.shaped (.list ds) = true ∧ SeqAt.shaped (.list []) = true then some (PyData.eqv (.list ds) (.list [])) else none := by cases ds <;> rfl
  simp [eqD, this, h, h2, eqv_list_nil]
theorem shaped_list {α : Type} {f : α → D} {n : Nat} (hc : ∀ x, (f x).canLay0 = true) (hd : ∀ x, (f x).depth ≤ n) (hn : n < 50) (l : List α) : SeqAt.shaped (.list (l.map f)) = true := by
  have c : PyData.canLayAll0 (l.map f) = true := by
    induction l with
    | nil => rfl
    | cons x l ih => simp [PyData.canLayAll0, hc x, ih]
  have d : PyData.depthAll (l.map f) ≤ n := by
    induction l with
    | nil => simp [PyData.depthAll]
    | cons x l ih =>
      have ih := ih (by simp only [List.map_cons, PyData.canLayAll0, Bool.and_eq_true] at c; exact c.2)
      simp only [List.map_cons, PyData.depthAll]; have := hd x; omega
  unfold SeqAt.shaped
  rw [Bool.and_eq_true]
  exact ⟨by simp [PyData.canLay0, c], decide_eq_true (by simp only [PyData.depth]; omega)⟩
@[simp] theorem shaped_ints (l : List Int) : SeqAt.shaped (.list (l.map .int)) = true := shaped_list (n := 0) (fun _ => rfl) (fun _ => by simp [PyData.depth]) (by omega) l
theorem ne_nilI (l : List Int) : neD (.list (l.map .int)) (.list []) = some (.bool (!l.isEmpty)) := by rw [ne_nilD (shaped_ints l)]; simp
/-! sizes by the number of rows -/
/-! shares are from 0 to 1 -/
theorem rle_div {a b c : Rat} (hc : 0 < c) : a ≤ b / c ↔ a * c ≤ b := by
  have := Rat.div_lt_iff (a := b) (c := a) hc
  rw [← Rat.not_lt, ← Rat.not_lt, this]
theorem rdiv_le {a b c : Rat} (hc : 0 < c) : b / c ≤ a ↔ b ≤ a * c := by
  have := Rat.lt_div_iff (a := a) (b := b) hc
  rw [← Rat.not_lt, ← Rat.not_lt, this]
theorem RowOk2.left {r : Row} (h : RowOk2 r) : 0 ≤ r.left ∧ r.left ≤ 1 := by
  have w : (0 : Rat) < (r.w : Rat) := by have := h.w.1; exact_mod_cast this
  have s0 : (0 : Rat) ≤ (r.e.sum : Rat) := by have := h.s.1; exact_mod_cast this
  have s1 : (r.e.sum : Rat) ≤ (r.w : Rat) := by have := h.s.2; exact_mod_cast this
  unfold Row.left
  rw [Rat.divInt_eq_div, Rat.intCast_sub]
  constructor
  · rw [rle_div w]; grind
  · rw [rdiv_le w]; grind
/-- the rows up to a time -/
def rowsTo (bk : List Sn) (t : Int) : List Row := (rowsL bk).filter fun r => decide (r.t ≤ t)
/-! the mean -/
def meanSt (T : Int) (s : Rat × Int × Rat) (p : Int × Rat) : Rat × Int × Rat := if p.1 < T then (s.1 + s.2.2 * ((p.1 - s.2.1 : Int) : Rat), p.1, p.2) else s
def meanEnd (T : Int) (s : Rat × Int × Rat) : Rat := s.1 + s.2.2 * ((T - s.2.1 : Int) : Rat)
def meanOf (bk : List Sn) (T : Int) : Rat := meanEnd T ((sharesL bk).foldl (meanSt T) (0, 0, 1))
/-- f a + f (a + 1) + .. , n of them -/
def sumFrom (f : Int → Rat) (a : Int) : Nat → Rat
  | 0 => 0
  | n + 1 => f a + sumFrom f (a + 1) n
end DL
namespace DL
open PySem L2
end DL
namespace DL
open PySem L2
end DL
namespace DL
open PySem L2
def Row.term (r : Row) : Rat := Rat.divInt r.e.sum (r.w * (r.w - r.e.sum))
def spreadOf (bk : List Sn) (t : Int) : Option Rat := if shareAt bk t = 0 then none else some (shareAt bk t * shareAt bk t * ((rowsTo bk t).map Row.term).foldl (· + ·) 0)
def optQ : Option Rat → D
  | none => .none
  | some q => fr q
end DL
namespace DL
open PySem L2
end DL
namespace DL
open PySem L2
def termsOf (x : Row × Rat) : List Rat := [x.2 ^ (x.1.w - x.1.e.sum).toNat, (1 - x.2) ^ x.1.e.sum.toNat]
def prodL (l : List Rat) : Rat := l.foldl (· * ·) 1
def worthOf (rs : List Row) (ps : List Rat) : Rat := prodL ((rs.zip ps).flatMap termsOf)
theorem eqP_tup {ds es : List D} (h1 : SeqAt.shaped (.tuple ds) = true) (h2 : SeqAt.shaped (.tuple es) = true) : eqP (.tuple ds) (.tuple es) = some (PyData.eqv (.tuple ds) (.tuple es)) := by
  have : eqP (.tuple ds) (.tuple es) = if SeqAt.shaped (.tuple ds) = true ∧ SeqAt.shaped (.tuple es) = true then some (PyData.eqv (.tuple ds) (.tuple es)) else none := rfl
  rw [this, h1, h2]; rfl
theorem zip_enc {α β : Type} (f : α → D) (g : β → D) (xs : List α) (ys : List β) : ((xs.map f).zip (ys.map g)).map pairD = (xs.zip ys).map fun p => pairD (f p.1, g p.2) := by
  rw [List.zip_map, List.map_map]; rfl
end DL
namespace DL
open PySem L2
theorem seq_step {A B : MS} {ρ ρ1 : Ev} {r : Option (Fl × Ev)} (h : A ρ = some (.nx, ρ1)) (h2 : B ρ1 = r) : seqS A B ρ = r := by
  unfold seqS; rw [h]; exact h2
theorem turn_of {G : MG} {S : MS} {vs : List Nat} {d : D} {ρ ρ1 ρ2 ρ' : Ev} (h1 : G d ρ = some ρ1) (h2 : S ρ1 = some (.nx, ρ2)) (h3 : wipL ρ2 vs = ρ') : turn G S vs d ρ = some ρ' := by
  unfold turn; rw [h1]; simp only [h2, h3]
end DL
namespace DL
open PySem L2
theorem turn_body {G : MG} {S : MS} {vs : List Nat} {d : D} {ρ ρ1 ρ' : Ev} (h1 : G d ρ = some ρ1) (h : ∃ ρ2, S ρ1 = some (.nx, ρ2) ∧ wipL ρ2 vs = ρ') : turn G S vs d ρ = some ρ' := by
  obtain ⟨ρ2, h2, h3⟩ := h; exact turn_of h1 h2 h3
theorem ex_seq {A B : MS} {ρ ρ1 : Ev} {P : Ev → Prop} (h : A ρ = some (.nx, ρ1)) (h2 : ∃ ρ2, B ρ1 = some (.nx, ρ2) ∧ P ρ2) : ∃ ρ2, seqS A B ρ = some (.nx, ρ2) ∧ P ρ2 := by
  obtain ⟨ρ2, h3, h4⟩ := h2; exact ⟨ρ2, seq_step h h3, h4⟩
theorem ex_end {A : MS} {ρ ρ1 : Ev} {P : Ev → Prop} (h : A ρ = some (.nx, ρ1)) (hp : P ρ1) : ∃ ρ2, A ρ = some (.nx, ρ2) ∧ P ρ2 := ⟨ρ1, h, hp⟩
end DL

set_option Elab.async false
set_option linter.all false
set_option maxRecDepth 100000
set_option maxHeartbeats 1000000
namespace DL
open PySem L2
/-! sums and products of lists of fractions -/
def sumR (l : List Rat) : Rat := l.foldr (· + ·) 0
def prodR (l : List Rat) : Rat := l.foldr (· * ·) 1
@[simp] theorem sumR_nil : sumR [] = 0 := rfl
@[simp] theorem sumR_cons (x : Rat) (l : List Rat) : sumR (x :: l) = x + sumR l := rfl
@[simp] theorem prodR_nil : prodR [] = 1 := rfl
@[simp] theorem prodR_cons (x : Rat) (l : List Rat) : prodR (x :: l) = x * prodR l := rfl
theorem sumR_perm {l l' : List Rat} (h : l.Perm l') : sumR l = sumR l' := by
  induction h with
  | nil => rfl
  | cons x _ ih => simp [ih]
  | swap x y l => simp; grind
  | trans _ _ a b => rw [a, b]
/-! rows of a book, more of them -/
/-- each span twice -/
def Row.dbl (r : Row) : Row := ⟨r.t, 2 * r.w, r.e.map (2 * ·)⟩
/-! lists and tuples of fractions are equal just where the fractions are -/
end DL
namespace DL
open PySem L2
theorem forL_allI {α : Type} {G : MG} {S : MS} {vs : List Nat} (enc : α → D) (I : Nat → Ev → Prop) (xs : List α) (ρ : Ev) (h0 : I 0 (wipL ρ vs)) (h : ∀ i ρ x, xs[i]? = some x → I i ρ → ∃ ρ', turn G S vs (enc x) ρ = some ρ' ∧ I (i + 1) ρ') : ∃ ρ', forL G S vs (xs.map enc) ρ = some (.nx, ρ') ∧ I xs.length ρ' := by
  have key : ∀ (ys zs : List α) (ρ : Ev), xs = zs ++ ys → I zs.length (wipL ρ vs) → ∃ ρ', forL G S vs (ys.map enc) ρ = some (.nx, ρ') ∧ I xs.length ρ' := by
    intro ys
    induction ys with
    | nil => intro zs ρ e hi; exact ⟨_, rfl, by rw [e]; simpa using hi⟩
    | cons y ys ih =>
      intro zs ρ e hi
      obtain ⟨ρ', h1, h2⟩ := h zs.length _ y (by rw [e]; simp) hi
      obtain ⟨ρ2, h3, h4⟩ := forL_cons (ds := ys.map enc) h1
      obtain ⟨ρ3, h5, h6⟩ := ih (zs ++ [y]) ρ2 (by rw [e]; simp) (by rw [h3]; simpa using h2)
      exact ⟨ρ3, by rw [List.map_cons, h4, h5], h6⟩
  exact key xs [] ρ rfl h0
theorem lt_get {α : Type} {xs : List α} {i : Nat} {x : α} (h : xs[i]? = some x) : i < xs.length := (List.getElem?_eq_some_iff.mp h).1
end DL

set_option Elab.async false
set_option linter.all false
set_option maxRecDepth 100000
set_option maxHeartbeats 1000000
namespace DL
open PySem L2
/-! choices -/
def chs : Nat → Nat → Nat
  | _, 0 => 1
  | 0, _ + 1 => 0
  | n + 1, k + 1 => chs n k + chs n (k + 1)
@[simp] theorem chs_0 (n : Nat) : chs n 0 = 1 := by cases n <;> rfl
@[simp] theorem chs_z (k : Nat) : chs 0 (k + 1) = 0 := rfl
theorem chs_s (n k : Nat) : chs (n + 1) (k + 1) = chs n k + chs n (k + 1) := rfl
/-- a row of the triangle -/
def rowP (n : Nat) : List Int := (List.range (n + 1)).map fun k => (chs n k : Int)
/-- how likely k of n are, over one bottom -/
def termI (n : Nat) (t u : Int) (k : Nat) : Int := (chs n k : Int) * t ^ k * u ^ (n - k)
/-- how sure a band is -/
def sureT (n : Nat) (t u : Int) (i j : Nat) : Int := ((List.range (j - i)).map fun x => termI n t u (i + x)).sum
def sureQ (n : Nat) (q : Rat) (i j : Nat) : Rat := Rat.divInt (sureT n q.num (q.den - q.num) i j) ((q.den : Int) ^ n)
end DL
namespace DL
open PySem L2
/-! truths -/
def Plain (bk : List Sn) : Prop := ∀ s ∈ bk, s.1 = 0
def soonL (bk : List Sn) : List Sn := bk.map fun s => if s.2.2 = 0 then (0, s.2.1 + 1, 1) else s
def lateL (bk : List Sn) : List Sn := bk.map fun s => if s.2.2 = 0 then (0, 2000, 1) else s
def beyond (tr : List Sn) (t : Int) : Nat := (tr.filter fun s => decide (t < s.2.1)).length
def tshare (tr : List Sn) (t : Int) : Rat := Rat.divInt (beyond tr t) tr.length
/-- spans of numbers that are not great -/
structure Near (s : Sn) : Prop where
  a : 0 ≤ s.1 ∧ s.1 ≤ 2000
  b : 0 ≤ s.2.1 ∧ s.2.1 ≤ 2000
  c : 0 ≤ s.2.2 ∧ s.2.2 ≤ 4
theorem near_good {s : Sn} (h : good s) : Near s := by
  obtain ⟨h1, h2, h3, h4, h5⟩ := h
  exact ⟨⟨h1, by omega⟩, ⟨by omega, by omega⟩, ⟨h4, h5⟩⟩
theorem near_soon {bk : List Sn} (h : Good bk) : ∀ s ∈ soonL bk, Near s := fun s hs => by
  obtain ⟨x, hx, rfl⟩ := List.mem_map.mp hs
  have g := h.all x hx
  by_cases c : x.2.2 = 0
  · obtain ⟨h1, h2, h3, h4, h5⟩ := g
    rw [if_pos c]; exact ⟨⟨by simp, by simp⟩, ⟨by simp only; omega, by simp only; omega⟩, ⟨by simp, by simp⟩⟩
  · rw [if_neg c]; exact near_good g
theorem near_late {bk : List Sn} (h : Good bk) : ∀ s ∈ lateL bk, Near s := fun s hs => by
  obtain ⟨x, hx, rfl⟩ := List.mem_map.mp hs
  have g := h.all x hx
  by_cases c : x.2.2 = 0
  · rw [if_pos c]; exact ⟨⟨by simp, by simp⟩, ⟨by simp, by simp⟩, ⟨by simp, by simp⟩⟩
  · rw [if_neg c]; exact near_good g
theorem soonL_len (bk : List Sn) : (soonL bk).length = bk.length := by simp [soonL]
theorem lateL_len (bk : List Sn) : (lateL bk).length = bk.length := by simp [lateL]
end DL
namespace DL
open PySem L2
end DL

set_option Elab.async false
set_option linter.all false
set_option maxRecDepth 100000
set_option maxHeartbeats 1000000
namespace DL
open PySem L2
/-! what came by a kind -/
def Row.endOf (r : Row) (k : Int) : Int := r.e.getD (k - 1).toNat 0
def Row.part (r : Row) (k : Int) : Rat := Rat.divInt (r.endOf k) r.w
/-- what came so far, and the share ahead of the next row -/
def stepC (k : Int) (x : Rat × Rat) (r : Row) : Rat × Rat := (x.1 + x.2 * r.part k, x.2 * r.left)
def accC (k : Int) (x : Rat × Rat) : List Row → List (Int × Rat)
  | [] => []
  | r :: rs => (r.t, (stepC k x r).1) :: accC k (stepC k x r) rs
def cameL (bk : List Sn) (k : Int) : List (Int × Rat) := accC k (0, 1) (rowsL bk)
/-- a fraction that a number makes whole is no greater than it -/
theorem sz_of_mul {q : Rat} {M z : Int} {B : Nat} (hM : 0 < M) (e : q * (M : Rat) = (z : Rat)) (h1 : z.natAbs < 2 ^ B) (h2 : M.natAbs < 2 ^ B) : Sz B q := by
  have hp : (0 : Rat) < (M : Rat) := by rw [← Rat.intCast_zero]; exact Rat.intCast_lt_intCast.mpr hM
  have : q = Rat.divInt z M := by rw [Rat.divInt_eq_div, ← e]; grind
  rw [this]; exact sz_divInt hM h1 h2
theorem sum_get4 {l : List Int} (hl : l.length = 4) (h : ∀ x ∈ l, 0 ≤ x) (i : Nat) : 0 ≤ l.getD i 0 ∧ l.getD i 0 ≤ l.sum := by
  match l, hl with
  | [a, b, c, d], _ =>
    simp only [List.mem_cons, List.not_mem_nil, or_false, forall_eq_or_imp, forall_eq] at h
    match i with
    | 0 => simp; omega
    | 1 => simp; omega
    | 2 => simp; omega
    | 3 => simp; omega
    | n + 4 => simp; omega
theorem RowOk2.endOf {r : Row} (h : RowOk2 r) (k : Int) : 0 ≤ r.endOf k ∧ r.endOf k ≤ r.e.sum := sum_get4 h.e.1 (fun x hx => (h.e.2 x hx).1) _
theorem wR_pos {r : Row} (h : RowOk r) : (0 : Rat) < (r.w : Rat) := by rw [← Rat.intCast_zero]; exact Rat.intCast_lt_intCast.mpr h.w.1
theorem RowOk2.part {r : Row} (h : RowOk2 r) (k : Int) : 0 ≤ r.part k ∧ r.part k + r.left ≤ 1 := by
  have w := wR_pos h.toRowOk
  have e := h.endOf k
  have e0 : (0 : Rat) ≤ (r.endOf k : Rat) := by rw [← Rat.intCast_zero]; exact Rat.intCast_le_intCast.mpr e.1
  have e1 : (r.endOf k : Rat) ≤ (r.e.sum : Rat) := Rat.intCast_le_intCast.mpr e.2
  unfold Row.part Row.left
  rw [Rat.divInt_eq_div, Rat.divInt_eq_div, Rat.intCast_sub]
  refine ⟨(rle_div w).mpr (by grind), ?_⟩
  have : (r.endOf k : Rat) / (r.w : Rat) + ((r.w : Rat) - (r.e.sum : Rat)) / (r.w : Rat) = ((r.endOf k : Rat) + (r.w : Rat) - (r.e.sum : Rat)) / (r.w : Rat) := by grind
  rw [this, rdiv_le w]; grind
def prodW (rs : List Row) : Int := rs.foldl (fun a r => a * r.w) 1
/-- what is known behind each row -/
structure CameOk (n : Nat) (M : Int) (x : Rat × Rat) : Prop where
  m : 0 < M ∧ M.natAbs < 2 ^ (6 * n + 1)
  a : 0 ≤ x.1
  b : 0 ≤ x.2
  c : x.1 + x.2 ≤ 1
  d : ∃ z : Int, x.1 * (M : Rat) = (z : Rat)
  e : ∃ z : Int, x.2 * (M : Rat) = (z : Rat)
theorem CameOk.zero : CameOk 0 1 (0, 1) := ⟨⟨by decide, by decide⟩, by decide, by decide, by decide +kernel, ⟨0, by simp⟩, ⟨1, by simp⟩⟩
theorem CameOk.step {n : Nat} {M : Int} {x : Rat × Rat} (h : CameOk n M x) {r : Row} (ok : RowOk2 r) (k : Int) : CameOk (n + 1) (M * r.w) (stepC k x r) := by
  have p := ok.part k
  have l := ok.left
  have w := wR_pos ok.toRowOk
  have m1 := Rat.mul_nonneg h.b p.1
  have m2 := Rat.mul_nonneg h.b l.1
  refine ⟨⟨Int.mul_pos h.m.1 ok.w.1, ?_⟩, ?_, m2, ?_, ?_, ?_⟩
  · have := lt_mul (b := r.w) (B := 6) h.m.2 (by have := ok.w; omega)
    exact lt_up this (by omega)
  · show 0 ≤ x.1 + x.2 * r.part k
    have := h.a; grind
  · show x.1 + x.2 * r.part k + x.2 * r.left ≤ 1
    have := Rat.mul_le_mul_of_nonneg_left p.2 h.b
    have := h.c
    grind
  · obtain ⟨z, hz⟩ := h.d
    obtain ⟨y, hy⟩ := h.e
    refine ⟨z * r.w + y * r.endOf k, ?_⟩
    show (x.1 + x.2 * r.part k) * ((M * r.w : Int) : Rat) = _
    rw [Rat.intCast_mul, Rat.intCast_add, Rat.intCast_mul, Rat.intCast_mul, ← hz, ← hy]
    unfold Row.part
    rw [Rat.divInt_eq_div]
    have : (r.endOf k : Rat) / (r.w : Rat) * (r.w : Rat) = (r.endOf k : Rat) := by grind
    grind
  · obtain ⟨y, hy⟩ := h.e
    refine ⟨y * (r.w - r.e.sum), ?_⟩
    show x.2 * r.left * ((M * r.w : Int) : Rat) = _
    rw [Rat.intCast_mul, Rat.intCast_mul, ← hy]
    unfold Row.left
    rw [Rat.divInt_eq_div]
    have : ((r.w - r.e.sum : Int) : Rat) / (r.w : Rat) * (r.w : Rat) = ((r.w - r.e.sum : Int) : Rat) := by grind
    grind
theorem CameOk.int_le {M z : Int} {q : Rat} (hM : 0 < M) (h0 : 0 ≤ q) (h1 : q ≤ 1) (e : q * (M : Rat) = (z : Rat)) : 0 ≤ z ∧ z ≤ M := by
  have hp : (0 : Rat) < (M : Rat) := by rw [← Rat.intCast_zero]; exact Rat.intCast_lt_intCast.mpr hM
  constructor
  · have := Rat.mul_nonneg h0 (Rat.le_of_lt hp)
    rw [e, ← Rat.intCast_zero] at this
    exact Rat.intCast_le_intCast.mp this
  · have := Rat.mul_le_mul_of_nonneg_right h1 (Rat.le_of_lt hp)
    rw [e, Rat.one_mul] at this
    exact Rat.intCast_le_intCast.mp this
theorem CameOk.sz {n : Nat} {M : Int} {x : Rat × Rat} (h : CameOk n M x) : Sz (6 * n + 1) x.1 ∧ Sz (6 * n + 1) x.2 := by
  obtain ⟨z, hz⟩ := h.d
  obtain ⟨y, hy⟩ := h.e
  have a := h.a; have b := h.b; have c := h.c
  have m := h.m
  have i1 := CameOk.int_le h.m.1 h.a (by grind) hz
  have i2 := CameOk.int_le h.m.1 h.b (by grind) hy
  exact ⟨sz_of_mul h.m.1 hz (by omega) h.m.2, sz_of_mul h.m.1 hy (by omega) h.m.2⟩
end DL

set_option Elab.async false
set_option linter.all false
set_option maxRecDepth 100000
set_option maxHeartbeats 1000000
namespace DL
open PySem L2
/-! sums and products over all times, rows or not -/
def upto (n : Nat) : List Int := (List.range n).map fun (i : Nat) => (i : Int) + 1
def lastT (t : Int) : Nat := (min t 999).toNat
def rowAt (bk : List Sn) (t : Int) : Row := ⟨t, countW bk t, endsL bk t⟩
/-- what part of those watched ends at a time -/
def rateF (bk : List Sn) (t : Int) : Rat := (countA bk t : Rat) / ((countW bk t : Int) : Rat)
/-- the sum of rates up to a time -/
def rateAt (bk : List Sn) (t : Int) : Rat := lastL t 0 (ratesL bk)
def sumU (f : Int → Rat) (n : Nat) : Rat := (upto n).foldl (fun a t => a + f t) 0
def prodU (f : Int → Rat) (n : Nat) : Rat := (upto n).foldl (fun a t => a * f t) 1
end DL
namespace DL
open PySem L2
/-- prefix sums of rates -/
def sumR_ (rs : List Row) : Rat := rs.foldl (fun a r => a + r.rate) 0
theorem RowOk2.rate {r : Row} (h : RowOk2 r) : 0 ≤ r.rate ∧ r.rate ≤ 1 ∧ r.left = 1 - r.rate := by
  have w := wR_pos h.toRowOk
  have s0 : (0 : Rat) ≤ (r.e.sum : Rat) := by rw [← Rat.intCast_zero]; exact Rat.intCast_le_intCast.mpr h.s.1
  have s1 : (r.e.sum : Rat) ≤ (r.w : Rat) := Rat.intCast_le_intCast.mpr h.s.2
  unfold Row.rate Row.left
  rw [Rat.divInt_eq_div, Rat.divInt_eq_div, Rat.intCast_sub]
  exact ⟨(rle_div w).mpr (by grind), (rdiv_le w).mpr (by grind), by grind⟩
/-! lists of steps -/
end DL
namespace DL
open PySem L2
/-! books turned -/
def aloneL (k : Int) (bk : List Sn) : List Sn := bk.map fun s => (s.1, s.2.1, if s.2.2 = k then k else 0)
def oneL (bk : List Sn) : List Sn := bk.map fun s => (s.1, s.2.1, if s.2.2 = 0 then 0 else 1)
/-- each age so much more -/
def moveL (d : Int) (bk : List Sn) : List Sn := bk.map fun s => (s.1 + d, s.2.1 + d, s.2.2)
end DL

set_option Elab.async false
set_option linter.all false
set_option maxRecDepth 100000
set_option maxHeartbeats 1000000
namespace DL
open PySem L2
/-! what came by a kind, over all times -/
def cameAt (bk : List Sn) (k t : Int) : Rat := lastL t 0 (cameL bk k)
/-- what part of those watched ends at a time by a kind -/
def partF (bk : List Sn) (k t : Int) : Rat := ((countE bk t k : Int) : Rat) / ((countW bk t : Int) : Rat)
def shareU (bk : List Sn) (n : Nat) : Rat := prodU (fun u => 1 - rateF bk u) n
def cameU (bk : List Sn) (k : Int) : Nat → Rat
  | 0 => 0
  | n + 1 => cameU bk k n + shareU bk n * partF bk k ((n : Int) + 1)
end DL

set_option Elab.async false
set_option linter.all false
set_option maxRecDepth 100000
set_option maxHeartbeats 1000000
namespace DL
open PySem L2
/-! what came, told of two books -/
end DL

set_option Elab.async false
set_option linter.all false
set_option maxRecDepth 100000
set_option maxHeartbeats 1000000
namespace DL
open PySem L2
/-- a share and the next -/
def FallsR (p q : Rat) : Prop := q < p ∧ 0 ≤ q ∨ p = 0 ∧ q = 0
/-- cut off at a time -/
def cutL (T : Int) (bk : List Sn) : List Sn := (bk.filter fun s => decide (s.1 < T)).map fun s => if s.2.1 ≤ T then s else (s.1, T, 0)
/-- none late, none cut off: the part that lasts -/
def fullL (bk : List Sn) : List Sn := bk.map fun s => (0, s.2.1, max s.2.2 1)
def lastsN (bk : List Sn) (t : Int) : Nat := (bk.filter fun s => decide (t < s.2.1)).length
end DL

set_option Elab.async false
set_option linter.all false
set_option maxRecDepth 100000
set_option maxHeartbeats 1000000
namespace DL
open PySem L2
end DL

set_option Elab.async false
set_option linter.all false
set_option maxRecDepth 100000
set_option maxHeartbeats 1000000
namespace DL
open PySem L2
/-! shares between truths -/
/-! data that can be compared -/
structure Shp (n : Nat) (d : D) : Prop where
  c : d.canLay0 = true
  d : d.depth ≤ n
structure ShpL (n : Nat) (ds : List D) : Prop where
  c : PyData.canLayAll0 ds = true
  d : PyData.depthAll ds ≤ n
theorem Shp.mono {n m : Nat} {d : D} (h : Shp n d) (l : n ≤ m) : Shp m d := ⟨h.c, Nat.le_trans h.d l⟩
theorem Shp.int (i : Int) : Shp 0 (.int i) := ⟨rfl, by simp [PyData.depth]⟩
theorem Shp.str (i : Str) (h : (PyData.str i).canLay0 = true := by decide +kernel) : Shp 0 (.str i) := ⟨h, by simp [PyData.depth]⟩
theorem Shp.bool (i : Bool) : Shp 0 (.bool i) := ⟨rfl, by simp [PyData.depth]⟩
theorem Shp.none : Shp 0 .none := ⟨rfl, by simp [PyData.depth]⟩
theorem ShpL.nil {n : Nat} : ShpL n [] := ⟨rfl, by simp [PyData.depthAll]⟩
theorem ShpL.cons {n m : Nat} {d : D} {ds : List D} (h : Shp m d) (hl : ShpL n ds) (l : m ≤ n := by omega) : ShpL n (d :: ds) := ⟨by simp [PyData.canLayAll0, h.c, hl.c], by simp only [PyData.depthAll]; have := h.d; have := hl.d; omega⟩
theorem ShpL.map {α : Type} {f : α → D} {n : Nat} (l : List α) (h : ∀ x ∈ l, Shp n (f x)) : ShpL n (l.map f) := by
  induction l with
  | nil => exact ShpL.nil
  | cons x l ih => exact ShpL.cons (h x (List.mem_cons_self ..)) (ih fun y hy => h y (List.mem_cons_of_mem _ hy)) (Nat.le_refl _)
theorem Shp.tup {n : Nat} {ds : List D} (h : ShpL n ds) : Shp (n + 1) (.tuple ds) := ⟨by simp [PyData.canLay0, h.c], by simp only [PyData.depth]; have := h.d; omega⟩
theorem Shp.lst {n : Nat} {ds : List D} (h : ShpL n ds) : Shp (n + 1) (.list ds) := ⟨by simp [PyData.canLay0, h.c], by simp only [PyData.depth]; have := h.d; omega⟩
theorem Shp.fr (q : Rat) : Shp 1 (fr q) := Shp.tup (ShpL.cons (Shp.int _) (ShpL.cons (Shp.int _) ShpL.nil))
theorem Shp.sD (s : Sn) : Shp 1 (sD s) := Shp.tup (ShpL.cons (Shp.int _) (ShpL.cons (Shp.int _) (ShpL.cons (Shp.int _) ShpL.nil)))
theorem Shp.bD (l : List Sn) : Shp 2 (bD l) := Shp.tup (ShpL.map l fun s _ => Shp.sD s)
theorem Shp.sh {n : Nat} {d : D} (h : Shp n d) (l : n ≤ 60 := by omega) : SeqAt.shaped d = true := by
  unfold SeqAt.shaped
  rw [Bool.and_eq_true]
  exact ⟨h.c, decide_eq_true (by have := h.d; omega)⟩
theorem eq_tupD {n m : Nat} {ds es : List D} (h1 : Shp n (.tuple ds)) (h2 : Shp m (.tuple es)) (l : n ≤ 60 := by omega) (l2 : m ≤ 60 := by omega) : eqD (.tuple ds) (.tuple es) = some (.bool (PyData.eqvAll ds es)) := by
  simp [eqD, eqP_tup (h1.sh l) (h2.sh l2), PyData.eqv]
end DL

set_option Elab.async false
set_option linter.all false
set_option maxRecDepth 100000
set_option maxHeartbeats 1000000
namespace DL
open PySem L2
/-! truths of a plain book -/
def stands (s x : Sn) : Bool := if s.2.2 ≠ 0 then decide (x = s) else decide (x.1 = 0) && (decide (s.2.1 < x.2.1) && decide (x.2.1 ≤ 2000)) && (decide (0 < x.2.2) && decide (x.2.2 ≤ 4))
structure Truth (bk tr : List Sn) : Prop where
  l : tr.length = bk.length
  s : ∀ p ∈ bk.zip tr, stands p.1 p.2 = true
theorem Truth.nil : Truth [] [] := ⟨rfl, by simp⟩
theorem Truth.cons {s x : Sn} {bk tr : List Sn} (h : stands s x = true) (t : Truth bk tr) : Truth (s :: bk) (x :: tr) := ⟨by simp [t.l], fun p hp => by
  rw [List.zip_cons_cons] at hp
  rcases List.mem_cons.mp hp with rfl | hp
  · exact h
  · exact t.s p hp⟩
theorem Truth.head {s x : Sn} {bk tr : List Sn} (t : Truth (s :: bk) (x :: tr)) : stands s x = true ∧ Truth bk tr := ⟨t.s (s, x) (by simp), by have := t.l; simpa using this, fun p hp => t.s p (by rw [List.zip_cons_cons]; exact List.mem_cons_of_mem _ hp)⟩
theorem Truth.snoc {s x : Sn} : ∀ {bk tr : List Sn}, Truth bk tr → stands s x = true → Truth (bk ++ [s]) (tr ++ [x])
  | [], [], _, h => Truth.cons h Truth.nil
  | [], _ :: _, t, _ => by have := t.l; simp at this
  | _ :: _, [], t, _ => by have := t.l; simp at this
  | _ :: _, _ :: _, t, h => Truth.cons t.head.1 (Truth.snoc t.head.2 h)
theorem eq_sD (x s : Sn) : eqD (sD x) (sD s) = some (.bool (decide (x = s))) := by
  have : eqD (sD x) (sD s) = some (.bool (PyData.eqvAll [.int x.1, .int x.2.1, .int x.2.2] [.int s.1, .int s.2.1, .int s.2.2])) := eq_tupD (Shp.sD x) (Shp.sD s)
  rw [this]
  congr 2
  obtain ⟨a, b, c⟩ := x
  obtain ⟨d, e, f⟩ := s
  simp only [PyData.eqvAll, PyData.eqv, Prod.mk.injEq, Bool.and_true]
  rw [Bool.decide_and, Bool.decide_and]
  rfl
theorem atI_get {α : Type} {xs : List α} {i : Nat} {x : α} (h : xs[i]? = some x) : atI xs (i : Int) = some x := by
  have hi := (List.getElem?_eq_some_iff.mp h).1
  unfold atI ixN
  simp [hi]
  exact (List.getElem?_eq_some_iff.mp h).2
def Dom (tr us : List Sn) : Prop := ∀ t : Int, 0 ≤ t → t ≤ 2000 → tshare us t ≤ tshare tr t
theorem Dom.trans {a b c : List Sn} (h1 : Dom a b) (h2 : Dom b c) : Dom a c := fun t t0 t1 => Rat.le_trans (h2 t t0 t1) (h1 t t0 t1)
/-- a book of which more is known -/
structure Seen (bk kb : List Sn) : Prop where
  l : kb.length = bk.length
  s : ∀ p ∈ bk.zip kb, p.2 = p.1 ∨ stands p.1 p.2 = true
theorem Seen.head {s x : Sn} {bk tr : List Sn} (t : Seen (s :: bk) (x :: tr)) : (x = s ∨ stands s x = true) ∧ Seen bk tr := ⟨t.s (s, x) (by simp), by have := t.l; simpa using this, fun p hp => t.s p (by rw [List.zip_cons_cons]; exact List.mem_cons_of_mem _ hp)⟩
theorem Seen.snoc {s x : Sn} {bk tr : List Sn} (h : Seen bk tr) (hx : x = s ∨ stands s x = true) : Seen (bk ++ [s]) (tr ++ [x]) := ⟨by simp [h.l], fun p hp => by
  rw [List.zip_append h.l.symm] at hp
  rcases List.mem_append.mp hp with hp | hp
  · exact h.s p hp
  · simp only [List.zip_cons_cons, List.zip_nil_right, List.mem_singleton] at hp
    rw [hp]; exact hx⟩
end DL

set_option Elab.async false
set_option linter.all false
set_option maxRecDepth 100000
set_option maxHeartbeats 1000000
namespace DL
open PySem L2
/-! lots -/
structure MarksOk (n : Nat) (ms : List Int) : Prop where
  l : ms.length = n
  v : ∀ m ∈ ms, m = 0 ∨ m = 1
  z : (0 : Int) ∈ ms
  o : (1 : Int) ∈ ms
def lotW {α : Type} (k : Int) (xs : List α) (ms : List Int) : List α := ((xs.zip ms).filter fun p => decide (p.2 = k)).map Prod.fst
def sumF {α : Type} (l : List α) (f : α → Int) : Int := (l.map f).sum
/-- who ends ahead -/
def gapI (s j : Sn) : Int := (if s.2.2 ≠ 0 ∧ s.2.1 ≤ j.2.1 then 1 else 0) - (if j.2.2 ≠ 0 ∧ j.2.1 ≤ s.2.1 then 1 else 0)
def manyI (bk : List Sn) (s : Sn) (t : Int) : Int := if s.1 < t ∧ t ≤ s.2.1 then (if s.2.1 = t ∧ s.2.2 ≠ 0 then countW bk t else 0) - countA bk t else 0
/-- where one outlasts another -/
def farN (xs : List Int) (t : Int) : Int := sumF xs fun x => if t < x then 1 else 0
/-! pulls -/
def pullStep (s : Sn) (acc : Rat) (x : Int × Rat × Rat) : Rat := if s.1 < x.1 ∧ x.1 ≤ s.2.1 then acc + x.2.2 * ((if s.2.1 = x.1 ∧ s.2.2 ≠ 0 then 1 else 0) - x.2.1) else acc
def pullQ (s : Sn) (ws : List (Int × Rat × Rat)) : Rat := ws.foldl (pullStep s) 0
def wD (x : Int × Rat × Rat) : D := .tuple [.int x.1, fr x.2.1, fr x.2.2]
def weighL (bk : List Sn) (wt : List Rat) : List (Int × Rat × Rat) := ((rowsL bk).zip wt).map fun p => (p.1.t, p.1.rate, p.2)
def pullsL (bk : List Sn) (wt : List Rat) : List Rat := bk.map fun s => pullQ s (weighL bk wt)
def manyW (bk : List Sn) : List Rat := (rowsL bk).map fun r => (r.w : Rat)
end DL

set_option Elab.async false
set_option linter.all false
set_option maxRecDepth 100000
set_option maxHeartbeats 1000000
namespace DL
open PySem L2
/-! books whose spans all begin at 0 and all end -/
structure Full (bk : List Sn) : Prop where
  g : Good bk
  p : Plain bk
  e : ∀ s ∈ bk, 0 < s.2.2
def endsTo (bk : List Sn) (k t : Int) : Nat := (bk.filter fun s => decide (s.2.1 ≤ t) && decide (s.2.2 = k)).length
def goneN (bk : List Sn) (t : Int) : Nat := (bk.filter fun s => decide (s.2.1 ≤ t)).length
theorem atI_last {α : Type} {l : List α} (h : l ≠ []) : atI l (-1) = some (l.getLast h) := by
  have n : 0 < l.length := List.length_pos_iff.mpr h
  unfold atI ixN
  rw [if_neg (by omega), if_pos (by omega)]
  show l[((-1 : Int) + (l.length : Int)).toNat]? = _
  rw [show ((-1 : Int) + (l.length : Int)).toNat = l.length - 1 by omega, List.getLast_eq_getElem]
  exact List.getElem?_eq_getElem (by omega)
end DL

set_option Elab.async false
set_option linter.all false
set_option maxRecDepth 100000
set_option maxHeartbeats 1000000
namespace DL
open PySem L2
end DL

set_option Elab.async false
set_option linter.all false
set_option maxRecDepth 100000
set_option maxHeartbeats 1000000
namespace DL
open PySem L2
/-! weights of rows -/
def preL (rs : List Row) (i : Nat) : Rat := (rs.take i).foldl (fun a r => a * r.left) 1
inductive Wt where
  | one
  | many
  | share
def Wt.s : Wt → Str
  | .one => "one"
  | .many => "many"
  | .share => "share"
def Wt.at (w : Wt) (rs : List Row) (r : Row) (i : Nat) : Rat := match w with
  | .one => 1
  | .many => (r.w : Rat)
  | .share => preL rs i
def wtL (bk : List Sn) (w : Wt) : List Rat := (rowsL bk).zipIdx.map fun q => w.at (rowsL bk) q.1 q.2
/-! sums of fractions -/
def sumQ {α : Type} (l : List α) (f : α → Rat) : Rat := (l.map f).foldr (· + ·) 0
def sprTerm (w e l : Int) : Rat := if w = 1 then 0 else Rat.divInt (e * l * (w - l) * (w - e)) (w * w * (w - 1))
structure SprOk (w e l : Int) : Prop where
  hw : 0 < w ∧ w ≤ 15
  he : 0 ≤ e ∧ e ≤ w
  hl : 0 ≤ l ∧ l ≤ w
theorem SprOk.top {w e l : Int} (h : SprOk w e l) : 0 ≤ e * l * (w - l) * (w - e) ∧ e * l * (w - l) * (w - e) ≤ 15 * 15 * 15 * 15 := by
  obtain ⟨⟨a, b⟩, ⟨c, d⟩, ⟨f, g⟩⟩ := h
  have p1 := Int.mul_nonneg c f
  have p2 := Int.mul_nonneg p1 (by omega : 0 ≤ w - l)
  have p3 := Int.mul_nonneg p2 (by omega : 0 ≤ w - e)
  have q1 : e * l ≤ 15 * 15 := Int.mul_le_mul (by omega) (by omega) f (by omega)
  have q2 : e * l * (w - l) ≤ 15 * 15 * 15 := Int.mul_le_mul q1 (by omega) (by omega) (by omega)
  have q3 : e * l * (w - l) * (w - e) ≤ 15 * 15 * 15 * 15 := Int.mul_le_mul q2 (by omega) (by omega) (by omega)
  exact ⟨p3, q3⟩
theorem SprOk.bot {w e l : Int} (h : SprOk w e l) (h1 : w ≠ 1) : 0 < w * w * (w - 1) ∧ w * w * (w - 1) ≤ 15 * 15 * 15 := by
  obtain ⟨⟨a, b⟩, _, _⟩ := h
  have p1 := Int.mul_pos a a
  have q1 : w * w ≤ 15 * 15 := Int.mul_le_mul b b (by omega) (by omega)
  have q2 : w * w * (w - 1) ≤ 15 * 15 * 15 := Int.mul_le_mul q1 (by omega) (by omega) (by omega)
  exact ⟨Int.mul_pos p1 (by omega), q2⟩
theorem SprOk.sz {w e l : Int} (h : SprOk w e l) : Sz 16 (sprTerm w e l) := by
  unfold sprTerm
  by_cases c : w = 1
  · rw [if_pos c]; exact sz0.mono (by omega)
  · rw [if_neg c]
    have a := h.top; have b := h.bot c
    exact sz_divInt b.1 (by omega) (by omega)
def spreadQ (bk : List Sn) (ms : List Int) (wt : List Rat) : Rat := ((rowsL bk).zip wt).foldl (fun b p => b + p.2 * p.2 * sprTerm p.1.w p.1.e.sum (countW (lotW 1 bk ms) p.1.t)) 0
end DL

set_option Elab.async false
set_option linter.all false
set_option maxRecDepth 100000
set_option maxHeartbeats 1000000
namespace DL
open PySem L2
/-! how sure bands are, together -/
def tQ (n : Nat) (q : Rat) (k : Nat) : Rat := (chs n k : Rat) * q ^ k * (1 - q) ^ (n - k)
/-- the sum of the first ones -/
def upQ (n : Nat) (q : Rat) : Nat → Rat
  | 0 => 0
  | m + 1 => upQ n q m + tQ n q m
/-! the narrowest band -/
def lowOf (n : Nat) (q s : Rat) (w : Nat) : Option Nat := (List.range (n - w)).find? fun x => decide (s ≤ sureQ n q (x + 1) (x + 1 + w))
def wideOf (n : Nat) (q s : Rat) : Option Nat := (List.range (n - 1)).find? fun y => (lowOf n q s (y + 1)).isSome
def bandP (n : Nat) (q s : Rat) : Option (Nat × Nat) := (wideOf n q s).bind fun y => (lowOf n q s (y + 1)).map fun x => (x + 1, x + 1 + (y + 1))
def bandD (us : List Int) (n : Nat) (q s : Rat) : D := match bandP n q s with
  | none => .none
  | some p => .tuple [.int (us.getD (p.1 - 1) 0), .int (us.getD (p.2 - 1) 0), .int p.1, .int p.2]
end DL

set_option Elab.async false
set_option linter.all false
set_option maxRecDepth 100000
set_option maxHeartbeats 1000000
namespace DL
open PySem L2
/-! fractions over one bottom -/
def isI (q : Rat) : Prop := ∃ a : Int, q = (a : Rat)
theorem isI_int (a : Int) : isI (a : Rat) := ⟨a, rfl⟩
theorem isI_mul {p q : Rat} (h1 : isI p) (h2 : isI q) : isI (p * q) := by obtain ⟨a, rfl⟩ := h1; obtain ⟨b, rfl⟩ := h2; exact ⟨a * b, (Rat.intCast_mul a b).symm⟩
structure Dq (P m : Int) (q : Rat) : Prop where
  i : isI (q * (P : Rat))
  l : -(m : Rat) ≤ q
  u : q ≤ (m : Rat)
theorem Dq.zero {P : Int} {m : Int} (hm : 0 ≤ m) : Dq P m 0 := by
  have : (0 : Rat) ≤ (m : Rat) := by rw [← Rat.intCast_zero]; exact Rat.intCast_le_intCast.mpr hm
  exact ⟨by rw [Rat.zero_mul]; exact ⟨0, rfl⟩, by grind, this⟩
theorem Dq.mono {P m n : Int} {q : Rat} (h : Dq P m q) (hl : m ≤ n) : Dq P n q := by
  have := Rat.intCast_le_intCast.mpr hl
  have := h.l; have := h.u
  exact ⟨h.i, by grind, by grind⟩
theorem Dq.sz {P m : Int} {q : Rat} {L : Nat} (h : Dq P m q) (hP : 0 < P) (hm : 0 ≤ m) (hL : m * P < 2 ^ L) (hL2 : P < 2 ^ L) : Sz L q := by
  obtain ⟨a, ha⟩ := h.i
  have pp : (0 : Rat) < (P : Rat) := by rw [← Rat.intCast_zero]; exact Rat.intCast_lt_intCast.mpr hP
  have p0 := Rat.ne_of_gt pp
  have e : q = Rat.divInt a P := by rw [Rat.divInt_eq_div]; grind
  have u : a ≤ m * P := by
    have := Rat.mul_le_mul_of_nonneg_right h.u (Rat.le_of_lt pp)
    rw [ha, ← Rat.intCast_mul] at this
    exact Rat.intCast_le_intCast.mp this
  have l : -(m * P) ≤ a := by
    have := Rat.mul_le_mul_of_nonneg_right h.l (Rat.le_of_lt pp)
    rw [ha, ← Rat.intCast_neg, ← Rat.intCast_mul] at this
    have := Rat.intCast_le_intCast.mp this
    rw [Int.neg_mul] at this
    exact this
  rw [e]
  have t : ((2 ^ L : Nat) : Int) = 2 ^ L := by simp
  exact sz_divInt hP (by omega) (by omega)
def prdW : List Row → Int
  | [] => 1
  | r :: rs => r.w * prdW rs
/-! spreads over one bottom -/
structure SprOk4 (w e l : Int) : Prop where
  hw : 0 < w ∧ w ≤ 40
  he : 0 ≤ e ∧ e ≤ w
  hl : 0 ≤ l ∧ l ≤ w
theorem SprOk4.top {w e l : Int} (h : SprOk4 w e l) : 0 ≤ e * l * (w - l) * (w - e) ∧ e * l * (w - l) * (w - e) ≤ 40 * 40 * 40 * 40 := by
  obtain ⟨⟨a, b⟩, ⟨c, d⟩, ⟨f, g⟩⟩ := h
  have p1 := Int.mul_nonneg c f
  have p2 := Int.mul_nonneg p1 (by omega : 0 ≤ w - l)
  have p3 := Int.mul_nonneg p2 (by omega : 0 ≤ w - e)
  have q1 : e * l ≤ 40 * 40 := Int.mul_le_mul (by omega) (by omega) f (by omega)
  have q2 : e * l * (w - l) ≤ 40 * 40 * 40 := Int.mul_le_mul q1 (by omega) (by omega) (by omega)
  have q3 : e * l * (w - l) * (w - e) ≤ 40 * 40 * 40 * 40 := Int.mul_le_mul q2 (by omega) (by omega) (by omega)
  exact ⟨p3, q3⟩
theorem SprOk4.bot {w e l : Int} (h : SprOk4 w e l) (h1 : w ≠ 1) : 0 < w * w * (w - 1) ∧ w * w * (w - 1) ≤ 40 * 40 * 40 := by
  obtain ⟨⟨a, b⟩, _, _⟩ := h
  have p1 := Int.mul_pos a a
  have q1 : w * w ≤ 40 * 40 := Int.mul_le_mul b b (by omega) (by omega)
  have q2 : w * w * (w - 1) ≤ 40 * 40 * 40 := Int.mul_le_mul q1 (by omega) (by omega) (by omega)
  exact ⟨Int.mul_pos p1 (by omega), q2⟩
theorem SprOk4.sz {w e l : Int} (h : SprOk4 w e l) : Sz 22 (sprTerm w e l) := by
  unfold sprTerm
  by_cases c : w = 1
  · rw [if_pos c]; exact sz0.mono (by omega)
  · rw [if_neg c]
    have a := h.top; have b := h.bot c
    exact sz_divInt b.1 (by omega) (by omega)
def mOf (w : Int) : Int := max (w - 1) 1
theorem SprOk4.int {w e l : Int} (h : SprOk4 w e l) : isI (sprTerm w e l * ((w * w * mOf w : Int) : Rat)) ∧ 0 ≤ sprTerm w e l ∧ sprTerm w e l ≤ 2560000 := by
  unfold sprTerm
  by_cases c : w = 1
  · rw [if_pos c]
    exact ⟨⟨0, by rw [Rat.zero_mul]; rfl⟩, by decide, by decide +kernel⟩
  · rw [if_neg c]
    have a := h.top; have b := h.bot c
    have hm : mOf w = w - 1 := by have := h.hw; unfold mOf; omega
    rw [hm, Rat.divInt_eq_div]
    obtain ⟨T, eT⟩ : ∃ T, T = e * l * (w - l) * (w - e) := ⟨_, rfl⟩
    obtain ⟨B, eB⟩ : ∃ T, T = w * w * (w - 1) := ⟨_, rfl⟩
    rw [← eT] at a ⊢
    rw [← eB] at b ⊢
    have bp : (0 : Rat) < ((B : Int) : Rat) := by rw [← Rat.intCast_zero]; exact Rat.intCast_lt_intCast.mpr b.1
    have b0 := Rat.ne_of_gt bp
    have t0 : (0 : Rat) ≤ ((T : Int) : Rat) := by rw [← Rat.intCast_zero]; exact Rat.intCast_le_intCast.mpr a.1
    have t1 : ((T : Int) : Rat) ≤ ((2560000 : Int) : Rat) := Rat.intCast_le_intCast.mpr (by omega)
    have b1 : ((1 : Int) : Rat) ≤ ((B : Int) : Rat) := Rat.intCast_le_intCast.mpr (by omega)
    have e1 : ((1 : Int) : Rat) = 1 := rfl
    have e2 : ((2560000 : Int) : Rat) = 2560000 := rfl
    rw [e1] at b1
    rw [e2] at t1
    refine ⟨⟨T, by grind⟩, ?_, ?_⟩
    · rw [Rat.div_def]; exact Rat.mul_nonneg t0 (Rat.le_of_lt (Rat.inv_pos.mpr bp))
    · refine Rat.not_lt.mp fun cc => ?_
      have := Rat.mul_lt_mul_of_pos_right cc bp
      have e3 : ((T : Int) : Rat) / ((B : Int) : Rat) * ((B : Int) : Rat) = ((T : Int) : Rat) := by grind
      rw [e3] at this
      have h2 := Rat.mul_le_mul_of_nonneg_left b1 (by decide : (0 : Rat) ≤ 2560000)
      grind
def prdM : List Row → Int
  | [] => 1
  | r :: rs => mOf r.w * prdM rs
def prdS (rs : List Row) : Int := prdW rs * prdW rs * prdM rs
end DL

set_option Elab.async false
set_option linter.all false
set_option maxRecDepth 100000
set_option maxHeartbeats 1000000
namespace DL
open PySem L2
end DL

set_option Elab.async false
set_option linter.all false
set_option maxRecDepth 100000
set_option maxHeartbeats 1000000
namespace DL
open PySem L2
/-! handing on -/
def hUp (w : Nat → Rat) (t : Nat) (v : Rat) : Nat → Rat := fun i => if i = t then v else w i
def addT (w : Nat → Rat) (p : Rat) (T : List Nat) : Nat → Rat := T.foldl (fun w t => hUp w t (w t + p)) w
def tkL (bk : List Sn) (u : Int) : List Nat := (bk.zipIdx.filter fun q => decide (u < q.1.2.1)).map Prod.snd
def untA (bk : List Sn) (i : Nat) : Int := (bk.getD i (0, 0, 0)).2.1
theorem tk_len (bk : List Sn) (u : Int) : (tkL bk u).length ≤ bk.length := by
  unfold tkL
  rw [List.length_map]
  exact Nat.le_trans (List.length_filter_le ..) (by simp)
abbrev Hs := (Nat → Rat) × List (Nat × Nat × Rat) × List Nat
def partOf (bk : List Sn) (w : Nat → Rat) (g : Nat) : Rat := w g * (1 / ((tkL bk (untA bk g)).length : Rat))
/-- a giver hands on (z: what it weighed is taken off) -/
def give (z : Bool) (bk : List Sn) (s : Hs) (g : Nat) : Hs :=
  (addT (if z then hUp s.1 g 0 else s.1) (partOf bk s.1 g) (tkL bk (untA bk g)), s.2.1 ++ (tkL bk (untA bk g)).map (fun t => (g, t, partOf bk s.1 g)), s.2.2 ++ [g])
def prT (bk : List Sn) : List Nat → Int
  | [] => bk.length
  | g :: gs => prT bk gs * (tkL bk (untA bk g)).length
theorem nodup_lt : ∀ (n : Nat) (l : List Nat), l.Nodup → (∀ x ∈ l, x < n) → l.length ≤ n
  | 0, l, _, h => by
    cases l with
    | nil => exact Nat.le_refl _
    | cons x l => exact absurd (h x (List.mem_cons_self ..)) (by omega)
  | n + 1, l, nd, h => by
    by_cases m : n ∈ l
    · have e := List.length_erase_of_mem m
      have := nodup_lt n (l.erase n) (nd.erase n) fun x hx => by
        have := (List.Nodup.mem_erase_iff nd).mp hx
        have := h x this.2
        omega
      omega
    · have := nodup_lt n l nd fun x hx => by
        have := h x hx
        have : x ≠ n := fun z => m (z ▸ hx)
        omega
      omega
structure HOk (bk : List Sn) (s : Hs) : Prop where
  nd : s.2.2.Nodup
  lt : ∀ g ∈ s.2.2, g < bk.length
  ne : ∀ g ∈ s.2.2, tkL bk (untA bk g) ≠ []
  dq : ∀ i, i < bk.length → Dq (prT bk s.2.2) (2 ^ s.2.2.length) (s.1 i)
theorem len_pos {α : Type} {l : List α} (h : l ≠ []) : 0 < l.length := by
  cases l with
  | nil => exact absurd rfl h
  | cons x l => simp
theorem Dq.div {P m : Int} {q : Rat} (h : Dq P m q) {k : Nat} (hk : 0 < k) (hm : 0 ≤ m) : Dq (P * k) m (q * (1 / (k : Rat))) := by
  have kp : (0 : Rat) < (k : Rat) := by
    show ((0 : Int) : Rat) < ((k : Int) : Rat)
    exact Rat.intCast_lt_intCast.mpr (by omega)
  have k1 : (1 : Rat) ≤ (k : Rat) := by
    show ((1 : Int) : Rat) ≤ ((k : Int) : Rat)
    exact Rat.intCast_le_intCast.mpr (by omega)
  have k0 := Rat.ne_of_gt kp
  have mm : (0 : Rat) ≤ (m : Rat) := by
    show ((0 : Int) : Rat) ≤ (m : Rat)
    exact Rat.intCast_le_intCast.mpr hm
  have inv0 : (0 : Rat) ≤ 1 / (k : Rat) := by rw [Rat.div_def, Rat.one_mul]; exact Rat.le_of_lt (Rat.inv_pos.mpr kp)
  have inv1 : (1 / (k : Rat)) * (k : Rat) = 1 := by rw [Rat.div_mul_cancel k0]
  have il : 1 / (k : Rat) ≤ 1 := by
    have := Rat.mul_le_mul_of_nonneg_left k1 inv0
    rw [inv1, Rat.mul_one] at this
    exact this
  refine ⟨?_, ?_, ?_⟩
  · obtain ⟨a, ha⟩ := h.i
    refine ⟨a, ?_⟩
    rw [← ha, Rat.intCast_mul]
    have e : ((k : Int) : Rat) = (k : Rat) := rfl
    rw [e]
    have : q * (1 / (k : Rat)) * ((P : Rat) * (k : Rat)) = q * (P : Rat) * (1 / (k : Rat) * (k : Rat)) := by grind
    rw [this, inv1, Rat.mul_one]
  · have h1 := Rat.mul_le_mul_of_nonneg_right h.l inv0
    have h2 := Rat.mul_le_mul_of_nonneg_left il mm
    have : -(m : Rat) ≤ -(m : Rat) * (1 / (k : Rat)) := by grind
    exact Rat.le_trans this h1
  · have h1 := Rat.mul_le_mul_of_nonneg_right h.u inv0
    have h2 := Rat.mul_le_mul_of_nonneg_left il mm
    rw [Rat.mul_one] at h2
    exact Rat.le_trans h1 h2
theorem Dq.times {P m : Int} {q : Rat} (h : Dq P m q) (k : Int) : Dq (P * k) m q := by
  refine ⟨?_, h.l, h.u⟩
  rw [Rat.intCast_mul, ← Rat.mul_assoc]
  exact isI_mul h.i (isI_int k)
theorem prT_pos {bk : List Sn} (h1 : 1 ≤ bk.length) (h2 : bk.length ≤ 20) : ∀ gs : List Nat, (∀ g ∈ gs, tkL bk (untA bk g) ≠ []) → 0 < prT bk gs ∧ prT bk gs ≤ 20 * 20 ^ gs.length
  | [], _ => by simp [prT]; omega
  | g :: gs, h => by
    obtain ⟨a, b⟩ := prT_pos h1 h2 gs fun x hx => h x (List.mem_cons_of_mem _ hx)
    have k0 := len_pos (h g (List.mem_cons_self ..))
    have k1 := tk_len bk (untA bk g)
    simp only [prT, List.length_cons]
    refine ⟨Int.mul_pos a (by omega), ?_⟩
    have := Int.mul_le_mul b (show (((tkL bk (untA bk g)).length : Nat) : Int) ≤ 20 by omega) (by omega) (Int.le_of_lt (Int.mul_pos (by omega) (Int.pow_pos (by omega))))
    rw [Int.pow_succ, ← Int.mul_assoc]
    exact this
theorem powI_add {b : Int} (hb : 1 ≤ b) (k : Nat) : ∀ d : Nat, b ^ k ≤ b ^ (k + d)
  | 0 => Int.le_refl _
  | d + 1 => by
    have ih := powI_add hb k d
    have p : 0 < b ^ (k + d) := Int.pow_pos (by omega)
    rw [← Nat.add_assoc, Int.pow_succ]
    have := Int.mul_le_mul_of_nonneg_left hb (Int.le_of_lt p)
    rw [Int.mul_one] at this
    omega
theorem powI_le {b : Int} (hb : 1 ≤ b) {k m : Nat} (h : k ≤ m) : b ^ k ≤ b ^ m := by
  have := powI_add hb k (m - k)
  rwa [show k + (m - k) = m by omega] at this
theorem HOk.sz {bk : List Sn} {s : Hs} (h : HOk bk s) (h1 : 1 ≤ bk.length) (h2 : bk.length ≤ 20) {i : Nat} (hi : i < bk.length) : Sz 120 (s.1 i) := by
  have l := nodup_lt _ _ h.nd h.lt
  obtain ⟨a, b⟩ := prT_pos h1 h2 s.2.2 h.ne
  have p1 : (20 : Int) ^ s.2.2.length ≤ 20 ^ 20 := powI_le (by omega) (by omega)
  have p2 : (2 : Int) ^ s.2.2.length ≤ 2 ^ 20 := powI_le (by omega) (by omega)
  have p3 : prT bk s.2.2 ≤ 20 * 20 ^ 20 := Int.le_trans b (Int.mul_le_mul_of_nonneg_left p1 (by omega))
  have p4 : (0 : Int) ≤ 2 ^ s.2.2.length := Int.le_of_lt (Int.pow_pos (by omega))
  have p5 : (2 : Int) ^ s.2.2.length * prT bk s.2.2 ≤ 2 ^ 20 * (20 * 20 ^ 20) := Int.mul_le_mul p2 p3 (Int.le_of_lt a) (by decide)
  exact (h.dq i hi).sz a p4 (Int.lt_of_le_of_lt p5 (by decide)) (Int.lt_of_le_of_lt p3 (by decide))
theorem HOk.part {bk : List Sn} {s : Hs} (h : HOk bk s) (h1 : 1 ≤ bk.length) (h2 : bk.length ≤ 20) {g : Nat} (hg : g < bk.length) (ht : tkL bk (untA bk g) ≠ []) : Sz 130 (partOf bk s.1 g) := by
  have l := nodup_lt _ _ h.nd h.lt
  have k0 := len_pos ht
  have k1 := tk_len bk (untA bk g)
  have m0 : (0 : Int) ≤ 2 ^ s.2.2.length := Int.le_of_lt (Int.pow_pos (by omega))
  obtain ⟨a, b⟩ := prT_pos h1 h2 s.2.2 h.ne
  have p := (h.dq g hg).div k0 m0
  have p1 : (20 : Int) ^ s.2.2.length ≤ 20 ^ 20 := powI_le (by omega) (by omega)
  have p2 : (2 : Int) ^ s.2.2.length ≤ 2 ^ 20 := powI_le (by omega) (by omega)
  have p3 : prT bk s.2.2 ≤ 20 * 20 ^ 20 := Int.le_trans b (Int.mul_le_mul_of_nonneg_left p1 (by omega))
  have q0 : 0 < prT bk s.2.2 * ((tkL bk (untA bk g)).length : Nat) := Int.mul_pos a (by omega)
  have q1 : prT bk s.2.2 * ((tkL bk (untA bk g)).length : Nat) ≤ 20 * 20 ^ 20 * 20 := Int.mul_le_mul p3 (by omega) (by omega) (by decide)
  have p5 : (2 : Int) ^ s.2.2.length * (prT bk s.2.2 * ((tkL bk (untA bk g)).length : Nat)) ≤ 2 ^ 20 * (20 * 20 ^ 20 * 20) := Int.mul_le_mul p2 q1 (Int.le_of_lt q0) (by decide)
  exact p.sz q0 m0 (Int.lt_of_le_of_lt p5 (by decide)) (Int.lt_of_le_of_lt q1 (by decide))
def start (bk : List Sn) : Hs := (fun _ => 1 / (bk.length : Rat), [], [])
/-! what is taken off from a giver is never asked again -/
structure Rl (a b : Hs) : Prop where
  e : a.2 = b.2
  w : ∀ i, i ∉ a.2.2 → a.1 i = b.1 i
/-! the givers, in their order -/
def gvC (bk : List Sn) (t : Int) (q : Sn × Nat) : Bool := decide (q.1.2.1 = t) && decide (q.1.2.2 = 0) && !(tkL bk t).isEmpty
def gvT (bk : List Sn) (t : Int) : List Nat := (bk.zipIdx.filter (gvC bk t)).map Prod.snd
def giversL (bk : List Sn) : List Nat := (List.range 999).flatMap fun (x : Nat) => gvT bk (1 + (x : Int))
def rowsG (bk : List Sn) : List (List Int) := (List.range 999).flatMap fun (x : Nat) => (bk.zipIdx.filter (gvC bk (1 + (x : Int)))).map fun q => [1 + (x : Int), (q.2 : Int)]
def cutR (bk : List Sn) (last : Int) : List (List Int) := (bk.zipIdx.filter fun q => decide (q.1.2.2 = 0) && decide (q.1.2.1 < last)).map fun q => [q.1.2.1, (q.2 : Int)]
def wL (n : Nat) (w : Nat → Rat) : List D := (List.range n).map fun i => fr (w i)
def hnD (x : Nat × Nat × Rat) : D := .tuple [.int (x.1 : Int), .int (x.2.1 : Int), fr x.2.2]
end DL

set_option Elab.async false
set_option linter.all false
set_option maxRecDepth 100000
set_option maxHeartbeats 1000000
namespace DL
open PySem L2
/-! all dealings of marks -/
def dealC (n k : Int) (j : Nat) (r : List Int) : Bool := decide (r.sum ≤ k) && decide (k ≤ r.sum + n - (j : Int))
def twoL (l : List (List Int)) : List (List Int) := l.flatMap fun r => [r ++ [0], r ++ [1]]
def dealN (n k : Int) : Nat → List (List Int)
  | 0 => [[]]
  | j + 1 => (twoL (dealN n k j)).filter (dealC n k (j + 1))
structure DealOk (j : Nat) (r : List Int) : Prop where
  l : r.length = j
  v : ∀ m ∈ r, m = 0 ∨ m = 1
theorem DealOk.app {j : Nat} {s : List Int} (h : DealOk j s) {m : Int} (hm : m = 0 ∨ m = 1) : DealOk (j + 1) (s ++ [m]) := ⟨by simp [h.l], fun x hx => by
  rcases List.mem_append.mp hx with hx | hx
  · exact h.v x hx
  · obtain rfl := List.mem_singleton.mp hx; exact hm⟩
/-! the farthest -/
def farS {α : Type} (f : α → Int) (b : Int × α) (d : α) : Int × α := if f d > b.1 then (f d, d) else b
/-! one bottom -/
def botN (qs : List Rat) : Nat := qs.foldl (fun b q => Nat.lcm b q.den) 1
def topL (qs : List Rat) : List Int := qs.map fun q => q.num * ((botN qs / q.den : Nat) : Int)
def topS (tops : List Int) (r : List Int) : Int := (lotW 1 tops r).sum
end DL

set_option Elab.async false
set_option linter.all false
set_option maxRecDepth 100000
set_option maxHeartbeats 1000000
namespace DL
open PySem L2
/-! ages so many times as great, and some more -/
def phi (b c t : Int) : Int := b * t + c
def strS (b c : Int) (s : Sn) : Sn := (phi b c s.1, phi b c s.2.1, s.2.2)
def strB (b c : Int) (bk : List Sn) : List Sn := bk.map (strS b c)
def rowS (b c : Int) (r : Row) : Row := ⟨phi b c r.t, r.w, r.e⟩
section
variable {b : Int} (hb : 0 < b) (c : Int)
include hb
end
/-! like things are equal -/
end DL

set_option Elab.async false
set_option linter.all false
set_option maxRecDepth 100000
set_option maxHeartbeats 1000000
namespace DL
open PySem L2
/-! how many dealings there are -/
def ch : Nat → Nat → Nat
  | _, 0 => 1
  | 0, _ + 1 => 0
  | n + 1, k + 1 => ch n k + ch n (k + 1)
def allW : Nat → Nat → List (List Int)
  | 0, 0 => [[]]
  | 0, _ + 1 => []
  | n + 1, 0 => (allW n 0).map (0 :: ·)
  | n + 1, k + 1 => (allW n k).map (1 :: ·) ++ (allW n (k + 1)).map (0 :: ·)
/-- the first dealing -/
def zkL (n k : Nat) : List Int := List.replicate (n - k) 0 ++ List.replicate k 1
/-! two marks change places -/
def swapL {α : Type} (l : List α) (i j : Nat) (d : α) : List α := (l.set i (l.getD j d)).set j (l.getD i d)
/-- two spans that are alike at all rows -/
structure Alike (bk : List Sn) (s t : Sn) : Prop where
  w : ∀ r ∈ rowsL bk, wat r.t s = wat r.t t
  e : decide (s.2.2 ≠ 0) = decide (t.2.2 ≠ 0)
  p : ∀ ws : List Rat, pullQ s (weighL bk ws) = pullQ t (weighL bk ws)
theorem Alike.refl (bk : List Sn) (s : Sn) : Alike bk s s := ⟨fun _ _ => rfl, rfl, fun _ => rfl⟩
section
variable {bk : List Sn} {ms : List Int} {i j : Nat} (hl : bk.length = ms.length) (hi : i < ms.length) (hj : j < ms.length) (ha : Alike bk (bk.getD i (0, 0, 0)) (bk.getD j (0, 0, 0)))
include hl hi hj ha
end
end DL

set_option Elab.async false
set_option linter.all false
set_option maxRecDepth 100000
set_option maxHeartbeats 1000000
namespace DL
open PySem L2
/-! sums over all dealings -/
def dotQ (qs : List Rat) (r : List Int) : Rat := (lotW 1 qs r).foldl (· + ·) 0
def c1 : Nat → Nat → Nat
  | 0, _ => 0
  | _ + 1, 0 => 0
  | n + 1, k + 1 => ch n k
def c2 : Nat → Nat → Nat
  | 0, _ => 0
  | _ + 1, 0 => 0
  | n + 1, k + 1 => c1 n k
def sqQ (qs : List Rat) : Rat := sumQ qs fun q => q * q
/-! each once, with how often -/
/-! all pulls together are nothing -/
end DL

set_option Elab.async false
set_option linter.all false
set_option maxRecDepth 100000
set_option maxHeartbeats 1000000
namespace DL
open PySem L2
/-! what is counted by a key -/
/-! sizes without their sign -/
def absQ (q : Rat) : Rat := if q.num < 0 then -q else q
/-! turned marks, marks from behind -/
def compl (r : List Int) : List Int := r.map (1 - ·)
/-! books with like rows -/
def keyR (r : Row) : Int × Int × Int := (r.t, r.w, r.e.sum)
end DL

set_option Elab.async false
set_option linter.all false
set_option maxRecDepth 100000
set_option maxHeartbeats 1000000
namespace DL
open PySem L2
/-! trees of whole numbers, and what becomes of one of which a part is bent -/
def Tree (m : Nat) : Nat → D → Prop
  | 0, d => ∃ i : Int, d = .int i ∧ i.natAbs < 2 ^ 40
  | n + 1, d => (∃ i : Int, d = .int i ∧ i.natAbs < 2 ^ 40) ∨ ∃ ds, d = .tuple ds ∧ ds.length ≤ m ∧ ∀ x ∈ ds, Tree m n x
def Wd (m : Nat) : Nat → Nat
  | 0 => 100
  | n + 1 => (m + 2) * (Wd m n + 2) + 3
theorem Wd_100 (m : Nat) : ∀ n, 100 ≤ Wd m n
  | 0 => Nat.le_refl _
  | n + 1 => by
    have := Wd_100 m n
    have : 1 * (Wd m n + 2) ≤ (m + 2) * (Wd m n + 2) := Nat.mul_le_mul_right _ (by omega)
    show 100 ≤ (m + 2) * (Wd m n + 2) + 3
    omega
theorem Sh.tupA {w k N : Nat} {ds : List D} (h : ∀ d ∈ ds, Sh w k d) (hl : ds.length ≤ N) : Sh (N * (w + 2) + 3) (k + 1) (.tuple ds) := by
  have := Sh.mapT (f := fun d => d) (l := ds) h hl
  rwa [List.map_id'] at this
theorem Sh.lstA {w k N : Nat} {ds : List D} (h : ∀ d ∈ ds, Sh w k d) (hl : ds.length ≤ N) : Sh (N * (w + 2) + 3) (k + 1) (.list ds) := by
  have := Sh.mapL (f := fun d => d) (l := ds) h hl
  rwa [List.map_id'] at this
theorem Tree.sh {m : Nat} : ∀ {n : Nat} {d : D}, Tree m n d → Sh (Wd m n) n d
  | 0, _, ⟨i, e, h⟩ => by subst e; exact (Sh.int h).mono (by have := Wd_100 m 0; omega) (by omega)
  | n + 1, _, .inl ⟨i, e, h⟩ => by subst e; exact (Sh.int h).mono (by have := Wd_100 m (n + 1); omega) (by omega)
  | n + 1, _, .inr ⟨ds, e, hl, h⟩ => by
    subst e
    exact Sh.tupA (N := m + 2) (fun x hx => (h x hx).sh) (by omega)
theorem Tree.shp {m : Nat} : ∀ {n : Nat} {d : D}, Tree m n d → Shp n d
  | 0, _, ⟨i, e, h⟩ => by subst e; exact Shp.int i
  | n + 1, _, .inl ⟨i, e, h⟩ => by subst e; exact (Shp.int i).mono (by omega)
  | n + 1, _, .inr ⟨ds, e, hl, h⟩ => by
    subst e
    have := ShpL.map (f := fun d => d) (n := n) ds fun x hx => (h x hx).shp
    rw [List.map_id'] at this
    exact Shp.tup this
theorem cut_to (xs : List D) (k : Nat) : cutD xs none (some (k : Int)) = xs.take k := by
  unfold cutD
  rw [HT.sIx_none, HT.sIx_nat, List.drop_zero, Nat.sub_zero]
  by_cases h : k ≤ xs.length
  · rw [Nat.min_eq_left h]
  · rw [Nat.min_eq_right (by omega), List.take_of_length_le (Nat.le_refl _), List.take_of_length_le (by omega)]
theorem cut_from (xs : List D) (k : Nat) : cutD xs (some (k : Int)) none = xs.drop k := by
  unfold cutD
  rw [HT.sIx_none, HT.sIx_nat]
  by_cases h : k ≤ xs.length
  · rw [Nat.min_eq_left h, List.take_of_length_le (by rw [List.length_drop]; exact Nat.le_refl _)]
  · rw [Nat.min_eq_right (by omega), List.drop_of_length_le (Nat.le_refl _), List.drop_of_length_le (by omega)]; simp
theorem cut_mem {xs : List D} {lo hi : Option Int} {d : D} (h : d ∈ cutD xs lo hi) : d ∈ xs := by
  unfold cutD at h
  exact List.mem_of_mem_drop (List.mem_of_mem_take h)
theorem seq_ret {A B : MS} {ρ ρ1 : Ev} {d : D} (h : A ρ = some (.rt d, ρ1)) : seqS A B ρ = some (.rt d, ρ1) := by unfold seqS; rw [h]
theorem eqv_unit (ds : List D) : PyData.eqv (.tuple ds) (.tuple []) = ds.isEmpty := by cases ds <;> simp [PyData.eqv, PyData.eqvAll]
theorem eqD_unit {ds : List D} (h : SeqAt.shaped (.tuple ds) = true) : eqD (.tuple ds) (.tuple []) = some (.bool ds.isEmpty) := by
  have h0 : SeqAt.shaped (.tuple ([] : List D)) = true := by decide +kernel
  simp [eqD, eqP, h, h0, eqv_unit]
theorem add_tup {xs ys : List D} (h : xs.length + ys.length ≤ 1000) : addD (.tuple xs) (.tuple ys) = some (.tuple (xs ++ ys)) := by
  rw [addD_e3, if_pos (by rw [sizeLine_val]; omega)]
end DL

set_option Elab.async false
set_option linter.all false
set_option maxRecDepth 100000
set_option maxHeartbeats 1000000
namespace Mine
open PySem L2 DL
def top (i : Nat) : Stmt := PySem.Challenge.pw_outlasts_k70_truths_looked_at.main.body.getD i (.Pass ⟨0, 0, 0, 0⟩)
abbrev s_p_is_whole : Stmt := top 5
abbrev N_p_is_whole : List Str := ["thing"]
theorem sc_p_is_whole : FnScope N_p_is_whole ["thing"] (defScope s_p_is_whole) := ⟨rfl, rfl, rfl, by decide +kernel, rfl, by decide +kernel, by decide +kernel⟩
abbrev s_p_is_span : Stmt := top 11
abbrev N_p_is_span : List Str := ["thing", "begin", "until", "end"]
theorem sc_p_is_span : FnScope N_p_is_span ["thing"] (defScope s_p_is_span) := ⟨rfl, rfl, rfl, by decide +kernel, rfl, by decide +kernel, by decide +kernel⟩
abbrev s_p_is_book : Stmt := top 12
abbrev N_p_is_book : List Str := ["thing", "part"]
theorem sc_p_is_book : FnScope N_p_is_book ["thing"] (defScope s_p_is_book) := ⟨rfl, rfl, rfl, by decide +kernel, rfl, by decide +kernel, by decide +kernel⟩
abbrev s_p_is_kind : Stmt := top 13
abbrev N_p_is_kind : List Str := ["thing"]
theorem sc_p_is_kind : FnScope N_p_is_kind ["thing"] (defScope s_p_is_kind) := ⟨rfl, rfl, rfl, by decide +kernel, rfl, by decide +kernel, by decide +kernel⟩
abbrev s_p_check_book : Stmt := top 14
abbrev N_p_check_book : List Str := ["book"]
theorem sc_p_check_book : FnScope N_p_check_book ["book"] (defScope s_p_check_book) := ⟨rfl, rfl, rfl, by decide +kernel, rfl, by decide +kernel, by decide +kernel⟩
abbrev s_p_is_plain : Stmt := top 15
abbrev N_p_is_plain : List Str := ["book", "begin", "until", "end"]
theorem sc_p_is_plain : FnScope N_p_is_plain ["book"] (defScope s_p_is_plain) := ⟨rfl, rfl, rfl, by decide +kernel, rfl, by decide +kernel, by decide +kernel⟩
abbrev s_p_check_plain : Stmt := top 16
abbrev N_p_check_plain : List Str := ["book"]
theorem sc_p_check_plain : FnScope N_p_check_plain ["book"] (defScope s_p_check_plain) := ⟨rfl, rfl, rfl, by decide +kernel, rfl, by decide +kernel, by decide +kernel⟩
abbrev s_p_is_truth : Stmt := top 19
abbrev N_p_is_truth : List Str := ["book", "thing", "span", "part"]
theorem sc_p_is_truth : FnScope N_p_is_truth ["book", "thing"] (defScope s_p_is_truth) := ⟨rfl, rfl, rfl, by decide +kernel, rfl, by decide +kernel, by decide +kernel⟩
abbrev s_p_may_stand_for : Stmt := top 20
abbrev N_p_may_stand_for : List Str := ["span", "thing", "begin", "until", "end"]
theorem sc_p_may_stand_for : FnScope N_p_may_stand_for ["span", "thing"] (defScope s_p_may_stand_for) := ⟨rfl, rfl, rfl, by decide +kernel, rfl, by decide +kernel, by decide +kernel⟩
abbrev s_l_cell_at : Stmt := top 22
abbrev N_l_cell_at : List Str := ["_law_script", "_law_k"]
theorem sc_l_cell_at : FnScope N_l_cell_at ["_law_script", "_law_k"] (defScope s_l_cell_at) := ⟨rfl, rfl, rfl, by decide +kernel, rfl, by decide +kernel, by decide +kernel⟩
abbrev s_l_pot : Stmt := top 23
abbrev N_l_pot : List Str := ["_law_cell", "_law_number", "_law_j", "_law_more"]
theorem sc_l_pot : FnScope N_l_pot ["_law_cell"] (defScope s_l_pot) := ⟨rfl, rfl, rfl, by decide +kernel, rfl, by decide +kernel, by decide +kernel⟩
abbrev s_l_take : Stmt := top 24
abbrev N_l_take : List Str := ["_law_pot_here", "_law_far", "_law_found"]
theorem sc_l_take : FnScope N_l_take ["_law_pot_here", "_law_far"] (defScope s_l_take) := ⟨rfl, rfl, rfl, by decide +kernel, rfl, by decide +kernel, by decide +kernel⟩
abbrev s_l_whole : Stmt := top 25
abbrev N_l_whole : List Str := ["_law_thing"]
theorem sc_l_whole : FnScope N_l_whole ["_law_thing"] (defScope s_l_whole) := ⟨rfl, rfl, rfl, by decide +kernel, rfl, by decide +kernel, by decide +kernel⟩
abbrev s_l_odd : Stmt := top 26
abbrev N_l_odd : List Str := ["_law_pot_here", "_law_some"]
theorem sc_l_odd : FnScope N_l_odd ["_law_pot_here"] (defScope s_l_odd) := ⟨rfl, rfl, rfl, by decide +kernel, rfl, by decide +kernel, by decide +kernel⟩
abbrev s_l_plain : Stmt := top 27
abbrev N_l_plain : List Str := ["_law_pot_here", "_law_most", "_law_far", "_law_found", "_law_turn", "_law_until"]
theorem sc_l_plain : FnScope N_l_plain ["_law_pot_here", "_law_most", "_law_far"] (defScope s_l_plain) := ⟨rfl, rfl, rfl, by decide +kernel, rfl, by decide +kernel, by decide +kernel⟩
abbrev s_l_truth : Stmt := top 28
abbrev N_l_truth : List Str := ["_law_pot_here", "_law_book", "_law_found", "_law_begin", "_law_until", "_law_end", "_law_later"]
theorem sc_l_truth : FnScope N_l_truth ["_law_pot_here", "_law_book"] (defScope s_l_truth) := ⟨rfl, rfl, rfl, by decide +kernel, rfl, by decide +kernel, by decide +kernel⟩
abbrev s_l_is_truth : Stmt := top 29
abbrev N_l_is_truth : List Str := ["_law_book", "_law_thing", "_law_at", "_law_span"]
theorem sc_l_is_truth : FnScope N_l_is_truth ["_law_book", "_law_thing"] (defScope s_l_is_truth) := ⟨rfl, rfl, rfl, by decide +kernel, rfl, by decide +kernel, by decide +kernel⟩
abbrev s_l_is_true : Stmt := top 30
abbrev N_l_is_true : List Str := ["_law_span", "_law_thing", "_law_one"]
theorem sc_l_is_true : FnScope N_l_is_true ["_law_span", "_law_thing"] (defScope s_l_is_true) := ⟨rfl, rfl, rfl, by decide +kernel, rfl, by decide +kernel, by decide +kernel⟩
abbrev s_l_soonest : Stmt := top 31
abbrev N_l_soonest : List Str := ["_law_book", "_law_span"]
theorem sc_l_soonest : FnScope N_l_soonest ["_law_book"] (defScope s_l_soonest) := ⟨rfl, rfl, rfl, by decide +kernel, rfl, by decide +kernel, by decide +kernel⟩
abbrev s_l_latest : Stmt := top 32
abbrev N_l_latest : List Str := ["_law_book", "_law_span"]
theorem sc_l_latest : FnScope N_l_latest ["_law_book"] (defScope s_l_latest) := ⟨rfl, rfl, rfl, by decide +kernel, rfl, by decide +kernel, by decide +kernel⟩
abbrev s_l_bent : Stmt := top 33
abbrev N_l_bent : List Str := ["_law_pot_here", "_law_thing", "_law_deep", "_law_at", "_law_way"]
theorem sc_l_bent : FnScope N_l_bent ["_law_pot_here", "_law_thing", "_law_deep"] (defScope s_l_bent) := ⟨rfl, rfl, rfl, by decide +kernel, rfl, by decide +kernel, by decide +kernel⟩
abbrev s_l_things : Stmt := top 34
abbrev N_l_things : List Str := ["_law_pot_here", "_law_book", "_law_good", "_law_at", "_law_span", "_law_some", "_law_found", "_law_one", "_law_turn"]
theorem sc_l_things : FnScope N_l_things ["_law_pot_here", "_law_book"] (defScope s_l_things) := ⟨rfl, rfl, rfl, by decide +kernel, rfl, by decide +kernel, by decide +kernel⟩
abbrev s_l_law : Stmt := top 35
abbrev N_l_law : List Str := ["_law_script", "_law_k", "_law_pot_here", "_law_book", "_law_thing", "_law_kept", "_law_ought"]
theorem sc_l_law : FnScope N_l_law ["_law_script"] (defScope s_l_law) := ⟨rfl, rfl, rfl, by decide +kernel, rfl, by decide +kernel, by decide +kernel⟩
structure Adr where
  f_p_is_whole : Addr
  d_p_is_whole : FuncData
  f_p_is_span : Addr
  d_p_is_span : FuncData
  f_p_is_book : Addr
  d_p_is_book : FuncData
  f_p_is_kind : Addr
  d_p_is_kind : FuncData
  f_p_check_book : Addr
  d_p_check_book : FuncData
  f_p_is_plain : Addr
  d_p_is_plain : FuncData
  f_p_check_plain : Addr
  d_p_check_plain : FuncData
  f_p_is_truth : Addr
  d_p_is_truth : FuncData
  f_p_may_stand_for : Addr
  d_p_may_stand_for : FuncData
  f_l_cell_at : Addr
  d_l_cell_at : FuncData
  f_l_pot : Addr
  d_l_pot : FuncData
  f_l_take : Addr
  d_l_take : FuncData
  f_l_whole : Addr
  d_l_whole : FuncData
  f_l_odd : Addr
  d_l_odd : FuncData
  f_l_plain : Addr
  d_l_plain : FuncData
  f_l_truth : Addr
  d_l_truth : FuncData
  f_l_is_truth : Addr
  d_l_is_truth : FuncData
  f_l_is_true : Addr
  d_l_is_true : FuncData
  f_l_soonest : Addr
  d_l_soonest : FuncData
  f_l_latest : Addr
  d_l_latest : FuncData
  f_l_bent : Addr
  d_l_bent : FuncData
  f_l_things : Addr
  d_l_things : FuncData
  f_l_law : Addr
  d_l_law : FuncData
  a_KINDS : Addr
structure Txt (K : PySem.W.Frag) (mg : Str → Option Value) (t : Adr) : Prop where
  F_p_is_whole : Fun K "is_whole" "is_whole" s_p_is_whole t.f_p_is_whole t.d_p_is_whole
  m_p_is_whole : mg "is_whole" = some (.ref t.f_p_is_whole)
  b_p_is_whole : Binds K t.d_p_is_whole ["thing"] []
  F_p_is_span : Fun K "is_span" "is_span" s_p_is_span t.f_p_is_span t.d_p_is_span
  m_p_is_span : mg "is_span" = some (.ref t.f_p_is_span)
  b_p_is_span : Binds K t.d_p_is_span ["thing"] []
  F_p_is_book : Fun K "is_book" "is_book" s_p_is_book t.f_p_is_book t.d_p_is_book
  m_p_is_book : mg "is_book" = some (.ref t.f_p_is_book)
  b_p_is_book : Binds K t.d_p_is_book ["thing"] []
  F_p_is_kind : Fun K "is_kind" "is_kind" s_p_is_kind t.f_p_is_kind t.d_p_is_kind
  m_p_is_kind : mg "is_kind" = some (.ref t.f_p_is_kind)
  b_p_is_kind : Binds K t.d_p_is_kind ["thing"] []
  F_p_check_book : Fun K "check_book" "check_book" s_p_check_book t.f_p_check_book t.d_p_check_book
  m_p_check_book : mg "check_book" = some (.ref t.f_p_check_book)
  b_p_check_book : Binds K t.d_p_check_book ["book"] []
  F_p_is_plain : Fun K "is_plain" "is_plain" s_p_is_plain t.f_p_is_plain t.d_p_is_plain
  m_p_is_plain : mg "is_plain" = some (.ref t.f_p_is_plain)
  b_p_is_plain : Binds K t.d_p_is_plain ["book"] []
  F_p_check_plain : Fun K "check_plain" "check_plain" s_p_check_plain t.f_p_check_plain t.d_p_check_plain
  m_p_check_plain : mg "check_plain" = some (.ref t.f_p_check_plain)
  b_p_check_plain : Binds K t.d_p_check_plain ["book"] []
  F_p_is_truth : Fun K "is_truth" "is_truth" s_p_is_truth t.f_p_is_truth t.d_p_is_truth
  m_p_is_truth : mg "is_truth" = some (.ref t.f_p_is_truth)
  b_p_is_truth : Binds K t.d_p_is_truth ["book", "thing"] []
  F_p_may_stand_for : Fun K "may_stand_for" "may_stand_for" s_p_may_stand_for t.f_p_may_stand_for t.d_p_may_stand_for
  m_p_may_stand_for : mg "may_stand_for" = some (.ref t.f_p_may_stand_for)
  b_p_may_stand_for : Binds K t.d_p_may_stand_for ["span", "thing"] []
  F_l_cell_at : Fun K "_law_cell_at" "_law_cell_at" s_l_cell_at t.f_l_cell_at t.d_l_cell_at
  m_l_cell_at : mg "_law_cell_at" = some (.ref t.f_l_cell_at)
  b_l_cell_at : Binds K t.d_l_cell_at ["_law_script", "_law_k"] []
  F_l_pot : Fun K "_law_pot" "_law_pot" s_l_pot t.f_l_pot t.d_l_pot
  m_l_pot : mg "_law_pot" = some (.ref t.f_l_pot)
  b_l_pot : Binds K t.d_l_pot ["_law_cell"] []
  F_l_take : Fun K "_law_take" "_law_take" s_l_take t.f_l_take t.d_l_take
  m_l_take : mg "_law_take" = some (.ref t.f_l_take)
  b_l_take : Binds K t.d_l_take ["_law_pot_here", "_law_far"] []
  F_l_whole : Fun K "_law_whole" "_law_whole" s_l_whole t.f_l_whole t.d_l_whole
  m_l_whole : mg "_law_whole" = some (.ref t.f_l_whole)
  b_l_whole : Binds K t.d_l_whole ["_law_thing"] []
  F_l_odd : Fun K "_law_odd" "_law_odd" s_l_odd t.f_l_odd t.d_l_odd
  m_l_odd : mg "_law_odd" = some (.ref t.f_l_odd)
  b_l_odd : Binds K t.d_l_odd ["_law_pot_here"] []
  F_l_plain : Fun K "_law_plain" "_law_plain" s_l_plain t.f_l_plain t.d_l_plain
  m_l_plain : mg "_law_plain" = some (.ref t.f_l_plain)
  b_l_plain : Binds K t.d_l_plain ["_law_pot_here", "_law_most", "_law_far"] []
  F_l_truth : Fun K "_law_truth" "_law_truth" s_l_truth t.f_l_truth t.d_l_truth
  m_l_truth : mg "_law_truth" = some (.ref t.f_l_truth)
  b_l_truth : Binds K t.d_l_truth ["_law_pot_here", "_law_book"] []
  F_l_is_truth : Fun K "_law_is_truth" "_law_is_truth" s_l_is_truth t.f_l_is_truth t.d_l_is_truth
  m_l_is_truth : mg "_law_is_truth" = some (.ref t.f_l_is_truth)
  b_l_is_truth : Binds K t.d_l_is_truth ["_law_book", "_law_thing"] []
  F_l_is_true : Fun K "_law_is_true" "_law_is_true" s_l_is_true t.f_l_is_true t.d_l_is_true
  m_l_is_true : mg "_law_is_true" = some (.ref t.f_l_is_true)
  b_l_is_true : Binds K t.d_l_is_true ["_law_span", "_law_thing"] []
  F_l_soonest : Fun K "_law_soonest" "_law_soonest" s_l_soonest t.f_l_soonest t.d_l_soonest
  m_l_soonest : mg "_law_soonest" = some (.ref t.f_l_soonest)
  b_l_soonest : Binds K t.d_l_soonest ["_law_book"] []
  F_l_latest : Fun K "_law_latest" "_law_latest" s_l_latest t.f_l_latest t.d_l_latest
  m_l_latest : mg "_law_latest" = some (.ref t.f_l_latest)
  b_l_latest : Binds K t.d_l_latest ["_law_book"] []
  F_l_bent : Fun K "_law_bent" "_law_bent" s_l_bent t.f_l_bent t.d_l_bent
  m_l_bent : mg "_law_bent" = some (.ref t.f_l_bent)
  b_l_bent : Binds K t.d_l_bent ["_law_pot_here", "_law_thing", "_law_deep"] []
  F_l_things : Fun K "_law_things" "_law_things" s_l_things t.f_l_things t.d_l_things
  m_l_things : mg "_law_things" = some (.ref t.f_l_things)
  b_l_things : Binds K t.d_l_things ["_law_pot_here", "_law_book"] []
  F_l_law : Fun K "law" "law" s_l_law t.f_l_law t.d_l_law
  m_l_law : mg "law" = some (.ref t.f_l_law)
  b_l_law : Binds K t.d_l_law ["_law_script"] []
  z_all : mg "all" = none
  z_bool : mg "bool" = none
  z_enumerate : mg "enumerate" = none
  z_int : mg "int" = none
  z_isinstance : mg "isinstance" = none
  z_len : mg "len" = none
  z_list : mg "list" = none
  z_max : mg "max" = none
  z_min : mg "min" = none
  z_range : mg "range" = none
  z_repr : mg "repr" = none
  z_tuple : mg "tuple" = none
  z_zip : mg "zip" = none
  c_LAST_UNTIL : ∃ tk : Tok, mg "LAST_UNTIL" = some (.int 999 tk)
  c_MOST_SPANS : ∃ tk : Tok, mg "MOST_SPANS" = some (.int 40 tk)
  c_CUT_OFF : ∃ tk : Tok, mg "CUT_OFF" = some (.int 0 tk)
  c_KINDS : mg "KINDS" = some (.ref t.a_KINDS)
  k_KINDS : ∃ (o : Obj) (its : Array Value) (n : Nat), K.lookup t.a_KINDS = some o ∧ o.cls = .type "tuple" ∧ o.data = .seq its n ∧ its.size ≤ sizeLine ∧ Vals [.int 1, .int 2, .int 3, .int 4] its.toList
  c_LAST_TRUE_UNTIL : ∃ tk : Tok, mg "LAST_TRUE_UNTIL" = some (.int 2000 tk)
theorem Txt.pc_LAST_UNTIL {t : Adr} {X : Cx} (T : Txt X.K X.mg t) {pos : Pos} (hg : Gl X "LAST_UNTIL") : PE X (.Name "LAST_UNTIL" pos) (tC (.int 999)) := let ⟨_, h⟩ := T.c_LAST_UNTIL; pe_glob hg h ⟨_, rfl⟩
theorem Txt.pc_MOST_SPANS {t : Adr} {X : Cx} (T : Txt X.K X.mg t) {pos : Pos} (hg : Gl X "MOST_SPANS") : PE X (.Name "MOST_SPANS" pos) (tC (.int 40)) := let ⟨_, h⟩ := T.c_MOST_SPANS; pe_glob hg h ⟨_, rfl⟩
theorem Txt.pc_CUT_OFF {t : Adr} {X : Cx} (T : Txt X.K X.mg t) {pos : Pos} (hg : Gl X "CUT_OFF") : PE X (.Name "CUT_OFF" pos) (tC (.int 0)) := let ⟨_, h⟩ := T.c_CUT_OFF; pe_glob hg h ⟨_, rfl⟩
theorem Txt.pc_KINDS {t : Adr} {X : Cx} (T : Txt X.K X.mg t) {pos : Pos} (hg : Gl X "KINDS") : PE X (.Name "KINDS" pos) (tC (.ref t.a_KINDS)) := pe_glob hg T.c_KINDS rfl
def cD_KINDS : D := .tuple [.int (1), .int (2), .int (3), .int (4)]
theorem Txt.sc_KINDS {K : PySem.W.Frag} {mg : Str → Option Value} {t : Adr} (T : Txt K mg t) : SimE K (tC (.ref t.a_KINDS)) (cE cD_KINDS) := simE_c fun N H => .tup (.inr T.k_KINDS) (DnAll.ofInts [1, 2, 3, 4])
theorem Txt.pc_LAST_TRUE_UNTIL {t : Adr} {X : Cx} (T : Txt X.K X.mg t) {pos : Pos} (hg : Gl X "LAST_TRUE_UNTIL") : PE X (.Name "LAST_TRUE_UNTIL" pos) (tC (.int 2000)) := let ⟨_, h⟩ := T.c_LAST_TRUE_UNTIL; pe_glob hg h ⟨_, rfl⟩
end Mine

set_option Elab.async false
set_option linter.all false
set_option maxRecDepth 100000
set_option maxHeartbeats 1000000
namespace Mine
open PySem L2 DL
noncomputable section
variable {P : Program} {w : World} {K : PySem.W.Frag} {mg : Str → Option Value} {base : Heap} {t : Adr}
def S_p_is_whole : MS := (retS (andE (op1E (fun d => some (.bool (isInt d))) (varE 0)) (notE (op1E (fun d => some (.bool (isBool d))) (varE 0)))))
def F_p_is_whole : Fn := runF 1 0 S_p_is_whole
theorem ok_p_is_whole (T : Txt K mg t) : FnOk P w K mg base CX0 1 t.f_p_is_whole t.d_p_is_whole ["thing"] (SpF K F_p_is_whole) := by
  refine T.F_p_is_whole.ok sc_p_is_whole (fun vs H Q E h => lenF h) (fun cdv A outer s H vs Q E hr h => ?_)
  refine ⟨_, (@pss_one _ _ _ (@ps_ret _ _ _ _ (@pe_and _ _ _ _ _ _ _ (@pe_callB _ _ _ _ _ _ _ _ _ (@kIsi _ (K) rfl) (by rfl) T.z_isinstance (by decide +kernel) (@pa_k _ _ _ _ _ rfl (@pv _ 0 _ _ (by rfl) (by first | exact Or.inl rfl | exact Or.inr (Or.inl rfl) | exact Or.inr (Or.inr rfl)) (by decide) (by decide)) (@pa_k _ _ _ _ _ rfl (@pe_bltn _ _ (.ty "int") _ _ (by rfl) T.z_int (by decide +kernel) rfl (by decide) (by decide)) (@pa_nil _))) (by decide) (by decide) (by rfl) (by rfl)) (@pe_one _ _ _ _ _ (@pe_not _ _ _ _ (@pe_callB _ _ _ _ _ _ _ _ _ (@kIsi _ (K) rfl) (by rfl) T.z_isinstance (by decide +kernel) (@pa_k _ _ _ _ _ rfl (@pv _ 0 _ _ (by rfl) (by first | exact Or.inl rfl | exact Or.inr (Or.inl rfl) | exact Or.inr (Or.inr rfl)) (by decide) (by decide)) (@pa_k _ _ _ _ _ rfl (@pe_bltn _ _ (.ty "bool") _ _ (by rfl) T.z_bool (by decide +kernel) rfl (by decide) (by decide)) (@pa_nil _))) (by decide) (by decide) (by rfl) (by rfl))))))), ?_⟩
  exact fnF (np := 1) (nl := 0) (S := S_p_is_whole) (K := K) (@simS_ret _ _ _ (@simE_and _ _ _ _ _ (@simE_isi _ _ (isInt) (kit_int K) _ _ (@simE_var _ 0)) (@simE_not _ _ _ (@simE_isi _ _ (isBool) (kit_bool K) _ _ (@simE_var _ 0))))) rfl h
def A_p_is_plain_1 : MA := (lcA (itA (varE 0)) (tupG 3 (consG (nameG 1) (consG (nameG 2) (consG (nameG 3) nilG)))) yesT (op2E eqD (varE 1) (cE (.int 0))) [1, 2, 3])
def S_p_is_plain : MS := (retS (cbE allD (consA (frzE A_p_is_plain_1) nilA)))
def F_p_is_plain : Fn := runF 1 3 S_p_is_plain
theorem ok_p_is_plain (T : Txt K mg t) : FnOk P w K mg base CX0 1 t.f_p_is_plain t.d_p_is_plain ["book"] (SpF K F_p_is_plain) := by
  refine T.F_p_is_plain.ok sc_p_is_plain (fun vs H Q E h => lenF h) (fun cdv A outer s H vs Q E hr h => ?_)
  refine ⟨_, (@pss_one _ _ _ (@ps_ret _ _ _ _ (@pe_callB _ _ _ _ _ _ _ _ _ (@kAll _ (K) rfl (by rfl)) (by rfl) T.z_all (by decide +kernel) (@pa_k _ _ _ _ _ rfl (@pe_lc _ _ _ _ _ _ [("begin", 1), ("until", 2), ("end", 3)] _ _ (gTup K 3 (gCons (gName 1) (gCons (gName 2) (gCons (gName 3) gNil)))) _ _ (by rfl) sc_p_is_plain.nd (@pi_seqK _ (K) rfl _ _ _ (@pv _ 0 _ _ (by rfl) (by first | exact Or.inl rfl | exact Or.inr (Or.inl rfl) | exact Or.inr (Or.inr rfl)) (by decide) (by decide))) (blkOk_by (own := [("begin", 1), ("until", 2), ("end", 3)]) (N := N_p_is_plain) (sc := defScope s_p_is_plain) (by decide +kernel)) (fun _ _ _ _ _ => (@kPgTup _ (K) _ _ _ _ _ rfl (@pg_tup _ _ _ _ _ _ (by rfl) (@pgs_cons _ _ _ _ _ (@pg_name _ _ (1) _ sc_p_is_plain.nd rfl (by first | exact Or.inl rfl | exact Or.inr rfl) (by first | exact .inl rfl | exact .inr rfl | assumption)) (@pgs_cons _ _ _ _ _ (@pg_name _ _ (2) _ sc_p_is_plain.nd rfl (by first | exact Or.inl rfl | exact Or.inr rfl) (by first | exact .inl rfl | exact .inr rfl | assumption)) (@pgs_cons _ _ _ _ _ (@pg_name _ _ (3) _ sc_p_is_plain.nd rfl (by first | exact Or.inl rfl | exact Or.inr rfl) (by first | exact .inl rfl | exact .inr rfl | assumption)) (@pgs_nil _) (by rfl)) (by rfl)) (by rfl)) (by rfl) (by rfl)))) (fun _ _ _ _ _ => (@pts_nil _)) (fun _ _ _ _ _ => (@pe_cmpR _ _ _ _ _ _ _ _ (@kEq _ (K) rfl _ hr) (@pv _ 1 _ _ (by rfl) (by first | exact Or.inl rfl | exact Or.inr (Or.inl rfl) | exact Or.inr (Or.inr rfl)) (by decide) (by decide)) (@pe_int _ _ _ _) (nomark _))) (by intro _ ; rfl)) (@pa_nil _)) (by decide) (by decide) (by rfl) (by rfl)))), ?_⟩
  exact fnF (np := 1) (nl := 3) (S := S_p_is_plain) (K := K) (@simS_ret _ _ _ (@simE_cb _ _ _ _ _ (@sr_all _) (@simA_cons _ _ _ _ _ (@simE_of _ _ _ (@simO_lc _ _ _ _ _ _ _ _ _ _ [1, 2, 3] (@simI_seq _ _ _ (@simE_var _ 0)) (@simG_tup _ (3) _ _ _ (@simGs_cons _ _ _ _ _ _ _ (@simG_name _ 1) (@simGs_cons _ _ _ _ _ _ _ (@simG_name _ 2) (@simGs_cons _ _ _ _ _ _ _ (@simG_name _ 3) (@simGs_nil _))))) (by decide) (@simT_yes _) (@simE_op _ _ _ _ _ _ _ (@sr_eq _) (@simE_var _ 1) (@simE_int _ 0)))) (@simA_nil _)))) rfl h
def S_l_cell_at : MS := (seqS (ifS (bT (op2E ltD (varE 1) (lenScr 0))) (retS (ixScr 0 (varE 1))) nextS)
      (retS (cE (.int 0))))
def F_l_cell_at : FnS := runS 2 0 S_l_cell_at
theorem ok_l_cell_at (T : Txt K mg t) : FnOk P w K mg base CX0 1 t.f_l_cell_at t.d_l_cell_at ["_law_script", "_law_k"] (SpS K F_l_cell_at) := by
  refine T.F_l_cell_at.ok sc_l_cell_at (fun vs H Q E h => lenS h) (fun cdv A outer s H vs Q E hr h => ?_)
  refine ⟨_, (@pss_cons _ _ _ _ _ (@ps_if _ _ _ _ _ _ _ _ (@pt_cmpR _ _ _ _ _ _ _ _ (@op_lt _) (@pv _ 1 _ _ (by rfl) (by first | exact Or.inl rfl | exact Or.inr (Or.inl rfl) | exact Or.inr (Or.inr rfl)) (by decide) (by decide)) (@pe_callB _ _ _ _ _ _ _ _ _ (@kLen _ (K) rfl) (by rfl) T.z_len (by decide +kernel) (@pa_k _ _ _ _ _ rfl (@pv _ 0 _ _ (by rfl) (by first | exact Or.inl rfl | exact Or.inr (Or.inl rfl) | exact Or.inr (Or.inr rfl)) (by decide) (by decide)) (@pa_nil _)) (by decide) (by decide) (by rfl) (by rfl)) (nomark _)) (@pss_one _ _ _ (@ps_ret _ _ _ _ (@pe_ix _ _ _ _ _ _ _ (@kIx _ (K) rfl) (@pv _ 0 _ _ (by rfl) (by first | exact Or.inl rfl | exact Or.inr (Or.inl rfl) | exact Or.inr (Or.inr rfl)) (by decide) (by decide)) (@pv _ 1 _ _ (by rfl) (by first | exact Or.inl rfl | exact Or.inr (Or.inl rfl) | exact Or.inr (Or.inr rfl)) (by decide) (by decide)) (fun _ _ => (rfl))))) (@pss_nil _)) (@pss_one _ _ _ (@ps_ret _ _ _ _ (@pe_int _ _ _ _)))), ?_⟩
  exact fnS (np := 2) (nl := 0) (S := S_l_cell_at) (K := K) (@simS_seq _ _ _ _ _ (@simS_if _ _ _ _ _ _ _ (@simT_test _ _ _ (@simE_op _ _ _ _ _ _ _ (@sr_lt _) (@simE_var _ 1) (@simE_lenScr _ (0)))) (@simS_ret _ _ _ (@simE_ixScr _ (0) _ _ (@simE_var _ 1))) (@simS_next _)) (@simS_ret _ _ _ (@simE_int _ 0))) rfl h
def B_l_pot_1 : MS := (seqS (asgS (op2E modD (op2E mulD (op2E addD (op2E addD (op2E modD (varE 0) (cE (.int 2147483629))) (op2E mulD (cE (.int 7919)) (varE 2))) (cE (.int 1))) (cE (.int 48271))) (cE (.int 2147483647))) (nameG 3))
      (seqS (asgS (op2E modD (op2E addD (op2E addD (op2E mulD (varE 3) (varE 3)) (op2E mulD (cE (.int 69621)) (varE 2))) (cE (.int 7))) (cE (.int 2147483587))) (nameG 3))
      (asgS (op2E addD (op2E mulD (varE 1) (cE (.int 2147483587))) (varE 3)) (nameG 1))))
def S_l_pot : MS := (seqS (ifS (bT (op2E geD (varE 0) (op2E powD (cE (.int 10)) (cE (.int 18))))) (retOS (lstA (consA (op2E subD (varE 0) (op2E powD (cE (.int 10)) (cE (.int 18)))) nilA))) nextS)
      (seqS (asgS (cE (.int 0)) (nameG 1))
      (seqS (forS (rng1A (consA (cE (.int 64)) nilA)) (nameG 2) B_l_pot_1 [2, 3])
      (retOS (lstA (consA (varE 1) nilA))))))
def F_l_pot : FnO := runO 1 3 S_l_pot
theorem ok_l_pot (T : Txt K mg t) : FnOk P w K mg base CX0 1 t.f_l_pot t.d_l_pot ["_law_cell"] (SpO K F_l_pot) := by
  refine T.F_l_pot.ok sc_l_pot (fun vs H Q E h => lenO h) (fun cdv A outer s H vs Q E hr h => ?_)
  refine ⟨_, (@pss_cons _ _ _ _ _ (@ps_if _ _ _ _ _ _ _ _ (@pt_cmpR _ _ _ _ _ _ _ _ (@op_ge _) (@pv _ 0 _ _ (by rfl) (by first | exact Or.inl rfl | exact Or.inr (Or.inl rfl) | exact Or.inr (Or.inr rfl)) (by decide) (by decide)) (@pe_op _ _ _ _ _ _ _ _ (@op_pow _) (@pe_int _ _ _ _) (@pe_int _ _ _ _)) (nomark _)) (@pss_one _ _ _ (@ps_ret _ _ _ _ (@pe_lst _ _ _ _ (@pa_k _ _ _ _ _ rfl (@pe_op _ _ _ _ _ _ _ _ (@op_sub _) (@pv _ 0 _ _ (by rfl) (by first | exact Or.inl rfl | exact Or.inr (Or.inl rfl) | exact Or.inr (Or.inr rfl)) (by decide) (by decide)) (@pe_op _ _ _ _ _ _ _ _ (@op_pow _) (@pe_int _ _ _ _) (@pe_int _ _ _ _))) (@pa_nil _))))) (@pss_nil _)) (@pss_cons _ _ _ _ _ (@ps_set _ _ (1) _ _ _ _ sc_l_pot.nd rfl (Or.inl rfl) (@pe_int _ _ _ _) (by rfl) (by first | exact .inl rfl | exact .inr rfl | assumption)) (@pss_cons _ _ _ _ _ (@ps_for _ _ _ _ _ _ _ _ PassesOwn.never rfl (@pi_range1 _ _ _ _ _ _ (by rfl) T.z_range (@pa_k _ _ _ _ _ rfl (@pe_int _ _ _ _) (@pa_nil _)) (by rfl)) (@pg_name _ _ (2) _ sc_l_pot.nd rfl (by first | exact Or.inl rfl | exact Or.inr rfl) (by first | exact .inl rfl | exact .inr rfl | assumption)) (@pss_cons _ _ _ _ _ (@ps_set _ _ (3) _ _ _ _ sc_l_pot.nd rfl (Or.inl rfl) (@pe_op _ _ _ _ _ _ _ _ (@op_modN _) (@pe_op _ _ _ _ _ _ _ _ (@op_mulB _) (@pe_op _ _ _ _ _ _ _ _ (@kAdd _ (K) rfl) (@pe_op _ _ _ _ _ _ _ _ (@kAdd _ (K) rfl) (@pe_op _ _ _ _ _ _ _ _ (@op_modN _) (@pv _ 0 _ _ (by rfl) (by first | exact Or.inl rfl | exact Or.inr (Or.inl rfl) | exact Or.inr (Or.inr rfl)) (by decide) (by decide)) (@pe_int _ _ _ _)) (@pe_op _ _ _ _ _ _ _ _ (@op_mulB _) (@pe_int _ _ _ _) (@pv _ 2 _ _ (by rfl) (by first | exact Or.inl rfl | exact Or.inr (Or.inl rfl) | exact Or.inr (Or.inr rfl)) (by decide) (by decide)))) (@pe_int _ _ _ _)) (@pe_int _ _ _ _)) (@pe_int _ _ _ _)) (by rfl) (by first | exact .inl rfl | exact .inr rfl | assumption)) (@pss_cons _ _ _ _ _ (@ps_set _ _ (3) _ _ _ _ sc_l_pot.nd rfl (Or.inl rfl) (@pe_op _ _ _ _ _ _ _ _ (@op_modN _) (@pe_op _ _ _ _ _ _ _ _ (@kAdd _ (K) rfl) (@pe_op _ _ _ _ _ _ _ _ (@kAdd _ (K) rfl) (@pe_op _ _ _ _ _ _ _ _ (@op_mulB _) (@pv _ 3 _ _ (by rfl) (by first | exact Or.inl rfl | exact Or.inr (Or.inl rfl) | exact Or.inr (Or.inr rfl)) (by decide) (by decide)) (@pv _ 3 _ _ (by rfl) (by first | exact Or.inl rfl | exact Or.inr (Or.inl rfl) | exact Or.inr (Or.inr rfl)) (by decide) (by decide))) (@pe_op _ _ _ _ _ _ _ _ (@op_mulB _) (@pe_int _ _ _ _) (@pv _ 2 _ _ (by rfl) (by first | exact Or.inl rfl | exact Or.inr (Or.inl rfl) | exact Or.inr (Or.inr rfl)) (by decide) (by decide)))) (@pe_int _ _ _ _)) (@pe_int _ _ _ _)) (by rfl) (by first | exact .inl rfl | exact .inr rfl | assumption)) (@pss_one _ _ _ (@ps_set _ _ (1) _ _ _ _ sc_l_pot.nd rfl (Or.inl rfl) (@pe_op _ _ _ _ _ _ _ _ (@kAdd _ (K) rfl) (@pe_op _ _ _ _ _ _ _ _ (@op_mulB _) (@pv _ 1 _ _ (by rfl) (by first | exact Or.inl rfl | exact Or.inr (Or.inl rfl) | exact Or.inr (Or.inr rfl)) (by decide) (by decide)) (@pe_int _ _ _ _)) (@pv _ 3 _ _ (by rfl) (by first | exact Or.inl rfl | exact Or.inr (Or.inl rfl) | exact Or.inr (Or.inr rfl)) (by decide) (by decide))) (by rfl) (by first | exact .inl rfl | exact .inr rfl | assumption))))) (by intro _ ; rfl)) (@pss_one _ _ _ (@ps_ret _ _ _ _ (@pe_lst _ _ _ _ (@pa_k _ _ _ _ _ rfl (@pv _ 1 _ _ (by rfl) (by first | exact Or.inl rfl | exact Or.inr (Or.inl rfl) | exact Or.inr (Or.inr rfl)) (by decide) (by decide)) (@pa_nil _)))))))), ?_⟩
  exact fnO (np := 1) (nl := 3) (S := S_l_pot) (K := K) (@simS_seq _ _ _ _ _ (@simS_if _ _ _ _ _ _ _ (@simT_test _ _ _ (@simE_op _ _ _ _ _ _ _ (@sr_ge _) (@simE_var _ 0) (@simE_op _ _ _ _ _ _ _ (@sr_pow _) (@simE_int _ 10) (@simE_int _ 18)))) (@simS_retO _ _ _ (@simO_lst _ _ _ (@simA_cons _ _ _ _ _ (@simE_op _ _ _ _ _ _ _ (@sr_sub _) (@simE_var _ 0) (@simE_op _ _ _ _ _ _ _ (@sr_pow _) (@simE_int _ 10) (@simE_int _ 18))) (@simA_nil _)))) (@simS_next _)) (@simS_seq _ _ _ _ _ (@simS_asg _ _ _ _ _ _ (@simE_int _ 0) (@simG_name _ 1)) (@simS_seq _ _ _ _ _ (@simS_for _ _ _ _ _ _ _ _ [2, 3] (@simI_rng1 _ _ _ (@simA_cons _ _ _ _ _ (@simE_int _ 64) (@simA_nil _))) (@simG_name _ 2) (@simS_seq _ _ _ _ _ (@simS_asg _ _ _ _ _ _ (@simE_op _ _ _ _ _ _ _ (@sr_mod _) (@simE_op _ _ _ _ _ _ _ (@sr_mul _) (@simE_op _ _ _ _ _ _ _ (@sr_add _) (@simE_op _ _ _ _ _ _ _ (@sr_add _) (@simE_op _ _ _ _ _ _ _ (@sr_mod _) (@simE_var _ 0) (@simE_int _ 2147483629)) (@simE_op _ _ _ _ _ _ _ (@sr_mul _) (@simE_int _ 7919) (@simE_var _ 2))) (@simE_int _ 1)) (@simE_int _ 48271)) (@simE_int _ 2147483647)) (@simG_name _ 3)) (@simS_seq _ _ _ _ _ (@simS_asg _ _ _ _ _ _ (@simE_op _ _ _ _ _ _ _ (@sr_mod _) (@simE_op _ _ _ _ _ _ _ (@sr_add _) (@simE_op _ _ _ _ _ _ _ (@sr_add _) (@simE_op _ _ _ _ _ _ _ (@sr_mul _) (@simE_var _ 3) (@simE_var _ 3)) (@simE_op _ _ _ _ _ _ _ (@sr_mul _) (@simE_int _ 69621) (@simE_var _ 2))) (@simE_int _ 7)) (@simE_int _ 2147483587)) (@simG_name _ 3)) (@simS_asg _ _ _ _ _ _ (@simE_op _ _ _ _ _ _ _ (@sr_add _) (@simE_op _ _ _ _ _ _ _ (@sr_mul _) (@simE_var _ 1) (@simE_int _ 2147483587)) (@simE_var _ 3)) (@simG_name _ 1))))) (@simS_retO _ _ _ (@simO_lst _ _ _ (@simA_cons _ _ _ _ _ (@simE_var _ 1) (@simA_nil _))))))) rfl h
def S_l_take : MS := (seqS (asgS (op2E modD (peek 0 (op2E ixD (varE 0) (cE (.int 0)))) (varE 1)) (nameG 2))
      (seqS (setIxS 0 (cE (.int 0)) (op2E fdivD (peek 0 (op2E ixD (varE 0) (cE (.int 0)))) (varE 1)))
      (retS (varE 2))))
def F_l_take : FnB := runB 2 1 S_l_take
theorem ok_l_take (T : Txt K mg t) : FnOk P w K mg base CX0 1 t.f_l_take t.d_l_take ["_law_pot_here", "_law_far"] (SpB K F_l_take) := by
  refine T.F_l_take.ok sc_l_take (fun vs H Q E h => lenB h) (fun cdv A outer s H vs Q E hr h => ?_)
  refine ⟨_, (@pss_cons _ _ _ _ _ (@ps_set _ _ (2) _ _ _ _ sc_l_take.nd rfl (Or.inl rfl) (@pe_op _ _ _ _ _ _ _ _ (@op_modN _) (@pe_ix _ _ _ _ _ _ _ (@kIx _ (K) rfl) (@pv _ 0 _ _ (by rfl) (by first | exact Or.inl rfl | exact Or.inr (Or.inl rfl) | exact Or.inr (Or.inr rfl)) (by decide) (by decide)) (@pe_int _ _ _ _) (fun _ _ => (rfl))) (@pv _ 1 _ _ (by rfl) (by first | exact Or.inl rfl | exact Or.inr (Or.inl rfl) | exact Or.inr (Or.inr rfl)) (by decide) (by decide))) (by rfl) (by first | exact .inl rfl | exact .inr rfl | assumption)) (@pss_cons _ _ _ _ _ (@ps_asg _ _ _ _ _ _ (@pe_op _ _ _ _ _ _ _ _ (@op_fdivG _) (@pe_ix _ _ _ _ _ _ _ (@kIx _ (K) rfl) (@pv _ 0 _ _ (by rfl) (by first | exact Or.inl rfl | exact Or.inr (Or.inl rfl) | exact Or.inr (Or.inr rfl)) (by decide) (by decide)) (@pe_int _ _ _ _) (fun _ _ => (rfl))) (@pv _ 1 _ _ (by rfl) (by first | exact Or.inl rfl | exact Or.inr (Or.inl rfl) | exact Or.inr (Or.inr rfl)) (by decide) (by decide))) (@pg_sub _ _ _ _ _ _ _ (@pv _ 0 _ _ (by rfl) (by first | exact Or.inl rfl | exact Or.inr (Or.inl rfl) | exact Or.inr (Or.inr rfl)) (by decide) (by decide)) (@pe_int _ _ _ _) (@set_list _) (by intro _ ; rfl)) (by rfl) (by rfl) (by rfl)) (@pss_one _ _ _ (@ps_ret _ _ _ _ (@pv _ 2 _ _ (by rfl) (by first | exact Or.inl rfl | exact Or.inr (Or.inl rfl) | exact Or.inr (Or.inr rfl)) (by decide) (by decide)))))), ?_⟩
  exact fnB (np := 2) (nl := 1) (S := S_l_take) (K := K) (@simS_seq _ _ _ _ _ (@simS_asg _ _ _ _ _ _ (@simE_op _ _ _ _ _ _ _ (@sr_mod _) (@simE_peek _ (0) _ _ (@simE_op _ _ _ _ _ _ _ (@sr_ix _) (@simE_var _ 0) (@simE_int _ 0))) (@simE_var _ 1)) (@simG_name _ 2)) (@simS_seq _ _ _ _ _ (@simS_setIx _ _ _ (0) _ _ (@simE_int _ 0) (@simE_op _ _ _ _ _ _ _ (@sr_fdiv _) (@simE_peek _ (0) _ _ (@simE_op _ _ _ _ _ _ _ (@sr_ix _) (@simE_var _ 0) (@simE_int _ 0))) (@simE_var _ 1))) (@simS_ret _ _ _ (@simE_var _ 2)))) rfl h
def S_l_whole : MS := (retS (andE (op1E (fun d => some (.bool (isInt d))) (varE 0)) (notE (op1E (fun d => some (.bool (isBool d))) (varE 0)))))
def F_l_whole : Fn := runF 1 0 S_l_whole
theorem ok_l_whole (T : Txt K mg t) : FnOk P w K mg base CX0 1 t.f_l_whole t.d_l_whole ["_law_thing"] (SpF K F_l_whole) := by
  refine T.F_l_whole.ok sc_l_whole (fun vs H Q E h => lenF h) (fun cdv A outer s H vs Q E hr h => ?_)
  refine ⟨_, (@pss_one _ _ _ (@ps_ret _ _ _ _ (@pe_and _ _ _ _ _ _ _ (@pe_callB _ _ _ _ _ _ _ _ _ (@kIsi _ (K) rfl) (by rfl) T.z_isinstance (by decide +kernel) (@pa_k _ _ _ _ _ rfl (@pv _ 0 _ _ (by rfl) (by first | exact Or.inl rfl | exact Or.inr (Or.inl rfl) | exact Or.inr (Or.inr rfl)) (by decide) (by decide)) (@pa_k _ _ _ _ _ rfl (@pe_bltn _ _ (.ty "int") _ _ (by rfl) T.z_int (by decide +kernel) rfl (by decide) (by decide)) (@pa_nil _))) (by decide) (by decide) (by rfl) (by rfl)) (@pe_one _ _ _ _ _ (@pe_not _ _ _ _ (@pe_callB _ _ _ _ _ _ _ _ _ (@kIsi _ (K) rfl) (by rfl) T.z_isinstance (by decide +kernel) (@pa_k _ _ _ _ _ rfl (@pv _ 0 _ _ (by rfl) (by first | exact Or.inl rfl | exact Or.inr (Or.inl rfl) | exact Or.inr (Or.inr rfl)) (by decide) (by decide)) (@pa_k _ _ _ _ _ rfl (@pe_bltn _ _ (.ty "bool") _ _ (by rfl) T.z_bool (by decide +kernel) rfl (by decide) (by decide)) (@pa_nil _))) (by decide) (by decide) (by rfl) (by rfl))))))), ?_⟩
  exact fnF (np := 1) (nl := 0) (S := S_l_whole) (K := K) (@simS_ret _ _ _ (@simE_and _ _ _ _ _ (@simE_isi _ _ (isInt) (kit_int K) _ _ (@simE_var _ 0)) (@simE_not _ _ _ (@simE_isi _ _ (isBool) (kit_bool K) _ _ (@simE_var _ 0))))) rfl h
def A_l_soonest_1 : MA := (lcA (itA (varE 0)) (nameG 1) yesT (ifE (bT (op2E gtD (op2E ixD (varE 1) (cE (.int 2))) (cE (.int 0)))) (varE 1) (tupE (consA (cE (.int 0)) (consA (op2E addD (op2E ixD (varE 1) (cE (.int 1))) (cE (.int 1))) (consA (cE (.int 1)) nilA))))) [1])
def S_l_soonest : MS := (retS (cbE tupleD (consA (frzE A_l_soonest_1) nilA)))
def F_l_soonest : Fn := runF 1 1 S_l_soonest
theorem ok_l_soonest (T : Txt K mg t) : FnOk P w K mg base CX0 1 t.f_l_soonest t.d_l_soonest ["_law_book"] (SpF K F_l_soonest) := by
  refine T.F_l_soonest.ok sc_l_soonest (fun vs H Q E h => lenF h) (fun cdv A outer s H vs Q E hr h => ?_)
  refine ⟨_, (@pss_one _ _ _ (@ps_ret _ _ _ _ (@pe_callTy _ _ _ _ _ _ _ _ _ (@kTuple _ (K) rfl) (by rfl) T.z_tuple (by decide +kernel) (@pa_k _ _ _ _ _ rfl (@pe_lc _ _ _ _ _ _ [("_law_span", 1)] _ _ (gName 1) _ _ (by rfl) sc_l_soonest.nd (@pi_seqK _ (K) rfl _ _ _ (@pv _ 0 _ _ (by rfl) (by first | exact Or.inl rfl | exact Or.inr (Or.inl rfl) | exact Or.inr (Or.inr rfl)) (by decide) (by decide))) (blkOk_by (own := [("_law_span", 1)]) (N := N_l_soonest) (sc := defScope s_l_soonest) (by decide +kernel)) (fun _ _ _ _ _ => (@pg_name _ _ (1) _ sc_l_soonest.nd rfl (by first | exact Or.inl rfl | exact Or.inr rfl) (by first | exact .inl rfl | exact .inr rfl | assumption))) (fun _ _ _ _ _ => (@pts_nil _)) (fun _ _ _ _ _ => (@pe_ifExp _ _ _ _ _ _ _ _ (@pt_cmpR _ _ _ _ _ _ _ _ (@op_gt _) (@pe_ix _ _ _ _ _ _ _ (@kIx _ (K) rfl) (@pv _ 1 _ _ (by rfl) (by first | exact Or.inl rfl | exact Or.inr (Or.inl rfl) | exact Or.inr (Or.inr rfl)) (by decide) (by decide)) (@pe_int _ _ _ _) (fun _ _ => (rfl))) (@pe_int _ _ _ _) (nomark _)) (@pv _ 1 _ _ (by rfl) (by first | exact Or.inl rfl | exact Or.inr (Or.inl rfl) | exact Or.inr (Or.inr rfl)) (by decide) (by decide)) (@pe_tup _ _ _ _ _ (@pa_k _ _ _ _ _ rfl (@pe_int _ _ _ _) (@pa_k _ _ _ _ _ rfl (@pe_op _ _ _ _ _ _ _ _ (@kAdd _ (K) rfl) (@pe_ix _ _ _ _ _ _ _ (@kIx _ (K) rfl) (@pv _ 1 _ _ (by rfl) (by first | exact Or.inl rfl | exact Or.inr (Or.inl rfl) | exact Or.inr (Or.inr rfl)) (by decide) (by decide)) (@pe_int _ _ _ _) (fun _ _ => (rfl))) (@pe_int _ _ _ _)) (@pa_k _ _ _ _ _ rfl (@pe_int _ _ _ _) (@pa_nil _))))))) (by intro _ ; rfl)) (@pa_nil _)) (by decide) (by decide) (by rfl) (by rfl)))), ?_⟩
  exact fnF (np := 1) (nl := 1) (S := S_l_soonest) (K := K) (@simS_ret _ _ _ (@simE_cb _ _ _ _ _ (@sr_tuple _) (@simA_cons _ _ _ _ _ (@simE_of _ _ _ (@simO_lc _ _ _ _ _ _ _ _ _ _ [1] (@simI_seq _ _ _ (@simE_var _ 0)) (@simG_name _ 1) (by decide) (@simT_yes _) (@simE_if _ _ _ _ _ _ _ (@simT_test _ _ _ (@simE_op _ _ _ _ _ _ _ (@sr_gt _) (@simE_op _ _ _ _ _ _ _ (@sr_ix _) (@simE_var _ 1) (@simE_int _ 2)) (@simE_int _ 0))) (@simE_var _ 1) (@simE_tup _ _ _ (@simA_cons _ _ _ _ _ (@simE_int _ 0) (@simA_cons _ _ _ _ _ (@simE_op _ _ _ _ _ _ _ (@sr_add _) (@simE_op _ _ _ _ _ _ _ (@sr_ix _) (@simE_var _ 1) (@simE_int _ 1)) (@simE_int _ 1)) (@simA_cons _ _ _ _ _ (@simE_int _ 1) (@simA_nil _)))))))) (@simA_nil _)))) rfl h
def A_l_latest_1 : MA := (lcA (itA (varE 0)) (nameG 1) yesT (ifE (bT (op2E gtD (op2E ixD (varE 1) (cE (.int 2))) (cE (.int 0)))) (varE 1) (tupE (consA (cE (.int 0)) (consA (cE (.int 2000)) (consA (cE (.int 1)) nilA))))) [1])
def S_l_latest : MS := (retS (cbE tupleD (consA (frzE A_l_latest_1) nilA)))
def F_l_latest : Fn := runF 1 1 S_l_latest
theorem ok_l_latest (T : Txt K mg t) : FnOk P w K mg base CX0 1 t.f_l_latest t.d_l_latest ["_law_book"] (SpF K F_l_latest) := by
  refine T.F_l_latest.ok sc_l_latest (fun vs H Q E h => lenF h) (fun cdv A outer s H vs Q E hr h => ?_)
  refine ⟨_, (@pss_one _ _ _ (@ps_ret _ _ _ _ (@pe_callTy _ _ _ _ _ _ _ _ _ (@kTuple _ (K) rfl) (by rfl) T.z_tuple (by decide +kernel) (@pa_k _ _ _ _ _ rfl (@pe_lc _ _ _ _ _ _ [("_law_span", 1)] _ _ (gName 1) _ _ (by rfl) sc_l_latest.nd (@pi_seqK _ (K) rfl _ _ _ (@pv _ 0 _ _ (by rfl) (by first | exact Or.inl rfl | exact Or.inr (Or.inl rfl) | exact Or.inr (Or.inr rfl)) (by decide) (by decide))) (blkOk_by (own := [("_law_span", 1)]) (N := N_l_latest) (sc := defScope s_l_latest) (by decide +kernel)) (fun _ _ _ _ _ => (@pg_name _ _ (1) _ sc_l_latest.nd rfl (by first | exact Or.inl rfl | exact Or.inr rfl) (by first | exact .inl rfl | exact .inr rfl | assumption))) (fun _ _ _ _ _ => (@pts_nil _)) (fun _ _ _ _ _ => (@pe_ifExp _ _ _ _ _ _ _ _ (@pt_cmpR _ _ _ _ _ _ _ _ (@op_gt _) (@pe_ix _ _ _ _ _ _ _ (@kIx _ (K) rfl) (@pv _ 1 _ _ (by rfl) (by first | exact Or.inl rfl | exact Or.inr (Or.inl rfl) | exact Or.inr (Or.inr rfl)) (by decide) (by decide)) (@pe_int _ _ _ _) (fun _ _ => (rfl))) (@pe_int _ _ _ _) (nomark _)) (@pv _ 1 _ _ (by rfl) (by first | exact Or.inl rfl | exact Or.inr (Or.inl rfl) | exact Or.inr (Or.inr rfl)) (by decide) (by decide)) (@pe_tup _ _ _ _ _ (@pa_k _ _ _ _ _ rfl (@pe_int _ _ _ _) (@pa_k _ _ _ _ _ rfl (@pe_int _ _ _ _) (@pa_k _ _ _ _ _ rfl (@pe_int _ _ _ _) (@pa_nil _))))))) (by intro _ ; rfl)) (@pa_nil _)) (by decide) (by decide) (by rfl) (by rfl)))), ?_⟩
  exact fnF (np := 1) (nl := 1) (S := S_l_latest) (K := K) (@simS_ret _ _ _ (@simE_cb _ _ _ _ _ (@sr_tuple _) (@simA_cons _ _ _ _ _ (@simE_of _ _ _ (@simO_lc _ _ _ _ _ _ _ _ _ _ [1] (@simI_seq _ _ _ (@simE_var _ 0)) (@simG_name _ 1) (by decide) (@simT_yes _) (@simE_if _ _ _ _ _ _ _ (@simT_test _ _ _ (@simE_op _ _ _ _ _ _ _ (@sr_gt _) (@simE_op _ _ _ _ _ _ _ (@sr_ix _) (@simE_var _ 1) (@simE_int _ 2)) (@simE_int _ 0))) (@simE_var _ 1) (@simE_tup _ _ _ (@simA_cons _ _ _ _ _ (@simE_int _ 0) (@simA_cons _ _ _ _ _ (@simE_int _ 2000) (@simA_cons _ _ _ _ _ (@simE_int _ 1) (@simA_nil _)))))))) (@simA_nil _)))) rfl h
def S_p_is_span : MS := (seqS (ifS (orT (notT (bT (op1E (fun d => some (.bool (isTup d))) (varE 0)))) (bT (op2E neD (cbE lenD (consA (varE 0) nilA)) (cE (.int 3))))) (retS (cE (.bool false))) nextS)
      (seqS (asgS (varE 0) (tupG 3 (consG (nameG 1) (consG (nameG 2) (consG (nameG 3) nilG)))))
      (seqS (ifS (notT (andT (bT (cbE F_p_is_whole (consA (varE 1) nilA))) (andT (bT (cbE F_p_is_whole (consA (varE 2) nilA))) (bT (cbE F_p_is_whole (consA (varE 3) nilA)))))) (retS (cE (.bool false))) nextS)
      (retS (andE (ch3E leD ltD leD (cE (.int 0)) (varE 1) (varE 2) (cE (.int 999))) (orE (op2E eqD (varE 3) (cE (.int 0))) (op2E (inD false) (varE 3) (cE cD_KINDS))))))))
def F_p_is_span : Fn := runF 1 3 S_p_is_span
theorem ok_p_is_span (T : Txt K mg t) : FnOk P w K mg base CX0 2 t.f_p_is_span t.d_p_is_span ["thing"] (SpF K F_p_is_span) := by
  refine T.F_p_is_span.ok sc_p_is_span (fun vs H Q E h => lenF h) (fun cdv A outer s H vs Q E hr h => ?_)
  refine ⟨_, (@pss_cons _ _ _ _ _ (@ps_if _ _ _ _ _ _ _ _ (PW.pt (@pw_or _ _ _ _ _ _ _ (@pt_not _ _ _ _ (@pt_val _ _ _ (@pe_callB _ _ _ _ _ _ _ _ _ (@kIsi _ (K) rfl) (by rfl) T.z_isinstance (by decide +kernel) (@pa_k _ _ _ _ _ rfl (@pv _ 0 _ _ (by rfl) (by first | exact Or.inl rfl | exact Or.inr (Or.inl rfl) | exact Or.inr (Or.inr rfl)) (by decide) (by decide)) (@pa_k _ _ _ _ _ rfl (@pe_bltn _ _ (.ty "tuple") _ _ (by rfl) T.z_tuple (by decide +kernel) rfl (by decide) (by decide)) (@pa_nil _))) (by decide) (by decide) (by rfl) (by rfl)) (by intro _ ; rfl))) (@pw_or1 _ _ _ _ (@pt_cmpR _ _ _ _ _ _ _ _ (@kNe _ (K) rfl _ hr) (@pe_callB _ _ _ _ _ _ _ _ _ (@kLen _ (K) rfl) (by rfl) T.z_len (by decide +kernel) (@pa_k _ _ _ _ _ rfl (@pv _ 0 _ _ (by rfl) (by first | exact Or.inl rfl | exact Or.inr (Or.inl rfl) | exact Or.inr (Or.inr rfl)) (by decide) (by decide)) (@pa_nil _)) (by decide) (by decide) (by rfl) (by rfl)) (@pe_int _ _ _ _) (nomark _))))) (@pss_one _ _ _ (@ps_ret _ _ _ _ (@pe_bl _ _ _ _))) (@pss_nil _)) (@pss_cons _ _ _ _ _ (@ps_asg _ _ _ _ _ _ (@pv _ 0 _ _ (by rfl) (by first | exact Or.inl rfl | exact Or.inr (Or.inl rfl) | exact Or.inr (Or.inr rfl)) (by decide) (by decide)) (@kPgTup _ (K) _ _ _ _ _ rfl (@pg_tup _ _ _ _ _ _ (by rfl) (@pgs_cons _ _ _ _ _ (@pg_name _ _ (1) _ sc_p_is_span.nd rfl (by first | exact Or.inl rfl | exact Or.inr rfl) (by first | exact .inl rfl | exact .inr rfl | assumption)) (@pgs_cons _ _ _ _ _ (@pg_name _ _ (2) _ sc_p_is_span.nd rfl (by first | exact Or.inl rfl | exact Or.inr rfl) (by first | exact .inl rfl | exact .inr rfl | assumption)) (@pgs_cons _ _ _ _ _ (@pg_name _ _ (3) _ sc_p_is_span.nd rfl (by first | exact Or.inl rfl | exact Or.inr rfl) (by first | exact .inl rfl | exact .inr rfl | assumption)) (@pgs_nil _) (by rfl)) (by rfl)) (by rfl)) (by rfl) (by rfl))) (by rfl) (by rfl) (by rfl)) (@pss_cons _ _ _ _ _ (@ps_if _ _ _ _ _ _ _ _ (@pt_not _ _ _ _ (PW.pt (@pw_and _ _ _ _ _ _ _ (@pt_val _ _ _ (@pe_call _ _ _ _ _ _ _ _ _ _ _ _ _ _ _ _ (ok_p_is_whole T) (hr.mono (by omega)) (by rfl) T.m_p_is_whole T.F_p_is_whole.kp T.b_p_is_whole .nil pass0 (@pa_k _ _ _ _ _ rfl (@pv _ 1 _ _ (by rfl) (by first | exact Or.inl rfl | exact Or.inr (Or.inl rfl) | exact Or.inr (Or.inr rfl)) (by decide) (by decide)) (@pa_nil _)) (by decide) (by rfl) (by rfl)) (by intro _ ; rfl)) (@pw_and _ _ _ _ _ _ _ (@pt_val _ _ _ (@pe_call _ _ _ _ _ _ _ _ _ _ _ _ _ _ _ _ (ok_p_is_whole T) (hr.mono (by omega)) (by rfl) T.m_p_is_whole T.F_p_is_whole.kp T.b_p_is_whole .nil pass0 (@pa_k _ _ _ _ _ rfl (@pv _ 2 _ _ (by rfl) (by first | exact Or.inl rfl | exact Or.inr (Or.inl rfl) | exact Or.inr (Or.inr rfl)) (by decide) (by decide)) (@pa_nil _)) (by decide) (by rfl) (by rfl)) (by intro _ ; rfl)) (@pw_and1 _ _ _ _ (@pt_val _ _ _ (@pe_call _ _ _ _ _ _ _ _ _ _ _ _ _ _ _ _ (ok_p_is_whole T) (hr.mono (by omega)) (by rfl) T.m_p_is_whole T.F_p_is_whole.kp T.b_p_is_whole .nil pass0 (@pa_k _ _ _ _ _ rfl (@pv _ 3 _ _ (by rfl) (by first | exact Or.inl rfl | exact Or.inr (Or.inl rfl) | exact Or.inr (Or.inr rfl)) (by decide) (by decide)) (@pa_nil _)) (by decide) (by rfl) (by rfl)) (by intro _ ; rfl))))))) (@pss_one _ _ _ (@ps_ret _ _ _ _ (@pe_bl _ _ _ _))) (@pss_nil _)) (@pss_one _ _ _ (@ps_ret _ _ _ _ (@pe_and _ _ _ _ _ _ _ (@pe_chain3 _ _ _ _ _ _ _ _ _ _ _ _ _ _ _ _ (@op_le _) (@op_lt _) (@op_le _) (@pe_int _ _ _ _) (@pv _ 1 _ _ (by rfl) (by first | exact Or.inl rfl | exact Or.inr (Or.inl rfl) | exact Or.inr (Or.inr rfl)) (by decide) (by decide)) (@pv _ 2 _ _ (by rfl) (by first | exact Or.inl rfl | exact Or.inr (Or.inl rfl) | exact Or.inr (Or.inr rfl)) (by decide) (by decide)) (T.pc_LAST_UNTIL (by rfl)) (by with_unfolding_all rfl)) (@pe_one _ _ _ _ _ (@pe_or _ _ _ _ _ _ _ (@pe_cmpR _ _ _ _ _ _ _ _ (@kEq _ (K) rfl _ hr) (@pv _ 3 _ _ (by rfl) (by first | exact Or.inl rfl | exact Or.inr (Or.inl rfl) | exact Or.inr (Or.inr rfl)) (by decide) (by decide)) (T.pc_CUT_OFF (by rfl)) (nomark _)) (@pe_one _ _ _ _ _ (@pe_cmpR _ _ _ _ _ _ _ _ (@kIn _ (K) rfl) (@pv _ 3 _ _ (by rfl) (by first | exact Or.inl rfl | exact Or.inr (Or.inl rfl) | exact Or.inr (Or.inr rfl)) (by decide) (by decide)) (T.pc_KINDS (by rfl)) (by with_unfolding_all rfl))))))))))), ?_⟩
  exact fnF (np := 1) (nl := 3) (S := S_p_is_span) (K := K) (@simS_seq _ _ _ _ _ (@simS_if _ _ _ _ _ _ _ (@simT_or _ _ _ _ _ (@simT_not _ _ _ (@simT_b _ _ _ (@simE_isi _ _ (isTup) (kit_tuple K) _ _ (@simE_var _ 0)))) (@simT_test _ _ _ (@simE_op _ _ _ _ _ _ _ (@sr_ne _) (@simE_cb _ _ _ _ _ (@sr_len _) (@simA_cons _ _ _ _ _ (@simE_var _ 0) (@simA_nil _))) (@simE_int _ 3)))) (@simS_ret _ _ _ (@simE_bl _ false)) (@simS_next _)) (@simS_seq _ _ _ _ _ (@simS_asg _ _ _ _ _ _ (@simE_var _ 0) (@simG_tup _ (3) _ _ _ (@simGs_cons _ _ _ _ _ _ _ (@simG_name _ 1) (@simGs_cons _ _ _ _ _ _ _ (@simG_name _ 2) (@simGs_cons _ _ _ _ _ _ _ (@simG_name _ 3) (@simGs_nil _)))))) (@simS_seq _ _ _ _ _ (@simS_if _ _ _ _ _ _ _ (@simT_not _ _ _ (@simT_and _ _ _ _ _ (@simT_b _ _ _ (@simE_call _ _ _ _ _ (@simA_cons _ _ _ _ _ (@simE_var _ 1) (@simA_nil _)))) (@simT_and _ _ _ _ _ (@simT_b _ _ _ (@simE_call _ _ _ _ _ (@simA_cons _ _ _ _ _ (@simE_var _ 2) (@simA_nil _)))) (@simT_b _ _ _ (@simE_call _ _ _ _ _ (@simA_cons _ _ _ _ _ (@simE_var _ 3) (@simA_nil _))))))) (@simS_ret _ _ _ (@simE_bl _ false)) (@simS_next _)) (@simS_ret _ _ _ (@simE_and _ _ _ _ _ (@simE_ch3 _ _ _ _ _ _ _ _ _ _ _ _ _ _ _ (@sr_le _) (@sr_lt _) (@sr_le _) (@simE_int _ 0) (@simE_var _ 1) (@simE_var _ 2) (@simE_int _ 999)) (@simE_or _ _ _ _ _ (@simE_op _ _ _ _ _ _ _ (@sr_eq _) (@simE_var _ 3) (@simE_int _ 0)) (@simE_op _ _ _ _ _ _ _ (@sr_in _ false) (@simE_var _ 3) (T.sc_KINDS)))))))) rfl h
def S_p_is_kind : MS := (retS (andE (cbE F_p_is_whole (consA (varE 0) nilA)) (op2E (inD false) (varE 0) (cE cD_KINDS))))
def F_p_is_kind : Fn := runF 1 0 S_p_is_kind
theorem ok_p_is_kind (T : Txt K mg t) : FnOk P w K mg base CX0 2 t.f_p_is_kind t.d_p_is_kind ["thing"] (SpF K F_p_is_kind) := by
  refine T.F_p_is_kind.ok sc_p_is_kind (fun vs H Q E h => lenF h) (fun cdv A outer s H vs Q E hr h => ?_)
  refine ⟨_, (@pss_one _ _ _ (@ps_ret _ _ _ _ (@pe_and _ _ _ _ _ _ _ (@pe_call _ _ _ _ _ _ _ _ _ _ _ _ _ _ _ _ (ok_p_is_whole T) (hr.mono (by omega)) (by rfl) T.m_p_is_whole T.F_p_is_whole.kp T.b_p_is_whole .nil pass0 (@pa_k _ _ _ _ _ rfl (@pv _ 0 _ _ (by rfl) (by first | exact Or.inl rfl | exact Or.inr (Or.inl rfl) | exact Or.inr (Or.inr rfl)) (by decide) (by decide)) (@pa_nil _)) (by decide) (by rfl) (by rfl)) (@pe_one _ _ _ _ _ (@pe_cmpR _ _ _ _ _ _ _ _ (@kIn _ (K) rfl) (@pv _ 0 _ _ (by rfl) (by first | exact Or.inl rfl | exact Or.inr (Or.inl rfl) | exact Or.inr (Or.inr rfl)) (by decide) (by decide)) (T.pc_KINDS (by rfl)) (by with_unfolding_all rfl)))))), ?_⟩
  exact fnF (np := 1) (nl := 0) (S := S_p_is_kind) (K := K) (@simS_ret _ _ _ (@simE_and _ _ _ _ _ (@simE_call _ _ _ _ _ (@simA_cons _ _ _ _ _ (@simE_var _ 0) (@simA_nil _))) (@simE_op _ _ _ _ _ _ _ (@sr_in _ false) (@simE_var _ 0) (T.sc_KINDS)))) rfl h
def S_l_odd : MS := (seqS (asgS (frzE (lstA (consA (cE .none) (consA (cE (.bool true)) (consA (cE (.bool false)) (consA (op1E negD (cE (.int 1))) (consA (op2E powD (cE (.int 10)) (cE (.int 11))) (consA (cE (.str "")) (consA (cE (.str "a")) (consA (cE (.str "1")) (consA (tupE nilA) (consA (frzE (lstA nilA)) (consA (cE (.dict [])) (consA (tupE (consA (cE (.int 0)) (consA (cE (.int 1)) nilA))) (consA (tupE (consA (tupE (consA (cE (.int 0)) (consA (cE (.int 1)) (consA (cE (.int 1)) nilA)))) nilA)) (consA (tupE (consA (cE (.int 1)) (consA (cE (.int 2)) nilA))) (consA (frzE (lstA (consA (cE (.int 0)) nilA))) (consA (cE (.dict [(.int 0, .int 1)])) nilA)))))))))))))))))) (nameG 1))
      (retS (op2E ixD (varE 1) (cbB F_l_take 0 (consA (cE (.int 16)) nilA)))))
def F_l_odd : FnB := runB 1 1 S_l_odd
theorem ok_l_odd (T : Txt K mg t) : FnOk P w K mg base CX0 2 t.f_l_odd t.d_l_odd ["_law_pot_here"] (SpB K F_l_odd) := by
  refine T.F_l_odd.ok sc_l_odd (fun vs H Q E h => lenB h) (fun cdv A outer s H vs Q E hr h => ?_)
  refine ⟨_, (@pss_cons _ _ _ _ _ (@ps_set _ _ (1) _ _ _ _ sc_l_odd.nd rfl (Or.inl rfl) (@pe_lst _ _ _ _ (@pa_k _ _ _ _ _ rfl (@pe_non _ _ _) (@pa_k _ _ _ _ _ rfl (@pe_bl _ _ _ _) (@pa_k _ _ _ _ _ rfl (@pe_bl _ _ _ _) (@pa_k _ _ _ _ _ rfl (@pe_un _ _ _ _ _ _ (@un_neg _) (@pe_int _ _ _ _)) (@pa_k _ _ _ _ _ rfl (@pe_op _ _ _ _ _ _ _ _ (@op_pow _) (@pe_int _ _ _ _) (@pe_int _ _ _ _)) (@pa_k _ _ _ _ _ rfl (@pe_str _ _ _ _) (@pa_k _ _ _ _ _ rfl (@pe_str _ _ _ _) (@pa_k _ _ _ _ _ rfl (@pe_str _ _ _ _) (@pa_k _ _ _ _ _ rfl (@pe_tup _ _ _ _ _ (@pa_nil _)) (@pa_k _ _ _ _ _ rfl (@pe_lst _ _ _ _ (@pa_nil _)) (@pa_k _ _ _ _ _ rfl (@pe_odd0 _ _) (@pa_k _ _ _ _ _ rfl (@pe_tup _ _ _ _ _ (@pa_k _ _ _ _ _ rfl (@pe_int _ _ _ _) (@pa_k _ _ _ _ _ rfl (@pe_int _ _ _ _) (@pa_nil _)))) (@pa_k _ _ _ _ _ rfl (@pe_tup _ _ _ _ _ (@pa_k _ _ _ _ _ rfl (@pe_tup _ _ _ _ _ (@pa_k _ _ _ _ _ rfl (@pe_int _ _ _ _) (@pa_k _ _ _ _ _ rfl (@pe_int _ _ _ _) (@pa_k _ _ _ _ _ rfl (@pe_int _ _ _ _) (@pa_nil _))))) (@pa_nil _))) (@pa_k _ _ _ _ _ rfl (@pe_tup _ _ _ _ _ (@pa_k _ _ _ _ _ rfl (@pe_int _ _ _ _) (@pa_k _ _ _ _ _ rfl (@pe_int _ _ _ _) (@pa_nil _)))) (@pa_k _ _ _ _ _ rfl (@pe_lst _ _ _ _ (@pa_k _ _ _ _ _ rfl (@pe_int _ _ _ _) (@pa_nil _))) (@pa_k _ _ _ _ _ rfl (@pe_odd1 _ _ _ _ _ _) (@pa_nil _)))))))))))))))))) (by rfl) (by first | exact .inl rfl | exact .inr rfl | assumption)) (@pss_one _ _ _ (@ps_ret _ _ _ _ (@pe_ix _ _ _ _ _ _ _ (@kIx _ (K) rfl) (@pv _ 1 _ _ (by rfl) (by first | exact Or.inl rfl | exact Or.inr (Or.inl rfl) | exact Or.inr (Or.inr rfl)) (by decide) (by decide)) (@pe_call _ _ _ _ _ _ _ _ _ _ _ _ _ _ _ _ (ok_l_take T) (hr.mono (by omega)) (by rfl) T.m_l_take T.F_l_take.kp T.b_l_take .nil pass0 (@pa_k _ _ _ _ _ rfl (@pv _ 0 _ _ (by rfl) (by first | exact Or.inl rfl | exact Or.inr (Or.inl rfl) | exact Or.inr (Or.inr rfl)) (by decide) (by decide)) (@pa_k _ _ _ _ _ rfl (@pe_int _ _ _ _) (@pa_nil _))) (by decide) (by rfl) (by rfl)) (fun _ _ => (rfl)))))), ?_⟩
  exact fnB (np := 1) (nl := 1) (S := S_l_odd) (K := K) (@simS_seq _ _ _ _ _ (@simS_asg _ _ _ _ _ _ (@simE_of _ _ _ (@simO_lst _ _ _ (@simA_cons _ _ _ _ _ (@simE_non _) (@simA_cons _ _ _ _ _ (@simE_bl _ true) (@simA_cons _ _ _ _ _ (@simE_bl _ false) (@simA_cons _ _ _ _ _ (@simE_un _ _ _ _ _ (@sr_neg _) (@simE_int _ 1)) (@simA_cons _ _ _ _ _ (@simE_op _ _ _ _ _ _ _ (@sr_pow _) (@simE_int _ 10) (@simE_int _ 11)) (@simA_cons _ _ _ _ _ (@simE_str _ "") (@simA_cons _ _ _ _ _ (@simE_str _ "a") (@simA_cons _ _ _ _ _ (@simE_str _ "1") (@simA_cons _ _ _ _ _ (@simE_tup _ _ _ (@simA_nil _)) (@simA_cons _ _ _ _ _ (@simE_of _ _ _ (@simO_lst _ _ _ (@simA_nil _))) (@simA_cons _ _ _ _ _ (@simE_odd0 _) (@simA_cons _ _ _ _ _ (@simE_tup _ _ _ (@simA_cons _ _ _ _ _ (@simE_int _ 0) (@simA_cons _ _ _ _ _ (@simE_int _ 1) (@simA_nil _)))) (@simA_cons _ _ _ _ _ (@simE_tup _ _ _ (@simA_cons _ _ _ _ _ (@simE_tup _ _ _ (@simA_cons _ _ _ _ _ (@simE_int _ 0) (@simA_cons _ _ _ _ _ (@simE_int _ 1) (@simA_cons _ _ _ _ _ (@simE_int _ 1) (@simA_nil _))))) (@simA_nil _))) (@simA_cons _ _ _ _ _ (@simE_tup _ _ _ (@simA_cons _ _ _ _ _ (@simE_int _ 1) (@simA_cons _ _ _ _ _ (@simE_int _ 2) (@simA_nil _)))) (@simA_cons _ _ _ _ _ (@simE_of _ _ _ (@simO_lst _ _ _ (@simA_cons _ _ _ _ _ (@simE_int _ 0) (@simA_nil _)))) (@simA_cons _ _ _ _ _ (@simE_odd1 _) (@simA_nil _))))))))))))))))))) (@simG_name _ 1)) (@simS_ret _ _ _ (@simE_op _ _ _ _ _ _ _ (@sr_ix _) (@simE_var _ 1) (@simE_callB _ _ (0) _ _ _ (@simA_cons _ _ _ _ _ (@simE_int _ 16) (@simA_nil _)))))) rfl h
def B_l_plain_1 : MS := (seqS (asgS (op2E ixD (frzE (lstA (consA (op2E addD (cE (.int 1)) (cbB F_l_take 0 (consA (varE 2) nilA))) (consA (op2E addD (cE (.int 1)) (cbB F_l_take 0 (consA (cE (.int 3)) nilA))) (consA (cE (.int 999)) nilA))))) (cbE min2D (consA (cE (.int 2)) (consA (op2E fdivD (cbB F_l_take 0 (consA (cE (.int 9)) nilA)) (cE (.int 4))) nilA)))) (nameG 5))
      (exprS (appE 3 (tupE (consA (cE (.int 0)) (consA (varE 5) (consA (op2E ixD (frzE (lstA (consA (cE (.int 0)) (consA (op2E addD (cE (.int 1)) (cbB F_l_take 0 (consA (cE (.int 4)) nilA))) nilA)))) (cbE int1D (consA (op2E gtD (cbB F_l_take 0 (consA (cE (.int 3)) nilA)) (cE (.int 0))) nilA))) nilA)))))))
def S_l_plain : MS := (seqS (setOS 3 (lstA nilA))
      (seqS (forS (rng1A (consA (op2E addD (cE (.int 1)) (cbB F_l_take 0 (consA (varE 1) nilA))) nilA)) (nameG 4) B_l_plain_1 [4, 5])
      (frzS 3 (retS (cbE tupleD (consA (varE 3) nilA))))))
def F_l_plain : FnB := runB 3 3 S_l_plain
theorem ok_l_plain (T : Txt K mg t) : FnOk P w K mg base CX0 2 t.f_l_plain t.d_l_plain ["_law_pot_here", "_law_most", "_law_far"] (SpB K F_l_plain) := by
  refine T.F_l_plain.ok sc_l_plain (fun vs H Q E h => lenB h) (fun cdv A outer s H vs Q E hr h => ?_)
  refine ⟨_, (@pss_cons _ _ _ _ _ (@ps_set _ _ (3) _ _ _ _ sc_l_plain.nd rfl (Or.inl rfl) (@pe_lst _ _ _ _ (@pa_nil _)) (by rfl) (by first | exact .inl rfl | exact .inr rfl | assumption)) (@pss_cons _ _ _ _ _ (@ps_for _ _ _ _ _ _ _ _ PassesOwn.never rfl (@pi_range1 _ _ _ _ _ _ (by rfl) T.z_range (@pa_k _ _ _ _ _ rfl (@pe_op _ _ _ _ _ _ _ _ (@kAdd _ (K) rfl) (@pe_int _ _ _ _) (@pe_call _ _ _ _ _ _ _ _ _ _ _ _ _ _ _ _ (ok_l_take T) (hr.mono (by omega)) (by rfl) T.m_l_take T.F_l_take.kp T.b_l_take .nil pass0 (@pa_k _ _ _ _ _ rfl (@pv _ 0 _ _ (by rfl) (by first | exact Or.inl rfl | exact Or.inr (Or.inl rfl) | exact Or.inr (Or.inr rfl)) (by decide) (by decide)) (@pa_k _ _ _ _ _ rfl (@pv _ 1 _ _ (by rfl) (by first | exact Or.inl rfl | exact Or.inr (Or.inl rfl) | exact Or.inr (Or.inr rfl)) (by decide) (by decide)) (@pa_nil _))) (by decide) (by rfl) (by rfl))) (@pa_nil _)) (by rfl)) (@pg_name _ _ (4) _ sc_l_plain.nd rfl (by first | exact Or.inl rfl | exact Or.inr rfl) (by first | exact .inl rfl | exact .inr rfl | assumption)) (@pss_cons _ _ _ _ _ (@ps_set _ _ (5) _ _ _ _ sc_l_plain.nd rfl (Or.inl rfl) (@pe_ix _ _ _ _ _ _ _ (@kIx _ (K) rfl) (@pe_lst _ _ _ _ (@pa_k _ _ _ _ _ rfl (@pe_op _ _ _ _ _ _ _ _ (@kAdd _ (K) rfl) (@pe_int _ _ _ _) (@pe_call _ _ _ _ _ _ _ _ _ _ _ _ _ _ _ _ (ok_l_take T) (hr.mono (by omega)) (by rfl) T.m_l_take T.F_l_take.kp T.b_l_take .nil pass0 (@pa_k _ _ _ _ _ rfl (@pv _ 0 _ _ (by rfl) (by first | exact Or.inl rfl | exact Or.inr (Or.inl rfl) | exact Or.inr (Or.inr rfl)) (by decide) (by decide)) (@pa_k _ _ _ _ _ rfl (@pv _ 2 _ _ (by rfl) (by first | exact Or.inl rfl | exact Or.inr (Or.inl rfl) | exact Or.inr (Or.inr rfl)) (by decide) (by decide)) (@pa_nil _))) (by decide) (by rfl) (by rfl))) (@pa_k _ _ _ _ _ rfl (@pe_op _ _ _ _ _ _ _ _ (@kAdd _ (K) rfl) (@pe_int _ _ _ _) (@pe_call _ _ _ _ _ _ _ _ _ _ _ _ _ _ _ _ (ok_l_take T) (hr.mono (by omega)) (by rfl) T.m_l_take T.F_l_take.kp T.b_l_take .nil pass0 (@pa_k _ _ _ _ _ rfl (@pv _ 0 _ _ (by rfl) (by first | exact Or.inl rfl | exact Or.inr (Or.inl rfl) | exact Or.inr (Or.inr rfl)) (by decide) (by decide)) (@pa_k _ _ _ _ _ rfl (@pe_int _ _ _ _) (@pa_nil _))) (by decide) (by rfl) (by rfl))) (@pa_k _ _ _ _ _ rfl (@pe_int _ _ _ _) (@pa_nil _))))) (@pe_callB _ _ _ _ _ _ _ _ _ (@call_min2 _ rfl) (by rfl) T.z_min (by decide +kernel) (@pa_k _ _ _ _ _ rfl (@pe_int _ _ _ _) (@pa_k _ _ _ _ _ rfl (@pe_op _ _ _ _ _ _ _ _ (@op_fdivG _) (@pe_call _ _ _ _ _ _ _ _ _ _ _ _ _ _ _ _ (ok_l_take T) (hr.mono (by omega)) (by rfl) T.m_l_take T.F_l_take.kp T.b_l_take .nil pass0 (@pa_k _ _ _ _ _ rfl (@pv _ 0 _ _ (by rfl) (by first | exact Or.inl rfl | exact Or.inr (Or.inl rfl) | exact Or.inr (Or.inr rfl)) (by decide) (by decide)) (@pa_k _ _ _ _ _ rfl (@pe_int _ _ _ _) (@pa_nil _))) (by decide) (by rfl) (by rfl)) (@pe_int _ _ _ _)) (@pa_nil _))) (by decide) (by decide) (by rfl) (by rfl)) (fun _ _ => (rfl))) (by rfl) (by first | exact .inl rfl | exact .inr rfl | assumption)) (@pss_one _ _ _ (@ps_expr _ _ _ _ (@kBM _ (K) rfl _ _ _ _ _ (@pe_bm _ _ _ _ _ _ _ _ _ _ _ _ PySem.F.plainAttrs_list PySem.F.slot_list_append PySem.F.type_list_append (@mt_append _) (@pv _ 3 _ _ (by rfl) (by first | exact Or.inl rfl | exact Or.inr (Or.inl rfl) | exact Or.inr (Or.inr rfl)) (by decide) (by decide)) (@pa_k _ _ _ _ _ rfl (@pe_tup _ _ _ _ _ (@pa_k _ _ _ _ _ rfl (@pe_int _ _ _ _) (@pa_k _ _ _ _ _ rfl (@pv _ 5 _ _ (by rfl) (by first | exact Or.inl rfl | exact Or.inr (Or.inl rfl) | exact Or.inr (Or.inr rfl)) (by decide) (by decide)) (@pa_k _ _ _ _ _ rfl (@pe_ix _ _ _ _ _ _ _ (@kIx _ (K) rfl) (@pe_lst _ _ _ _ (@pa_k _ _ _ _ _ rfl (@pe_int _ _ _ _) (@pa_k _ _ _ _ _ rfl (@pe_op _ _ _ _ _ _ _ _ (@kAdd _ (K) rfl) (@pe_int _ _ _ _) (@pe_call _ _ _ _ _ _ _ _ _ _ _ _ _ _ _ _ (ok_l_take T) (hr.mono (by omega)) (by rfl) T.m_l_take T.F_l_take.kp T.b_l_take .nil pass0 (@pa_k _ _ _ _ _ rfl (@pv _ 0 _ _ (by rfl) (by first | exact Or.inl rfl | exact Or.inr (Or.inl rfl) | exact Or.inr (Or.inr rfl)) (by decide) (by decide)) (@pa_k _ _ _ _ _ rfl (@pe_int _ _ _ _) (@pa_nil _))) (by decide) (by rfl) (by rfl))) (@pa_nil _)))) (@pe_callTy _ _ _ _ _ _ _ _ _ (@call_int1 _) (by rfl) T.z_int (by decide +kernel) (@pa_k _ _ _ _ _ rfl (@pe_cmpR _ _ _ _ _ _ _ _ (@op_gt _) (@pe_call _ _ _ _ _ _ _ _ _ _ _ _ _ _ _ _ (ok_l_take T) (hr.mono (by omega)) (by rfl) T.m_l_take T.F_l_take.kp T.b_l_take .nil pass0 (@pa_k _ _ _ _ _ rfl (@pv _ 0 _ _ (by rfl) (by first | exact Or.inl rfl | exact Or.inr (Or.inl rfl) | exact Or.inr (Or.inr rfl)) (by decide) (by decide)) (@pa_k _ _ _ _ _ rfl (@pe_int _ _ _ _) (@pa_nil _))) (by decide) (by rfl) (by rfl)) (@pe_int _ _ _ _) (nomark _)) (@pa_nil _)) (by decide) (by decide) (by rfl) (by rfl)) (fun _ _ => (rfl))) (@pa_nil _))))) (@pa_nil _)) (by rfl) (by rfl) (by rfl) (by rfl) (by rfl))) (by rfl)))) (by intro _ ; rfl)) (@pss_one _ _ _ (@ps_ret _ _ _ _ (@pe_callTy _ _ _ _ _ _ _ _ _ (@kTuple _ (K) rfl) (by rfl) T.z_tuple (by decide +kernel) (@pa_k _ _ _ _ _ rfl (@pv _ 3 _ _ (by rfl) (by first | exact Or.inl rfl | exact Or.inr (Or.inl rfl) | exact Or.inr (Or.inr rfl)) (by decide) (by decide)) (@pa_nil _)) (by decide) (by decide) (by rfl) (by rfl)))))), ?_⟩
  exact fnB (np := 3) (nl := 3) (S := S_l_plain) (K := K) (@simS_seq _ _ _ _ _ (@simS_setO _ _ (3) _ (@simO_lst _ _ _ (@simA_nil _))) (@simS_seq _ _ _ _ _ (@simS_for _ _ _ _ _ _ _ _ [4, 5] (@simI_rng1 _ _ _ (@simA_cons _ _ _ _ _ (@simE_op _ _ _ _ _ _ _ (@sr_add _) (@simE_int _ 1) (@simE_callB _ _ (0) _ _ _ (@simA_cons _ _ _ _ _ (@simE_var _ 1) (@simA_nil _)))) (@simA_nil _))) (@simG_name _ 4) (@simS_seq _ _ _ _ _ (@simS_asg _ _ _ _ _ _ (@simE_op _ _ _ _ _ _ _ (@sr_ix _) (@simE_of _ _ _ (@simO_lst _ _ _ (@simA_cons _ _ _ _ _ (@simE_op _ _ _ _ _ _ _ (@sr_add _) (@simE_int _ 1) (@simE_callB _ _ (0) _ _ _ (@simA_cons _ _ _ _ _ (@simE_var _ 2) (@simA_nil _)))) (@simA_cons _ _ _ _ _ (@simE_op _ _ _ _ _ _ _ (@sr_add _) (@simE_int _ 1) (@simE_callB _ _ (0) _ _ _ (@simA_cons _ _ _ _ _ (@simE_int _ 3) (@simA_nil _)))) (@simA_cons _ _ _ _ _ (@simE_int _ 999) (@simA_nil _)))))) (@simE_cb _ _ _ _ _ (@sr_min2 _) (@simA_cons _ _ _ _ _ (@simE_int _ 2) (@simA_cons _ _ _ _ _ (@simE_op _ _ _ _ _ _ _ (@sr_fdiv _) (@simE_callB _ _ (0) _ _ _ (@simA_cons _ _ _ _ _ (@simE_int _ 9) (@simA_nil _))) (@simE_int _ 4)) (@simA_nil _))))) (@simG_name _ 5)) (@simS_expr _ _ _ (@simE_append _ (3) _ _ (@simE_tup _ _ _ (@simA_cons _ _ _ _ _ (@simE_int _ 0) (@simA_cons _ _ _ _ _ (@simE_var _ 5) (@simA_cons _ _ _ _ _ (@simE_op _ _ _ _ _ _ _ (@sr_ix _) (@simE_of _ _ _ (@simO_lst _ _ _ (@simA_cons _ _ _ _ _ (@simE_int _ 0) (@simA_cons _ _ _ _ _ (@simE_op _ _ _ _ _ _ _ (@sr_add _) (@simE_int _ 1) (@simE_callB _ _ (0) _ _ _ (@simA_cons _ _ _ _ _ (@simE_int _ 4) (@simA_nil _)))) (@simA_nil _))))) (@simE_cb _ _ _ _ _ (@sr_int1 _) (@simA_cons _ _ _ _ _ (@simE_op _ _ _ _ _ _ _ (@sr_gt _) (@simE_callB _ _ (0) _ _ _ (@simA_cons _ _ _ _ _ (@simE_int _ 3) (@simA_nil _))) (@simE_int _ 0)) (@simA_nil _)))) (@simA_nil _))))))))) (@simS_frz _ _ _ 3 (@simS_ret _ _ _ (@simE_cb _ _ _ _ _ (@sr_tuple _) (@simA_cons _ _ _ _ _ (@simE_var _ 3) (@simA_nil _))))))) rfl h
def B_l_truth_1 : MS := (ifS (bT (op2E gtD (varE 5) (cE (.int 0)))) (exprS (appE 2 (tupE (consA (varE 3) (consA (varE 4) (consA (varE 5) nilA)))))) (seqS (asgS (op2E addD (op2E addD (varE 4) (cE (.int 1))) (op2E ixD (frzE (lstA (consA (cE (.int 0)) (consA (cbB F_l_take 0 (consA (cE (.int 5)) nilA)) (consA (cbB F_l_take 0 (consA (op2E subD (cE (.int 2000)) (varE 4)) nilA)) nilA))))) (cbB F_l_take 0 (consA (cE (.int 3)) nilA)))) (nameG 6))
      (exprS (appE 2 (tupE (consA (cE (.int 0)) (consA (cbE min2D (consA (cE (.int 2000)) (consA (varE 6) nilA))) (consA (op2E addD (cE (.int 1)) (cbB F_l_take 0 (consA (cE (.int 4)) nilA))) nilA))))))))
def S_l_truth : MS := (seqS (setOS 2 (lstA nilA))
      (seqS (forS (itA (varE 1)) (tupG 3 (consG (nameG 3) (consG (nameG 4) (consG (nameG 5) nilG)))) B_l_truth_1 [3, 4, 5, 6])
      (frzS 2 (retS (cbE tupleD (consA (varE 2) nilA))))))
def F_l_truth : FnB := runB 2 5 S_l_truth
theorem ok_l_truth (T : Txt K mg t) : FnOk P w K mg base CX0 2 t.f_l_truth t.d_l_truth ["_law_pot_here", "_law_book"] (SpB K F_l_truth) := by
  refine T.F_l_truth.ok sc_l_truth (fun vs H Q E h => lenB h) (fun cdv A outer s H vs Q E hr h => ?_)
  refine ⟨_, (@pss_cons _ _ _ _ _ (@ps_set _ _ (2) _ _ _ _ sc_l_truth.nd rfl (Or.inl rfl) (@pe_lst _ _ _ _ (@pa_nil _)) (by rfl) (by first | exact .inl rfl | exact .inr rfl | assumption)) (@pss_cons _ _ _ _ _ (@ps_for _ _ _ _ _ _ _ _ PassesOwn.never rfl (@pi_seqK _ (K) rfl _ _ _ (@pv _ 1 _ _ (by rfl) (by first | exact Or.inl rfl | exact Or.inr (Or.inl rfl) | exact Or.inr (Or.inr rfl)) (by decide) (by decide))) (@kPgTup _ (K) _ _ _ _ _ rfl (@pg_tup _ _ _ _ _ _ (by rfl) (@pgs_cons _ _ _ _ _ (@pg_name _ _ (3) _ sc_l_truth.nd rfl (by first | exact Or.inl rfl | exact Or.inr rfl) (by first | exact .inl rfl | exact .inr rfl | assumption)) (@pgs_cons _ _ _ _ _ (@pg_name _ _ (4) _ sc_l_truth.nd rfl (by first | exact Or.inl rfl | exact Or.inr rfl) (by first | exact .inl rfl | exact .inr rfl | assumption)) (@pgs_cons _ _ _ _ _ (@pg_name _ _ (5) _ sc_l_truth.nd rfl (by first | exact Or.inl rfl | exact Or.inr rfl) (by first | exact .inl rfl | exact .inr rfl | assumption)) (@pgs_nil _) (by rfl)) (by rfl)) (by rfl)) (by rfl) (by rfl))) (@pss_one _ _ _ (@ps_if _ _ _ _ _ _ _ _ (@pt_cmpR _ _ _ _ _ _ _ _ (@op_gt _) (@pv _ 5 _ _ (by rfl) (by first | exact Or.inl rfl | exact Or.inr (Or.inl rfl) | exact Or.inr (Or.inr rfl)) (by decide) (by decide)) (@pe_int _ _ _ _) (nomark _)) (@pss_one _ _ _ (@ps_expr _ _ _ _ (@kBM _ (K) rfl _ _ _ _ _ (@pe_bm _ _ _ _ _ _ _ _ _ _ _ _ PySem.F.plainAttrs_list PySem.F.slot_list_append PySem.F.type_list_append (@mt_append _) (@pv _ 2 _ _ (by rfl) (by first | exact Or.inl rfl | exact Or.inr (Or.inl rfl) | exact Or.inr (Or.inr rfl)) (by decide) (by decide)) (@pa_k _ _ _ _ _ rfl (@pe_tup _ _ _ _ _ (@pa_k _ _ _ _ _ rfl (@pv _ 3 _ _ (by rfl) (by first | exact Or.inl rfl | exact Or.inr (Or.inl rfl) | exact Or.inr (Or.inr rfl)) (by decide) (by decide)) (@pa_k _ _ _ _ _ rfl (@pv _ 4 _ _ (by rfl) (by first | exact Or.inl rfl | exact Or.inr (Or.inl rfl) | exact Or.inr (Or.inr rfl)) (by decide) (by decide)) (@pa_k _ _ _ _ _ rfl (@pv _ 5 _ _ (by rfl) (by first | exact Or.inl rfl | exact Or.inr (Or.inl rfl) | exact Or.inr (Or.inr rfl)) (by decide) (by decide)) (@pa_nil _))))) (@pa_nil _)) (by rfl) (by rfl) (by rfl) (by rfl) (by rfl))) (by rfl))) (@pss_cons _ _ _ _ _ (@ps_set _ _ (6) _ _ _ _ sc_l_truth.nd rfl (Or.inl rfl) (@pe_op _ _ _ _ _ _ _ _ (@kAdd _ (K) rfl) (@pe_op _ _ _ _ _ _ _ _ (@kAdd _ (K) rfl) (@pv _ 4 _ _ (by rfl) (by first | exact Or.inl rfl | exact Or.inr (Or.inl rfl) | exact Or.inr (Or.inr rfl)) (by decide) (by decide)) (@pe_int _ _ _ _)) (@pe_ix _ _ _ _ _ _ _ (@kIx _ (K) rfl) (@pe_lst _ _ _ _ (@pa_k _ _ _ _ _ rfl (@pe_int _ _ _ _) (@pa_k _ _ _ _ _ rfl (@pe_call _ _ _ _ _ _ _ _ _ _ _ _ _ _ _ _ (ok_l_take T) (hr.mono (by omega)) (by rfl) T.m_l_take T.F_l_take.kp T.b_l_take .nil pass0 (@pa_k _ _ _ _ _ rfl (@pv _ 0 _ _ (by rfl) (by first | exact Or.inl rfl | exact Or.inr (Or.inl rfl) | exact Or.inr (Or.inr rfl)) (by decide) (by decide)) (@pa_k _ _ _ _ _ rfl (@pe_int _ _ _ _) (@pa_nil _))) (by decide) (by rfl) (by rfl)) (@pa_k _ _ _ _ _ rfl (@pe_call _ _ _ _ _ _ _ _ _ _ _ _ _ _ _ _ (ok_l_take T) (hr.mono (by omega)) (by rfl) T.m_l_take T.F_l_take.kp T.b_l_take .nil pass0 (@pa_k _ _ _ _ _ rfl (@pv _ 0 _ _ (by rfl) (by first | exact Or.inl rfl | exact Or.inr (Or.inl rfl) | exact Or.inr (Or.inr rfl)) (by decide) (by decide)) (@pa_k _ _ _ _ _ rfl (@pe_op _ _ _ _ _ _ _ _ (@op_sub _) (@pe_int _ _ _ _) (@pv _ 4 _ _ (by rfl) (by first | exact Or.inl rfl | exact Or.inr (Or.inl rfl) | exact Or.inr (Or.inr rfl)) (by decide) (by decide))) (@pa_nil _))) (by decide) (by rfl) (by rfl)) (@pa_nil _))))) (@pe_call _ _ _ _ _ _ _ _ _ _ _ _ _ _ _ _ (ok_l_take T) (hr.mono (by omega)) (by rfl) T.m_l_take T.F_l_take.kp T.b_l_take .nil pass0 (@pa_k _ _ _ _ _ rfl (@pv _ 0 _ _ (by rfl) (by first | exact Or.inl rfl | exact Or.inr (Or.inl rfl) | exact Or.inr (Or.inr rfl)) (by decide) (by decide)) (@pa_k _ _ _ _ _ rfl (@pe_int _ _ _ _) (@pa_nil _))) (by decide) (by rfl) (by rfl)) (fun _ _ => (rfl)))) (by rfl) (by first | exact .inl rfl | exact .inr rfl | assumption)) (@pss_one _ _ _ (@ps_expr _ _ _ _ (@kBM _ (K) rfl _ _ _ _ _ (@pe_bm _ _ _ _ _ _ _ _ _ _ _ _ PySem.F.plainAttrs_list PySem.F.slot_list_append PySem.F.type_list_append (@mt_append _) (@pv _ 2 _ _ (by rfl) (by first | exact Or.inl rfl | exact Or.inr (Or.inl rfl) | exact Or.inr (Or.inr rfl)) (by decide) (by decide)) (@pa_k _ _ _ _ _ rfl (@pe_tup _ _ _ _ _ (@pa_k _ _ _ _ _ rfl (@pe_int _ _ _ _) (@pa_k _ _ _ _ _ rfl (@pe_callB _ _ _ _ _ _ _ _ _ (@call_min2 _ rfl) (by rfl) T.z_min (by decide +kernel) (@pa_k _ _ _ _ _ rfl (@pe_int _ _ _ _) (@pa_k _ _ _ _ _ rfl (@pv _ 6 _ _ (by rfl) (by first | exact Or.inl rfl | exact Or.inr (Or.inl rfl) | exact Or.inr (Or.inr rfl)) (by decide) (by decide)) (@pa_nil _))) (by decide) (by decide) (by rfl) (by rfl)) (@pa_k _ _ _ _ _ rfl (@pe_op _ _ _ _ _ _ _ _ (@kAdd _ (K) rfl) (@pe_int _ _ _ _) (@pe_call _ _ _ _ _ _ _ _ _ _ _ _ _ _ _ _ (ok_l_take T) (hr.mono (by omega)) (by rfl) T.m_l_take T.F_l_take.kp T.b_l_take .nil pass0 (@pa_k _ _ _ _ _ rfl (@pv _ 0 _ _ (by rfl) (by first | exact Or.inl rfl | exact Or.inr (Or.inl rfl) | exact Or.inr (Or.inr rfl)) (by decide) (by decide)) (@pa_k _ _ _ _ _ rfl (@pe_int _ _ _ _) (@pa_nil _))) (by decide) (by rfl) (by rfl))) (@pa_nil _))))) (@pa_nil _)) (by rfl) (by rfl) (by rfl) (by rfl) (by rfl))) (by rfl)))))) (by intro _ ; rfl)) (@pss_one _ _ _ (@ps_ret _ _ _ _ (@pe_callTy _ _ _ _ _ _ _ _ _ (@kTuple _ (K) rfl) (by rfl) T.z_tuple (by decide +kernel) (@pa_k _ _ _ _ _ rfl (@pv _ 2 _ _ (by rfl) (by first | exact Or.inl rfl | exact Or.inr (Or.inl rfl) | exact Or.inr (Or.inr rfl)) (by decide) (by decide)) (@pa_nil _)) (by decide) (by decide) (by rfl) (by rfl)))))), ?_⟩
  exact fnB (np := 2) (nl := 5) (S := S_l_truth) (K := K) (@simS_seq _ _ _ _ _ (@simS_setO _ _ (2) _ (@simO_lst _ _ _ (@simA_nil _))) (@simS_seq _ _ _ _ _ (@simS_for _ _ _ _ _ _ _ _ [3, 4, 5, 6] (@simI_seq _ _ _ (@simE_var _ 1)) (@simG_tup _ (3) _ _ _ (@simGs_cons _ _ _ _ _ _ _ (@simG_name _ 3) (@simGs_cons _ _ _ _ _ _ _ (@simG_name _ 4) (@simGs_cons _ _ _ _ _ _ _ (@simG_name _ 5) (@simGs_nil _))))) (@simS_if _ _ _ _ _ _ _ (@simT_test _ _ _ (@simE_op _ _ _ _ _ _ _ (@sr_gt _) (@simE_var _ 5) (@simE_int _ 0))) (@simS_expr _ _ _ (@simE_append _ (2) _ _ (@simE_tup _ _ _ (@simA_cons _ _ _ _ _ (@simE_var _ 3) (@simA_cons _ _ _ _ _ (@simE_var _ 4) (@simA_cons _ _ _ _ _ (@simE_var _ 5) (@simA_nil _))))))) (@simS_seq _ _ _ _ _ (@simS_asg _ _ _ _ _ _ (@simE_op _ _ _ _ _ _ _ (@sr_add _) (@simE_op _ _ _ _ _ _ _ (@sr_add _) (@simE_var _ 4) (@simE_int _ 1)) (@simE_op _ _ _ _ _ _ _ (@sr_ix _) (@simE_of _ _ _ (@simO_lst _ _ _ (@simA_cons _ _ _ _ _ (@simE_int _ 0) (@simA_cons _ _ _ _ _ (@simE_callB _ _ (0) _ _ _ (@simA_cons _ _ _ _ _ (@simE_int _ 5) (@simA_nil _))) (@simA_cons _ _ _ _ _ (@simE_callB _ _ (0) _ _ _ (@simA_cons _ _ _ _ _ (@simE_op _ _ _ _ _ _ _ (@sr_sub _) (@simE_int _ 2000) (@simE_var _ 4)) (@simA_nil _))) (@simA_nil _)))))) (@simE_callB _ _ (0) _ _ _ (@simA_cons _ _ _ _ _ (@simE_int _ 3) (@simA_nil _))))) (@simG_name _ 6)) (@simS_expr _ _ _ (@simE_append _ (2) _ _ (@simE_tup _ _ _ (@simA_cons _ _ _ _ _ (@simE_int _ 0) (@simA_cons _ _ _ _ _ (@simE_cb _ _ _ _ _ (@sr_min2 _) (@simA_cons _ _ _ _ _ (@simE_int _ 2000) (@simA_cons _ _ _ _ _ (@simE_var _ 6) (@simA_nil _)))) (@simA_cons _ _ _ _ _ (@simE_op _ _ _ _ _ _ _ (@sr_add _) (@simE_int _ 1) (@simE_callB _ _ (0) _ _ _ (@simA_cons _ _ _ _ _ (@simE_int _ 4) (@simA_nil _)))) (@simA_nil _)))))))))) (@simS_frz _ _ _ 2 (@simS_ret _ _ _ (@simE_cb _ _ _ _ _ (@sr_tuple _) (@simA_cons _ _ _ _ _ (@simE_var _ 2) (@simA_nil _))))))) rfl h
def A_l_is_true_1 : MA := (lcA (itA (varE 1)) (nameG 2) yesT (cbE F_l_whole (consA (varE 2) nilA)) [2])
def S_l_is_true : MS := (seqS (ifS (orT (notT (bT (op1E (fun d => some (.bool (isTup d))) (varE 1)))) (orT (bT (op2E neD (cbE lenD (consA (varE 1) nilA)) (cE (.int 3)))) (notT (bT (cbE allD (consA (frzE A_l_is_true_1) nilA)))))) (retS (cE (.bool false))) nextS)
      (seqS (ifS (bT (op2E gtD (op2E ixD (varE 0) (cE (.int 2))) (cE (.int 0)))) (retS (op2E eqD (varE 1) (varE 0))) nextS)
      (retS (andE (op2E eqD (op2E ixD (varE 1) (cE (.int 0))) (cE (.int 0))) (andE (chE ltD leD (op2E ixD (varE 0) (cE (.int 1))) (op2E ixD (varE 1) (cE (.int 1))) (cE (.int 2000))) (chE leD leD (cE (.int 1)) (op2E ixD (varE 1) (cE (.int 2))) (cE (.int 4))))))))
def F_l_is_true : Fn := runF 2 1 S_l_is_true
theorem ok_l_is_true (T : Txt K mg t) : FnOk P w K mg base CX0 2 t.f_l_is_true t.d_l_is_true ["_law_span", "_law_thing"] (SpF K F_l_is_true) := by
  refine T.F_l_is_true.ok sc_l_is_true (fun vs H Q E h => lenF h) (fun cdv A outer s H vs Q E hr h => ?_)
  refine ⟨_, (@pss_cons _ _ _ _ _ (@ps_if _ _ _ _ _ _ _ _ (PW.pt (@pw_or _ _ _ _ _ _ _ (@pt_not _ _ _ _ (@pt_val _ _ _ (@pe_callB _ _ _ _ _ _ _ _ _ (@kIsi _ (K) rfl) (by rfl) T.z_isinstance (by decide +kernel) (@pa_k _ _ _ _ _ rfl (@pv _ 1 _ _ (by rfl) (by first | exact Or.inl rfl | exact Or.inr (Or.inl rfl) | exact Or.inr (Or.inr rfl)) (by decide) (by decide)) (@pa_k _ _ _ _ _ rfl (@pe_bltn _ _ (.ty "tuple") _ _ (by rfl) T.z_tuple (by decide +kernel) rfl (by decide) (by decide)) (@pa_nil _))) (by decide) (by decide) (by rfl) (by rfl)) (by intro _ ; rfl))) (@pw_or _ _ _ _ _ _ _ (@pt_cmpR _ _ _ _ _ _ _ _ (@kNe _ (K) rfl _ hr) (@pe_callB _ _ _ _ _ _ _ _ _ (@kLen _ (K) rfl) (by rfl) T.z_len (by decide +kernel) (@pa_k _ _ _ _ _ rfl (@pv _ 1 _ _ (by rfl) (by first | exact Or.inl rfl | exact Or.inr (Or.inl rfl) | exact Or.inr (Or.inr rfl)) (by decide) (by decide)) (@pa_nil _)) (by decide) (by decide) (by rfl) (by rfl)) (@pe_int _ _ _ _) (nomark _)) (@pw_or1 _ _ _ _ (@pt_not _ _ _ _ (@pt_val _ _ _ (@pe_callB _ _ _ _ _ _ _ _ _ (@kAll _ (K) rfl (by rfl)) (by rfl) T.z_all (by decide +kernel) (@pa_k _ _ _ _ _ rfl (@pe_lc _ _ _ _ _ _ [("_law_one", 2)] _ _ (gName 2) _ _ (by rfl) sc_l_is_true.nd (@pi_seqK _ (K) rfl _ _ _ (@pv _ 1 _ _ (by rfl) (by first | exact Or.inl rfl | exact Or.inr (Or.inl rfl) | exact Or.inr (Or.inr rfl)) (by decide) (by decide))) (blkOk_by (own := [("_law_one", 2)]) (N := N_l_is_true) (sc := defScope s_l_is_true) (by decide +kernel)) (fun _ _ _ _ _ => (@pg_name _ _ (2) _ sc_l_is_true.nd rfl (by first | exact Or.inl rfl | exact Or.inr rfl) (by first | exact .inl rfl | exact .inr rfl | assumption))) (fun _ _ _ _ _ => (@pts_nil _)) (fun _ _ _ _ _ => (@pe_call _ _ _ _ _ _ _ _ _ _ _ _ _ _ _ _ (ok_l_whole T) (hr.mono (by omega)) (by rfl) T.m_l_whole T.F_l_whole.kp T.b_l_whole .nil pass0 (@pa_k _ _ _ _ _ rfl (@pv _ 2 _ _ (by rfl) (by first | exact Or.inl rfl | exact Or.inr (Or.inl rfl) | exact Or.inr (Or.inr rfl)) (by decide) (by decide)) (@pa_nil _)) (by decide) (by rfl) (by rfl))) (by intro _ ; rfl)) (@pa_nil _)) (by decide) (by decide) (by rfl) (by rfl)) (by intro _ ; rfl))))))) (@pss_one _ _ _ (@ps_ret _ _ _ _ (@pe_bl _ _ _ _))) (@pss_nil _)) (@pss_cons _ _ _ _ _ (@ps_if _ _ _ _ _ _ _ _ (@pt_cmpR _ _ _ _ _ _ _ _ (@op_gt _) (@pe_ix _ _ _ _ _ _ _ (@kIx _ (K) rfl) (@pv _ 0 _ _ (by rfl) (by first | exact Or.inl rfl | exact Or.inr (Or.inl rfl) | exact Or.inr (Or.inr rfl)) (by decide) (by decide)) (@pe_int _ _ _ _) (fun _ _ => (rfl))) (@pe_int _ _ _ _) (nomark _)) (@pss_one _ _ _ (@ps_ret _ _ _ _ (@pe_cmpR _ _ _ _ _ _ _ _ (@kEq _ (K) rfl _ hr) (@pv _ 1 _ _ (by rfl) (by first | exact Or.inl rfl | exact Or.inr (Or.inl rfl) | exact Or.inr (Or.inr rfl)) (by decide) (by decide)) (@pv _ 0 _ _ (by rfl) (by first | exact Or.inl rfl | exact Or.inr (Or.inl rfl) | exact Or.inr (Or.inr rfl)) (by decide) (by decide)) (nomark _)))) (@pss_nil _)) (@pss_one _ _ _ (@ps_ret _ _ _ _ (@pe_and _ _ _ _ _ _ _ (@pe_cmpR _ _ _ _ _ _ _ _ (@kEq _ (K) rfl _ hr) (@pe_ix _ _ _ _ _ _ _ (@kIx _ (K) rfl) (@pv _ 1 _ _ (by rfl) (by first | exact Or.inl rfl | exact Or.inr (Or.inl rfl) | exact Or.inr (Or.inr rfl)) (by decide) (by decide)) (@pe_int _ _ _ _) (fun _ _ => (rfl))) (@pe_int _ _ _ _) (nomark _)) (@pe_and _ _ _ _ _ _ _ (@pe_chain _ _ _ _ _ _ _ _ _ _ _ _ (@op_lt _) (@op_le _) (@pe_ix _ _ _ _ _ _ _ (@kIx _ (K) rfl) (@pv _ 0 _ _ (by rfl) (by first | exact Or.inl rfl | exact Or.inr (Or.inl rfl) | exact Or.inr (Or.inr rfl)) (by decide) (by decide)) (@pe_int _ _ _ _) (fun _ _ => (rfl))) (@pe_ix _ _ _ _ _ _ _ (@kIx _ (K) rfl) (@pv _ 1 _ _ (by rfl) (by first | exact Or.inl rfl | exact Or.inr (Or.inl rfl) | exact Or.inr (Or.inr rfl)) (by decide) (by decide)) (@pe_int _ _ _ _) (fun _ _ => (rfl))) (@pe_int _ _ _ _) (by with_unfolding_all rfl)) (@pe_one _ _ _ _ _ (@pe_chain _ _ _ _ _ _ _ _ _ _ _ _ (@op_le _) (@op_le _) (@pe_int _ _ _ _) (@pe_ix _ _ _ _ _ _ _ (@kIx _ (K) rfl) (@pv _ 1 _ _ (by rfl) (by first | exact Or.inl rfl | exact Or.inr (Or.inl rfl) | exact Or.inr (Or.inr rfl)) (by decide) (by decide)) (@pe_int _ _ _ _) (fun _ _ => (rfl))) (@pe_int _ _ _ _) (by with_unfolding_all rfl))))))))), ?_⟩
  exact fnF (np := 2) (nl := 1) (S := S_l_is_true) (K := K) (@simS_seq _ _ _ _ _ (@simS_if _ _ _ _ _ _ _ (@simT_or _ _ _ _ _ (@simT_not _ _ _ (@simT_b _ _ _ (@simE_isi _ _ (isTup) (kit_tuple K) _ _ (@simE_var _ 1)))) (@simT_or _ _ _ _ _ (@simT_test _ _ _ (@simE_op _ _ _ _ _ _ _ (@sr_ne _) (@simE_cb _ _ _ _ _ (@sr_len _) (@simA_cons _ _ _ _ _ (@simE_var _ 1) (@simA_nil _))) (@simE_int _ 3))) (@simT_not _ _ _ (@simT_b _ _ _ (@simE_cb _ _ _ _ _ (@sr_all _) (@simA_cons _ _ _ _ _ (@simE_of _ _ _ (@simO_lc _ _ _ _ _ _ _ _ _ _ [2] (@simI_seq _ _ _ (@simE_var _ 1)) (@simG_name _ 2) (by decide) (@simT_yes _) (@simE_call _ _ _ _ _ (@simA_cons _ _ _ _ _ (@simE_var _ 2) (@simA_nil _))))) (@simA_nil _))))))) (@simS_ret _ _ _ (@simE_bl _ false)) (@simS_next _)) (@simS_seq _ _ _ _ _ (@simS_if _ _ _ _ _ _ _ (@simT_test _ _ _ (@simE_op _ _ _ _ _ _ _ (@sr_gt _) (@simE_op _ _ _ _ _ _ _ (@sr_ix _) (@simE_var _ 0) (@simE_int _ 2)) (@simE_int _ 0))) (@simS_ret _ _ _ (@simE_op _ _ _ _ _ _ _ (@sr_eq _) (@simE_var _ 1) (@simE_var _ 0))) (@simS_next _)) (@simS_ret _ _ _ (@simE_and _ _ _ _ _ (@simE_op _ _ _ _ _ _ _ (@sr_eq _) (@simE_op _ _ _ _ _ _ _ (@sr_ix _) (@simE_var _ 1) (@simE_int _ 0)) (@simE_int _ 0)) (@simE_and _ _ _ _ _ (@simE_ch _ _ _ _ _ _ _ _ _ _ _ (@sr_lt _) (@sr_le _) (@simE_op _ _ _ _ _ _ _ (@sr_ix _) (@simE_var _ 0) (@simE_int _ 1)) (@simE_op _ _ _ _ _ _ _ (@sr_ix _) (@simE_var _ 1) (@simE_int _ 1)) (@simE_int _ 2000)) (@simE_ch _ _ _ _ _ _ _ _ _ _ _ (@sr_le _) (@sr_le _) (@simE_int _ 1) (@simE_op _ _ _ _ _ _ _ (@sr_ix _) (@simE_var _ 1) (@simE_int _ 2)) (@simE_int _ 4))))))) rfl h
def A_p_is_book_1 : MA := (lcA (itA (varE 0)) (nameG 1) yesT (cbE F_p_is_span (consA (varE 1) nilA)) [1])
def S_p_is_book : MS := (seqS (ifS (orT (notT (bT (op1E (fun d => some (.bool (isTup d))) (varE 0)))) (notT (bT (chE leD leD (cE (.int 1)) (cbE lenD (consA (varE 0) nilA)) (cE (.int 40)))))) (retS (cE (.bool false))) nextS)
      (retS (cbE allD (consA (frzE A_p_is_book_1) nilA))))
def F_p_is_book : Fn := runF 1 1 S_p_is_book
theorem ok_p_is_book (T : Txt K mg t) : FnOk P w K mg base CX0 3 t.f_p_is_book t.d_p_is_book ["thing"] (SpF K F_p_is_book) := by
  refine T.F_p_is_book.ok sc_p_is_book (fun vs H Q E h => lenF h) (fun cdv A outer s H vs Q E hr h => ?_)
  refine ⟨_, (@pss_cons _ _ _ _ _ (@ps_if _ _ _ _ _ _ _ _ (PW.pt (@pw_or _ _ _ _ _ _ _ (@pt_not _ _ _ _ (@pt_val _ _ _ (@pe_callB _ _ _ _ _ _ _ _ _ (@kIsi _ (K) rfl) (by rfl) T.z_isinstance (by decide +kernel) (@pa_k _ _ _ _ _ rfl (@pv _ 0 _ _ (by rfl) (by first | exact Or.inl rfl | exact Or.inr (Or.inl rfl) | exact Or.inr (Or.inr rfl)) (by decide) (by decide)) (@pa_k _ _ _ _ _ rfl (@pe_bltn _ _ (.ty "tuple") _ _ (by rfl) T.z_tuple (by decide +kernel) rfl (by decide) (by decide)) (@pa_nil _))) (by decide) (by decide) (by rfl) (by rfl)) (by intro _ ; rfl))) (@pw_or1 _ _ _ _ (@pt_not _ _ _ _ (@pt_chain _ _ _ _ _ _ _ _ _ _ _ _ (@op_le _) (@op_le _) (@pe_int _ _ _ _) (@pe_callB _ _ _ _ _ _ _ _ _ (@kLen _ (K) rfl) (by rfl) T.z_len (by decide +kernel) (@pa_k _ _ _ _ _ rfl (@pv _ 0 _ _ (by rfl) (by first | exact Or.inl rfl | exact Or.inr (Or.inl rfl) | exact Or.inr (Or.inr rfl)) (by decide) (by decide)) (@pa_nil _)) (by decide) (by decide) (by rfl) (by rfl)) (T.pc_MOST_SPANS (by rfl)) (by with_unfolding_all rfl)))))) (@pss_one _ _ _ (@ps_ret _ _ _ _ (@pe_bl _ _ _ _))) (@pss_nil _)) (@pss_one _ _ _ (@ps_ret _ _ _ _ (@pe_callB _ _ _ _ _ _ _ _ _ (@kAll _ (K) rfl (by rfl)) (by rfl) T.z_all (by decide +kernel) (@pa_k _ _ _ _ _ rfl (@pe_lc _ _ _ _ _ _ [("part", 1)] _ _ (gName 1) _ _ (by rfl) sc_p_is_book.nd (@pi_seqK _ (K) rfl _ _ _ (@pv _ 0 _ _ (by rfl) (by first | exact Or.inl rfl | exact Or.inr (Or.inl rfl) | exact Or.inr (Or.inr rfl)) (by decide) (by decide))) (blkOk_by (own := [("part", 1)]) (N := N_p_is_book) (sc := defScope s_p_is_book) (by decide +kernel)) (fun _ _ _ _ _ => (@pg_name _ _ (1) _ sc_p_is_book.nd rfl (by first | exact Or.inl rfl | exact Or.inr rfl) (by first | exact .inl rfl | exact .inr rfl | assumption))) (fun _ _ _ _ _ => (@pts_nil _)) (fun _ _ _ _ _ => (@pe_call _ _ _ _ _ _ _ _ _ _ _ _ _ _ _ _ (ok_p_is_span T) (hr.mono (by omega)) (by rfl) T.m_p_is_span T.F_p_is_span.kp T.b_p_is_span .nil pass0 (@pa_k _ _ _ _ _ rfl (@pv _ 1 _ _ (by rfl) (by first | exact Or.inl rfl | exact Or.inr (Or.inl rfl) | exact Or.inr (Or.inr rfl)) (by decide) (by decide)) (@pa_nil _)) (by decide) (by rfl) (by rfl))) (by intro _ ; rfl)) (@pa_nil _)) (by decide) (by decide) (by rfl) (by rfl))))), ?_⟩
  exact fnF (np := 1) (nl := 1) (S := S_p_is_book) (K := K) (@simS_seq _ _ _ _ _ (@simS_if _ _ _ _ _ _ _ (@simT_or _ _ _ _ _ (@simT_not _ _ _ (@simT_b _ _ _ (@simE_isi _ _ (isTup) (kit_tuple K) _ _ (@simE_var _ 0)))) (@simT_not _ _ _ (@simT_test _ _ _ (@simE_ch _ _ _ _ _ _ _ _ _ _ _ (@sr_le _) (@sr_le _) (@simE_int _ 1) (@simE_cb _ _ _ _ _ (@sr_len _) (@simA_cons _ _ _ _ _ (@simE_var _ 0) (@simA_nil _))) (@simE_int _ 40))))) (@simS_ret _ _ _ (@simE_bl _ false)) (@simS_next _)) (@simS_ret _ _ _ (@simE_cb _ _ _ _ _ (@sr_all _) (@simA_cons _ _ _ _ _ (@simE_of _ _ _ (@simO_lc _ _ _ _ _ _ _ _ _ _ [1] (@simI_seq _ _ _ (@simE_var _ 0)) (@simG_name _ 1) (by decide) (@simT_yes _) (@simE_call _ _ _ _ _ (@simA_cons _ _ _ _ _ (@simE_var _ 1) (@simA_nil _))))) (@simA_nil _))))) rfl h
def S_p_may_stand_for : MS := (seqS (ifS (orT (notT (bT (op1E (fun d => some (.bool (isTup d))) (varE 1)))) (bT (op2E neD (cbE lenD (consA (varE 1) nilA)) (cE (.int 3))))) (retS (cE (.bool false))) nextS)
      (seqS (asgS (varE 1) (tupG 3 (consG (nameG 2) (consG (nameG 3) (consG (nameG 4) nilG)))))
      (seqS (ifS (notT (andT (bT (cbE F_p_is_whole (consA (varE 2) nilA))) (andT (bT (cbE F_p_is_whole (consA (varE 3) nilA))) (bT (cbE F_p_is_whole (consA (varE 4) nilA)))))) (retS (cE (.bool false))) nextS)
      (seqS (ifS (bT (op2E neD (op2E ixD (varE 0) (cE (.int 2))) (cE (.int 0)))) (retS (op2E eqD (varE 1) (varE 0))) nextS)
      (retS (andE (op2E eqD (varE 2) (cE (.int 0))) (andE (chE ltD leD (op2E ixD (varE 0) (cE (.int 1))) (varE 3) (cE (.int 2000))) (cbE F_p_is_kind (consA (varE 4) nilA)))))))))
def F_p_may_stand_for : Fn := runF 2 3 S_p_may_stand_for
theorem ok_p_may_stand_for (T : Txt K mg t) : FnOk P w K mg base CX0 3 t.f_p_may_stand_for t.d_p_may_stand_for ["span", "thing"] (SpF K F_p_may_stand_for) := by
  refine T.F_p_may_stand_for.ok sc_p_may_stand_for (fun vs H Q E h => lenF h) (fun cdv A outer s H vs Q E hr h => ?_)
  refine ⟨_, (@pss_cons _ _ _ _ _ (@ps_if _ _ _ _ _ _ _ _ (PW.pt (@pw_or _ _ _ _ _ _ _ (@pt_not _ _ _ _ (@pt_val _ _ _ (@pe_callB _ _ _ _ _ _ _ _ _ (@kIsi _ (K) rfl) (by rfl) T.z_isinstance (by decide +kernel) (@pa_k _ _ _ _ _ rfl (@pv _ 1 _ _ (by rfl) (by first | exact Or.inl rfl | exact Or.inr (Or.inl rfl) | exact Or.inr (Or.inr rfl)) (by decide) (by decide)) (@pa_k _ _ _ _ _ rfl (@pe_bltn _ _ (.ty "tuple") _ _ (by rfl) T.z_tuple (by decide +kernel) rfl (by decide) (by decide)) (@pa_nil _))) (by decide) (by decide) (by rfl) (by rfl)) (by intro _ ; rfl))) (@pw_or1 _ _ _ _ (@pt_cmpR _ _ _ _ _ _ _ _ (@kNe _ (K) rfl _ hr) (@pe_callB _ _ _ _ _ _ _ _ _ (@kLen _ (K) rfl) (by rfl) T.z_len (by decide +kernel) (@pa_k _ _ _ _ _ rfl (@pv _ 1 _ _ (by rfl) (by first | exact Or.inl rfl | exact Or.inr (Or.inl rfl) | exact Or.inr (Or.inr rfl)) (by decide) (by decide)) (@pa_nil _)) (by decide) (by decide) (by rfl) (by rfl)) (@pe_int _ _ _ _) (nomark _))))) (@pss_one _ _ _ (@ps_ret _ _ _ _ (@pe_bl _ _ _ _))) (@pss_nil _)) (@pss_cons _ _ _ _ _ (@ps_asg _ _ _ _ _ _ (@pv _ 1 _ _ (by rfl) (by first | exact Or.inl rfl | exact Or.inr (Or.inl rfl) | exact Or.inr (Or.inr rfl)) (by decide) (by decide)) (@kPgTup _ (K) _ _ _ _ _ rfl (@pg_tup _ _ _ _ _ _ (by rfl) (@pgs_cons _ _ _ _ _ (@pg_name _ _ (2) _ sc_p_may_stand_for.nd rfl (by first | exact Or.inl rfl | exact Or.inr rfl) (by first | exact .inl rfl | exact .inr rfl | assumption)) (@pgs_cons _ _ _ _ _ (@pg_name _ _ (3) _ sc_p_may_stand_for.nd rfl (by first | exact Or.inl rfl | exact Or.inr rfl) (by first | exact .inl rfl | exact .inr rfl | assumption)) (@pgs_cons _ _ _ _ _ (@pg_name _ _ (4) _ sc_p_may_stand_for.nd rfl (by first | exact Or.inl rfl | exact Or.inr rfl) (by first | exact .inl rfl | exact .inr rfl | assumption)) (@pgs_nil _) (by rfl)) (by rfl)) (by rfl)) (by rfl) (by rfl))) (by rfl) (by rfl) (by rfl)) (@pss_cons _ _ _ _ _ (@ps_if _ _ _ _ _ _ _ _ (@pt_not _ _ _ _ (PW.pt (@pw_and _ _ _ _ _ _ _ (@pt_val _ _ _ (@pe_call _ _ _ _ _ _ _ _ _ _ _ _ _ _ _ _ (ok_p_is_whole T) (hr.mono (by omega)) (by rfl) T.m_p_is_whole T.F_p_is_whole.kp T.b_p_is_whole .nil pass0 (@pa_k _ _ _ _ _ rfl (@pv _ 2 _ _ (by rfl) (by first | exact Or.inl rfl | exact Or.inr (Or.inl rfl) | exact Or.inr (Or.inr rfl)) (by decide) (by decide)) (@pa_nil _)) (by decide) (by rfl) (by rfl)) (by intro _ ; rfl)) (@pw_and _ _ _ _ _ _ _ (@pt_val _ _ _ (@pe_call _ _ _ _ _ _ _ _ _ _ _ _ _ _ _ _ (ok_p_is_whole T) (hr.mono (by omega)) (by rfl) T.m_p_is_whole T.F_p_is_whole.kp T.b_p_is_whole .nil pass0 (@pa_k _ _ _ _ _ rfl (@pv _ 3 _ _ (by rfl) (by first | exact Or.inl rfl | exact Or.inr (Or.inl rfl) | exact Or.inr (Or.inr rfl)) (by decide) (by decide)) (@pa_nil _)) (by decide) (by rfl) (by rfl)) (by intro _ ; rfl)) (@pw_and1 _ _ _ _ (@pt_val _ _ _ (@pe_call _ _ _ _ _ _ _ _ _ _ _ _ _ _ _ _ (ok_p_is_whole T) (hr.mono (by omega)) (by rfl) T.m_p_is_whole T.F_p_is_whole.kp T.b_p_is_whole .nil pass0 (@pa_k _ _ _ _ _ rfl (@pv _ 4 _ _ (by rfl) (by first | exact Or.inl rfl | exact Or.inr (Or.inl rfl) | exact Or.inr (Or.inr rfl)) (by decide) (by decide)) (@pa_nil _)) (by decide) (by rfl) (by rfl)) (by intro _ ; rfl))))))) (@pss_one _ _ _ (@ps_ret _ _ _ _ (@pe_bl _ _ _ _))) (@pss_nil _)) (@pss_cons _ _ _ _ _ (@ps_if _ _ _ _ _ _ _ _ (@pt_cmpR _ _ _ _ _ _ _ _ (@kNe _ (K) rfl _ hr) (@pe_ix _ _ _ _ _ _ _ (@kIx _ (K) rfl) (@pv _ 0 _ _ (by rfl) (by first | exact Or.inl rfl | exact Or.inr (Or.inl rfl) | exact Or.inr (Or.inr rfl)) (by decide) (by decide)) (@pe_int _ _ _ _) (fun _ _ => (rfl))) (T.pc_CUT_OFF (by rfl)) (nomark _)) (@pss_one _ _ _ (@ps_ret _ _ _ _ (@pe_cmpR _ _ _ _ _ _ _ _ (@kEq _ (K) rfl _ hr) (@pv _ 1 _ _ (by rfl) (by first | exact Or.inl rfl | exact Or.inr (Or.inl rfl) | exact Or.inr (Or.inr rfl)) (by decide) (by decide)) (@pv _ 0 _ _ (by rfl) (by first | exact Or.inl rfl | exact Or.inr (Or.inl rfl) | exact Or.inr (Or.inr rfl)) (by decide) (by decide)) (nomark _)))) (@pss_nil _)) (@pss_one _ _ _ (@ps_ret _ _ _ _ (@pe_and _ _ _ _ _ _ _ (@pe_cmpR _ _ _ _ _ _ _ _ (@kEq _ (K) rfl _ hr) (@pv _ 2 _ _ (by rfl) (by first | exact Or.inl rfl | exact Or.inr (Or.inl rfl) | exact Or.inr (Or.inr rfl)) (by decide) (by decide)) (@pe_int _ _ _ _) (nomark _)) (@pe_and _ _ _ _ _ _ _ (@pe_chain _ _ _ _ _ _ _ _ _ _ _ _ (@op_lt _) (@op_le _) (@pe_ix _ _ _ _ _ _ _ (@kIx _ (K) rfl) (@pv _ 0 _ _ (by rfl) (by first | exact Or.inl rfl | exact Or.inr (Or.inl rfl) | exact Or.inr (Or.inr rfl)) (by decide) (by decide)) (@pe_int _ _ _ _) (fun _ _ => (rfl))) (@pv _ 3 _ _ (by rfl) (by first | exact Or.inl rfl | exact Or.inr (Or.inl rfl) | exact Or.inr (Or.inr rfl)) (by decide) (by decide)) (T.pc_LAST_TRUE_UNTIL (by rfl)) (by with_unfolding_all rfl)) (@pe_one _ _ _ _ _ (@pe_call _ _ _ _ _ _ _ _ _ _ _ _ _ _ _ _ (ok_p_is_kind T) (hr.mono (by omega)) (by rfl) T.m_p_is_kind T.F_p_is_kind.kp T.b_p_is_kind .nil pass0 (@pa_k _ _ _ _ _ rfl (@pv _ 4 _ _ (by rfl) (by first | exact Or.inl rfl | exact Or.inr (Or.inl rfl) | exact Or.inr (Or.inr rfl)) (by decide) (by decide)) (@pa_nil _)) (by decide) (by rfl) (by rfl))))))))))), ?_⟩
  exact fnF (np := 2) (nl := 3) (S := S_p_may_stand_for) (K := K) (@simS_seq _ _ _ _ _ (@simS_if _ _ _ _ _ _ _ (@simT_or _ _ _ _ _ (@simT_not _ _ _ (@simT_b _ _ _ (@simE_isi _ _ (isTup) (kit_tuple K) _ _ (@simE_var _ 1)))) (@simT_test _ _ _ (@simE_op _ _ _ _ _ _ _ (@sr_ne _) (@simE_cb _ _ _ _ _ (@sr_len _) (@simA_cons _ _ _ _ _ (@simE_var _ 1) (@simA_nil _))) (@simE_int _ 3)))) (@simS_ret _ _ _ (@simE_bl _ false)) (@simS_next _)) (@simS_seq _ _ _ _ _ (@simS_asg _ _ _ _ _ _ (@simE_var _ 1) (@simG_tup _ (3) _ _ _ (@simGs_cons _ _ _ _ _ _ _ (@simG_name _ 2) (@simGs_cons _ _ _ _ _ _ _ (@simG_name _ 3) (@simGs_cons _ _ _ _ _ _ _ (@simG_name _ 4) (@simGs_nil _)))))) (@simS_seq _ _ _ _ _ (@simS_if _ _ _ _ _ _ _ (@simT_not _ _ _ (@simT_and _ _ _ _ _ (@simT_b _ _ _ (@simE_call _ _ _ _ _ (@simA_cons _ _ _ _ _ (@simE_var _ 2) (@simA_nil _)))) (@simT_and _ _ _ _ _ (@simT_b _ _ _ (@simE_call _ _ _ _ _ (@simA_cons _ _ _ _ _ (@simE_var _ 3) (@simA_nil _)))) (@simT_b _ _ _ (@simE_call _ _ _ _ _ (@simA_cons _ _ _ _ _ (@simE_var _ 4) (@simA_nil _))))))) (@simS_ret _ _ _ (@simE_bl _ false)) (@simS_next _)) (@simS_seq _ _ _ _ _ (@simS_if _ _ _ _ _ _ _ (@simT_test _ _ _ (@simE_op _ _ _ _ _ _ _ (@sr_ne _) (@simE_op _ _ _ _ _ _ _ (@sr_ix _) (@simE_var _ 0) (@simE_int _ 2)) (@simE_int _ 0))) (@simS_ret _ _ _ (@simE_op _ _ _ _ _ _ _ (@sr_eq _) (@simE_var _ 1) (@simE_var _ 0))) (@simS_next _)) (@simS_ret _ _ _ (@simE_and _ _ _ _ _ (@simE_op _ _ _ _ _ _ _ (@sr_eq _) (@simE_var _ 2) (@simE_int _ 0)) (@simE_and _ _ _ _ _ (@simE_ch _ _ _ _ _ _ _ _ _ _ _ (@sr_lt _) (@sr_le _) (@simE_op _ _ _ _ _ _ _ (@sr_ix _) (@simE_var _ 0) (@simE_int _ 1)) (@simE_var _ 3) (@simE_int _ 2000)) (@simE_call _ _ _ _ _ (@simA_cons _ _ _ _ _ (@simE_var _ 4) (@simA_nil _)))))))))) rfl h
def A_l_is_truth_1 : MA := (lcA (enumA (consA (varE 0) nilA)) (tupG 2 (consG (nameG 2) (consG (nameG 3) nilG))) (notT (bT (cbE F_l_is_true (consA (varE 3) (consA (op2E ixD (varE 1) (varE 2)) nilA))))) (varE 2) [2, 3])
def S_l_is_truth : MS := (seqS (ifS (orT (notT (bT (op1E (fun d => some (.bool (isTup d))) (varE 1)))) (bT (op2E neD (cbE lenD (consA (varE 1) nilA)) (cbE lenD (consA (varE 0) nilA))))) (retS (cE (.bool false))) nextS)
      (retS (op2E eqD (frzE A_l_is_truth_1) (frzE (lstA nilA)))))
def F_l_is_truth : Fn := runF 2 2 S_l_is_truth
theorem ok_l_is_truth (T : Txt K mg t) : FnOk P w K mg base CX0 3 t.f_l_is_truth t.d_l_is_truth ["_law_book", "_law_thing"] (SpF K F_l_is_truth) := by
  refine T.F_l_is_truth.ok sc_l_is_truth (fun vs H Q E h => lenF h) (fun cdv A outer s H vs Q E hr h => ?_)
  refine ⟨_, (@pss_cons _ _ _ _ _ (@ps_if _ _ _ _ _ _ _ _ (PW.pt (@pw_or _ _ _ _ _ _ _ (@pt_not _ _ _ _ (@pt_val _ _ _ (@pe_callB _ _ _ _ _ _ _ _ _ (@kIsi _ (K) rfl) (by rfl) T.z_isinstance (by decide +kernel) (@pa_k _ _ _ _ _ rfl (@pv _ 1 _ _ (by rfl) (by first | exact Or.inl rfl | exact Or.inr (Or.inl rfl) | exact Or.inr (Or.inr rfl)) (by decide) (by decide)) (@pa_k _ _ _ _ _ rfl (@pe_bltn _ _ (.ty "tuple") _ _ (by rfl) T.z_tuple (by decide +kernel) rfl (by decide) (by decide)) (@pa_nil _))) (by decide) (by decide) (by rfl) (by rfl)) (by intro _ ; rfl))) (@pw_or1 _ _ _ _ (@pt_cmpR _ _ _ _ _ _ _ _ (@kNe _ (K) rfl _ hr) (@pe_callB _ _ _ _ _ _ _ _ _ (@kLen _ (K) rfl) (by rfl) T.z_len (by decide +kernel) (@pa_k _ _ _ _ _ rfl (@pv _ 1 _ _ (by rfl) (by first | exact Or.inl rfl | exact Or.inr (Or.inl rfl) | exact Or.inr (Or.inr rfl)) (by decide) (by decide)) (@pa_nil _)) (by decide) (by decide) (by rfl) (by rfl)) (@pe_callB _ _ _ _ _ _ _ _ _ (@kLen _ (K) rfl) (by rfl) T.z_len (by decide +kernel) (@pa_k _ _ _ _ _ rfl (@pv _ 0 _ _ (by rfl) (by first | exact Or.inl rfl | exact Or.inr (Or.inl rfl) | exact Or.inr (Or.inr rfl)) (by decide) (by decide)) (@pa_nil _)) (by decide) (by decide) (by rfl) (by rfl)) (nomark _))))) (@pss_one _ _ _ (@ps_ret _ _ _ _ (@pe_bl _ _ _ _))) (@pss_nil _)) (@pss_one _ _ _ (@ps_ret _ _ _ _ (@pe_cmpR _ _ _ _ _ _ _ _ (@kEq _ (K) rfl _ hr) (@pe_lc _ _ _ _ _ _ [("_law_at", 2), ("_law_span", 3)] _ _ (gTup K 2 (gCons (gName 2) (gCons (gName 3) gNil))) _ _ (by rfl) sc_l_is_truth.nd (@pi_enumU (K) _ rfl _ _ _ _ _ _ _ (by rfl) T.z_enumerate (@pa_k _ _ _ _ _ rfl (@pv _ 0 _ _ (by rfl) (by first | exact Or.inl rfl | exact Or.inr (Or.inl rfl) | exact Or.inr (Or.inr rfl)) (by decide) (by decide)) (@pa_nil _)) (by rfl)) (blkOk_by (own := [("_law_at", 2), ("_law_span", 3)]) (N := N_l_is_truth) (sc := defScope s_l_is_truth) (by decide +kernel)) (fun _ _ _ _ _ => (@kPgTup _ (K) _ _ _ _ _ rfl (@pg_tup _ _ _ _ _ _ (by rfl) (@pgs_cons _ _ _ _ _ (@pg_name _ _ (2) _ sc_l_is_truth.nd rfl (by first | exact Or.inl rfl | exact Or.inr rfl) (by first | exact .inl rfl | exact .inr rfl | assumption)) (@pgs_cons _ _ _ _ _ (@pg_name _ _ (3) _ sc_l_is_truth.nd rfl (by first | exact Or.inl rfl | exact Or.inr rfl) (by first | exact .inl rfl | exact .inr rfl | assumption)) (@pgs_nil _) (by rfl)) (by rfl)) (by rfl) (by rfl)))) (fun _ _ _ _ _ => (@pts_one _ _ _ (@pt_not _ _ _ _ (@pt_val _ _ _ (@pe_call _ _ _ _ _ _ _ _ _ _ _ _ _ _ _ _ (ok_l_is_true T) (hr.mono (by omega)) (by rfl) T.m_l_is_true T.F_l_is_true.kp T.b_l_is_true .nil pass0 (@pa_k _ _ _ _ _ rfl (@pv _ 3 _ _ (by rfl) (by first | exact Or.inl rfl | exact Or.inr (Or.inl rfl) | exact Or.inr (Or.inr rfl)) (by decide) (by decide)) (@pa_k _ _ _ _ _ rfl (@pe_ix _ _ _ _ _ _ _ (@kIx _ (K) rfl) (@pv _ 1 _ _ (by rfl) (by first | exact Or.inl rfl | exact Or.inr (Or.inl rfl) | exact Or.inr (Or.inr rfl)) (by decide) (by decide)) (@pv _ 2 _ _ (by rfl) (by first | exact Or.inl rfl | exact Or.inr (Or.inl rfl) | exact Or.inr (Or.inr rfl)) (by decide) (by decide)) (fun _ _ => (rfl))) (@pa_nil _))) (by decide) (by rfl) (by rfl)) (by intro _ ; rfl))))) (fun _ _ _ _ _ => (@pv _ 2 _ _ (by rfl) (by first | exact Or.inl rfl | exact Or.inr (Or.inl rfl) | exact Or.inr (Or.inr rfl)) (by decide) (by decide))) (by intro _ ; rfl)) (@pe_lst _ _ _ _ (@pa_nil _)) (nomark _))))), ?_⟩
  exact fnF (np := 2) (nl := 2) (S := S_l_is_truth) (K := K) (@simS_seq _ _ _ _ _ (@simS_if _ _ _ _ _ _ _ (@simT_or _ _ _ _ _ (@simT_not _ _ _ (@simT_b _ _ _ (@simE_isi _ _ (isTup) (kit_tuple K) _ _ (@simE_var _ 1)))) (@simT_test _ _ _ (@simE_op _ _ _ _ _ _ _ (@sr_ne _) (@simE_cb _ _ _ _ _ (@sr_len _) (@simA_cons _ _ _ _ _ (@simE_var _ 1) (@simA_nil _))) (@simE_cb _ _ _ _ _ (@sr_len _) (@simA_cons _ _ _ _ _ (@simE_var _ 0) (@simA_nil _)))))) (@simS_ret _ _ _ (@simE_bl _ false)) (@simS_next _)) (@simS_ret _ _ _ (@simE_op _ _ _ _ _ _ _ (@sr_eq _) (@simE_of _ _ _ (@simO_lc _ _ _ _ _ _ _ _ _ _ [2, 3] (@simI_enum _ _ _ (@simA_cons _ _ _ _ _ (@simE_var _ 0) (@simA_nil _))) (@simG_tup _ (2) _ _ _ (@simGs_cons _ _ _ _ _ _ _ (@simG_name _ 2) (@simGs_cons _ _ _ _ _ _ _ (@simG_name _ 3) (@simGs_nil _)))) (by decide) (@simT_not _ _ _ (@simT_b _ _ _ (@simE_call _ _ _ _ _ (@simA_cons _ _ _ _ _ (@simE_var _ 3) (@simA_cons _ _ _ _ _ (@simE_op _ _ _ _ _ _ _ (@sr_ix _) (@simE_var _ 1) (@simE_var _ 2)) (@simA_nil _)))))) (@simE_var _ 2))) (@simE_of _ _ _ (@simO_lst _ _ _ (@simA_nil _)))))) rfl h
def S_l_bent (RF : FnB) : MS := (seqS (ifS (andT (bT (cbE F_l_whole (consA (varE 1) nilA))) (bT (op2E gtD (cbB F_l_take 0 (consA (cE (.int 3)) nilA)) (cE (.int 0))))) (retS (op2E ixD (frzE (lstA (consA (op2E addD (varE 1) (cE (.int 1))) (consA (op2E subD (varE 1) (cE (.int 1))) (consA (cE (.int 0)) (consA (op2E addD (varE 1) (cE (.int 2000))) (consA (cE (.bool true)) (consA (op2E subD (cE (.int 0)) (varE 1)) nilA)))))))) (cbB F_l_take 0 (consA (cE (.int 6)) nilA)))) nextS)
      (seqS (ifS (orT (notT (bT (op1E (fun d => some (.bool (isTup d))) (varE 1)))) (orT (bT (op2E eqD (varE 1) (tupE nilA))) (bT (op2E eqD (varE 2) (cE (.int 0)))))) (retS (cbB F_l_odd 0 nilA)) nextS)
      (seqS (parS 3 4 (cbB F_l_take 0 (consA (cbE lenD (consA (varE 1) nilA)) nilA)) (cbB F_l_take 0 (consA (cE (.int 9)) nilA)))
      (seqS (ifS (bT (op2E eqD (varE 4) (cE (.int 0)))) (retS (op2E addD (op2E addD (slE (varE 1) noO (someO (varE 3))) (tupE (consA (cbB F_l_odd 0 nilA) nilA))) (slE (varE 1) (someO (varE 3)) noO))) nextS)
      (seqS (ifS (bT (op2E eqD (varE 4) (cE (.int 1)))) (retS (op2E addD (slE (varE 1) noO (someO (varE 3))) (slE (varE 1) (someO (op2E addD (varE 3) (cE (.int 1)))) noO))) nextS)
      (seqS (ifS (bT (op2E eqD (varE 4) (cE (.int 2)))) (retS (op2E ixD (frzE (lstA (consA (frzE (cbO listD (consA (varE 1) nilA))) (consA (revE (varE 1)) (consA (op2E addD (varE 1) (slE (varE 1) (someO (op1E negD (cE (.int 1)))) noO)) nilA))))) (cbB F_l_take 0 (consA (cE (.int 3)) nilA)))) nextS)
      (retS (op2E addD (op2E addD (slE (varE 1) noO (someO (varE 3))) (tupE (consA (cbB RF 0 (consA (op2E ixD (varE 1) (varE 3)) (consA (op2E subD (varE 2) (cE (.int 1))) nilA))) nilA))) (slE (varE 1) (someO (op2E addD (varE 3) (cE (.int 1)))) noO)))))))))
def F_l_bent : Nat → FnB
  | 0 => fun _ _ => none
  | n + 1 => runB 3 2 (S_l_bent (F_l_bent n))
theorem ok_l_bent (T : Txt K mg t) : ∀ n : Nat, FnOk P w K mg base CX0 (3 + n) t.f_l_bent t.d_l_bent ["_law_pot_here", "_law_thing", "_law_deep"] (SpB K (F_l_bent n))
  | 0 => fn_zero fun _ _ _ _ => spB_none
  | n + 1 => by
    have ih := ok_l_bent T n
    show FnOk P w K mg base CX0 (3 + n + 1) t.f_l_bent t.d_l_bent ["_law_pot_here", "_law_thing", "_law_deep"] (SpB K (runB 3 2 (S_l_bent (F_l_bent n))))
    generalize F_l_bent n = RF at ih ⊢
    refine T.F_l_bent.ok sc_l_bent (fun vs H Q E h => lenB h) (fun cdv A outer s H vs Q E hr h => ?_)
    refine ⟨_, (@pss_cons _ _ _ _ _ (@ps_if _ _ _ _ _ _ _ _ (PW.pt (@pw_and _ _ _ _ _ _ _ (@pt_val _ _ _ (@pe_call _ _ _ _ _ _ _ _ _ _ _ _ _ _ _ _ (ok_l_whole T) (hr.mono (by omega)) (by rfl) T.m_l_whole T.F_l_whole.kp T.b_l_whole .nil pass0 (@pa_k _ _ _ _ _ rfl (@pv _ 1 _ _ (by rfl) (by first | exact Or.inl rfl | exact Or.inr (Or.inl rfl) | exact Or.inr (Or.inr rfl)) (by decide) (by decide)) (@pa_nil _)) (by decide) (by rfl) (by rfl)) (by intro _ ; rfl)) (@pw_and1 _ _ _ _ (@pt_cmpR _ _ _ _ _ _ _ _ (@op_gt _) (@pe_call _ _ _ _ _ _ _ _ _ _ _ _ _ _ _ _ (ok_l_take T) (hr.mono (by omega)) (by rfl) T.m_l_take T.F_l_take.kp T.b_l_take .nil pass0 (@pa_k _ _ _ _ _ rfl (@pv _ 0 _ _ (by rfl) (by first | exact Or.inl rfl | exact Or.inr (Or.inl rfl) | exact Or.inr (Or.inr rfl)) (by decide) (by decide)) (@pa_k _ _ _ _ _ rfl (@pe_int _ _ _ _) (@pa_nil _))) (by decide) (by rfl) (by rfl)) (@pe_int _ _ _ _) (nomark _))))) (@pss_one _ _ _ (@ps_ret _ _ _ _ (@pe_ix _ _ _ _ _ _ _ (@kIx _ (K) rfl) (@pe_lst _ _ _ _ (@pa_k _ _ _ _ _ rfl (@pe_op _ _ _ _ _ _ _ _ (@kAdd _ (K) rfl) (@pv _ 1 _ _ (by rfl) (by first | exact Or.inl rfl | exact Or.inr (Or.inl rfl) | exact Or.inr (Or.inr rfl)) (by decide) (by decide)) (@pe_int _ _ _ _)) (@pa_k _ _ _ _ _ rfl (@pe_op _ _ _ _ _ _ _ _ (@op_sub _) (@pv _ 1 _ _ (by rfl) (by first | exact Or.inl rfl | exact Or.inr (Or.inl rfl) | exact Or.inr (Or.inr rfl)) (by decide) (by decide)) (@pe_int _ _ _ _)) (@pa_k _ _ _ _ _ rfl (@pe_int _ _ _ _) (@pa_k _ _ _ _ _ rfl (@pe_op _ _ _ _ _ _ _ _ (@kAdd _ (K) rfl) (@pv _ 1 _ _ (by rfl) (by first | exact Or.inl rfl | exact Or.inr (Or.inl rfl) | exact Or.inr (Or.inr rfl)) (by decide) (by decide)) (@pe_int _ _ _ _)) (@pa_k _ _ _ _ _ rfl (@pe_bl _ _ _ _) (@pa_k _ _ _ _ _ rfl (@pe_op _ _ _ _ _ _ _ _ (@op_sub _) (@pe_int _ _ _ _) (@pv _ 1 _ _ (by rfl) (by first | exact Or.inl rfl | exact Or.inr (Or.inl rfl) | exact Or.inr (Or.inr rfl)) (by decide) (by decide))) (@pa_nil _)))))))) (@pe_call _ _ _ _ _ _ _ _ _ _ _ _ _ _ _ _ (ok_l_take T) (hr.mono (by omega)) (by rfl) T.m_l_take T.F_l_take.kp T.b_l_take .nil pass0 (@pa_k _ _ _ _ _ rfl (@pv _ 0 _ _ (by rfl) (by first | exact Or.inl rfl | exact Or.inr (Or.inl rfl) | exact Or.inr (Or.inr rfl)) (by decide) (by decide)) (@pa_k _ _ _ _ _ rfl (@pe_int _ _ _ _) (@pa_nil _))) (by decide) (by rfl) (by rfl)) (fun _ _ => (rfl))))) (@pss_nil _)) (@pss_cons _ _ _ _ _ (@ps_if _ _ _ _ _ _ _ _ (PW.pt (@pw_or _ _ _ _ _ _ _ (@pt_not _ _ _ _ (@pt_val _ _ _ (@pe_callB _ _ _ _ _ _ _ _ _ (@kIsi _ (K) rfl) (by rfl) T.z_isinstance (by decide +kernel) (@pa_k _ _ _ _ _ rfl (@pv _ 1 _ _ (by rfl) (by first | exact Or.inl rfl | exact Or.inr (Or.inl rfl) | exact Or.inr (Or.inr rfl)) (by decide) (by decide)) (@pa_k _ _ _ _ _ rfl (@pe_bltn _ _ (.ty "tuple") _ _ (by rfl) T.z_tuple (by decide +kernel) rfl (by decide) (by decide)) (@pa_nil _))) (by decide) (by decide) (by rfl) (by rfl)) (by intro _ ; rfl))) (@pw_or _ _ _ _ _ _ _ (@pt_cmpR _ _ _ _ _ _ _ _ (@kEq _ (K) rfl _ hr) (@pv _ 1 _ _ (by rfl) (by first | exact Or.inl rfl | exact Or.inr (Or.inl rfl) | exact Or.inr (Or.inr rfl)) (by decide) (by decide)) (@pe_tup _ _ _ _ _ (@pa_nil _)) (nomark _)) (@pw_or1 _ _ _ _ (@pt_cmpR _ _ _ _ _ _ _ _ (@kEq _ (K) rfl _ hr) (@pv _ 2 _ _ (by rfl) (by first | exact Or.inl rfl | exact Or.inr (Or.inl rfl) | exact Or.inr (Or.inr rfl)) (by decide) (by decide)) (@pe_int _ _ _ _) (nomark _)))))) (@pss_one _ _ _ (@ps_ret _ _ _ _ (@pe_call _ _ _ _ _ _ _ _ _ _ _ _ _ _ _ _ (ok_l_odd T) (hr.mono (by omega)) (by rfl) T.m_l_odd T.F_l_odd.kp T.b_l_odd .nil pass0 (@pa_k _ _ _ _ _ rfl (@pv _ 0 _ _ (by rfl) (by first | exact Or.inl rfl | exact Or.inr (Or.inl rfl) | exact Or.inr (Or.inr rfl)) (by decide) (by decide)) (@pa_nil _)) (by decide) (by rfl) (by rfl)))) (@pss_nil _)) (@pss_cons _ _ _ _ _ (@ps_par _ _ (3) (4) _ _ _ _ _ _ _ _ _ _ _ (by rfl) sc_l_bent.nd rfl rfl (by decide) rfl rfl (@pa_k _ _ _ _ _ rfl (@pe_call _ _ _ _ _ _ _ _ _ _ _ _ _ _ _ _ (ok_l_take T) (hr.mono (by omega)) (by rfl) T.m_l_take T.F_l_take.kp T.b_l_take .nil pass0 (@pa_k _ _ _ _ _ rfl (@pv _ 0 _ _ (by rfl) (by first | exact Or.inl rfl | exact Or.inr (Or.inl rfl) | exact Or.inr (Or.inr rfl)) (by decide) (by decide)) (@pa_k _ _ _ _ _ rfl (@pe_callB _ _ _ _ _ _ _ _ _ (@kLen _ (K) rfl) (by rfl) T.z_len (by decide +kernel) (@pa_k _ _ _ _ _ rfl (@pv _ 1 _ _ (by rfl) (by first | exact Or.inl rfl | exact Or.inr (Or.inl rfl) | exact Or.inr (Or.inr rfl)) (by decide) (by decide)) (@pa_nil _)) (by decide) (by decide) (by rfl) (by rfl)) (@pa_nil _))) (by decide) (by rfl) (by rfl)) (@pa_k _ _ _ _ _ rfl (@pe_call _ _ _ _ _ _ _ _ _ _ _ _ _ _ _ _ (ok_l_take T) (hr.mono (by omega)) (by rfl) T.m_l_take T.F_l_take.kp T.b_l_take .nil pass0 (@pa_k _ _ _ _ _ rfl (@pv _ 0 _ _ (by rfl) (by first | exact Or.inl rfl | exact Or.inr (Or.inl rfl) | exact Or.inr (Or.inr rfl)) (by decide) (by decide)) (@pa_k _ _ _ _ _ rfl (@pe_int _ _ _ _) (@pa_nil _))) (by decide) (by rfl) (by rfl)) (@pa_nil _))) (by rfl) (by rfl)) (@pss_cons _ _ _ _ _ (@ps_if _ _ _ _ _ _ _ _ (@pt_cmpR _ _ _ _ _ _ _ _ (@kEq _ (K) rfl _ hr) (@pv _ 4 _ _ (by rfl) (by first | exact Or.inl rfl | exact Or.inr (Or.inl rfl) | exact Or.inr (Or.inr rfl)) (by decide) (by decide)) (@pe_int _ _ _ _) (nomark _)) (@pss_one _ _ _ (@ps_ret _ _ _ _ (@pe_op _ _ _ _ _ _ _ _ (@kAdd _ (K) rfl) (@pe_op _ _ _ _ _ _ _ _ (@kAdd _ (K) rfl) (@pe_slice _ _ _ _ _ _ _ _ _ _ (@kSl _ (K) rfl) (@pv _ 1 _ _ (by rfl) (by first | exact Or.inl rfl | exact Or.inr (Or.inl rfl) | exact Or.inr (Or.inr rfl)) (by decide) (by decide)) (@po_none _) (@po_some _ _ _ (@pv _ 3 _ _ (by rfl) (by first | exact Or.inl rfl | exact Or.inr (Or.inl rfl) | exact Or.inr (Or.inr rfl)) (by decide) (by decide)))) (@pe_tup _ _ _ _ _ (@pa_k _ _ _ _ _ rfl (@pe_call _ _ _ _ _ _ _ _ _ _ _ _ _ _ _ _ (ok_l_odd T) (hr.mono (by omega)) (by rfl) T.m_l_odd T.F_l_odd.kp T.b_l_odd .nil pass0 (@pa_k _ _ _ _ _ rfl (@pv _ 0 _ _ (by rfl) (by first | exact Or.inl rfl | exact Or.inr (Or.inl rfl) | exact Or.inr (Or.inr rfl)) (by decide) (by decide)) (@pa_nil _)) (by decide) (by rfl) (by rfl)) (@pa_nil _)))) (@pe_slice _ _ _ _ _ _ _ _ _ _ (@kSl _ (K) rfl) (@pv _ 1 _ _ (by rfl) (by first | exact Or.inl rfl | exact Or.inr (Or.inl rfl) | exact Or.inr (Or.inr rfl)) (by decide) (by decide)) (@po_some _ _ _ (@pv _ 3 _ _ (by rfl) (by first | exact Or.inl rfl | exact Or.inr (Or.inl rfl) | exact Or.inr (Or.inr rfl)) (by decide) (by decide))) (@po_none _))))) (@pss_nil _)) (@pss_cons _ _ _ _ _ (@ps_if _ _ _ _ _ _ _ _ (@pt_cmpR _ _ _ _ _ _ _ _ (@kEq _ (K) rfl _ hr) (@pv _ 4 _ _ (by rfl) (by first | exact Or.inl rfl | exact Or.inr (Or.inl rfl) | exact Or.inr (Or.inr rfl)) (by decide) (by decide)) (@pe_int _ _ _ _) (nomark _)) (@pss_one _ _ _ (@ps_ret _ _ _ _ (@pe_op _ _ _ _ _ _ _ _ (@kAdd _ (K) rfl) (@pe_slice _ _ _ _ _ _ _ _ _ _ (@kSl _ (K) rfl) (@pv _ 1 _ _ (by rfl) (by first | exact Or.inl rfl | exact Or.inr (Or.inl rfl) | exact Or.inr (Or.inr rfl)) (by decide) (by decide)) (@po_none _) (@po_some _ _ _ (@pv _ 3 _ _ (by rfl) (by first | exact Or.inl rfl | exact Or.inr (Or.inl rfl) | exact Or.inr (Or.inr rfl)) (by decide) (by decide)))) (@pe_slice _ _ _ _ _ _ _ _ _ _ (@kSl _ (K) rfl) (@pv _ 1 _ _ (by rfl) (by first | exact Or.inl rfl | exact Or.inr (Or.inl rfl) | exact Or.inr (Or.inr rfl)) (by decide) (by decide)) (@po_some _ _ _ (@pe_op _ _ _ _ _ _ _ _ (@kAdd _ (K) rfl) (@pv _ 3 _ _ (by rfl) (by first | exact Or.inl rfl | exact Or.inr (Or.inl rfl) | exact Or.inr (Or.inr rfl)) (by decide) (by decide)) (@pe_int _ _ _ _))) (@po_none _))))) (@pss_nil _)) (@pss_cons _ _ _ _ _ (@ps_if _ _ _ _ _ _ _ _ (@pt_cmpR _ _ _ _ _ _ _ _ (@kEq _ (K) rfl _ hr) (@pv _ 4 _ _ (by rfl) (by first | exact Or.inl rfl | exact Or.inr (Or.inl rfl) | exact Or.inr (Or.inr rfl)) (by decide) (by decide)) (@pe_int _ _ _ _) (nomark _)) (@pss_one _ _ _ (@ps_ret _ _ _ _ (@pe_ix _ _ _ _ _ _ _ (@kIx _ (K) rfl) (@pe_lst _ _ _ _ (@pa_k _ _ _ _ _ rfl (@pe_callTy _ _ _ _ _ _ _ _ _ (@kList _ (K) rfl) (by rfl) T.z_list (by decide +kernel) (@pa_k _ _ _ _ _ rfl (@pv _ 1 _ _ (by rfl) (by first | exact Or.inl rfl | exact Or.inr (Or.inl rfl) | exact Or.inr (Or.inr rfl)) (by decide) (by decide)) (@pa_nil _)) (by decide) (by decide) (by rfl) (by rfl)) (@pa_k _ _ _ _ _ rfl (@pe_revK (K) _ rfl _ _ _ _ _ _ _ (@pv _ 1 _ _ (by rfl) (by first | exact Or.inl rfl | exact Or.inr (Or.inl rfl) | exact Or.inr (Or.inr rfl)) (by decide) (by decide))) (@pa_k _ _ _ _ _ rfl (@pe_op _ _ _ _ _ _ _ _ (@kAdd _ (K) rfl) (@pv _ 1 _ _ (by rfl) (by first | exact Or.inl rfl | exact Or.inr (Or.inl rfl) | exact Or.inr (Or.inr rfl)) (by decide) (by decide)) (@pe_slice _ _ _ _ _ _ _ _ _ _ (@kSl _ (K) rfl) (@pv _ 1 _ _ (by rfl) (by first | exact Or.inl rfl | exact Or.inr (Or.inl rfl) | exact Or.inr (Or.inr rfl)) (by decide) (by decide)) (@po_some _ _ _ (@pe_un _ _ _ _ _ _ (@un_neg _) (@pe_int _ _ _ _))) (@po_none _))) (@pa_nil _))))) (@pe_call _ _ _ _ _ _ _ _ _ _ _ _ _ _ _ _ (ok_l_take T) (hr.mono (by omega)) (by rfl) T.m_l_take T.F_l_take.kp T.b_l_take .nil pass0 (@pa_k _ _ _ _ _ rfl (@pv _ 0 _ _ (by rfl) (by first | exact Or.inl rfl | exact Or.inr (Or.inl rfl) | exact Or.inr (Or.inr rfl)) (by decide) (by decide)) (@pa_k _ _ _ _ _ rfl (@pe_int _ _ _ _) (@pa_nil _))) (by decide) (by rfl) (by rfl)) (fun _ _ => (rfl))))) (@pss_nil _)) (@pss_one _ _ _ (@ps_ret _ _ _ _ (@pe_op _ _ _ _ _ _ _ _ (@kAdd _ (K) rfl) (@pe_op _ _ _ _ _ _ _ _ (@kAdd _ (K) rfl) (@pe_slice _ _ _ _ _ _ _ _ _ _ (@kSl _ (K) rfl) (@pv _ 1 _ _ (by rfl) (by first | exact Or.inl rfl | exact Or.inr (Or.inl rfl) | exact Or.inr (Or.inr rfl)) (by decide) (by decide)) (@po_none _) (@po_some _ _ _ (@pv _ 3 _ _ (by rfl) (by first | exact Or.inl rfl | exact Or.inr (Or.inl rfl) | exact Or.inr (Or.inr rfl)) (by decide) (by decide)))) (@pe_tup _ _ _ _ _ (@pa_k _ _ _ _ _ rfl (@pe_call _ _ _ _ _ _ _ _ _ _ _ _ _ _ _ _ ih (hr.mono (by omega)) (by rfl) T.m_l_bent T.F_l_bent.kp T.b_l_bent .nil pass0 (@pa_k _ _ _ _ _ rfl (@pv _ 0 _ _ (by rfl) (by first | exact Or.inl rfl | exact Or.inr (Or.inl rfl) | exact Or.inr (Or.inr rfl)) (by decide) (by decide)) (@pa_k _ _ _ _ _ rfl (@pe_ix _ _ _ _ _ _ _ (@kIx _ (K) rfl) (@pv _ 1 _ _ (by rfl) (by first | exact Or.inl rfl | exact Or.inr (Or.inl rfl) | exact Or.inr (Or.inr rfl)) (by decide) (by decide)) (@pv _ 3 _ _ (by rfl) (by first | exact Or.inl rfl | exact Or.inr (Or.inl rfl) | exact Or.inr (Or.inr rfl)) (by decide) (by decide)) (fun _ _ => (rfl))) (@pa_k _ _ _ _ _ rfl (@pe_op _ _ _ _ _ _ _ _ (@op_sub _) (@pv _ 2 _ _ (by rfl) (by first | exact Or.inl rfl | exact Or.inr (Or.inl rfl) | exact Or.inr (Or.inr rfl)) (by decide) (by decide)) (@pe_int _ _ _ _)) (@pa_nil _)))) (by decide) (by rfl) (by rfl)) (@pa_nil _)))) (@pe_slice _ _ _ _ _ _ _ _ _ _ (@kSl _ (K) rfl) (@pv _ 1 _ _ (by rfl) (by first | exact Or.inl rfl | exact Or.inr (Or.inl rfl) | exact Or.inr (Or.inr rfl)) (by decide) (by decide)) (@po_some _ _ _ (@pe_op _ _ _ _ _ _ _ _ (@kAdd _ (K) rfl) (@pv _ 3 _ _ (by rfl) (by first | exact Or.inl rfl | exact Or.inr (Or.inl rfl) | exact Or.inr (Or.inr rfl)) (by decide) (by decide)) (@pe_int _ _ _ _))) (@po_none _))))))))))), ?_⟩
    exact fnB (np := 3) (nl := 2) (S := S_l_bent RF) (K := K) (@simS_seq _ _ _ _ _ (@simS_if _ _ _ _ _ _ _ (@simT_and _ _ _ _ _ (@simT_b _ _ _ (@simE_call _ _ _ _ _ (@simA_cons _ _ _ _ _ (@simE_var _ 1) (@simA_nil _)))) (@simT_test _ _ _ (@simE_op _ _ _ _ _ _ _ (@sr_gt _) (@simE_callB _ _ (0) _ _ _ (@simA_cons _ _ _ _ _ (@simE_int _ 3) (@simA_nil _))) (@simE_int _ 0)))) (@simS_ret _ _ _ (@simE_op _ _ _ _ _ _ _ (@sr_ix _) (@simE_of _ _ _ (@simO_lst _ _ _ (@simA_cons _ _ _ _ _ (@simE_op _ _ _ _ _ _ _ (@sr_add _) (@simE_var _ 1) (@simE_int _ 1)) (@simA_cons _ _ _ _ _ (@simE_op _ _ _ _ _ _ _ (@sr_sub _) (@simE_var _ 1) (@simE_int _ 1)) (@simA_cons _ _ _ _ _ (@simE_int _ 0) (@simA_cons _ _ _ _ _ (@simE_op _ _ _ _ _ _ _ (@sr_add _) (@simE_var _ 1) (@simE_int _ 2000)) (@simA_cons _ _ _ _ _ (@simE_bl _ true) (@simA_cons _ _ _ _ _ (@simE_op _ _ _ _ _ _ _ (@sr_sub _) (@simE_int _ 0) (@simE_var _ 1)) (@simA_nil _))))))))) (@simE_callB _ _ (0) _ _ _ (@simA_cons _ _ _ _ _ (@simE_int _ 6) (@simA_nil _))))) (@simS_next _)) (@simS_seq _ _ _ _ _ (@simS_if _ _ _ _ _ _ _ (@simT_or _ _ _ _ _ (@simT_not _ _ _ (@simT_b _ _ _ (@simE_isi _ _ (isTup) (kit_tuple K) _ _ (@simE_var _ 1)))) (@simT_or _ _ _ _ _ (@simT_test _ _ _ (@simE_op _ _ _ _ _ _ _ (@sr_eq _) (@simE_var _ 1) (@simE_tup _ _ _ (@simA_nil _)))) (@simT_test _ _ _ (@simE_op _ _ _ _ _ _ _ (@sr_eq _) (@simE_var _ 2) (@simE_int _ 0))))) (@simS_ret _ _ _ (@simE_callB _ _ (0) _ _ _ (@simA_nil _))) (@simS_next _)) (@simS_seq _ _ _ _ _ (@simS_par _ _ _ _ _ _ _ (@simE_callB _ _ (0) _ _ _ (@simA_cons _ _ _ _ _ (@simE_cb _ _ _ _ _ (@sr_len _) (@simA_cons _ _ _ _ _ (@simE_var _ 1) (@simA_nil _))) (@simA_nil _))) (@simE_callB _ _ (0) _ _ _ (@simA_cons _ _ _ _ _ (@simE_int _ 9) (@simA_nil _)))) (@simS_seq _ _ _ _ _ (@simS_if _ _ _ _ _ _ _ (@simT_test _ _ _ (@simE_op _ _ _ _ _ _ _ (@sr_eq _) (@simE_var _ 4) (@simE_int _ 0))) (@simS_ret _ _ _ (@simE_op _ _ _ _ _ _ _ (@sr_add _) (@simE_op _ _ _ _ _ _ _ (@sr_add _) (@simE_sl _ _ _ _ _ _ _ (@simE_var _ 1) (@simOp_none _) (@simOp_some _ _ _ (@simE_var _ 3))) (@simE_tup _ _ _ (@simA_cons _ _ _ _ _ (@simE_callB _ _ (0) _ _ _ (@simA_nil _)) (@simA_nil _)))) (@simE_sl _ _ _ _ _ _ _ (@simE_var _ 1) (@simOp_some _ _ _ (@simE_var _ 3)) (@simOp_none _)))) (@simS_next _)) (@simS_seq _ _ _ _ _ (@simS_if _ _ _ _ _ _ _ (@simT_test _ _ _ (@simE_op _ _ _ _ _ _ _ (@sr_eq _) (@simE_var _ 4) (@simE_int _ 1))) (@simS_ret _ _ _ (@simE_op _ _ _ _ _ _ _ (@sr_add _) (@simE_sl _ _ _ _ _ _ _ (@simE_var _ 1) (@simOp_none _) (@simOp_some _ _ _ (@simE_var _ 3))) (@simE_sl _ _ _ _ _ _ _ (@simE_var _ 1) (@simOp_some _ _ _ (@simE_op _ _ _ _ _ _ _ (@sr_add _) (@simE_var _ 3) (@simE_int _ 1))) (@simOp_none _)))) (@simS_next _)) (@simS_seq _ _ _ _ _ (@simS_if _ _ _ _ _ _ _ (@simT_test _ _ _ (@simE_op _ _ _ _ _ _ _ (@sr_eq _) (@simE_var _ 4) (@simE_int _ 2))) (@simS_ret _ _ _ (@simE_op _ _ _ _ _ _ _ (@sr_ix _) (@simE_of _ _ _ (@simO_lst _ _ _ (@simA_cons _ _ _ _ _ (@simE_of _ _ _ (@simO_cb _ _ _ _ _ (@sr_list _) (@simA_cons _ _ _ _ _ (@simE_var _ 1) (@simA_nil _)))) (@simA_cons _ _ _ _ _ (@simE_rev _ _ _ (@simE_var _ 1)) (@simA_cons _ _ _ _ _ (@simE_op _ _ _ _ _ _ _ (@sr_add _) (@simE_var _ 1) (@simE_sl _ _ _ _ _ _ _ (@simE_var _ 1) (@simOp_some _ _ _ (@simE_un _ _ _ _ _ (@sr_neg _) (@simE_int _ 1))) (@simOp_none _))) (@simA_nil _)))))) (@simE_callB _ _ (0) _ _ _ (@simA_cons _ _ _ _ _ (@simE_int _ 3) (@simA_nil _))))) (@simS_next _)) (@simS_ret _ _ _ (@simE_op _ _ _ _ _ _ _ (@sr_add _) (@simE_op _ _ _ _ _ _ _ (@sr_add _) (@simE_sl _ _ _ _ _ _ _ (@simE_var _ 1) (@simOp_none _) (@simOp_some _ _ _ (@simE_var _ 3))) (@simE_tup _ _ _ (@simA_cons _ _ _ _ _ (@simE_callB _ _ (0) _ _ _ (@simA_cons _ _ _ _ _ (@simE_op _ _ _ _ _ _ _ (@sr_ix _) (@simE_var _ 1) (@simE_var _ 3)) (@simA_cons _ _ _ _ _ (@simE_op _ _ _ _ _ _ _ (@sr_sub _) (@simE_var _ 2) (@simE_int _ 1)) (@simA_nil _)))) (@simA_nil _)))) (@simE_sl _ _ _ _ _ _ _ (@simE_var _ 1) (@simOp_some _ _ _ (@simE_op _ _ _ _ _ _ _ (@sr_add _) (@simE_var _ 3) (@simE_int _ 1))) (@simOp_none _)))))))))) rfl h
def S_p_check_book : MS := (ifS (notT (bT (cbE F_p_is_book (consA (varE 0) nilA)))) nevS nextS)
def F_p_check_book : Fn := runF 1 0 S_p_check_book
theorem ok_p_check_book (T : Txt K mg t) : FnOk P w K mg base CX0 4 t.f_p_check_book t.d_p_check_book ["book"] (SpF K F_p_check_book) := by
  refine T.F_p_check_book.ok sc_p_check_book (fun vs H Q E h => lenF h) (fun cdv A outer s H vs Q E hr h => ?_)
  refine ⟨_, (@pss_one _ _ _ (@ps_if _ _ _ _ _ _ _ _ (@pt_not _ _ _ _ (@pt_val _ _ _ (@pe_call _ _ _ _ _ _ _ _ _ _ _ _ _ _ _ _ (ok_p_is_book T) (hr.mono (by omega)) (by rfl) T.m_p_is_book T.F_p_is_book.kp T.b_p_is_book .nil pass0 (@pa_k _ _ _ _ _ rfl (@pv _ 0 _ _ (by rfl) (by first | exact Or.inl rfl | exact Or.inr (Or.inl rfl) | exact Or.inr (Or.inr rfl)) (by decide) (by decide)) (@pa_nil _)) (by decide) (by rfl) (by rfl)) (by intro _ ; rfl))) (@pss_one _ _ _ (@ps_never _ _)) (@pss_nil _))), ?_⟩
  exact fnF (np := 1) (nl := 0) (S := S_p_check_book) (K := K) (@simS_if _ _ _ _ _ _ _ (@simT_not _ _ _ (@simT_b _ _ _ (@simE_call _ _ _ _ _ (@simA_cons _ _ _ _ _ (@simE_var _ 0) (@simA_nil _))))) (@simS_nev _ _) (@simS_next _)) rfl h
def S_p_check_plain : MS := (seqS (exprS (cbE F_p_check_book (consA (varE 0) nilA)))
      (ifS (notT (bT (cbE F_p_is_plain (consA (varE 0) nilA)))) nevS nextS))
def F_p_check_plain : Fn := runF 1 0 S_p_check_plain
theorem ok_p_check_plain (T : Txt K mg t) : FnOk P w K mg base CX0 5 t.f_p_check_plain t.d_p_check_plain ["book"] (SpF K F_p_check_plain) := by
  refine T.F_p_check_plain.ok sc_p_check_plain (fun vs H Q E h => lenF h) (fun cdv A outer s H vs Q E hr h => ?_)
  refine ⟨_, (@pss_cons _ _ _ _ _ (@ps_expr _ _ _ _ (@pe_call _ _ _ _ _ _ _ _ _ _ _ _ _ _ _ _ (ok_p_check_book T) (hr.mono (by omega)) (by rfl) T.m_p_check_book T.F_p_check_book.kp T.b_p_check_book .nil pass0 (@pa_k _ _ _ _ _ rfl (@pv _ 0 _ _ (by rfl) (by first | exact Or.inl rfl | exact Or.inr (Or.inl rfl) | exact Or.inr (Or.inr rfl)) (by decide) (by decide)) (@pa_nil _)) (by decide) (by rfl) (by rfl)) (by rfl)) (@pss_one _ _ _ (@ps_if _ _ _ _ _ _ _ _ (@pt_not _ _ _ _ (@pt_val _ _ _ (@pe_call _ _ _ _ _ _ _ _ _ _ _ _ _ _ _ _ (ok_p_is_plain T) (hr.mono (by omega)) (by rfl) T.m_p_is_plain T.F_p_is_plain.kp T.b_p_is_plain .nil pass0 (@pa_k _ _ _ _ _ rfl (@pv _ 0 _ _ (by rfl) (by first | exact Or.inl rfl | exact Or.inr (Or.inl rfl) | exact Or.inr (Or.inr rfl)) (by decide) (by decide)) (@pa_nil _)) (by decide) (by rfl) (by rfl)) (by intro _ ; rfl))) (@pss_one _ _ _ (@ps_never _ _)) (@pss_nil _)))), ?_⟩
  exact fnF (np := 1) (nl := 0) (S := S_p_check_plain) (K := K) (@simS_seq _ _ _ _ _ (@simS_expr _ _ _ (@simE_call _ _ _ _ _ (@simA_cons _ _ _ _ _ (@simE_var _ 0) (@simA_nil _)))) (@simS_if _ _ _ _ _ _ _ (@simT_not _ _ _ (@simT_b _ _ _ (@simE_call _ _ _ _ _ (@simA_cons _ _ _ _ _ (@simE_var _ 0) (@simA_nil _))))) (@simS_nev _ _) (@simS_next _))) rfl h
def A_p_is_truth_1 : MA := (lcA (zipA (consA (varE 0) (consA (varE 1) nilA))) (tupG 2 (consG (nameG 2) (consG (nameG 3) nilG))) yesT (cbE F_p_may_stand_for (consA (varE 2) (consA (varE 3) nilA))) [2, 3])
def S_p_is_truth : MS := (seqS (exprS (cbE F_p_check_plain (consA (varE 0) nilA)))
      (seqS (ifS (orT (notT (bT (op1E (fun d => some (.bool (isTup d))) (varE 1)))) (bT (op2E neD (cbE lenD (consA (varE 1) nilA)) (cbE lenD (consA (varE 0) nilA))))) (retS (cE (.bool false))) nextS)
      (retS (cbE allD (consA (frzE A_p_is_truth_1) nilA)))))
def F_p_is_truth : Fn := runF 2 2 S_p_is_truth
theorem ok_p_is_truth (T : Txt K mg t) : FnOk P w K mg base CX0 6 t.f_p_is_truth t.d_p_is_truth ["book", "thing"] (SpF K F_p_is_truth) := by
  refine T.F_p_is_truth.ok sc_p_is_truth (fun vs H Q E h => lenF h) (fun cdv A outer s H vs Q E hr h => ?_)
  refine ⟨_, (@pss_cons _ _ _ _ _ (@ps_expr _ _ _ _ (@pe_call _ _ _ _ _ _ _ _ _ _ _ _ _ _ _ _ (ok_p_check_plain T) (hr.mono (by omega)) (by rfl) T.m_p_check_plain T.F_p_check_plain.kp T.b_p_check_plain .nil pass0 (@pa_k _ _ _ _ _ rfl (@pv _ 0 _ _ (by rfl) (by first | exact Or.inl rfl | exact Or.inr (Or.inl rfl) | exact Or.inr (Or.inr rfl)) (by decide) (by decide)) (@pa_nil _)) (by decide) (by rfl) (by rfl)) (by rfl)) (@pss_cons _ _ _ _ _ (@ps_if _ _ _ _ _ _ _ _ (PW.pt (@pw_or _ _ _ _ _ _ _ (@pt_not _ _ _ _ (@pt_val _ _ _ (@pe_callB _ _ _ _ _ _ _ _ _ (@kIsi _ (K) rfl) (by rfl) T.z_isinstance (by decide +kernel) (@pa_k _ _ _ _ _ rfl (@pv _ 1 _ _ (by rfl) (by first | exact Or.inl rfl | exact Or.inr (Or.inl rfl) | exact Or.inr (Or.inr rfl)) (by decide) (by decide)) (@pa_k _ _ _ _ _ rfl (@pe_bltn _ _ (.ty "tuple") _ _ (by rfl) T.z_tuple (by decide +kernel) rfl (by decide) (by decide)) (@pa_nil _))) (by decide) (by decide) (by rfl) (by rfl)) (by intro _ ; rfl))) (@pw_or1 _ _ _ _ (@pt_cmpR _ _ _ _ _ _ _ _ (@kNe _ (K) rfl _ hr) (@pe_callB _ _ _ _ _ _ _ _ _ (@kLen _ (K) rfl) (by rfl) T.z_len (by decide +kernel) (@pa_k _ _ _ _ _ rfl (@pv _ 1 _ _ (by rfl) (by first | exact Or.inl rfl | exact Or.inr (Or.inl rfl) | exact Or.inr (Or.inr rfl)) (by decide) (by decide)) (@pa_nil _)) (by decide) (by decide) (by rfl) (by rfl)) (@pe_callB _ _ _ _ _ _ _ _ _ (@kLen _ (K) rfl) (by rfl) T.z_len (by decide +kernel) (@pa_k _ _ _ _ _ rfl (@pv _ 0 _ _ (by rfl) (by first | exact Or.inl rfl | exact Or.inr (Or.inl rfl) | exact Or.inr (Or.inr rfl)) (by decide) (by decide)) (@pa_nil _)) (by decide) (by decide) (by rfl) (by rfl)) (nomark _))))) (@pss_one _ _ _ (@ps_ret _ _ _ _ (@pe_bl _ _ _ _))) (@pss_nil _)) (@pss_one _ _ _ (@ps_ret _ _ _ _ (@pe_callB _ _ _ _ _ _ _ _ _ (@kAll _ (K) rfl (by rfl)) (by rfl) T.z_all (by decide +kernel) (@pa_k _ _ _ _ _ rfl (@pe_lc _ _ _ _ _ _ [("span", 2), ("part", 3)] _ _ (gTup K 2 (gCons (gName 2) (gCons (gName 3) gNil))) _ _ (by rfl) sc_p_is_truth.nd (@pi_zipU (K) _ rfl _ _ _ _ _ _ _ _ (by rfl) T.z_zip (@pa_k _ _ _ _ _ rfl (@pv _ 0 _ _ (by rfl) (by first | exact Or.inl rfl | exact Or.inr (Or.inl rfl) | exact Or.inr (Or.inr rfl)) (by decide) (by decide)) (@pa_k _ _ _ _ _ rfl (@pv _ 1 _ _ (by rfl) (by first | exact Or.inl rfl | exact Or.inr (Or.inl rfl) | exact Or.inr (Or.inr rfl)) (by decide) (by decide)) (@pa_nil _))) (by rfl) (by rfl)) (blkOk_by (own := [("span", 2), ("part", 3)]) (N := N_p_is_truth) (sc := defScope s_p_is_truth) (by decide +kernel)) (fun _ _ _ _ _ => (@kPgTup _ (K) _ _ _ _ _ rfl (@pg_tup _ _ _ _ _ _ (by rfl) (@pgs_cons _ _ _ _ _ (@pg_name _ _ (2) _ sc_p_is_truth.nd rfl (by first | exact Or.inl rfl | exact Or.inr rfl) (by first | exact .inl rfl | exact .inr rfl | assumption)) (@pgs_cons _ _ _ _ _ (@pg_name _ _ (3) _ sc_p_is_truth.nd rfl (by first | exact Or.inl rfl | exact Or.inr rfl) (by first | exact .inl rfl | exact .inr rfl | assumption)) (@pgs_nil _) (by rfl)) (by rfl)) (by rfl) (by rfl)))) (fun _ _ _ _ _ => (@pts_nil _)) (fun _ _ _ _ _ => (@pe_call _ _ _ _ _ _ _ _ _ _ _ _ _ _ _ _ (ok_p_may_stand_for T) (hr.mono (by omega)) (by rfl) T.m_p_may_stand_for T.F_p_may_stand_for.kp T.b_p_may_stand_for .nil pass0 (@pa_k _ _ _ _ _ rfl (@pv _ 2 _ _ (by rfl) (by first | exact Or.inl rfl | exact Or.inr (Or.inl rfl) | exact Or.inr (Or.inr rfl)) (by decide) (by decide)) (@pa_k _ _ _ _ _ rfl (@pv _ 3 _ _ (by rfl) (by first | exact Or.inl rfl | exact Or.inr (Or.inl rfl) | exact Or.inr (Or.inr rfl)) (by decide) (by decide)) (@pa_nil _))) (by decide) (by rfl) (by rfl))) (by intro _ ; rfl)) (@pa_nil _)) (by decide) (by decide) (by rfl) (by rfl)))))), ?_⟩
  exact fnF (np := 2) (nl := 2) (S := S_p_is_truth) (K := K) (@simS_seq _ _ _ _ _ (@simS_expr _ _ _ (@simE_call _ _ _ _ _ (@simA_cons _ _ _ _ _ (@simE_var _ 0) (@simA_nil _)))) (@simS_seq _ _ _ _ _ (@simS_if _ _ _ _ _ _ _ (@simT_or _ _ _ _ _ (@simT_not _ _ _ (@simT_b _ _ _ (@simE_isi _ _ (isTup) (kit_tuple K) _ _ (@simE_var _ 1)))) (@simT_test _ _ _ (@simE_op _ _ _ _ _ _ _ (@sr_ne _) (@simE_cb _ _ _ _ _ (@sr_len _) (@simA_cons _ _ _ _ _ (@simE_var _ 1) (@simA_nil _))) (@simE_cb _ _ _ _ _ (@sr_len _) (@simA_cons _ _ _ _ _ (@simE_var _ 0) (@simA_nil _)))))) (@simS_ret _ _ _ (@simE_bl _ false)) (@simS_next _)) (@simS_ret _ _ _ (@simE_cb _ _ _ _ _ (@sr_all _) (@simA_cons _ _ _ _ _ (@simE_of _ _ _ (@simO_lc _ _ _ _ _ _ _ _ _ _ [2, 3] (@simI_zip _ _ _ (@simA_cons _ _ _ _ _ (@simE_var _ 0) (@simA_cons _ _ _ _ _ (@simE_var _ 1) (@simA_nil _)))) (@simG_tup _ (2) _ _ _ (@simGs_cons _ _ _ _ _ _ _ (@simG_name _ 2) (@simGs_cons _ _ _ _ _ _ _ (@simG_name _ 3) (@simGs_nil _)))) (by decide) (@simT_yes _) (@simE_call _ _ _ _ _ (@simA_cons _ _ _ _ _ (@simE_var _ 2) (@simA_cons _ _ _ _ _ (@simE_var _ 3) (@simA_nil _)))))) (@simA_nil _)))))) rfl h
def A_l_things_1 : MA := (lcA (itA (varE 5)) (nameG 7) yesT (op2E addD (op2E addD (slE (op2E ixD (varE 2) (cE (.int 0))) noO (someO (varE 3))) (tupE (consA (varE 7) nilA))) (slE (op2E ixD (varE 2) (cE (.int 0))) (someO (op2E addD (varE 3) (cE (.int 1)))) noO)) [7])
def B_l_things_1 : MS := (asgS (op2E addD (varE 6) (frzE (lstA (consA (cbB (F_l_bent 5) 0 (consA (op2E ixD (varE 2) (cbB F_l_take 0 (consA (cE (.int 3)) nilA))) (consA (cE (.int 3)) nilA))) (consA (cbB F_l_odd 0 nilA) nilA))))) (nameG 6))
def S_l_things : MS := (seqS (asgS (frzE (lstA (consA (cbB F_l_truth 0 (consA (varE 1) nilA)) (consA (cbE F_l_soonest (consA (varE 1) nilA)) (consA (cbE F_l_latest (consA (varE 1) nilA)) nilA))))) (nameG 2))
      (seqS (asgS (cbB F_l_take 0 (consA (cbE lenD (consA (varE 1) nilA)) nilA)) (nameG 3))
      (seqS (asgS (op2E ixD (varE 1) (varE 3)) (nameG 4))
      (seqS (asgS (frzE (lstA (consA (varE 4) (consA (tupE (consA (cE (.int 0)) (consA (op2E ixD (varE 4) (cE (.int 1))) (consA (cE (.int 1)) nilA)))) (consA (tupE (consA (cE (.int 0)) (consA (op2E addD (op2E ixD (varE 4) (cE (.int 1))) (cE (.int 1))) (consA (cE (.int 4)) nilA)))) (consA (tupE (consA (cE (.int 0)) (consA (cE (.int 2000)) (consA (cE (.int 2)) nilA)))) (consA (tupE (consA (cE (.int 0)) (consA (cE (.int 2001)) (consA (cE (.int 1)) nilA)))) (consA (tupE (consA (cE (.int 1)) (consA (cE (.int 1999)) (consA (cE (.int 1)) nilA)))) (consA (tupE (consA (cE (.int 0)) (consA (cE (.int 1999)) (consA (cE (.int 0)) nilA)))) nilA))))))))) (nameG 5))
      (seqS (asgS (op2E addD (varE 5) (frzE (lstA (consA (tupE (consA (cE (.int 0)) (consA (op2E addD (op2E ixD (varE 4) (cE (.int 1))) (cE (.int 1))) (consA (cE (.int 5)) nilA)))) (consA (tupE (consA (cE (.int 0)) (consA (op2E addD (op2E ixD (varE 4) (cE (.int 1))) (cE (.int 1))) (consA (cE (.bool true)) nilA)))) (consA (frzE (lstA (consA (cE (.int 0)) (consA (cE (.int 2000)) (consA (cE (.int 1)) nilA))))) (consA (tupE (consA (cE (.int 0)) (consA (cE (.int 2000)) nilA))) (consA (cE .none) (consA (tupE (consA (cE (.bool false)) (consA (cE (.int 2000)) (consA (cE (.int 1)) nilA)))) nilA))))))))) (nameG 5))
      (seqS (asgS (op2E addD (varE 2) (frzE (lstA (consA (varE 1) (consA (frzE (cbO listD (consA (op2E ixD (varE 2) (cE (.int 0))) nilA))) (consA (slE (op2E ixD (varE 2) (cE (.int 0))) (someO (cE (.int 1))) noO) (consA (op2E addD (op2E ixD (varE 2) (cE (.int 0))) (slE (op2E ixD (varE 2) (cE (.int 0))) noO (someO (cE (.int 1))))) (consA (tupE nilA) (consA (cE .none) (consA (revE (op2E ixD (varE 2) (cE (.int 0)))) nilA)))))))))) (nameG 6))
      (seqS (asgS (op2E addD (varE 6) (frzE A_l_things_1)) (nameG 6))
      (seqS (forS (rng1A (consA (cE (.int 6)) nilA)) (nameG 8) B_l_things_1 [8])
      (retS (varE 6))))))))))
def F_l_things : FnB := runB 2 7 S_l_things
theorem ok_l_things (T : Txt K mg t) : FnOk P w K mg base CX0 9 t.f_l_things t.d_l_things ["_law_pot_here", "_law_book"] (SpB K F_l_things) := by
  refine T.F_l_things.ok sc_l_things (fun vs H Q E h => lenB h) (fun cdv A outer s H vs Q E hr h => ?_)
  refine ⟨_, (@pss_cons _ _ _ _ _ (@ps_set _ _ (2) _ _ _ _ sc_l_things.nd rfl (Or.inr rfl) (@pe_lst _ _ _ _ (@pa_k _ _ _ _ _ rfl (@pe_call _ _ _ _ _ _ _ _ _ _ _ _ _ _ _ _ (ok_l_truth T) (hr.mono (by omega)) (by rfl) T.m_l_truth T.F_l_truth.kp T.b_l_truth .nil pass0 (@pa_k _ _ _ _ _ rfl (@pv _ 0 _ _ (by rfl) (by first | exact Or.inl rfl | exact Or.inr (Or.inl rfl) | exact Or.inr (Or.inr rfl)) (by decide) (by decide)) (@pa_k _ _ _ _ _ rfl (@pv _ 1 _ _ (by rfl) (by first | exact Or.inl rfl | exact Or.inr (Or.inl rfl) | exact Or.inr (Or.inr rfl)) (by decide) (by decide)) (@pa_nil _))) (by decide) (by rfl) (by rfl)) (@pa_k _ _ _ _ _ rfl (@pe_call _ _ _ _ _ _ _ _ _ _ _ _ _ _ _ _ (ok_l_soonest T) (hr.mono (by omega)) (by rfl) T.m_l_soonest T.F_l_soonest.kp T.b_l_soonest .nil pass0 (@pa_k _ _ _ _ _ rfl (@pv _ 1 _ _ (by rfl) (by first | exact Or.inl rfl | exact Or.inr (Or.inl rfl) | exact Or.inr (Or.inr rfl)) (by decide) (by decide)) (@pa_nil _)) (by decide) (by rfl) (by rfl)) (@pa_k _ _ _ _ _ rfl (@pe_call _ _ _ _ _ _ _ _ _ _ _ _ _ _ _ _ (ok_l_latest T) (hr.mono (by omega)) (by rfl) T.m_l_latest T.F_l_latest.kp T.b_l_latest .nil pass0 (@pa_k _ _ _ _ _ rfl (@pv _ 1 _ _ (by rfl) (by first | exact Or.inl rfl | exact Or.inr (Or.inl rfl) | exact Or.inr (Or.inr rfl)) (by decide) (by decide)) (@pa_nil _)) (by decide) (by rfl) (by rfl)) (@pa_nil _))))) (by rfl) (by first | exact .inl rfl | exact .inr rfl | assumption)) (@pss_cons _ _ _ _ _ (@ps_set _ _ (3) _ _ _ _ sc_l_things.nd rfl (Or.inr rfl) (@pe_call _ _ _ _ _ _ _ _ _ _ _ _ _ _ _ _ (ok_l_take T) (hr.mono (by omega)) (by rfl) T.m_l_take T.F_l_take.kp T.b_l_take .nil pass0 (@pa_k _ _ _ _ _ rfl (@pv _ 0 _ _ (by rfl) (by first | exact Or.inl rfl | exact Or.inr (Or.inl rfl) | exact Or.inr (Or.inr rfl)) (by decide) (by decide)) (@pa_k _ _ _ _ _ rfl (@pe_callB _ _ _ _ _ _ _ _ _ (@kLen _ (K) rfl) (by rfl) T.z_len (by decide +kernel) (@pa_k _ _ _ _ _ rfl (@pv _ 1 _ _ (by rfl) (by first | exact Or.inl rfl | exact Or.inr (Or.inl rfl) | exact Or.inr (Or.inr rfl)) (by decide) (by decide)) (@pa_nil _)) (by decide) (by decide) (by rfl) (by rfl)) (@pa_nil _))) (by decide) (by rfl) (by rfl)) (by rfl) (by first | exact .inl rfl | exact .inr rfl | assumption)) (@pss_cons _ _ _ _ _ (@ps_set _ _ (4) _ _ _ _ sc_l_things.nd rfl (Or.inl rfl) (@pe_ix _ _ _ _ _ _ _ (@kIx _ (K) rfl) (@pv _ 1 _ _ (by rfl) (by first | exact Or.inl rfl | exact Or.inr (Or.inl rfl) | exact Or.inr (Or.inr rfl)) (by decide) (by decide)) (@pv _ 3 _ _ (by rfl) (by first | exact Or.inl rfl | exact Or.inr (Or.inl rfl) | exact Or.inr (Or.inr rfl)) (by decide) (by decide)) (fun _ _ => (rfl))) (by rfl) (by first | exact .inl rfl | exact .inr rfl | assumption)) (@pss_cons _ _ _ _ _ (@ps_set _ _ (5) _ _ _ _ sc_l_things.nd rfl (Or.inl rfl) (@pe_lst _ _ _ _ (@pa_k _ _ _ _ _ rfl (@pv _ 4 _ _ (by rfl) (by first | exact Or.inl rfl | exact Or.inr (Or.inl rfl) | exact Or.inr (Or.inr rfl)) (by decide) (by decide)) (@pa_k _ _ _ _ _ rfl (@pe_tup _ _ _ _ _ (@pa_k _ _ _ _ _ rfl (@pe_int _ _ _ _) (@pa_k _ _ _ _ _ rfl (@pe_ix _ _ _ _ _ _ _ (@kIx _ (K) rfl) (@pv _ 4 _ _ (by rfl) (by first | exact Or.inl rfl | exact Or.inr (Or.inl rfl) | exact Or.inr (Or.inr rfl)) (by decide) (by decide)) (@pe_int _ _ _ _) (fun _ _ => (rfl))) (@pa_k _ _ _ _ _ rfl (@pe_int _ _ _ _) (@pa_nil _))))) (@pa_k _ _ _ _ _ rfl (@pe_tup _ _ _ _ _ (@pa_k _ _ _ _ _ rfl (@pe_int _ _ _ _) (@pa_k _ _ _ _ _ rfl (@pe_op _ _ _ _ _ _ _ _ (@kAdd _ (K) rfl) (@pe_ix _ _ _ _ _ _ _ (@kIx _ (K) rfl) (@pv _ 4 _ _ (by rfl) (by first | exact Or.inl rfl | exact Or.inr (Or.inl rfl) | exact Or.inr (Or.inr rfl)) (by decide) (by decide)) (@pe_int _ _ _ _) (fun _ _ => (rfl))) (@pe_int _ _ _ _)) (@pa_k _ _ _ _ _ rfl (@pe_int _ _ _ _) (@pa_nil _))))) (@pa_k _ _ _ _ _ rfl (@pe_tup _ _ _ _ _ (@pa_k _ _ _ _ _ rfl (@pe_int _ _ _ _) (@pa_k _ _ _ _ _ rfl (@pe_int _ _ _ _) (@pa_k _ _ _ _ _ rfl (@pe_int _ _ _ _) (@pa_nil _))))) (@pa_k _ _ _ _ _ rfl (@pe_tup _ _ _ _ _ (@pa_k _ _ _ _ _ rfl (@pe_int _ _ _ _) (@pa_k _ _ _ _ _ rfl (@pe_int _ _ _ _) (@pa_k _ _ _ _ _ rfl (@pe_int _ _ _ _) (@pa_nil _))))) (@pa_k _ _ _ _ _ rfl (@pe_tup _ _ _ _ _ (@pa_k _ _ _ _ _ rfl (@pe_int _ _ _ _) (@pa_k _ _ _ _ _ rfl (@pe_int _ _ _ _) (@pa_k _ _ _ _ _ rfl (@pe_int _ _ _ _) (@pa_nil _))))) (@pa_k _ _ _ _ _ rfl (@pe_tup _ _ _ _ _ (@pa_k _ _ _ _ _ rfl (@pe_int _ _ _ _) (@pa_k _ _ _ _ _ rfl (@pe_int _ _ _ _) (@pa_k _ _ _ _ _ rfl (@pe_int _ _ _ _) (@pa_nil _))))) (@pa_nil _))))))))) (by rfl) (by first | exact .inl rfl | exact .inr rfl | assumption)) (@pss_cons _ _ _ _ _ (@ps_set _ _ (5) _ _ _ _ sc_l_things.nd rfl (Or.inl rfl) (@pe_op _ _ _ _ _ _ _ _ (@kAdd _ (K) rfl) (@pv _ 5 _ _ (by rfl) (by first | exact Or.inl rfl | exact Or.inr (Or.inl rfl) | exact Or.inr (Or.inr rfl)) (by decide) (by decide)) (@pe_lst _ _ _ _ (@pa_k _ _ _ _ _ rfl (@pe_tup _ _ _ _ _ (@pa_k _ _ _ _ _ rfl (@pe_int _ _ _ _) (@pa_k _ _ _ _ _ rfl (@pe_op _ _ _ _ _ _ _ _ (@kAdd _ (K) rfl) (@pe_ix _ _ _ _ _ _ _ (@kIx _ (K) rfl) (@pv _ 4 _ _ (by rfl) (by first | exact Or.inl rfl | exact Or.inr (Or.inl rfl) | exact Or.inr (Or.inr rfl)) (by decide) (by decide)) (@pe_int _ _ _ _) (fun _ _ => (rfl))) (@pe_int _ _ _ _)) (@pa_k _ _ _ _ _ rfl (@pe_int _ _ _ _) (@pa_nil _))))) (@pa_k _ _ _ _ _ rfl (@pe_tup _ _ _ _ _ (@pa_k _ _ _ _ _ rfl (@pe_int _ _ _ _) (@pa_k _ _ _ _ _ rfl (@pe_op _ _ _ _ _ _ _ _ (@kAdd _ (K) rfl) (@pe_ix _ _ _ _ _ _ _ (@kIx _ (K) rfl) (@pv _ 4 _ _ (by rfl) (by first | exact Or.inl rfl | exact Or.inr (Or.inl rfl) | exact Or.inr (Or.inr rfl)) (by decide) (by decide)) (@pe_int _ _ _ _) (fun _ _ => (rfl))) (@pe_int _ _ _ _)) (@pa_k _ _ _ _ _ rfl (@pe_bl _ _ _ _) (@pa_nil _))))) (@pa_k _ _ _ _ _ rfl (@pe_lst _ _ _ _ (@pa_k _ _ _ _ _ rfl (@pe_int _ _ _ _) (@pa_k _ _ _ _ _ rfl (@pe_int _ _ _ _) (@pa_k _ _ _ _ _ rfl (@pe_int _ _ _ _) (@pa_nil _))))) (@pa_k _ _ _ _ _ rfl (@pe_tup _ _ _ _ _ (@pa_k _ _ _ _ _ rfl (@pe_int _ _ _ _) (@pa_k _ _ _ _ _ rfl (@pe_int _ _ _ _) (@pa_nil _)))) (@pa_k _ _ _ _ _ rfl (@pe_non _ _ _) (@pa_k _ _ _ _ _ rfl (@pe_tup _ _ _ _ _ (@pa_k _ _ _ _ _ rfl (@pe_bl _ _ _ _) (@pa_k _ _ _ _ _ rfl (@pe_int _ _ _ _) (@pa_k _ _ _ _ _ rfl (@pe_int _ _ _ _) (@pa_nil _))))) (@pa_nil _))))))))) (by rfl) (by first | exact .inl rfl | exact .inr rfl | assumption)) (@pss_cons _ _ _ _ _ (@ps_set _ _ (6) _ _ _ _ sc_l_things.nd rfl (Or.inl rfl) (@pe_op _ _ _ _ _ _ _ _ (@kAdd _ (K) rfl) (@pv _ 2 _ _ (by rfl) (by first | exact Or.inl rfl | exact Or.inr (Or.inl rfl) | exact Or.inr (Or.inr rfl)) (by decide) (by decide)) (@pe_lst _ _ _ _ (@pa_k _ _ _ _ _ rfl (@pv _ 1 _ _ (by rfl) (by first | exact Or.inl rfl | exact Or.inr (Or.inl rfl) | exact Or.inr (Or.inr rfl)) (by decide) (by decide)) (@pa_k _ _ _ _ _ rfl (@pe_callTy _ _ _ _ _ _ _ _ _ (@kList _ (K) rfl) (by rfl) T.z_list (by decide +kernel) (@pa_k _ _ _ _ _ rfl (@pe_ix _ _ _ _ _ _ _ (@kIx _ (K) rfl) (@pv _ 2 _ _ (by rfl) (by first | exact Or.inl rfl | exact Or.inr (Or.inl rfl) | exact Or.inr (Or.inr rfl)) (by decide) (by decide)) (@pe_int _ _ _ _) (fun _ _ => (rfl))) (@pa_nil _)) (by decide) (by decide) (by rfl) (by rfl)) (@pa_k _ _ _ _ _ rfl (@pe_slice _ _ _ _ _ _ _ _ _ _ (@kSl _ (K) rfl) (@pe_ix _ _ _ _ _ _ _ (@kIx _ (K) rfl) (@pv _ 2 _ _ (by rfl) (by first | exact Or.inl rfl | exact Or.inr (Or.inl rfl) | exact Or.inr (Or.inr rfl)) (by decide) (by decide)) (@pe_int _ _ _ _) (fun _ _ => (rfl))) (@po_some _ _ _ (@pe_int _ _ _ _)) (@po_none _)) (@pa_k _ _ _ _ _ rfl (@pe_op _ _ _ _ _ _ _ _ (@kAdd _ (K) rfl) (@pe_ix _ _ _ _ _ _ _ (@kIx _ (K) rfl) (@pv _ 2 _ _ (by rfl) (by first | exact Or.inl rfl | exact Or.inr (Or.inl rfl) | exact Or.inr (Or.inr rfl)) (by decide) (by decide)) (@pe_int _ _ _ _) (fun _ _ => (rfl))) (@pe_slice _ _ _ _ _ _ _ _ _ _ (@kSl _ (K) rfl) (@pe_ix _ _ _ _ _ _ _ (@kIx _ (K) rfl) (@pv _ 2 _ _ (by rfl) (by first | exact Or.inl rfl | exact Or.inr (Or.inl rfl) | exact Or.inr (Or.inr rfl)) (by decide) (by decide)) (@pe_int _ _ _ _) (fun _ _ => (rfl))) (@po_none _) (@po_some _ _ _ (@pe_int _ _ _ _)))) (@pa_k _ _ _ _ _ rfl (@pe_tup _ _ _ _ _ (@pa_nil _)) (@pa_k _ _ _ _ _ rfl (@pe_non _ _ _) (@pa_k _ _ _ _ _ rfl (@pe_revK (K) _ rfl _ _ _ _ _ _ _ (@pe_ix _ _ _ _ _ _ _ (@kIx _ (K) rfl) (@pv _ 2 _ _ (by rfl) (by first | exact Or.inl rfl | exact Or.inr (Or.inl rfl) | exact Or.inr (Or.inr rfl)) (by decide) (by decide)) (@pe_int _ _ _ _) (fun _ _ => (rfl)))) (@pa_nil _)))))))))) (by rfl) (by first | exact .inl rfl | exact .inr rfl | assumption)) (@pss_cons _ _ _ _ _ (@ps_set _ _ (6) _ _ _ _ sc_l_things.nd rfl (Or.inl rfl) (@pe_op _ _ _ _ _ _ _ _ (@kAdd _ (K) rfl) (@pv _ 6 _ _ (by rfl) (by first | exact Or.inl rfl | exact Or.inr (Or.inl rfl) | exact Or.inr (Or.inr rfl)) (by decide) (by decide)) (@pe_lc _ _ _ _ _ _ [("_law_one", 7)] _ _ (gName 7) _ _ (by rfl) sc_l_things.nd (@pi_seqK _ (K) rfl _ _ _ (@pv _ 5 _ _ (by rfl) (by first | exact Or.inl rfl | exact Or.inr (Or.inl rfl) | exact Or.inr (Or.inr rfl)) (by decide) (by decide))) (blkOk_by (own := [("_law_one", 7)]) (N := N_l_things) (sc := defScope s_l_things) (by decide +kernel)) (fun _ _ _ _ _ => (@pg_name _ _ (7) _ sc_l_things.nd rfl (by first | exact Or.inl rfl | exact Or.inr rfl) (by first | exact .inl rfl | exact .inr rfl | assumption))) (fun _ _ _ _ _ => (@pts_nil _)) (fun _ _ _ _ _ => (@pe_op _ _ _ _ _ _ _ _ (@kAdd _ (K) rfl) (@pe_op _ _ _ _ _ _ _ _ (@kAdd _ (K) rfl) (@pe_slice _ _ _ _ _ _ _ _ _ _ (@kSl _ (K) rfl) (@pe_ix _ _ _ _ _ _ _ (@kIx _ (K) rfl) (@pv _ 2 _ _ (by rfl) (by first | exact Or.inl rfl | exact Or.inr (Or.inl rfl) | exact Or.inr (Or.inr rfl)) (by decide) (by decide)) (@pe_int _ _ _ _) (fun _ _ => (rfl))) (@po_none _) (@po_some _ _ _ (@pv _ 3 _ _ (by rfl) (by first | exact Or.inl rfl | exact Or.inr (Or.inl rfl) | exact Or.inr (Or.inr rfl)) (by decide) (by decide)))) (@pe_tup _ _ _ _ _ (@pa_k _ _ _ _ _ rfl (@pv _ 7 _ _ (by rfl) (by first | exact Or.inl rfl | exact Or.inr (Or.inl rfl) | exact Or.inr (Or.inr rfl)) (by decide) (by decide)) (@pa_nil _)))) (@pe_slice _ _ _ _ _ _ _ _ _ _ (@kSl _ (K) rfl) (@pe_ix _ _ _ _ _ _ _ (@kIx _ (K) rfl) (@pv _ 2 _ _ (by rfl) (by first | exact Or.inl rfl | exact Or.inr (Or.inl rfl) | exact Or.inr (Or.inr rfl)) (by decide) (by decide)) (@pe_int _ _ _ _) (fun _ _ => (rfl))) (@po_some _ _ _ (@pe_op _ _ _ _ _ _ _ _ (@kAdd _ (K) rfl) (@pv _ 3 _ _ (by rfl) (by first | exact Or.inl rfl | exact Or.inr (Or.inl rfl) | exact Or.inr (Or.inr rfl)) (by decide) (by decide)) (@pe_int _ _ _ _))) (@po_none _)))) (by intro _ ; rfl))) (by rfl) (by first | exact .inl rfl | exact .inr rfl | assumption)) (@pss_cons _ _ _ _ _ (@ps_for _ _ _ _ _ _ _ _ PassesOwn.never rfl (@pi_range1 _ _ _ _ _ _ (by rfl) T.z_range (@pa_k _ _ _ _ _ rfl (@pe_int _ _ _ _) (@pa_nil _)) (by rfl)) (@pg_name _ _ (8) _ sc_l_things.nd rfl (by first | exact Or.inl rfl | exact Or.inr rfl) (by first | exact .inl rfl | exact .inr rfl | assumption)) (@pss_one _ _ _ (@ps_set _ _ (6) _ _ _ _ sc_l_things.nd rfl (Or.inl rfl) (@pe_op _ _ _ _ _ _ _ _ (@kAdd _ (K) rfl) (@pv _ 6 _ _ (by rfl) (by first | exact Or.inl rfl | exact Or.inr (Or.inl rfl) | exact Or.inr (Or.inr rfl)) (by decide) (by decide)) (@pe_lst _ _ _ _ (@pa_k _ _ _ _ _ rfl (@pe_call _ _ _ _ _ _ _ _ _ _ _ _ _ _ _ _ (ok_l_bent T 5) (hr.mono (by omega)) (by rfl) T.m_l_bent T.F_l_bent.kp T.b_l_bent .nil pass0 (@pa_k _ _ _ _ _ rfl (@pv _ 0 _ _ (by rfl) (by first | exact Or.inl rfl | exact Or.inr (Or.inl rfl) | exact Or.inr (Or.inr rfl)) (by decide) (by decide)) (@pa_k _ _ _ _ _ rfl (@pe_ix _ _ _ _ _ _ _ (@kIx _ (K) rfl) (@pv _ 2 _ _ (by rfl) (by first | exact Or.inl rfl | exact Or.inr (Or.inl rfl) | exact Or.inr (Or.inr rfl)) (by decide) (by decide)) (@pe_call _ _ _ _ _ _ _ _ _ _ _ _ _ _ _ _ (ok_l_take T) (hr.mono (by omega)) (by rfl) T.m_l_take T.F_l_take.kp T.b_l_take .nil pass0 (@pa_k _ _ _ _ _ rfl (@pv _ 0 _ _ (by rfl) (by first | exact Or.inl rfl | exact Or.inr (Or.inl rfl) | exact Or.inr (Or.inr rfl)) (by decide) (by decide)) (@pa_k _ _ _ _ _ rfl (@pe_int _ _ _ _) (@pa_nil _))) (by decide) (by rfl) (by rfl)) (fun _ _ => (rfl))) (@pa_k _ _ _ _ _ rfl (@pe_int _ _ _ _) (@pa_nil _)))) (by decide) (by rfl) (by rfl)) (@pa_k _ _ _ _ _ rfl (@pe_call _ _ _ _ _ _ _ _ _ _ _ _ _ _ _ _ (ok_l_odd T) (hr.mono (by omega)) (by rfl) T.m_l_odd T.F_l_odd.kp T.b_l_odd .nil pass0 (@pa_k _ _ _ _ _ rfl (@pv _ 0 _ _ (by rfl) (by first | exact Or.inl rfl | exact Or.inr (Or.inl rfl) | exact Or.inr (Or.inr rfl)) (by decide) (by decide)) (@pa_nil _)) (by decide) (by rfl) (by rfl)) (@pa_nil _))))) (by rfl) (by first | exact .inl rfl | exact .inr rfl | assumption))) (by intro _ ; rfl)) (@pss_one _ _ _ (@ps_ret _ _ _ _ (@pv _ 6 _ _ (by rfl) (by first | exact Or.inl rfl | exact Or.inr (Or.inl rfl) | exact Or.inr (Or.inr rfl)) (by decide) (by decide)))))))))))), ?_⟩
  exact fnB (np := 2) (nl := 7) (S := S_l_things) (K := K) (@simS_seq _ _ _ _ _ (@simS_asg _ _ _ _ _ _ (@simE_of _ _ _ (@simO_lst _ _ _ (@simA_cons _ _ _ _ _ (@simE_callB _ _ (0) _ _ _ (@simA_cons _ _ _ _ _ (@simE_var _ 1) (@simA_nil _))) (@simA_cons _ _ _ _ _ (@simE_call _ _ _ _ _ (@simA_cons _ _ _ _ _ (@simE_var _ 1) (@simA_nil _))) (@simA_cons _ _ _ _ _ (@simE_call _ _ _ _ _ (@simA_cons _ _ _ _ _ (@simE_var _ 1) (@simA_nil _))) (@simA_nil _)))))) (@simG_name _ 2)) (@simS_seq _ _ _ _ _ (@simS_asg _ _ _ _ _ _ (@simE_callB _ _ (0) _ _ _ (@simA_cons _ _ _ _ _ (@simE_cb _ _ _ _ _ (@sr_len _) (@simA_cons _ _ _ _ _ (@simE_var _ 1) (@simA_nil _))) (@simA_nil _))) (@simG_name _ 3)) (@simS_seq _ _ _ _ _ (@simS_asg _ _ _ _ _ _ (@simE_op _ _ _ _ _ _ _ (@sr_ix _) (@simE_var _ 1) (@simE_var _ 3)) (@simG_name _ 4)) (@simS_seq _ _ _ _ _ (@simS_asg _ _ _ _ _ _ (@simE_of _ _ _ (@simO_lst _ _ _ (@simA_cons _ _ _ _ _ (@simE_var _ 4) (@simA_cons _ _ _ _ _ (@simE_tup _ _ _ (@simA_cons _ _ _ _ _ (@simE_int _ 0) (@simA_cons _ _ _ _ _ (@simE_op _ _ _ _ _ _ _ (@sr_ix _) (@simE_var _ 4) (@simE_int _ 1)) (@simA_cons _ _ _ _ _ (@simE_int _ 1) (@simA_nil _))))) (@simA_cons _ _ _ _ _ (@simE_tup _ _ _ (@simA_cons _ _ _ _ _ (@simE_int _ 0) (@simA_cons _ _ _ _ _ (@simE_op _ _ _ _ _ _ _ (@sr_add _) (@simE_op _ _ _ _ _ _ _ (@sr_ix _) (@simE_var _ 4) (@simE_int _ 1)) (@simE_int _ 1)) (@simA_cons _ _ _ _ _ (@simE_int _ 4) (@simA_nil _))))) (@simA_cons _ _ _ _ _ (@simE_tup _ _ _ (@simA_cons _ _ _ _ _ (@simE_int _ 0) (@simA_cons _ _ _ _ _ (@simE_int _ 2000) (@simA_cons _ _ _ _ _ (@simE_int _ 2) (@simA_nil _))))) (@simA_cons _ _ _ _ _ (@simE_tup _ _ _ (@simA_cons _ _ _ _ _ (@simE_int _ 0) (@simA_cons _ _ _ _ _ (@simE_int _ 2001) (@simA_cons _ _ _ _ _ (@simE_int _ 1) (@simA_nil _))))) (@simA_cons _ _ _ _ _ (@simE_tup _ _ _ (@simA_cons _ _ _ _ _ (@simE_int _ 1) (@simA_cons _ _ _ _ _ (@simE_int _ 1999) (@simA_cons _ _ _ _ _ (@simE_int _ 1) (@simA_nil _))))) (@simA_cons _ _ _ _ _ (@simE_tup _ _ _ (@simA_cons _ _ _ _ _ (@simE_int _ 0) (@simA_cons _ _ _ _ _ (@simE_int _ 1999) (@simA_cons _ _ _ _ _ (@simE_int _ 0) (@simA_nil _))))) (@simA_nil _)))))))))) (@simG_name _ 5)) (@simS_seq _ _ _ _ _ (@simS_asg _ _ _ _ _ _ (@simE_op _ _ _ _ _ _ _ (@sr_add _) (@simE_var _ 5) (@simE_of _ _ _ (@simO_lst _ _ _ (@simA_cons _ _ _ _ _ (@simE_tup _ _ _ (@simA_cons _ _ _ _ _ (@simE_int _ 0) (@simA_cons _ _ _ _ _ (@simE_op _ _ _ _ _ _ _ (@sr_add _) (@simE_op _ _ _ _ _ _ _ (@sr_ix _) (@simE_var _ 4) (@simE_int _ 1)) (@simE_int _ 1)) (@simA_cons _ _ _ _ _ (@simE_int _ 5) (@simA_nil _))))) (@simA_cons _ _ _ _ _ (@simE_tup _ _ _ (@simA_cons _ _ _ _ _ (@simE_int _ 0) (@simA_cons _ _ _ _ _ (@simE_op _ _ _ _ _ _ _ (@sr_add _) (@simE_op _ _ _ _ _ _ _ (@sr_ix _) (@simE_var _ 4) (@simE_int _ 1)) (@simE_int _ 1)) (@simA_cons _ _ _ _ _ (@simE_bl _ true) (@simA_nil _))))) (@simA_cons _ _ _ _ _ (@simE_of _ _ _ (@simO_lst _ _ _ (@simA_cons _ _ _ _ _ (@simE_int _ 0) (@simA_cons _ _ _ _ _ (@simE_int _ 2000) (@simA_cons _ _ _ _ _ (@simE_int _ 1) (@simA_nil _)))))) (@simA_cons _ _ _ _ _ (@simE_tup _ _ _ (@simA_cons _ _ _ _ _ (@simE_int _ 0) (@simA_cons _ _ _ _ _ (@simE_int _ 2000) (@simA_nil _)))) (@simA_cons _ _ _ _ _ (@simE_non _) (@simA_cons _ _ _ _ _ (@simE_tup _ _ _ (@simA_cons _ _ _ _ _ (@simE_bl _ false) (@simA_cons _ _ _ _ _ (@simE_int _ 2000) (@simA_cons _ _ _ _ _ (@simE_int _ 1) (@simA_nil _))))) (@simA_nil _)))))))))) (@simG_name _ 5)) (@simS_seq _ _ _ _ _ (@simS_asg _ _ _ _ _ _ (@simE_op _ _ _ _ _ _ _ (@sr_add _) (@simE_var _ 2) (@simE_of _ _ _ (@simO_lst _ _ _ (@simA_cons _ _ _ _ _ (@simE_var _ 1) (@simA_cons _ _ _ _ _ (@simE_of _ _ _ (@simO_cb _ _ _ _ _ (@sr_list _) (@simA_cons _ _ _ _ _ (@simE_op _ _ _ _ _ _ _ (@sr_ix _) (@simE_var _ 2) (@simE_int _ 0)) (@simA_nil _)))) (@simA_cons _ _ _ _ _ (@simE_sl _ _ _ _ _ _ _ (@simE_op _ _ _ _ _ _ _ (@sr_ix _) (@simE_var _ 2) (@simE_int _ 0)) (@simOp_some _ _ _ (@simE_int _ 1)) (@simOp_none _)) (@simA_cons _ _ _ _ _ (@simE_op _ _ _ _ _ _ _ (@sr_add _) (@simE_op _ _ _ _ _ _ _ (@sr_ix _) (@simE_var _ 2) (@simE_int _ 0)) (@simE_sl _ _ _ _ _ _ _ (@simE_op _ _ _ _ _ _ _ (@sr_ix _) (@simE_var _ 2) (@simE_int _ 0)) (@simOp_none _) (@simOp_some _ _ _ (@simE_int _ 1)))) (@simA_cons _ _ _ _ _ (@simE_tup _ _ _ (@simA_nil _)) (@simA_cons _ _ _ _ _ (@simE_non _) (@simA_cons _ _ _ _ _ (@simE_rev _ _ _ (@simE_op _ _ _ _ _ _ _ (@sr_ix _) (@simE_var _ 2) (@simE_int _ 0))) (@simA_nil _))))))))))) (@simG_name _ 6)) (@simS_seq _ _ _ _ _ (@simS_asg _ _ _ _ _ _ (@simE_op _ _ _ _ _ _ _ (@sr_add _) (@simE_var _ 6) (@simE_of _ _ _ (@simO_lc _ _ _ _ _ _ _ _ _ _ [7] (@simI_seq _ _ _ (@simE_var _ 5)) (@simG_name _ 7) (by decide) (@simT_yes _) (@simE_op _ _ _ _ _ _ _ (@sr_add _) (@simE_op _ _ _ _ _ _ _ (@sr_add _) (@simE_sl _ _ _ _ _ _ _ (@simE_op _ _ _ _ _ _ _ (@sr_ix _) (@simE_var _ 2) (@simE_int _ 0)) (@simOp_none _) (@simOp_some _ _ _ (@simE_var _ 3))) (@simE_tup _ _ _ (@simA_cons _ _ _ _ _ (@simE_var _ 7) (@simA_nil _)))) (@simE_sl _ _ _ _ _ _ _ (@simE_op _ _ _ _ _ _ _ (@sr_ix _) (@simE_var _ 2) (@simE_int _ 0)) (@simOp_some _ _ _ (@simE_op _ _ _ _ _ _ _ (@sr_add _) (@simE_var _ 3) (@simE_int _ 1))) (@simOp_none _)))))) (@simG_name _ 6)) (@simS_seq _ _ _ _ _ (@simS_for _ _ _ _ _ _ _ _ [8] (@simI_rng1 _ _ _ (@simA_cons _ _ _ _ _ (@simE_int _ 6) (@simA_nil _))) (@simG_name _ 8) (@simS_asg _ _ _ _ _ _ (@simE_op _ _ _ _ _ _ _ (@sr_add _) (@simE_var _ 6) (@simE_of _ _ _ (@simO_lst _ _ _ (@simA_cons _ _ _ _ _ (@simE_callB _ _ (0) _ _ _ (@simA_cons _ _ _ _ _ (@simE_op _ _ _ _ _ _ _ (@sr_ix _) (@simE_var _ 2) (@simE_callB _ _ (0) _ _ _ (@simA_cons _ _ _ _ _ (@simE_int _ 3) (@simA_nil _)))) (@simA_cons _ _ _ _ _ (@simE_int _ 3) (@simA_nil _)))) (@simA_cons _ _ _ _ _ (@simE_callB _ _ (0) _ _ _ (@simA_nil _)) (@simA_nil _)))))) (@simG_name _ 6))) (@simS_ret _ _ _ (@simE_var _ 6)))))))))) rfl h
def B_l_law_1 : MS := (seqS (parS 5 6 (cbE reprD (consA (tupE (consA (varE 3) (consA (varE 4) nilA))) nilA)) (cbE reprD (consA (cbE F_l_is_truth (consA (varE 3) (consA (varE 4) nilA))) nilA)))
      (ifS (orT (bT (op2E neD (cbE reprD (consA (cbE F_p_is_truth (consA (varE 3) (consA (varE 4) nilA))) nilA)) (varE 6))) (bT (op2E neD (cbE reprD (consA (tupE (consA (varE 3) (consA (varE 4) nilA))) nilA)) (varE 5)))) (retS (cE (.bool false))) nextS))
def B_l_law_2 : MS := (seqS (setOS 2 (cbO F_l_pot (consA (cbS F_l_cell_at 0 (consA (varE 1) nilA)) nilA)))
      (seqS (asgS (cbB F_l_plain 2 (consA (cE (.int 8)) (consA (cE (.int 30)) nilA))) (nameG 3))
      (forS (itA (cbB F_l_things 2 (consA (varE 3) nilA))) (nameG 4) B_l_law_1 [4, 5, 6])))
def S_l_law : MS := (seqS (forS (rng1A (consA (cbE max2D (consA (cE (.int 1)) (consA (cbE min2D (consA (lenScr 0) (consA (cE (.int 4)) nilA))) nilA))) nilA)) (nameG 1) B_l_law_2 [1, 2, 3, 4, 5, 6])
      (retS (cE (.bool true))))
theorem ok_l_law (T : Txt K mg t) : FnOk P w K mg base CX0 10 t.f_l_law t.d_l_law ["_law_script"] (SpL K 6 S_l_law) := by
  refine T.F_l_law.ok sc_l_law (fun vs H Q E h => lenL h) (fun cdv A outer s H vs Q E hr h => ?_)
  refine ⟨_, (@pss_cons _ _ _ _ _ (@ps_for _ _ _ _ _ _ _ _ PassesOwn.never rfl (@pi_range1 _ _ _ _ _ _ (by rfl) T.z_range (@pa_k _ _ _ _ _ rfl (@pe_callB _ _ _ _ _ _ _ _ _ (@call_max2 _ rfl) (by rfl) T.z_max (by decide +kernel) (@pa_k _ _ _ _ _ rfl (@pe_int _ _ _ _) (@pa_k _ _ _ _ _ rfl (@pe_callB _ _ _ _ _ _ _ _ _ (@call_min2 _ rfl) (by rfl) T.z_min (by decide +kernel) (@pa_k _ _ _ _ _ rfl (@pe_callB _ _ _ _ _ _ _ _ _ (@kLen _ (K) rfl) (by rfl) T.z_len (by decide +kernel) (@pa_k _ _ _ _ _ rfl (@pv _ 0 _ _ (by rfl) (by first | exact Or.inl rfl | exact Or.inr (Or.inl rfl) | exact Or.inr (Or.inr rfl)) (by decide) (by decide)) (@pa_nil _)) (by decide) (by decide) (by rfl) (by rfl)) (@pa_k _ _ _ _ _ rfl (@pe_int _ _ _ _) (@pa_nil _))) (by decide) (by decide) (by rfl) (by rfl)) (@pa_nil _))) (by decide) (by decide) (by rfl) (by rfl)) (@pa_nil _)) (by rfl)) (@pg_name _ _ (1) _ sc_l_law.nd rfl (by first | exact Or.inl rfl | exact Or.inr rfl) (by first | exact .inl rfl | exact .inr rfl | assumption)) (@pss_cons _ _ _ _ _ (@ps_set _ _ (2) _ _ _ _ sc_l_law.nd rfl (Or.inl rfl) (@pe_call _ _ _ _ _ _ _ _ _ _ _ _ _ _ _ _ (ok_l_pot T) (hr.mono (by omega)) (by rfl) T.m_l_pot T.F_l_pot.kp T.b_l_pot .nil pass0 (@pa_k _ _ _ _ _ rfl (@pe_call _ _ _ _ _ _ _ _ _ _ _ _ _ _ _ _ (ok_l_cell_at T) (hr.mono (by omega)) (by rfl) T.m_l_cell_at T.F_l_cell_at.kp T.b_l_cell_at .nil pass0 (@pa_k _ _ _ _ _ rfl (@pv _ 0 _ _ (by rfl) (by first | exact Or.inl rfl | exact Or.inr (Or.inl rfl) | exact Or.inr (Or.inr rfl)) (by decide) (by decide)) (@pa_k _ _ _ _ _ rfl (@pv _ 1 _ _ (by rfl) (by first | exact Or.inl rfl | exact Or.inr (Or.inl rfl) | exact Or.inr (Or.inr rfl)) (by decide) (by decide)) (@pa_nil _))) (by decide) (by rfl) (by rfl)) (@pa_nil _)) (by decide) (by rfl) (by rfl)) (by rfl) (by first | exact .inl rfl | exact .inr rfl | assumption)) (@pss_cons _ _ _ _ _ (@ps_set _ _ (3) _ _ _ _ sc_l_law.nd rfl (Or.inl rfl) (@pe_call _ _ _ _ _ _ _ _ _ _ _ _ _ _ _ _ (ok_l_plain T) (hr.mono (by omega)) (by rfl) T.m_l_plain T.F_l_plain.kp T.b_l_plain .nil pass0 (@pa_k _ _ _ _ _ rfl (@pv _ 2 _ _ (by rfl) (by first | exact Or.inl rfl | exact Or.inr (Or.inl rfl) | exact Or.inr (Or.inr rfl)) (by decide) (by decide)) (@pa_k _ _ _ _ _ rfl (@pe_int _ _ _ _) (@pa_k _ _ _ _ _ rfl (@pe_int _ _ _ _) (@pa_nil _)))) (by decide) (by rfl) (by rfl)) (by rfl) (by first | exact .inl rfl | exact .inr rfl | assumption)) (@pss_one _ _ _ (@ps_for _ _ _ _ _ _ _ _ PassesOwn.never rfl (@pi_seqK _ (K) rfl _ _ _ (@pe_call _ _ _ _ _ _ _ _ _ _ _ _ _ _ _ _ (ok_l_things T) (hr.mono (by omega)) (by rfl) T.m_l_things T.F_l_things.kp T.b_l_things .nil pass0 (@pa_k _ _ _ _ _ rfl (@pv _ 2 _ _ (by rfl) (by first | exact Or.inl rfl | exact Or.inr (Or.inl rfl) | exact Or.inr (Or.inr rfl)) (by decide) (by decide)) (@pa_k _ _ _ _ _ rfl (@pv _ 3 _ _ (by rfl) (by first | exact Or.inl rfl | exact Or.inr (Or.inl rfl) | exact Or.inr (Or.inr rfl)) (by decide) (by decide)) (@pa_nil _))) (by decide) (by rfl) (by rfl))) (@pg_name _ _ (4) _ sc_l_law.nd rfl (by first | exact Or.inl rfl | exact Or.inr rfl) (by first | exact .inl rfl | exact .inr rfl | assumption)) (@pss_cons _ _ _ _ _ (@ps_par _ _ (5) (6) _ _ _ _ _ _ _ _ _ _ _ (by rfl) sc_l_law.nd rfl rfl (by decide) rfl rfl (@pa_k _ _ _ _ _ rfl (@pe_callB _ _ _ _ _ _ _ _ _ (@kRepr _ (K) rfl _ hr) (by rfl) T.z_repr (by decide +kernel) (@pa_k _ _ _ _ _ rfl (@pe_tup _ _ _ _ _ (@pa_k _ _ _ _ _ rfl (@pv _ 3 _ _ (by rfl) (by first | exact Or.inl rfl | exact Or.inr (Or.inl rfl) | exact Or.inr (Or.inr rfl)) (by decide) (by decide)) (@pa_k _ _ _ _ _ rfl (@pv _ 4 _ _ (by rfl) (by first | exact Or.inl rfl | exact Or.inr (Or.inl rfl) | exact Or.inr (Or.inr rfl)) (by decide) (by decide)) (@pa_nil _)))) (@pa_nil _)) (by decide) (by decide) (by rfl) (by rfl)) (@pa_k _ _ _ _ _ rfl (@pe_callB _ _ _ _ _ _ _ _ _ (@kRepr _ (K) rfl _ hr) (by rfl) T.z_repr (by decide +kernel) (@pa_k _ _ _ _ _ rfl (@pe_call _ _ _ _ _ _ _ _ _ _ _ _ _ _ _ _ (ok_l_is_truth T) (hr.mono (by omega)) (by rfl) T.m_l_is_truth T.F_l_is_truth.kp T.b_l_is_truth .nil pass0 (@pa_k _ _ _ _ _ rfl (@pv _ 3 _ _ (by rfl) (by first | exact Or.inl rfl | exact Or.inr (Or.inl rfl) | exact Or.inr (Or.inr rfl)) (by decide) (by decide)) (@pa_k _ _ _ _ _ rfl (@pv _ 4 _ _ (by rfl) (by first | exact Or.inl rfl | exact Or.inr (Or.inl rfl) | exact Or.inr (Or.inr rfl)) (by decide) (by decide)) (@pa_nil _))) (by decide) (by rfl) (by rfl)) (@pa_nil _)) (by decide) (by decide) (by rfl) (by rfl)) (@pa_nil _))) (by rfl) (by rfl)) (@pss_one _ _ _ (@ps_if _ _ _ _ _ _ _ _ (PW.pt (@pw_or _ _ _ _ _ _ _ (@pt_cmpR _ _ _ _ _ _ _ _ (@kNe _ (K) rfl _ hr) (@pe_callB _ _ _ _ _ _ _ _ _ (@kRepr _ (K) rfl _ hr) (by rfl) T.z_repr (by decide +kernel) (@pa_k _ _ _ _ _ rfl (@pe_call _ _ _ _ _ _ _ _ _ _ _ _ _ _ _ _ (ok_p_is_truth T) (hr.mono (by omega)) (by rfl) T.m_p_is_truth T.F_p_is_truth.kp T.b_p_is_truth .nil pass0 (@pa_k _ _ _ _ _ rfl (@pv _ 3 _ _ (by rfl) (by first | exact Or.inl rfl | exact Or.inr (Or.inl rfl) | exact Or.inr (Or.inr rfl)) (by decide) (by decide)) (@pa_k _ _ _ _ _ rfl (@pv _ 4 _ _ (by rfl) (by first | exact Or.inl rfl | exact Or.inr (Or.inl rfl) | exact Or.inr (Or.inr rfl)) (by decide) (by decide)) (@pa_nil _))) (by decide) (by rfl) (by rfl)) (@pa_nil _)) (by decide) (by decide) (by rfl) (by rfl)) (@pv _ 6 _ _ (by rfl) (by first | exact Or.inl rfl | exact Or.inr (Or.inl rfl) | exact Or.inr (Or.inr rfl)) (by decide) (by decide)) (nomark _)) (@pw_or1 _ _ _ _ (@pt_cmpR _ _ _ _ _ _ _ _ (@kNe _ (K) rfl _ hr) (@pe_callB _ _ _ _ _ _ _ _ _ (@kRepr _ (K) rfl _ hr) (by rfl) T.z_repr (by decide +kernel) (@pa_k _ _ _ _ _ rfl (@pe_tup _ _ _ _ _ (@pa_k _ _ _ _ _ rfl (@pv _ 3 _ _ (by rfl) (by first | exact Or.inl rfl | exact Or.inr (Or.inl rfl) | exact Or.inr (Or.inr rfl)) (by decide) (by decide)) (@pa_k _ _ _ _ _ rfl (@pv _ 4 _ _ (by rfl) (by first | exact Or.inl rfl | exact Or.inr (Or.inl rfl) | exact Or.inr (Or.inr rfl)) (by decide) (by decide)) (@pa_nil _)))) (@pa_nil _)) (by decide) (by decide) (by rfl) (by rfl)) (@pv _ 5 _ _ (by rfl) (by first | exact Or.inl rfl | exact Or.inr (Or.inl rfl) | exact Or.inr (Or.inr rfl)) (by decide) (by decide)) (nomark _))))) (@pss_one _ _ _ (@ps_ret _ _ _ _ (@pe_bl _ _ _ _))) (@pss_nil _)))) (by intro _ ; rfl))))) (by intro _ ; rfl)) (@pss_one _ _ _ (@ps_ret _ _ _ _ (@pe_bl _ _ _ _)))), ?_⟩
  exact fnL (nl := 6) (S := S_l_law) (K := K) (@simS_seq _ _ _ _ _ (@simS_for _ _ _ _ _ _ _ _ [1, 2, 3, 4, 5, 6] (@simI_rng1 _ _ _ (@simA_cons _ _ _ _ _ (@simE_cb _ _ _ _ _ (@sr_max2 _) (@simA_cons _ _ _ _ _ (@simE_int _ 1) (@simA_cons _ _ _ _ _ (@simE_cb _ _ _ _ _ (@sr_min2 _) (@simA_cons _ _ _ _ _ (@simE_lenScr _ (0)) (@simA_cons _ _ _ _ _ (@simE_int _ 4) (@simA_nil _)))) (@simA_nil _)))) (@simA_nil _))) (@simG_name _ 1) (@simS_seq _ _ _ _ _ (@simS_setO _ _ (2) _ (@simO_call _ _ _ _ _ (@simA_cons _ _ _ _ _ (@simE_callS _ _ (0) _ _ _ (@simA_cons _ _ _ _ _ (@simE_var _ 1) (@simA_nil _))) (@simA_nil _)))) (@simS_seq _ _ _ _ _ (@simS_asg _ _ _ _ _ _ (@simE_callB _ _ (2) _ _ _ (@simA_cons _ _ _ _ _ (@simE_int _ 8) (@simA_cons _ _ _ _ _ (@simE_int _ 30) (@simA_nil _)))) (@simG_name _ 3)) (@simS_for _ _ _ _ _ _ _ _ [4, 5, 6] (@simI_seq _ _ _ (@simE_callB _ _ (2) _ _ _ (@simA_cons _ _ _ _ _ (@simE_var _ 3) (@simA_nil _)))) (@simG_name _ 4) (@simS_seq _ _ _ _ _ (@simS_par _ _ _ _ _ _ _ (@simE_cb _ _ _ _ _ (@sr_repr _) (@simA_cons _ _ _ _ _ (@simE_tup _ _ _ (@simA_cons _ _ _ _ _ (@simE_var _ 3) (@simA_cons _ _ _ _ _ (@simE_var _ 4) (@simA_nil _)))) (@simA_nil _))) (@simE_cb _ _ _ _ _ (@sr_repr _) (@simA_cons _ _ _ _ _ (@simE_call _ _ _ _ _ (@simA_cons _ _ _ _ _ (@simE_var _ 3) (@simA_cons _ _ _ _ _ (@simE_var _ 4) (@simA_nil _)))) (@simA_nil _)))) (@simS_if _ _ _ _ _ _ _ (@simT_or _ _ _ _ _ (@simT_test _ _ _ (@simE_op _ _ _ _ _ _ _ (@sr_ne _) (@simE_cb _ _ _ _ _ (@sr_repr _) (@simA_cons _ _ _ _ _ (@simE_call _ _ _ _ _ (@simA_cons _ _ _ _ _ (@simE_var _ 3) (@simA_cons _ _ _ _ _ (@simE_var _ 4) (@simA_nil _)))) (@simA_nil _))) (@simE_var _ 6))) (@simT_test _ _ _ (@simE_op _ _ _ _ _ _ _ (@sr_ne _) (@simE_cb _ _ _ _ _ (@sr_repr _) (@simA_cons _ _ _ _ _ (@simE_tup _ _ _ (@simA_cons _ _ _ _ _ (@simE_var _ 3) (@simA_cons _ _ _ _ _ (@simE_var _ 4) (@simA_nil _)))) (@simA_nil _))) (@simE_var _ 5)))) (@simS_ret _ _ _ (@simE_bl _ false)) (@simS_next _))))))) (@simS_ret _ _ _ (@simE_bl _ true))) rfl h
end
end Mine

set_option Elab.async false
set_option linter.all false
set_option maxRecDepth 100000
set_option maxHeartbeats 1000000
namespace Mine
open PySem L2 DL
@[simp] theorem is_whole_eq (d : D) : F_p_is_whole [d] = some (.bool (isInt d && !isBool d)) := by
  cases d <;> simp [F_p_is_whole, S_p_is_whole]
theorem in4 {e : Int} (h0 : 0 < e) (h1 : e ≤ 4) : inD false (.int e) cD_KINDS = some (.bool true) := by
  obtain rfl | rfl | rfl | rfl : e = 1 ∨ e = 2 ∨ e = 3 ∨ e = 4 := by omega
  all_goals simp [cD_KINDS, inD]
theorem is_span_eq {s : Sn} (h : good s) : F_p_is_span [sD s] = some (.bool true) := by
  obtain ⟨b, u, e⟩ := s
  obtain ⟨h1, h2, h3, h4, h5⟩ := h
  simp only at h1 h2 h3 h4 h5
  by_cases he : e = 0
  · subst he; simp [F_p_is_span, S_p_is_span, sD, h1, h2, h3]
  · have h6 := in4 (e := e) (by omega) h5
    simp [F_p_is_span, S_p_is_span, sD, h1, h2, h3, he, h6]
theorem is_book_eq {bk : List Sn} (h : Good bk) : F_p_is_book [bD bk] = some (.bool true) := by
  have lc : A_p_is_book_1 [.val (bD bk), .non] = some (bk.map fun _ => .bool true, [.val (bD bk), .non]) :=
    lcA_of sD _ bk _ _ (by simp) rfl h.small (fun s hs => by simp [is_span_eq (h.all s hs)]) rfl
  have h3 : (1 : Int) ≤ bk.length := by have := h.one; omega
  have h4 : (bk.length : Int) ≤ 40 := by have := h.most; omega
  have hb := bools_const bk
  simp [F_p_is_book, S_p_is_book, h3, h4, lc, hb]
theorem is_kind_eq {e : Int} (h0 : 0 < e) (h1 : e ≤ 4) : F_p_is_kind [.int e] = some (.bool true) := by
  have h6 := in4 (e := e) (by omega) h1
  simp [F_p_is_kind, S_p_is_kind, h6]
theorem check_book_eq {bk : List Sn} (h : Good bk) : F_p_check_book [bD bk] = some .none := by simp [F_p_check_book, S_p_check_book, is_book_eq h]
theorem is_plain_eq {bk : List Sn} (hl : bk.length ≤ sizeLine) (hp : Plain bk) : F_p_is_plain [bD bk] = some (.bool true) := by
  have lc : Is A_p_is_plain_1 ([.val (bD bk), .non, .non, .non] : Ev) (bk.map fun _ => .bool true) :=
    lcA_of sD _ bk _ _ (by simp) rfl hl (fun s hs => by simp [sD, hp s hs]) rfl
  have hb := bools_const bk
  simp [F_p_is_plain, S_p_is_plain, lc, hb]
theorem check_plain_eq {bk : List Sn} (h : Good bk) (hp : Plain bk) : F_p_check_plain [bD bk] = some .none := by
  simp [F_p_check_plain, S_p_check_plain, check_book_eq h, is_plain_eq h.small hp]
theorem is_kind_any (e : Int) : F_p_is_kind [.int e] = some (.bool (decide (0 < e) && decide (e ≤ 4))) := by
  by_cases c : 0 < e ∧ e ≤ 4
  · rw [is_kind_eq c.1 c.2]; simp [c]
  · have n : inD false (.int e) cD_KINDS = some (.bool false) := by
      have h1 : ¬ 1 = e := by omega
      have h2 : ¬ 2 = e := by omega
      have h3 : ¬ 3 = e := by omega
      have h4 : ¬ 4 = e := by omega
      simp [inD, cD_KINDS, h1, h2, h3, h4]
    have d : (decide (0 < e) && decide (e ≤ 4)) = false := by
      rw [← Bool.decide_and]; exact decide_eq_false c
    rw [d]
    simp [F_p_is_kind, S_p_is_kind, n]
theorem may_stand_eq {s : Sn} (x : Sn) : F_p_may_stand_for [sD s, sD x] = some (.bool (stands s x)) := by
  have e1 := eq_sD x s
  have e2 := is_kind_any x.2.2
  have i1 : ixD (sD s) (.int 1) = some (.int s.2.1) := by simp [sD, atI, ixN]
  have i2 : ixD (sD s) (.int 2) = some (.int s.2.2) := by simp [sD, atI, ixN]
  have t1 : isTup (sD x) = true := rfl
  have t2 : lenD [sD x] = some (.int 3) := rfl
  have st : (asgS (varE 1) (tupG 3 (consG (nameG 2) (consG (nameG 3) (consG (nameG 4) nilG))))) ([.val (sD s), .val (sD x), .non, .non, .non] : Ev) = some (.nx, ([.val (sD s), .val (sD x), .val (.int x.1), .val (.int x.2.1), .val (.int x.2.2)] : Ev)) := rfl
  have e00 : F_p_may_stand_for [sD s, sD x] = outF (S_p_may_stand_for ([.val (sD s), .val (sD x), .non, .non, .non] : Ev)) := rfl
  rw [e00]
  unfold S_p_may_stand_for
  rw [seq_step (by simp [t1, t2]; rfl) rfl]
  rw [seq_step st rfl]
  rw [seq_step (by simp; rfl) rfl]
  unfold stands
  by_cases c : s.2.2 = 0
  · rw [if_neg (by simp [c])]
    by_cases c1 : x.1 = 0
    · by_cases c2 : s.2.1 < x.2.1
      · by_cases c3 : x.2.1 ≤ 2000 <;> simp [i1, i2, c, c1, c2, c3, e2]
      · simp [i1, i2, c, c1, c2]
    · simp [i1, i2, c, c1]
  · rw [if_pos c]
    simp [i1, i2, c, e1]
theorem cell_at_eq (ns : List Int) (k : Nat) : ∃ n : Int, F_l_cell_at ns [.int k] = some (.int n) := by
  by_cases h : k < ns.length
  · refine ⟨ns[k], ?_⟩
    have : atI ns (k : Int) = some ns[k] := atI_at h
    simp [F_l_cell_at, S_l_cell_at, h, this]
  · exact ⟨0, by simp [F_l_cell_at, S_l_cell_at, h]⟩
def IsPot (p : List D) : Prop := ∃ a : Int, p = [.int a]
theorem IsPot.flat {p : List D} (h : IsPot p) : flatAll p = true := by obtain ⟨a, rfl⟩ := h; simp
theorem take_eq {p : List D} (hp : IsPot p) {b : Int} (h0 : 0 < b) (h1 : b < 100000000) : ∃ (r : Int) (p' : List D), F_l_take p [.int b] = some (.int r, p') ∧ IsPot p' ∧ 0 ≤ r ∧ r < b := by
  obtain ⟨x, rfl⟩ := hp
  have hb : b ≠ 0 := by omega
  have db := divG_small hb (by omega)
  exact ⟨x.fmod b, [.int (x.fdiv b)], by simp [F_l_take, S_l_take, atI, ixN, hb, db], ⟨_, rfl⟩, fmod_in x h0⟩
theorem pot_eq (n : Int) : ∃ p, F_l_pot [.int n] = some p ∧ IsPot p := by
  by_cases h : 1000000000000000000 ≤ n
  · exact ⟨[.int (n - 1000000000000000000)], by simp [F_l_pot, S_l_pot, h, sizeLine_val], ⟨_, rfl⟩⟩
  · obtain ⟨ρ', e, x, rfl⟩ := forL_inD (G := (nameG 2)) (S := B_l_pot_1) (vs := [2, 3]) (fun _ ρ => ∃ x : Int, ρ = ([.val (.int n), .val (.int x), .non, .non] : Ev)) (rangeD 0 64) ([.val (.int n), .val (.int 0), .non, .non] : Ev) ⟨0, by simp⟩ (fun i ρ d hd ⟨x, e⟩ => by
      subst e
      obtain ⟨j, hj, rfl⟩ := List.mem_map.mp hd
      have hj2 := List.mem_range.mp hj
      have w := fmod_in ((n.fmod 2147483629 + 7919 * (0 + (j : Int)) + 1) * 48271) (show (0 : Int) < 2147483647 by decide)
      have m1 : mulG 7919 (0 + (j : Int)) = true := mulG_l (by decide)
      have m2 : mulG (n.fmod 2147483629 + 7919 * (0 + (j : Int)) + 1) 48271 = true := mulG_r (by decide)
      have m3 : mulG (((n.fmod 2147483629 + 7919 * (0 + (j : Int)) + 1) * 48271).fmod 2147483647) (((n.fmod 2147483629 + 7919 * (0 + (j : Int)) + 1) * 48271).fmod 2147483647) = true := mulG_l (by omega)
      have m4 : mulG 69621 (0 + (j : Int)) = true := mulG_l (by decide)
      have m5 : mulG x 2147483587 = true := mulG_r (by decide)
      simp only [Int.zero_add] at m1 m2 m3 m4
      refine ⟨_, by simp [B_l_pot_1, m1, m2, m3, m4, m5]; rfl, _, rfl⟩)
    have e0 : (64 : Int).toNat = 64 := rfl
    exact ⟨[.int x], by simp [F_l_pot, S_l_pot, h, e, sizeLine_val], ⟨_, rfl⟩⟩
theorem l_plain_eq {p : List D} (hp : IsPot p) {most far : Int} (h0 : 0 < most) (h1 : most ≤ 40) (f0 : 0 < far) (f1 : far ≤ 999) : ∃ (bk : List Sn) (p' : List D), F_l_plain p [.int most, .int far] = some (bD bk, p') ∧ IsPot p' ∧ Good bk ∧ (bk.length : Int) ≤ most ∧ Plain bk := by
  obtain ⟨r2, p2, e2, hp2, a2, b2⟩ := take_eq hp (b := most) h0 (by omega)
  obtain ⟨ρ', e3, p3, bk, hp3, hg, hl2, rfl⟩ := forL_allI (G := (nameG 4)) (S := B_l_plain_1) (vs := [4, 5]) (fun i : Nat => (.int i)) (fun i ρ => ∃ (p : List D) (bk : List Sn), IsPot p ∧ (∀ s ∈ bk, good s ∧ s.1 = 0) ∧ bk.length = i ∧ ρ = ([.bor p, .val (.int most), .val (.int far), .own (bk.map sD), .non, .non] : Ev)) (List.range (1 + r2).toNat) ([.bor p2, .val (.int most), .val (.int far), .own [], .non, .non] : Ev) ⟨p2, [], hp2, by simp, rfl, by simp⟩ (fun i ρ x hx ⟨p, bk, hp, hg, hl, e⟩ => by
    subst e
    have hi := lt_get hx
    rw [List.length_range] at hi
    obtain ⟨s1, q1, g1, hq1, c1, d1⟩ := take_eq hp (b := far) f0 (by omega)
    obtain ⟨s2, q2, g2, hq2, c2, d2⟩ := take_eq hq1 (b := 3) (by decide) (by decide)
    obtain ⟨s3, q3, g3, hq3, c3, d3⟩ := take_eq hq2 (b := 9) (by decide) (by decide)
    have dv : s3.fdiv 4 = s3 / 4 := Int.fdiv_eq_ediv_of_nonneg s3 (by decide)
    have mn : 0 ≤ (if s3.fdiv 4 < 2 then s3.fdiv 4 else 2) ∧ (if s3.fdiv 4 < 2 then s3.fdiv 4 else 2) < 3 := by rw [dv]; split <;> omega
    obtain ⟨y, hy, my⟩ := atI_in (xs := [PyData.int (1 + s1), .int (1 + s2), .int 999]) mn.1 mn.2
    obtain ⟨u, rfl, u0, u1⟩ : ∃ u : Int, y = .int u ∧ 0 < u ∧ u ≤ 999 := by
      simp only [List.mem_cons, List.not_mem_nil, or_false] at my
      rcases my with rfl | rfl | rfl
      · exact ⟨_, rfl, by omega, by omega⟩
      · exact ⟨_, rfl, by omega, by omega⟩
      · exact ⟨_, rfl, by omega, by omega⟩
    obtain ⟨s4, q4, g4, hq4, c4, d4⟩ := take_eq hq3 (b := 4) (by decide) (by decide)
    obtain ⟨s5, q5, g5, hq5, c5, d5⟩ := take_eq hq4 (b := 3) (by decide) (by decide)
    obtain ⟨z, hz, z0, z1⟩ : ∃ z : Int, atI [PyData.int 0, .int (1 + s4)] (if 0 < s5 then 1 else 0) = some (.int z) ∧ 0 ≤ z ∧ z ≤ 4 := by
      by_cases c : 0 < s5
      · exact ⟨1 + s4, by simp [c, atI, ixN], by omega, by omega⟩
      · exact ⟨0, by simp [c, atI, ixN], by omega, by omega⟩
    have d4' : divG 4 = true := by decide
    refine ⟨_, turn_body (by simp; rfl) ?_, q5, bk ++ [(0, u, z)], hq5, ?_, by simp [hl], rfl⟩
    · unfold B_l_plain_1
      refine ex_seq (by simp [g1, g2, g3, d4', hy, sizeLine_val]; rfl) ?_
      refine ex_end (by simp (disch := first | omega | (simp; done)) [g4, g5, hz, sizeLine_val, ite_le, ite_lt]; rfl) (by simp [sD])
    · intro s hs
      rcases List.mem_append.mp hs with hs | hs
      · exact hg s hs
      · rw [List.mem_singleton] at hs; subst hs; exact ⟨⟨by simp, u0, u1, z0, z1⟩, rfl⟩)
  rw [List.length_range] at hl2
  refine ⟨bk, p3, ?_, hp3, ⟨fun s hs => (hg s hs).1, by omega, by omega⟩, by omega, fun s hs => (hg s hs).2⟩
  rw [← rangeN] at e3
  have hr : RngOk (1 + r2) := rngOk (by omega) (by omega)
  simp [F_l_plain, S_l_plain, sizeLine_val, e2, hr, e3]
theorem l_soonest_eq {bk : List Sn} (h : Good bk) : F_l_soonest [bD bk] = some (bD (soonL bk)) := by
  have lc : Is A_l_soonest_1 ([.val (bD bk), .non] : Ev) ((soonL bk).map sD) := by
    rw [soonL, List.map_map]
    exact lcA_of sD _ bk _ _ (by simp) rfl h.small (fun s hs => by
      have g := (h.all s hs).2.2.2.1
      by_cases c : s.2.2 = 0
      · simp [sD, c, atI, ixN, sizeLine_val]
      · have : 0 < s.2.2 := by omega
        simp [sD, c, this, atI, ixN, sizeLine_val]) rfl
  simp [F_l_soonest, S_l_soonest, lc]
theorem l_latest_eq {bk : List Sn} (h : Good bk) : F_l_latest [bD bk] = some (bD (lateL bk)) := by
  have lc : Is A_l_latest_1 ([.val (bD bk), .non] : Ev) ((lateL bk).map sD) := by
    rw [lateL, List.map_map]
    exact lcA_of sD _ bk _ _ (by simp) rfl h.small (fun s hs => by
      have g := (h.all s hs).2.2.2.1
      by_cases c : s.2.2 = 0
      · simp [sD, c, atI, ixN, sizeLine_val]
      · have : 0 < s.2.2 := by omega
        simp [sD, c, this, atI, ixN, sizeLine_val]) rfl
  simp [F_l_latest, S_l_latest, lc]
theorem l_truth_eq {p : List D} (hp : IsPot p) {bk : List Sn} (h : Good bk) : ∃ (tr : List Sn) (p' : List D), F_l_truth p [bD bk] = some (bD tr, p') ∧ IsPot p' ∧ Truth bk tr := by
  have bl := h.most
  obtain ⟨ρ', e3, p3, tr, hp3, ht, hl, rfl⟩ := forL_allI (G := (tupG 3 (consG (nameG 3) (consG (nameG 4) (consG (nameG 5) nilG))))) (S := B_l_truth_1) (vs := [3, 4, 5, 6]) sD (fun i ρ => ∃ (p : List D) (tr : List Sn), IsPot p ∧ Truth (bk.take i) tr ∧ tr.length ≤ i ∧ ρ = ([.bor p, .val (bD bk), .own (tr.map sD), .non, .non, .non, .non] : Ev)) bk ([.bor p, .val (bD bk), .own [], .non, .non, .non, .non] : Ev) ⟨p, [], hp, by simpa using Truth.nil, by simp, by simp⟩ (fun i ρ s hs h2 => by
    obtain ⟨p, tr, hp, ht, hl, rfl⟩ := h2
    have hi := (List.getElem?_eq_some_iff.mp hs).1
    have hz : tr.length < 16777216 := by omega
    obtain ⟨g1, g2, g3, g4, g5⟩ := h.all s (List.mem_of_getElem? hs)
    have fin : ∀ (p4 : List D) (x : Sn), IsPot p4 → stands s x = true → ∃ (p : List D) (tr' : List Sn), IsPot p ∧ Truth (bk.take (i + 1)) tr' ∧ tr'.length ≤ i + 1 ∧ ([.bor p4, .val (bD bk), .own (tr.map sD ++ [sD x]), .non, .non, .non, .non] : Ev) = ([.bor p, .val (bD bk), .own (tr'.map sD), .non, .non, .non, .non] : Ev) := fun p4 x h4 hx => by
      refine ⟨p4, tr ++ [x], h4, ?_, by simp; omega, by simp⟩
      rw [List.take_succ, hs]
      exact ht.snoc hx
    by_cases c : 0 < s.2.2
    · refine ⟨_, by simp [B_l_truth_1, sD, c, sizeLine_val, hz, flatAll_sD, hp.flat]; rfl, ?_⟩
      exact fin p s hp (by unfold stands; rw [if_pos (by omega)]; simp)
    · obtain ⟨r1, q1, f1, hq1, a1, b1⟩ := take_eq hp (b := 5) (by decide) (by decide)
      obtain ⟨r2, q2, f2, hq2, a2, b2⟩ := take_eq hq1 (b := 2000 - s.2.1) (by omega) (by omega)
      obtain ⟨r3, q3, f3, hq3, a3, b3⟩ := take_eq hq2 (b := 3) (by decide) (by decide)
      obtain ⟨r4, q4, f4, hq4, a4, b4⟩ := take_eq hq3 (b := 4) (by decide) (by decide)
      obtain ⟨y, hy, my⟩ := atI_in (xs := [PyData.int 0, .int r1, .int r2]) a3 b3
      obtain ⟨e, rfl, k0⟩ : ∃ b : Int, y = .int b ∧ 0 ≤ b := by
        simp only [List.mem_cons, List.not_mem_nil, or_false] at my
        rcases my with rfl | rfl | rfl <;> exact ⟨_, rfl, by omega⟩
      have mn : (if s.2.1 + 1 + e < 2000 then s.2.1 + 1 + e else 2000) = min 2000 (s.2.1 + 1 + e) := by omega
      refine ⟨_, by simp [B_l_truth_1, sD, c, f1, f2, f3, f4, hy, sizeLine_val, hz, flatAll_sD, hp.flat, hq1.flat, hq2.flat, hq3.flat, hq4.flat, mn]; rfl, ?_⟩
      refine fin q4 (0, min 2000 (s.2.1 + 1 + e), 1 + r4) hq4 ?_
      unfold stands
      rw [if_neg (by simp; omega)]
      simp only [Bool.and_eq_true, decide_eq_true_eq]
      refine ⟨⟨trivial, ?_, ?_⟩, ?_, ?_⟩ <;> omega)
  rw [List.take_length] at ht
  refine ⟨tr, p3, ?_, hp3, ht⟩
  simp [F_l_truth, S_l_truth, e3, sizeLine_val]
theorem odd_eq {p : List D} (hp : IsPot p) : ∃ x p', F_l_odd p [] = some (x, p') ∧ IsPot p' ∧ Sh 100 3 x := by
  obtain ⟨r, p1, e1, hp1, a1, b1⟩ := take_eq hp (b := 16) (by decide) (by decide)
  have hw : ∀ x ∈ ([.none, .bool true, .bool false, .int (-1), .int 100000000000, .str "", .str "a", .str "1", .tuple [], .list [], .dict [], .tuple [.int 0, .int 1], .tuple [.tuple [.int 0, .int 1, .int 1]], .tuple [.int 1, .int 2], .list [.int 0], .dict [(.int 0, .int 1)]] : List D), Sh 100 3 x := by
    intro x hx
    simp only [List.mem_cons, List.not_mem_nil, or_false] at hx
    rcases hx with rfl | rfl | rfl | rfl | rfl | rfl | rfl | rfl | rfl | rfl | rfl | rfl | rfl | rfl | rfl | rfl <;> exact ⟨by decide +kernel, by decide +kernel, by decide +kernel⟩
  generalize hl : ([.none, .bool true, .bool false, .int (-1), .int 100000000000, .str "", .str "a", .str "1", .tuple [], .list [], .dict [], .tuple [.int 0, .int 1], .tuple [.tuple [.int 0, .int 1, .int 1]], .tuple [.int 1, .int 2], .list [.int 0], .dict [(.int 0, .int 1)]] : List D) = l at hw
  have l16 : l.length = 16 := by rw [← hl]; rfl
  obtain ⟨x, e2, mx⟩ := atI_in (xs := l) a1 (by rw [l16]; omega)
  refine ⟨x, p1, ?_, hp1, hw x mx⟩
  have e0 : F_l_odd p [] = outB (S_l_odd ([.bor p, .non] : Ev)) := rfl
  rw [e0]
  unfold S_l_odd
  rw [seq_step (ρ1 := ([.bor p, .val (.list l)] : Ev)) (by simp [sizeLine_val, ← hl, powD]) rfl]
  simp [e1, e2]
theorem bent_int {p : List D} (hp : IsPot p) (RF : FnB) {i : Int} (hi : i.natAbs < 2 ^ 40) (deep : Int) : ∃ x p', runB 3 2 (S_l_bent RF) p [.int i, .int deep] = some (x, p') ∧ IsPot p' ∧ Sh 100 3 x := by
  obtain ⟨r, p1, e1, hp1, a1, b1⟩ := take_eq hp (b := 3) (by decide) (by decide)
  have e0 : runB 3 2 (S_l_bent RF) p [.int i, .int deep] = outB (S_l_bent RF ([.bor p, .val (.int i), .val (.int deep), .non, .non] : Ev)) := rfl
  have w : F_l_whole [.int i] = some (.bool true) := by simp [F_l_whole, S_l_whole]
  rw [e0]
  unfold S_l_bent
  by_cases c : 0 < r
  · obtain ⟨r2, p2, e2, hp2, a2, b2⟩ := take_eq hp1 (b := 6) (by decide) (by decide)
    have hw : ∀ x ∈ ([.int (i + 1), .int (i - 1), .int 0, .int (i + 2000), .bool true, .int (-i)] : List D), Sh 100 3 x := by
      intro x hx
      simp only [List.mem_cons, List.not_mem_nil, or_false] at hx
      rcases hx with rfl | rfl | rfl | rfl | rfl | rfl
      · exact (Sh.int (B := 41) (by omega)).mono (by omega) (by omega)
      · exact (Sh.int (B := 41) (by omega)).mono (by omega) (by omega)
      · exact (Sh.int (B := 41) (by omega)).mono (by omega) (by omega)
      · exact (Sh.int (B := 41) (by omega)).mono (by omega) (by omega)
      · exact (Sh.bool true).mono (by omega) (by omega)
      · exact (Sh.int (B := 41) (by omega)).mono (by omega) (by omega)
    obtain ⟨x, e3, mx⟩ := atI_in (xs := ([.int (i + 1), .int (i - 1), .int 0, .int (i + 2000), .bool true, .int (-i)] : List D)) a2 (by show r2 < ((6 : Nat) : Int); omega)
    refine ⟨x, p2, ?_, hp2, hw x mx⟩
    rw [seq_ret (d := x) (ρ1 := ([.bor p2, .val (.int i), .val (.int deep), .non, .non] : Ev)) (by simp [w, e1, c, e2, e3, sizeLine_val])]
    simp
  · obtain ⟨x, p2, e2, hp2, sx⟩ := odd_eq hp1
    refine ⟨x, p2, ?_, hp2, sx⟩
    rw [seq_step (ρ1 := ([.bor p1, .val (.int i), .val (.int deep), .non, .non] : Ev)) (by simp [w, e1, c]) rfl]
    rw [seq_ret (d := x) (ρ1 := ([.bor p2, .val (.int i), .val (.int deep), .non, .non] : Ev)) (by simp [e2])]
    simp
theorem bent_eq {m : Nat} (hm : m ≤ 100) : ∀ (n r : Nat), n ≤ 50 → n < r → ∀ (d : D) (deep : Int) (p : List D), IsPot p → Tree m n d → ∃ x p', F_l_bent r p [d, .int deep] = some (x, p') ∧ IsPot p' ∧ Sh (Wd m n) (n + 3) x
  | 0, 0, _, h, _, _, _, _, _ => absurd h (by omega)
  | n + 1, 0, _, h, _, _, _, _, _ => absurd h (by omega)
  | 0, r + 1, _, _, _, deep, p, hp, ⟨i, e, hi⟩ => by
    subst e
    obtain ⟨x, p', h1, h2, h3⟩ := bent_int hp (F_l_bent r) hi deep
    exact ⟨x, p', h1, h2, h3.mono (Nat.le_refl _) (by omega)⟩
  | n + 1, r + 1, _, _, _, deep, p, hp, .inl ⟨i, e, hi⟩ => by
    subst e
    obtain ⟨x, p', h1, h2, h3⟩ := bent_int hp (F_l_bent r) hi deep
    exact ⟨x, p', h1, h2, h3.mono (by have := Wd_100 m (n + 1); omega) (by omega)⟩
  | n + 1, r + 1, hn, hr, _, deep, p, hp, .inr ⟨ds, e, hl, ht⟩ => by
    subst e
    have W := Wd_100 m n
    have W1 := Wd_100 m (n + 1)
    have sq : ∀ {es : List D}, (∀ d ∈ es, Sh (Wd m n) (n + 3) d) → es.length ≤ m + 1 → Sh (Wd m (n + 1)) (n + 1 + 3) (.tuple es) := fun h l => (Sh.tupA (N := m + 2) h (by omega)).mono (Nat.le_refl _) (by omega)
    have sh0 : ∀ d ∈ ds, Sh (Wd m n) (n + 3) d := fun d hd => (ht d hd).sh.mono (Nat.le_refl _) (by omega)
    have w : F_l_whole [.tuple ds] = some (.bool false) := by simp [F_l_whole, S_l_whole]
    have sp : SeqAt.shaped (.tuple ds) = true := by
      have := ShpL.map (f := fun d => d) (n := n) ds fun x hx => (ht x hx).shp
      rw [List.map_id'] at this
      exact (Shp.tup this).sh (by omega)
    have e0 : F_l_bent (r + 1) p [.tuple ds, .int deep] = outB (S_l_bent (F_l_bent r) ([.bor p, .val (.tuple ds), .val (.int deep), .non, .non] : Ev)) := rfl
    have hz : ds.length ≤ 100 := by omega
    rw [e0]
    unfold S_l_bent
    rw [seq_step (ρ1 := ([.bor p, .val (.tuple ds), .val (.int deep), .non, .non] : Ev)) (by simp [w]) rfl]
    have eu := eqD_unit sp
    by_cases c : ds = [] ∨ deep = 0
    · obtain ⟨x, p2, e2, hp2, sx⟩ := odd_eq hp
      refine ⟨x, p2, ?_, hp2, sx.mono (by omega) (by omega)⟩
      rw [seq_ret (d := x) (ρ1 := ([.bor p2, .val (.tuple ds), .val (.int deep), .non, .non] : Ev)) (by
        by_cases c0 : ds = []
        · subst c0; simp [eu, e2, sizeLine_val]
        · have c1 : deep = 0 := c.resolve_left c0
          have c2 : ds.isEmpty = false := by cases ds with | nil => exact absurd rfl c0 | cons _ _ => rfl
          simp [eu, c1, c2, e2, sizeLine_val])]
      simp
    · have c0 : ds ≠ [] := fun z => c (.inl z)
      have c1 : deep ≠ 0 := fun z => c (.inr z)
      have c2 : ds.isEmpty = false := by cases ds with | nil => exact absurd rfl c0 | cons _ _ => rfl
      have l0 : 0 < ds.length := List.length_pos_iff.mpr c0
      rw [seq_step (ρ1 := ([.bor p, .val (.tuple ds), .val (.int deep), .non, .non] : Ev)) (by simp [eu, c1, c2, sizeLine_val]) rfl]
      obtain ⟨a, p1, e1, hp1, a1, b1⟩ := take_eq hp (b := ds.length) (by omega) (by omega)
      obtain ⟨k, p2, e2, hp2, a2, b2⟩ := take_eq hp1 (b := 9) (by decide) (by decide)
      obtain ⟨j, rfl⟩ : ∃ j : Nat, a = j := ⟨a.toNat, by omega⟩
      have hj : j < ds.length := by omega
      rw [seq_step (ρ1 := ([.bor p2, .val (.tuple ds), .val (.int deep), .val (.int j), .val (.int k)] : Ev)) (by simp [e1, e2]) rfl]
      have tk : ∀ d ∈ ds.take j, Sh (Wd m n) (n + 3) d := fun d hd => sh0 d (List.mem_of_mem_take hd)
      have dr : ∀ i, ∀ d ∈ ds.drop i, Sh (Wd m n) (n + 3) d := fun i d hd => sh0 d (List.mem_of_mem_drop hd)
      have cf : cutD ds (some ((j : Int) + 1)) none = ds.drop (j + 1) := cut_from ds (j + 1)
      have ct := cut_to ds j
      have cg := cut_from ds j
      have lt : (ds.take j).length = j := by rw [List.length_take]; omega
      have app : ∀ {xs ys : List D}, (∀ d ∈ xs, Sh (Wd m n) (n + 3) d) → (∀ d ∈ ys, Sh (Wd m n) (n + 3) d) → ∀ d ∈ xs ++ ys, Sh (Wd m n) (n + 3) d := fun hx hy d hd => (List.mem_append.mp hd).elim (hx d) (hy d)
      by_cases k0 : k = 0
      · obtain ⟨x, p3, e3, hp3, sx⟩ := odd_eq hp2
        have one : ∀ d ∈ [x], Sh (Wd m n) (n + 3) d := fun d hd => by rw [List.mem_singleton.mp hd]; exact sx.mono (by omega) (by omega)
        have q1 : addD (.tuple (ds.take j)) (.tuple [x]) = _ := add_tup (by rw [lt]; simp; omega)
        have q2 : addD (.tuple (ds.take j ++ [x])) (.tuple (ds.drop j)) = _ := add_tup (by rw [List.length_append, lt, List.length_drop]; simp; omega)
        refine ⟨_, p3, ?_, hp3, sq (app (app tk one) (dr j)) (by rw [List.length_append, List.length_append, lt, List.length_drop]; simp; omega)⟩
        rw [seq_ret (d := .tuple (ds.take j ++ [x] ++ ds.drop j)) (ρ1 := ([.bor p3, .val (.tuple ds), .val (.int deep), .val (.int j), .val (.int k)] : Ev)) (by simp [k0, e3, ct, cg, q1, q2, sizeLine_val, -addD_e3])]
        simp
      · rw [seq_step (ρ1 := ([.bor p2, .val (.tuple ds), .val (.int deep), .val (.int j), .val (.int k)] : Ev)) (by simp [k0]) rfl]
        by_cases k1 : k = 1
        · have q1 : addD (.tuple (ds.take j)) (.tuple (ds.drop (j + 1))) = _ := add_tup (by rw [lt, List.length_drop]; omega)
          refine ⟨_, p2, ?_, hp2, sq (app tk (dr (j + 1))) (by rw [List.length_append, lt, List.length_drop]; omega)⟩
          rw [seq_ret (d := .tuple (ds.take j ++ ds.drop (j + 1))) (ρ1 := ([.bor p2, .val (.tuple ds), .val (.int deep), .val (.int j), .val (.int k)] : Ev)) (by simp [k1, ct, cf, q1, -addD_e3])]
          simp
        · rw [seq_step (ρ1 := ([.bor p2, .val (.tuple ds), .val (.int deep), .val (.int j), .val (.int k)] : Ev)) (by simp [k1]) rfl]
          by_cases k2 : k = 2
          · obtain ⟨r2, p3, e3, hp3, a3, b3⟩ := take_eq hp2 (b := 3) (by decide) (by decide)
            have lastc : ∀ d ∈ cutD ds (some (-1)) none, Sh (Wd m n) (n + 3) d := fun d hd => sh0 d (cut_mem hd)
            have lc : (cutD ds (some (-1)) none).length ≤ 1 := by
              unfold cutD
              rw [List.length_take, List.length_drop, HT.sIx_none]
              have : HT.sIx ds.length 0 (some (-1)) = ds.length - 1 := by unfold HT.sIx; simp; omega
              rw [this]; omega
            have q1 : addD (.tuple ds) (.tuple (cutD ds (some (-1)) none)) = _ := add_tup (by omega)
            have hw : ∀ x ∈ ([.list ds, .tuple ds.reverse, .tuple (ds ++ cutD ds (some (-1)) none)] : List D), Sh (Wd m (n + 1)) (n + 1 + 3) x := by
              intro x hx
              simp only [List.mem_cons, List.not_mem_nil, or_false] at hx
              rcases hx with rfl | rfl | rfl
              · exact (Sh.lstA (N := m + 2) sh0 (by omega)).mono (Nat.le_refl _) (by omega)
              · exact sq (fun d hd => sh0 d (List.mem_reverse.mp hd)) (by rw [List.length_reverse]; omega)
              · exact sq (app sh0 lastc) (by rw [List.length_append]; omega)
            obtain ⟨x, e4, mx⟩ := atI_in (xs := ([.list ds, .tuple ds.reverse, .tuple (ds ++ cutD ds (some (-1)) none)] : List D)) a3 (by show r2 < ((3 : Nat) : Int); omega)
            refine ⟨x, p3, ?_, hp3, hw x mx⟩
            rw [seq_ret (d := x) (ρ1 := ([.bor p3, .val (.tuple ds), .val (.int deep), .val (.int j), .val (.int k)] : Ev)) (by simp [k2, e3, e4, q1, sizeLine_val, -addD_e3])]
            simp
          rw [seq_step (ρ1 := ([.bor p2, .val (.tuple ds), .val (.int deep), .val (.int j), .val (.int k)] : Ev)) (by simp [k2]) rfl]
          have hd := List.getElem?_eq_getElem hj
          obtain ⟨x, p3, e3, hp3, sx⟩ := bent_eq hm n r (by omega) (by omega) ds[j] (deep - 1) p2 hp2 (ht _ (List.getElem_mem hj))
          have one : ∀ d ∈ [x], Sh (Wd m n) (n + 3) d := fun d hd => by rw [List.mem_singleton.mp hd]; exact sx
          have q1 : addD (.tuple (ds.take j)) (.tuple [x]) = _ := add_tup (by rw [lt]; simp; omega)
          have q2 : addD (.tuple (ds.take j ++ [x])) (.tuple (ds.drop (j + 1))) = _ := add_tup (by rw [List.length_append, lt, List.length_drop]; simp; omega)
          refine ⟨_, p3, ?_, hp3, sq (app (app tk one) (dr (j + 1))) (by rw [List.length_append, List.length_append, lt, List.length_drop]; simp; omega)⟩
          have e4 : atI ds (j : Int) = some ds[j] := atI_at hj
          simp [ct, cf, e3, e4, q1, q2, sizeLine_val, -addD_e3]
end Mine

set_option Elab.async false
set_option linter.all false
set_option maxRecDepth 100000
set_option maxHeartbeats 1000000
namespace Mine
open PySem L2 DL
theorem whole_any (d : D) : F_p_is_whole [d] = some (.bool (isInt d && !isBool d)) := by
  cases d <;> simp [F_p_is_whole, S_p_is_whole]
theorem l_whole_any (d : D) : F_l_whole [d] = some (.bool (isInt d && !isBool d)) := by
  cases d <;> simp [F_l_whole, S_l_whole]
def wholeD (d : D) : Bool := isInt d && !isBool d
theorem whole_int {d : D} (h : wholeD d = true) : ∃ i, d = .int i := by cases d <;> first | exact ⟨_, rfl⟩ | (simp [wholeD] at h)
def standsD (s : Sn) (d : D) : Bool := match d with
  | .tuple [.int a, .int b, .int c] => stands s (a, b, c)
  | _ => false
theorem standsD_no {s : Sn} {x y z : D} (h : ¬ (wholeD x = true ∧ wholeD y = true ∧ wholeD z = true)) : standsD s (.tuple [x, y, z]) = false := by
  unfold standsD
  split
  · rename_i e
    simp only [PyData.tuple.injEq, List.cons.injEq, and_true] at e
    obtain ⟨rfl, rfl, rfl⟩ := e
    exact absurd ⟨rfl, rfl, rfl⟩ h
  · rfl
theorem standsD_len {s : Sn} {ds : List D} (h : ds.length ≠ 3) : standsD s (.tuple ds) = false := by
  unfold standsD
  split
  · rename_i e
    simp only [PyData.tuple.injEq] at e
    subst e; simp at h
  · rfl
theorem len3 {ds : List D} (h : ds.length = 3) : ∃ x y z, ds = [x, y, z] := by
  match ds, h with
  | [x, y, z], _ => exact ⟨x, y, z, rfl⟩
theorem may_any (s : Sn) (d : D) : F_p_may_stand_for [sD s, d] = some (.bool (standsD s d)) := by
  have e00 : F_p_may_stand_for [sD s, d] = outF (S_p_may_stand_for ([.val (sD s), .val d, .non, .non, .non] : Ev)) := rfl
  have nt : isTup d = false → standsD s d = false → F_p_may_stand_for [sD s, d] = some (.bool (standsD s d)) := fun h1 h2 => by
    rw [e00, h2]
    unfold S_p_may_stand_for
    rw [seq_ret (d := .bool false) (ρ1 := ([.val (sD s), .val d, .non, .non, .non] : Ev)) (by simp [h1])]
    simp
  cases d with
  | none => exact nt rfl rfl
  | bool _ => exact nt rfl rfl
  | int _ => exact nt rfl rfl
  | str _ => exact nt rfl rfl
  | list _ => exact nt rfl rfl
  | dict _ => exact nt rfl rfl
  | tuple ds =>
    by_cases hl : ds.length = 3
    · obtain ⟨x, y, z, rfl⟩ := len3 hl
      by_cases hw : wholeD x = true ∧ wholeD y = true ∧ wholeD z = true
      · obtain ⟨a, rfl⟩ := whole_int hw.1
        obtain ⟨b, rfl⟩ := whole_int hw.2.1
        obtain ⟨c, rfl⟩ := whole_int hw.2.2
        exact may_stand_eq (s := s) (a, b, c)
      · rw [e00, standsD_no hw]
        unfold S_p_may_stand_for
        rw [seq_step (ρ1 := ([.val (sD s), .val (.tuple [x, y, z]), .non, .non, .non] : Ev)) (by simp) rfl]
        rw [seq_step (ρ1 := ([.val (sD s), .val (.tuple [x, y, z]), .val x, .val y, .val z] : Ev)) (by simp) rfl]
        have wx := whole_any x; have wy := whole_any y; have wz := whole_any z
        rw [seq_ret (d := .bool false) (ρ1 := ([.val (sD s), .val (.tuple [x, y, z]), .val x, .val y, .val z] : Ev)) (by
          change F_p_is_whole [x] = some (.bool (wholeD x)) at wx
          change F_p_is_whole [y] = some (.bool (wholeD y)) at wy
          change F_p_is_whole [z] = some (.bool (wholeD z)) at wz
          cases h1 : wholeD x <;> cases h2 : wholeD y <;> cases h3 : wholeD z <;> first | (rw [h1] at wx; rw [h2] at wy; rw [h3] at wz; simp [wx, wy, wz]; done) | (simp [h1, h2, h3] at hw))]
        simp
    · rw [e00, standsD_len hl]
      unfold S_p_may_stand_for
      rw [seq_ret (d := .bool false) (ρ1 := ([.val (sD s), .val (.tuple ds), .non, .non, .non] : Ev)) (by
        have : ¬ (ds.length : Int) = 3 := by omega
        simp [this])]
      simp
theorem is_true_any (s : Sn) (g : good s) (d : D) : F_l_is_true [sD s, d] = some (.bool (standsD s d)) := by
  have e00 : F_l_is_true [sD s, d] = outF (S_l_is_true ([.val (sD s), .val d, .non] : Ev)) := rfl
  have nt : isTup d = false → standsD s d = false → F_l_is_true [sD s, d] = some (.bool (standsD s d)) := fun h1 h2 => by
    rw [e00, h2]
    unfold S_l_is_true
    rw [seq_ret (d := .bool false) (ρ1 := ([.val (sD s), .val d, .non] : Ev)) (by simp [h1])]
    simp
  cases d with
  | none => exact nt rfl rfl
  | bool _ => exact nt rfl rfl
  | int _ => exact nt rfl rfl
  | str _ => exact nt rfl rfl
  | list _ => exact nt rfl rfl
  | dict _ => exact nt rfl rfl
  | tuple ds =>
    by_cases hl : ds.length = 3
    · obtain ⟨x, y, z, rfl⟩ := len3 hl
      have lc : Is A_l_is_true_1 ([.val (sD s), .val (.tuple [x, y, z]), .non] : Ev) [.bool (wholeD x), .bool (wholeD y), .bool (wholeD z)] := by
        have := lcA_of (I := (itA (varE 1))) (G := (nameG 2)) (C := yesT) (E := (cbE F_l_whole (consA (varE 2) nilA))) (vs := [2]) (fun d : D => d) (fun d => .bool (wholeD d)) [x, y, z] ([.val (sD s), .val (.tuple [x, y, z]), .non] : Ev) ([.val (sD s), .val (.tuple [x, y, z]), .non] : Ev) (by simp) rfl (by rw [sizeLine_val]; show 3 ≤ 16777216; omega) (fun d _ => by
          have w := l_whole_any d
          change F_l_whole [d] = some (.bool (wholeD d)) at w
          simp [w]) rfl
        exact this
      by_cases hw : wholeD x = true ∧ wholeD y = true ∧ wholeD z = true
      · obtain ⟨a, rfl⟩ := whole_int hw.1
        obtain ⟨b, rfl⟩ := whole_int hw.2.1
        obtain ⟨c, rfl⟩ := whole_int hw.2.2
        have e1 := eq_sD (a, b, c) s
        have i1 : ixD (sD s) (.int 1) = some (.int s.2.1) := by simp [sD, atI, ixN]
        have i2 : ixD (sD s) (.int 2) = some (.int s.2.2) := by simp [sD, atI, ixN]
        have l2 : lcA (itA (varE 1)) (nameG 2) yesT (cbE F_l_whole (consA (varE 2) nilA)) [2] ([.val (sD s), .val (.tuple [.int a, .int b, .int c]), .non] : Ev) = A_l_is_true_1 ([.val (sD s), .val (.tuple [.int a, .int b, .int c]), .non] : Ev) := rfl
        show _ = some (PyData.bool (stands s (a, b, c)))
        rw [e00]
        unfold S_l_is_true
        rw [seq_step (ρ1 := ([.val (sD s), .val (.tuple [.int a, .int b, .int c]), .non] : Ev)) (by simp [lc, wholeD]) rfl]
        unfold stands
        have g1 := g.2.2.2.1
        by_cases cc : s.2.2 = 0
        · rw [if_neg (by simp [cc])]
          rw [seq_step (ρ1 := ([.val (sD s), .val (.tuple [.int a, .int b, .int c]), .non] : Ev)) (by simp [i2, cc]) rfl]
          by_cases c1 : a = 0
          · by_cases c2 : s.2.1 < b
            · by_cases c3 : b ≤ 2000
              · by_cases c4 : 1 ≤ c
                · have c5 : 0 < c := by omega
                  simp [i1, c1, c2, c3, c4, c5, atI, ixN]
                · have c5 : ¬ 0 < c := by omega
                  simp [i1, c1, c2, c3, c4, c5, atI, ixN]
              · simp [i1, c1, c2, c3, atI, ixN]
            · simp [i1, c1, c2, atI, ixN]
          · simp [i1, c1, atI, ixN]
        · rw [if_pos cc]
          have c6 : 0 < s.2.2 := by omega
          change eqD (.tuple [.int a, .int b, .int c]) (sD s) = _ at e1
          rw [seq_ret (d := .bool (decide ((a, b, c) = s))) (ρ1 := ([.val (sD s), .val (.tuple [.int a, .int b, .int c]), .non] : Ev)) (by simp [i2, c6, e1])]
          simp
      · rw [e00, standsD_no hw]
        unfold S_l_is_true
        rw [seq_ret (d := .bool false) (ρ1 := ([.val (sD s), .val (.tuple [x, y, z]), .non] : Ev)) (by
          cases h1 : wholeD x <;> cases h2 : wholeD y <;> cases h3 : wholeD z <;> first | (rw [h1, h2, h3] at lc; simp [lc]; done) | (simp [h1, h2, h3] at hw))]
        simp
    · rw [e00, standsD_len hl]
      unfold S_l_is_true
      rw [seq_ret (d := .bool false) (ρ1 := ([.val (sD s), .val (.tuple ds), .non] : Ev)) (by
        have : ¬ (ds.length : Int) = 3 := by omega
        simp [this])]
      simp
def isTr (bk : List Sn) (d : D) : Bool := match d with
  | .tuple ds => decide (ds.length = bk.length) && (bk.zip ds).all fun p => standsD p.1 p.2
  | _ => false
theorem zip_encR {α : Type} (f : α → D) (xs : List α) (ys : List D) : ((xs.map f).zip ys).map pairD = (xs.zip ys).map fun p => pairD (f p.1, p.2) := by
  have := zip_enc f (fun d : D => d) xs ys
  rwa [List.map_id'] at this
theorem p_tr_any {bk : List Sn} (h : Good bk) (hp : Plain bk) (d : D) : F_p_is_truth [bD bk, d] = some (.bool (isTr bk d)) := by
  have e1 := check_plain_eq h hp
  have b := h.most
  have e00 : F_p_is_truth [bD bk, d] = outF (S_p_is_truth ([.val (bD bk), .val d, .non, .non] : Ev)) := rfl
  have st : (exprS (cbE F_p_check_plain (consA (varE 0) nilA))) ([.val (bD bk), .val d, .non, .non] : Ev) = some (.nx, ([.val (bD bk), .val d, .non, .non] : Ev)) := by simp [e1]
  have nt : isTup d = false → isTr bk d = false → F_p_is_truth [bD bk, d] = some (.bool (isTr bk d)) := fun h1 h2 => by
    rw [e00, h2]
    unfold S_p_is_truth
    rw [seq_step st rfl]
    rw [seq_ret (d := .bool false) (ρ1 := ([.val (bD bk), .val d, .non, .non] : Ev)) (by simp [h1])]
    simp
  cases d with
  | none => exact nt rfl rfl
  | bool _ => exact nt rfl rfl
  | int _ => exact nt rfl rfl
  | str _ => exact nt rfl rfl
  | list _ => exact nt rfl rfl
  | dict _ => exact nt rfl rfl
  | tuple ds =>
    rw [e00]
    unfold S_p_is_truth
    rw [seq_step st rfl]
    show _ = some (PyData.bool (decide (ds.length = bk.length) && (bk.zip ds).all fun p => standsD p.1 p.2))
    by_cases hl : ds.length = bk.length
    · have lc : Is A_p_is_truth_1 ([.val (bD bk), .val (.tuple ds), .non, .non] : Ev) ((bk.zip ds).map fun p => .bool (standsD p.1 p.2)) :=
        lcA_of (fun p : Sn × D => pairD (sD p.1, p.2)) _ (bk.zip ds) ([.val (bD bk), .val (.tuple ds), .non, .non] : Ev) ([.val (bD bk), .val (.tuple ds), .non, .non] : Ev) (by rw [← zip_encR]; simp) rfl (DL.small (by rw [List.length_zip]; omega)) (fun p hm => by simp [pairD, may_any]) rfl
      rw [seq_step (ρ1 := ([.val (bD bk), .val (.tuple ds), .non, .non] : Ev)) (by simp [hl]) rfl]
      have al : allD [.list ((bk.zip ds).map fun p => PyData.bool (standsD p.1 p.2))] = some (.bool ((bk.zip ds).all fun p => standsD p.1 p.2)) := by
        rw [allD_e1]
        have := boolsD_map ((bk.zip ds).map fun p => standsD p.1 p.2)
        rw [List.map_map] at this
        rw [show (List.map (fun p => PyData.bool (standsD p.1 p.2)) (bk.zip ds)) = List.map (PyData.bool ∘ fun p => standsD p.1 p.2) (bk.zip ds) from rfl, this]
        simp [List.all_map]
      simp [lc, al, hl, -allD_e1]
    · have hl2 : ¬ (ds.length : Int) = bk.length := by omega
      rw [seq_ret (d := .bool false) (ρ1 := ([.val (bD bk), .val (.tuple ds), .non, .non] : Ev)) (by simp [hl2])]
      simp [hl]
theorem l_tr_any {bk : List Sn} (h : Good bk) (d : D) : F_l_is_truth [bD bk, d] = some (.bool (isTr bk d)) := by
  have b := h.most
  have e00 : F_l_is_truth [bD bk, d] = outF (S_l_is_truth ([.val (bD bk), .val d, .non, .non] : Ev)) := rfl
  have nt : isTup d = false → isTr bk d = false → F_l_is_truth [bD bk, d] = some (.bool (isTr bk d)) := fun h1 h2 => by
    rw [e00, h2]
    unfold S_l_is_truth
    rw [seq_ret (d := .bool false) (ρ1 := ([.val (bD bk), .val d, .non, .non] : Ev)) (by simp [h1])]
    simp
  cases d with
  | none => exact nt rfl rfl
  | bool _ => exact nt rfl rfl
  | int _ => exact nt rfl rfl
  | str _ => exact nt rfl rfl
  | list _ => exact nt rfl rfl
  | dict _ => exact nt rfl rfl
  | tuple ds =>
    rw [e00]
    unfold S_l_is_truth
    show _ = some (PyData.bool (decide (ds.length = bk.length) && (bk.zip ds).all fun p => standsD p.1 p.2))
    by_cases hl : ds.length = bk.length
    · have lc : Is A_l_is_truth_1 ([.val (bD bk), .val (.tuple ds), .non, .non] : Ev) (((bk.zipIdx).filter fun q => !standsD q.1 (ds.getD q.2 .none)).map fun q => .int (q.2 : Nat)) :=
        lcA_filter (fun q : Sn × Nat => PyData.tuple [.int (q.2 : Nat), sD q.1]) _ (fun q => .int (q.2 : Nat)) bk.zipIdx ([.val (bD bk), .val (.tuple ds), .non, .non] : Ev) ([.val (bD bk), .val (.tuple ds), .non, .non] : Ev) (by
          have : (bk.map sD).zipIdx = bk.zipIdx.map fun q => (sD q.1, q.2) := by rw [List.zipIdx_map]; rfl
          simp [enumA, this]) rfl (by rw [List.length_zipIdx]; exact h.small) (fun q hq => by
          obtain ⟨i1, i2, i3⟩ := List.mem_zipIdx hq
          have hi : q.2 < ds.length := by omega
          have g : good q.1 := h.all _ (List.fst_mem_of_mem_zipIdx hq)
          have e1 := is_true_any q.1 g ds[q.2]
          have e2 : atI ds ((q.2 : Nat) : Int) = some ds[q.2] := atI_at hi
          have e3 : ds.getD q.2 .none = ds[q.2] := by simp [hi]
          rw [e3]
          generalize standsD q.1 ds[q.2] = bb at e1 ⊢
          cases bb <;> simp [e1, e2]) rfl
      rw [seq_step (ρ1 := ([.val (bD bk), .val (.tuple ds), .non, .non] : Ev)) (by simp [hl]) rfl]
      have sp : SeqAt.shaped (.list ((((bk.zipIdx).filter fun q => !standsD q.1 (ds.getD q.2 .none)).map fun q => PyData.int (q.2 : Nat)))) = true := (Shp.lst (ShpL.map _ fun q _ => Shp.int _)).sh (by omega)
      have en := eq_nilD sp
      have ev : ((((bk.zipIdx).filter fun q => !standsD q.1 (ds.getD q.2 .none)).map fun q => PyData.int (q.2 : Nat))).isEmpty = (bk.zip ds).all fun p => standsD p.1 p.2 := by
        rw [Bool.eq_iff_iff]
        simp only [List.isEmpty_iff, List.map_eq_nil_iff, List.filter_eq_nil_iff, List.all_eq_true]
        constructor
        · intro hq p hp
          obtain ⟨i, hi, rfl⟩ := List.mem_iff_getElem.mp hp
          rw [List.length_zip] at hi
          have i1 : i < bk.length := by omega
          have i2 : i < ds.length := by omega
          have := hq (bk[i], i) (List.mem_zipIdx_iff_getElem?.mpr (by simp [i1]))
          simpa [i2] using this
        · intro hq q hm
          have hm2 := List.mem_zipIdx_iff_getElem?.mp hm
          obtain ⟨i1, e1⟩ := List.getElem?_eq_some_iff.mp hm2
          have i2 : q.2 < ds.length := by omega
          have := hq (bk[q.2], ds[q.2]) (List.mem_iff_getElem.mpr ⟨q.2, by rw [List.length_zip]; omega, by simp⟩)
          rw [← e1]
          simpa [i2] using this
      rw [ev] at en
      rw [hl, decide_eq_true rfl, Bool.true_and]
      generalize (((bk.zipIdx).filter fun q => !standsD q.1 (ds.getD q.2 .none)).map fun q => PyData.int (q.2 : Nat)) = L at lc en
      simp [lc, en, sizeLine_val]
    · have hl2 : ¬ (ds.length : Int) = bk.length := by omega
      rw [seq_ret (d := .bool false) (ρ1 := ([.val (bD bk), .val (.tuple ds), .non, .non] : Ev)) (by simp [hl2])]
      simp [hl]
theorem near_truth {bk tr : List Sn} (h : Good bk) (ht : Truth bk tr) : ∀ s ∈ tr, Near s := fun x hx => by
  obtain ⟨i, hi, rfl⟩ := List.mem_iff_getElem.mp hx
  have hb : i < bk.length := by have := ht.l; omega
  have g := h.all _ (List.getElem_mem hb)
  have st := ht.s (bk[i], tr[i]) (List.mem_iff_getElem.mpr ⟨i, by rw [List.length_zip]; omega, by simp⟩)
  unfold stands at st
  split at st
  · have st2 : tr[i] = bk[i] := of_decide_eq_true st
    rw [st2]; exact near_good g
  · simp only [Bool.and_eq_true, decide_eq_true_eq] at st
    obtain ⟨⟨s1, s2, s3⟩, s4, s5⟩ := st
    obtain ⟨g1, g2, _⟩ := g
    exact ⟨⟨by omega, by omega⟩, ⟨by omega, s3⟩, ⟨by omega, s5⟩⟩
theorem tree_sn {m : Nat} (hm : 3 ≤ m) {s : Sn} (h : Near s) : Tree m 1 (sD s) := by
  obtain ⟨a, b, c⟩ := h
  refine .inr ⟨_, rfl, hm, fun x hx => ?_⟩
  simp only [List.mem_cons, List.not_mem_nil, or_false] at hx
  rcases hx with rfl | rfl | rfl <;> exact ⟨_, rfl, by omega⟩
/-- what a truth is made of -/
structure Tru (n : Nat) (T : List D) : Prop where
  t : ∀ x ∈ T, Tree 8 1 x
  l : T.length = n
theorem tru_of {n : Nat} {tr : List Sn} (h : ∀ s ∈ tr, Near s) (l : tr.length = n) : Tru n (tr.map sD) := ⟨fun x hx => by
  obtain ⟨s, hs, rfl⟩ := List.mem_map.mp hx
  exact tree_sn (by omega) (h s hs), by rw [List.length_map]; exact l⟩
abbrev Ok1 (x : D) : Prop := Sh 100000 8 x
theorem Tru.tree {n : Nat} {T : List D} (h : Tru n T) (hn : n ≤ 8) : Tree 8 2 (.tuple T) := .inr ⟨T, rfl, by rw [h.l]; exact hn, h.t⟩
theorem ok_tup {ds : List D} (h : ∀ d ∈ ds, Sh 1100 5 d) (hl : ds.length ≤ 20) : Ok1 (.tuple ds) := (Sh.tupA (N := 20) h hl).mono (by omega) (by omega)
theorem ok_lst {ds : List D} (h : ∀ d ∈ ds, Sh 1100 5 d) (hl : ds.length ≤ 20) : Ok1 (.list ds) := (Sh.lstA (N := 20) h hl).mono (by omega) (by omega)
theorem Tru.sh {n : Nat} {T : List D} (h : Tru n T) : ∀ x ∈ T, Sh 1100 5 x := fun x hx => ((h.t x hx).sh).mono (by decide) (by omega)
theorem sh_i {i : Int} (h : i.natAbs < 2 ^ 40) : Sh 42 0 (.int i) := Sh.int h
theorem sh3 {a b c : D} (ha : Sh 42 0 a) (hb : Sh 42 0 b) (hc : Sh 42 0 c) : Sh 1100 5 (.tuple [a, b, c]) := (Sh.tup (ShL.cons ha (ShL.cons hb (ShL.cons hc ShL.nil)))).mono (by simp) (by simp)
theorem things_eq {p : List D} (hp : IsPot p) {bk : List Sn} (h : Good bk) (l8 : bk.length ≤ 8) : ∃ L p', F_l_things p [bD bk] = some (.list L, p') ∧ IsPot p' ∧ ∀ x ∈ L, Ok1 x := by
  have one := h.one
  obtain ⟨T, p1, e1, hp1, tT⟩ : ∃ T p1, F_l_truth p [bD bk] = some (.tuple T, p1) ∧ IsPot p1 ∧ Tru bk.length T := by
    obtain ⟨tr, p1, e1, hp1, ht⟩ := l_truth_eq hp h
    exact ⟨tr.map sD, p1, e1, hp1, tru_of (near_truth h ht) ht.l⟩
  obtain ⟨U, eU, tU⟩ : ∃ U, F_l_soonest [bD bk] = some (.tuple U) ∧ Tru bk.length U := ⟨_, l_soonest_eq h, tru_of (near_soon h) (soonL_len bk)⟩
  obtain ⟨V, eV, tV⟩ : ∃ V, F_l_latest [bD bk] = some (.tuple V) ∧ Tru bk.length V := ⟨_, l_latest_eq h, tru_of (near_late h) (lateL_len bk)⟩
  obtain ⟨a, p2, e2, hp2, a0, a1⟩ := take_eq hp1 (b := bk.length) (by omega) (by omega)
  obtain ⟨j, rfl⟩ : ∃ j : Nat, a = j := ⟨a.toNat, by omega⟩
  have hj : j < bk.length := by omega
  have es : atI bk (j : Int) = some bk[j] := atI_at hj
  obtain ⟨b, c, e, he⟩ : ∃ b c e, bk[j] = (b, c, e) := ⟨_, _, _, rfl⟩
  have g := h.all bk[j] (List.getElem_mem hj)
  rw [he] at g
  obtain ⟨g1, g2, g3, g4, g5⟩ := g
  change 0 ≤ b at g1; change b < c at g2; change c ≤ 999 at g3; change 0 ≤ e at g4; change e ≤ 4 at g5
  have e00 : F_l_things p [bD bk] = outB (S_l_things ([.bor p, .val (bD bk), .non, .non, .non, .non, .non, .non, .non] : Ev)) := rfl
  obtain ⟨S1, eS1⟩ : ∃ S1 : List D, S1 = [sD (b, c, e), .tuple [.int 0, .int c, .int 1], .tuple [.int 0, .int (c + 1), .int 4], .tuple [.int 0, .int 2000, .int 2], .tuple [.int 0, .int 2001, .int 1], .tuple [.int 1, .int 1999, .int 1], .tuple [.int 0, .int 1999, .int 0]] := ⟨_, rfl⟩
  obtain ⟨S2, eS2⟩ : ∃ S2 : List D, S2 = [.tuple [.int 0, .int (c + 1), .int 5], .tuple [.int 0, .int (c + 1), .bool true], .list [.int 0, .int 2000, .int 1], .tuple [.int 0, .int 2000], .none, .tuple [.bool false, .int 2000, .int 1]] := ⟨_, rfl⟩
  have hS1 : ∀ x ∈ S1, Sh 1100 5 x := by
    intro x hx
    rw [eS1] at hx
    simp only [List.mem_cons, List.not_mem_nil, or_false] at hx
    rcases hx with rfl | rfl | rfl | rfl | rfl | rfl | rfl
    · show Sh 1100 5 (.tuple [.int b, .int c, .int e])
      exact sh3 (sh_i (by omega)) (sh_i (by omega)) (sh_i (by omega))
    all_goals exact sh3 (sh_i (by omega)) (sh_i (by omega)) (sh_i (by omega))
  have hS2 : ∀ x ∈ S2, Sh 1100 5 x := by
    intro x hx
    rw [eS2] at hx
    simp only [List.mem_cons, List.not_mem_nil, or_false] at hx
    rcases hx with rfl | rfl | rfl | rfl | rfl | rfl
    · exact sh3 (sh_i (by omega)) (sh_i (by omega)) (sh_i (by omega))
    · exact sh3 (sh_i (by omega)) (sh_i (by omega)) ((Sh.bool true).mono (by omega) (by omega))
    · exact ⟨by decide +kernel, by decide +kernel, by decide +kernel⟩
    · exact ⟨by decide +kernel, by decide +kernel, by decide +kernel⟩
    · exact ⟨by decide +kernel, by decide +kernel, by decide +kernel⟩
    · exact ⟨by decide +kernel, by decide +kernel, by decide +kernel⟩
  have l1 : S1.length = 7 := by rw [eS1]; rfl
  have l2 : S2.length = 6 := by rw [eS2]; rfl
  rw [e00]
  unfold S_l_things
  rw [seq_step (ρ1 := ([.bor p1, .val (bD bk), .val (.list [.tuple T, .tuple U, .tuple V]), .non, .non, .non, .non, .non, .non] : Ev)) (by simp [e1, eU, eV, sizeLine_val]) rfl]
  rw [seq_step (ρ1 := ([.bor p2, .val (bD bk), .val (.list [.tuple T, .tuple U, .tuple V]), .val (.int j), .non, .non, .non, .non, .non] : Ev)) (by simp [e2]) rfl]
  rw [seq_step (ρ1 := ([.bor p2, .val (bD bk), .val (.list [.tuple T, .tuple U, .tuple V]), .val (.int j), .val (sD (b, c, e)), .non, .non, .non, .non] : Ev)) (by simp [es, he]) rfl]
  have i1 : ixD (sD (b, c, e)) (.int 1) = some (.int c) := by simp [sD, atI, ixN]
  rw [seq_step (ρ1 := ([.bor p2, .val (bD bk), .val (.list [.tuple T, .tuple U, .tuple V]), .val (.int j), .val (sD (b, c, e)), .val (.list S1), .non, .non, .non] : Ev)) (by simp [i1, eS1, sizeLine_val]) rfl]
  have q12 : addD (.list S1) (.list S2) = some (.list (S1 ++ S2)) := by rw [addD_e2, if_pos (by rw [l1, l2, sizeLine_val]; decide)]
  rw [seq_step (ρ1 := ([.bor p2, .val (bD bk), .val (.list [.tuple T, .tuple U, .tuple V]), .val (.int j), .val (sD (b, c, e)), .val (.list (S1 ++ S2)), .non, .non, .non] : Ev)) (by
    rw [eS2] at q12
    rw [eS2]
    simp [i1, q12, sizeLine_val, -addD_e2]) rfl]
  obtain ⟨S, eS⟩ : ∃ S, S = S1 ++ S2 := ⟨_, rfl⟩
  have hS : ∀ x ∈ S, Sh 1100 5 x := fun x hx => by
    rw [eS] at hx
    exact (List.mem_append.mp hx).elim (hS1 x) (hS2 x)
  have lS : S.length = 13 := by rw [eS, List.length_append, l1, l2]
  rw [← eS]
  have cf : cutD T (some ((j : Int) + 1)) none = T.drop (j + 1) := cut_from T (j + 1)
  have ct := cut_to T j
  have c1 : cutD T (some 1) none = T.drop 1 := cut_from T 1
  have c2 : cutD T none (some 1) = T.take 1 := cut_to T 1
  have lT := tT.l
  have i0 : atI ([.tuple T, .tuple U, .tuple V] : List D) 0 = some (.tuple T) := by simp [atI, ixN]
  have q1 : addD (.tuple T) (.tuple (T.take 1)) = _ := add_tup (by rw [List.length_take]; omega)
  -- what is there first
  obtain ⟨F1, eF1⟩ : ∃ F1 : List D, F1 = [.tuple T, .tuple U, .tuple V] ++ [bD bk, .list T, .tuple (T.drop 1), .tuple (T ++ T.take 1), .tuple [], .none, .tuple T.reverse] := ⟨_, rfl⟩
  have tru : ∀ {X : List D}, Tru bk.length X → Ok1 (.tuple X) := fun h => ok_tup h.sh (by rw [h.l]; omega)
  have hF1 : ∀ x ∈ F1, Ok1 x := by
    intro x hx
    rw [eF1] at hx
    simp only [List.cons_append, List.nil_append, List.mem_cons, List.not_mem_nil, or_false] at hx
    rcases hx with rfl | rfl | rfl | rfl | rfl | rfl | rfl | rfl | rfl | rfl
    · exact tru tT
    · exact tru tU
    · exact tru tV
    · exact tru (tru_of (fun s hs => near_good (h.all s hs)) rfl)
    · exact ok_lst tT.sh (by omega)
    · exact ok_tup (fun x hx => tT.sh x (List.mem_of_mem_drop hx)) (by rw [List.length_drop]; omega)
    · exact ok_tup (fun x hx => (List.mem_append.mp hx).elim (tT.sh x) fun hx => tT.sh x (List.mem_of_mem_take hx)) (by rw [List.length_append, List.length_take]; omega)
    · exact ok_tup (by simp) (by simp)
    · exact Sh.none.mono (by omega) (by omega)
    · exact ok_tup (fun x hx => tT.sh x (List.mem_reverse.mp hx)) (by rw [List.length_reverse]; omega)
  have lF1 : F1.length = 10 := by rw [eF1]; rfl
  have q3 : addD (.list [.tuple T, .tuple U, .tuple V]) (.list [bD bk, .list T, .tuple (T.drop 1), .tuple (T ++ T.take 1), .tuple [], .none, .tuple T.reverse]) = some (.list F1) := by rw [addD_e2, if_pos (by rw [sizeLine_val]; show 3 + 7 ≤ 16777216; omega), ← eF1]
  rw [seq_step (ρ1 := ([.bor p2, .val (bD bk), .val (.list [.tuple T, .tuple U, .tuple V]), .val (.int j), .val (sD (b, c, e)), .val (.list S), .val (.list F1), .non, .non] : Ev)) (by simp [i0, c1, c2, q1, q3, sizeLine_val, -addD_e2, -addD_e3, -List.drop_one]) rfl]
  have lc : Is A_l_things_1 ([.bor p2, .val (bD bk), .val (.list [.tuple T, .tuple U, .tuple V]), .val (.int j), .val (sD (b, c, e)), .val (.list S), .val (.list F1), .non, .non] : Ev) (S.map fun x => .tuple (T.take j ++ [x] ++ T.drop (j + 1))) := by
    have := lcA_of (I := (itA (varE 5))) (G := (nameG 7)) (C := yesT) (E := (op2E addD (op2E addD (slE (op2E ixD (varE 2) (cE (.int 0))) noO (someO (varE 3))) (tupE (consA (varE 7) nilA))) (slE (op2E ixD (varE 2) (cE (.int 0))) (someO (op2E addD (varE 3) (cE (.int 1)))) noO))) (vs := [7]) (fun x : D => x) (fun x => .tuple (T.take j ++ [x] ++ T.drop (j + 1))) S ([.bor p2, .val (bD bk), .val (.list [.tuple T, .tuple U, .tuple V]), .val (.int j), .val (sD (b, c, e)), .val (.list S), .val (.list F1), .non, .non] : Ev) ([.bor p2, .val (bD bk), .val (.list [.tuple T, .tuple U, .tuple V]), .val (.int j), .val (sD (b, c, e)), .val (.list S), .val (.list F1), .non, .non] : Ev) (by simp) rfl (by rw [lS, sizeLine_val]; omega) (fun x _ => by
      have z1 : addD (.tuple (T.take j)) (.tuple [x]) = _ := add_tup (by rw [List.length_take]; simp; omega)
      have z2 : addD (.tuple (T.take j ++ [x])) (.tuple (T.drop (j + 1))) = _ := add_tup (by rw [List.length_append, List.length_take, List.length_drop]; simp; omega)
      simp [i0, ct, cf, z1, z2, sizeLine_val, -addD_e3]) rfl
    exact this
  obtain ⟨C, eC⟩ : ∃ C : List D, C = S.map fun x => .tuple (T.take j ++ [x] ++ T.drop (j + 1)) := ⟨_, rfl⟩
  have hC : ∀ x ∈ C, Ok1 x := fun x hx => by
    rw [eC] at hx
    obtain ⟨y, hy, rfl⟩ := List.mem_map.mp hx
    refine ok_tup (fun z hz => ?_) (by rw [List.length_append, List.length_append, List.length_take, List.length_drop]; simp; omega)
    rcases List.mem_append.mp hz with hz | hz
    · rcases List.mem_append.mp hz with hz | hz
      · exact tT.sh z (List.mem_of_mem_take hz)
      · rw [List.mem_singleton.mp hz]; exact hS y hy
    · exact tT.sh z (List.mem_of_mem_drop hz)
  rw [← eC] at lc
  have lC : C.length = 13 := by rw [eC, List.length_map, lS]
  have q4 : addD (.list F1) (.list C) = some (.list (F1 ++ C)) := by rw [addD_e2, if_pos (by rw [lF1, lC, sizeLine_val]; decide)]
  rw [seq_step (ρ1 := ([.bor p2, .val (bD bk), .val (.list [.tuple T, .tuple U, .tuple V]), .val (.int j), .val (sD (b, c, e)), .val (.list S), .val (.list (F1 ++ C)), .non, .non] : Ev)) (by simp [lc, q4, -addD_e2]) rfl]
  obtain ⟨ρ', lp, p', L, hp', hL, lL, rfl⟩ := forL_allI (G := (nameG 8)) (S := B_l_things_1) (vs := [8]) (fun i : Nat => (.int i)) (fun i ρ => ∃ (p : List D) (L : List D), IsPot p ∧ (∀ x ∈ L, Ok1 x) ∧ L.length = 23 + 2 * i ∧ ρ = ([.bor p, .val (bD bk), .val (.list [.tuple T, .tuple U, .tuple V]), .val (.int j), .val (sD (b, c, e)), .val (.list S), .val (.list L), .non, .non] : Ev)) (List.range 6) ([.bor p2, .val (bD bk), .val (.list [.tuple T, .tuple U, .tuple V]), .val (.int j), .val (sD (b, c, e)), .val (.list S), .val (.list (F1 ++ C)), .non, .non] : Ev) ⟨p2, F1 ++ C, hp2, fun x hx => (List.mem_append.mp hx).elim (hF1 x) (hC x), by rw [List.length_append, lF1, lC], by simp⟩ (fun i ρ x hx ⟨p, L, hp, hL, lL, er⟩ => by
    subst er
    have hi := lt_get hx
    rw [List.length_range] at hi
    obtain ⟨r, p3, f3, hp3, a3, b3⟩ := take_eq hp (b := 3) (by decide) (by decide)
    obtain ⟨X, hX, mX⟩ := atI_in (xs := ([.tuple T, .tuple U, .tuple V] : List D)) a3 (by show r < ((3 : Nat) : Int); omega)
    have tX : Tree 8 2 X := by
      simp only [List.mem_cons, List.not_mem_nil, or_false] at mX
      rcases mX with rfl | rfl | rfl
      · exact tT.tree l8
      · exact tU.tree l8
      · exact tV.tree l8
    obtain ⟨y, p4, f4, hp4, sy⟩ := bent_eq (m := 8) (by decide) 2 5 (by decide) (by decide) X 3 p3 hp3 tX
    obtain ⟨z, p5, f5, hp5, sz⟩ := odd_eq hp4
    have q5 : addD (.list L) (.list [y, z]) = some (.list (L ++ [y, z])) := by rw [addD_e2, if_pos (by rw [lL, sizeLine_val]; show 23 + 2 * i + 2 ≤ 16777216; omega)]
    refine ⟨_, by simp [B_l_things_1, f3, hX, f4, f5, q5, sizeLine_val, -addD_e2], p5, L ++ [y, z], hp5, fun x hx => ?_, by rw [List.length_append, lL]; show 23 + 2 * i + 2 = _; omega, rfl⟩
    rcases List.mem_append.mp hx with hx | hx
    · exact hL x hx
    · simp only [List.mem_cons, List.not_mem_nil, or_false] at hx
      rcases hx with rfl | rfl
      · exact sy.mono (by decide) (by omega)
      · exact sz.mono (by omega) (by omega))
  have e6 : rng1A (consA (cE (.int 6)) nilA) ([.bor p2, .val (bD bk), .val (.list [.tuple T, .tuple U, .tuple V]), .val (.int j), .val (sD (b, c, e)), .val (.list S), .val (.list (F1 ++ C)), .non, .non] : Ev) = some ((List.range 6).map fun i : Nat => (.int i), ([.bor p2, .val (bD bk), .val (.list [.tuple T, .tuple U, .tuple V]), .val (.int j), .val (sD (b, c, e)), .val (.list S), .val (.list (F1 ++ C)), .non, .non] : Ev)) := by simp [rangeD]
  refine ⟨L, p', ?_, hp', hL⟩
  rw [seq_step (ρ1 := ([.bor p', .val (bD bk), .val (.list [.tuple T, .tuple U, .tuple V]), .val (.int j), .val (sD (b, c, e)), .val (.list S), .val (.list L), .non, .non] : Ev)) (by simp only [forS, e6, lp]) rfl]
  simp
theorem law_turn (ns : List Int) (k : Nat) : turn (nameG 1) B_l_law_2 [1, 2, 3, 4, 5, 6] (.int k) ([.scr ns, .non, .non, .non, .non, .non, .non] : Ev) = some ([.scr ns, .non, .non, .non, .non, .non, .non] : Ev) := by
  obtain ⟨n, e1⟩ := cell_at_eq ns k
  obtain ⟨p, e2, hp⟩ := pot_eq n
  obtain ⟨bk, p2, e3, hp2, h, g3, pl⟩ := l_plain_eq hp (most := 8) (far := 30) (by decide) (by decide) (by decide) (by decide)
  have l8 : bk.length ≤ 8 := by omega
  obtain ⟨L, p3, e4, hp3, hL⟩ := things_eq hp2 h l8
  have lp := forL_sameD (G := (nameG 4)) (S := B_l_law_1) (vs := [4, 5, 6]) ([.scr ns, .val (.int k), .own p3, .val (bD bk), .non, .non, .non] : Ev) L ([.scr ns, .val (.int k), .own p3, .val (bD bk), .non, .non, .non] : Ev) (by simp) (fun d hd => by
    have e5 := p_tr_any h pl d
    have e6 := l_tr_any h d
    have sb : Sh 100000 8 (bD bk) := ok_tup (tru_of (fun s hs => near_good (h.all s hs)) rfl : Tru bk.length (bk.map sD)).sh (by rw [List.length_map]; omega)
    have s1 : shows (.tuple [bD bk, d]) = true := (Sh.tup (ShL.cons sb (ShL.cons (hL d hd) ShL.nil))).shows (by simp) (by simp)
    have s2 : shows (.bool (isTr bk d)) = true := (Sh.bool _).shows
    simp [B_l_law_1, e5, e6, s1, s2, sizeLine_val])
  refine turn_body (by simp; rfl) ?_
  unfold B_l_law_2
  refine ex_seq (by simp [e1, e2]; rfl) ?_
  refine ex_seq (by simp [e3]; rfl) ?_
  exact ex_end (by simp [e4, lp]; rfl) (by simp)
theorem law_true (ns : List Int) (h : ns.length ≤ 63) : ∃ ρ, S_l_law (startL 6 ns) = some (.rt (.bool true), ρ) := by
  have b := law_n ns.length 4 (by decide) (by decide)
  have e := fun n => forL_law (B := B_l_law_2) (vs := [1, 2, 3, 4, 5, 6]) (i := 1) n ([.scr ns, .non, .non, .non, .non, .non, .non] : Ev) (by simp) (law_turn ns)
  simp at b
  exact ⟨_, by simp [S_l_law, b, e]; rfl⟩

end Mine

namespace Mine
open PySem L2 DL
theorem all_mk {l : PySem.W.OpenLaw} {w : World} {K : PySem.W.Frag} {h : Heap} {mg : Str → Option Value} {fa : Addr} (X : K.In h) (G : h.Ns mainGlobals mg) (hfa : mg "law" = some (.ref fa))
    {f_p_is_whole : Addr} {od_p_is_whole an_p_is_whole : Option Addr} {sl_p_is_whole : Array (Option Value)} {oc_p_is_whole kV_p_is_whole dc_p_is_whole pm_p_is_whole cd_p_is_whole ct_p_is_whole : Value}
    {f_p_is_span : Addr} {od_p_is_span an_p_is_span : Option Addr} {sl_p_is_span : Array (Option Value)} {oc_p_is_span kV_p_is_span dc_p_is_span pm_p_is_span cd_p_is_span ct_p_is_span : Value}
    {f_p_is_book : Addr} {od_p_is_book an_p_is_book : Option Addr} {sl_p_is_book : Array (Option Value)} {oc_p_is_book kV_p_is_book dc_p_is_book pm_p_is_book cd_p_is_book ct_p_is_book : Value}
    {f_p_is_kind : Addr} {od_p_is_kind an_p_is_kind : Option Addr} {sl_p_is_kind : Array (Option Value)} {oc_p_is_kind kV_p_is_kind dc_p_is_kind pm_p_is_kind cd_p_is_kind ct_p_is_kind : Value}
    {f_p_check_book : Addr} {od_p_check_book an_p_check_book : Option Addr} {sl_p_check_book : Array (Option Value)} {oc_p_check_book kV_p_check_book dc_p_check_book pm_p_check_book cd_p_check_book ct_p_check_book : Value}
    {f_p_is_plain : Addr} {od_p_is_plain an_p_is_plain : Option Addr} {sl_p_is_plain : Array (Option Value)} {oc_p_is_plain kV_p_is_plain dc_p_is_plain pm_p_is_plain cd_p_is_plain ct_p_is_plain : Value}
    {f_p_check_plain : Addr} {od_p_check_plain an_p_check_plain : Option Addr} {sl_p_check_plain : Array (Option Value)} {oc_p_check_plain kV_p_check_plain dc_p_check_plain pm_p_check_plain cd_p_check_plain ct_p_check_plain : Value}
    {f_p_is_truth : Addr} {od_p_is_truth an_p_is_truth : Option Addr} {sl_p_is_truth : Array (Option Value)} {oc_p_is_truth kV_p_is_truth dc_p_is_truth pm_p_is_truth cd_p_is_truth ct_p_is_truth : Value}
    {f_p_may_stand_for : Addr} {od_p_may_stand_for an_p_may_stand_for : Option Addr} {sl_p_may_stand_for : Array (Option Value)} {oc_p_may_stand_for kV_p_may_stand_for dc_p_may_stand_for pm_p_may_stand_for cd_p_may_stand_for ct_p_may_stand_for : Value}
    {f_l_cell_at : Addr} {od_l_cell_at an_l_cell_at : Option Addr} {sl_l_cell_at : Array (Option Value)} {oc_l_cell_at kV_l_cell_at dc_l_cell_at pm_l_cell_at cd_l_cell_at ct_l_cell_at : Value}
    {f_l_pot : Addr} {od_l_pot an_l_pot : Option Addr} {sl_l_pot : Array (Option Value)} {oc_l_pot kV_l_pot dc_l_pot pm_l_pot cd_l_pot ct_l_pot : Value}
    {f_l_take : Addr} {od_l_take an_l_take : Option Addr} {sl_l_take : Array (Option Value)} {oc_l_take kV_l_take dc_l_take pm_l_take cd_l_take ct_l_take : Value}
    {f_l_whole : Addr} {od_l_whole an_l_whole : Option Addr} {sl_l_whole : Array (Option Value)} {oc_l_whole kV_l_whole dc_l_whole pm_l_whole cd_l_whole ct_l_whole : Value}
    {f_l_odd : Addr} {od_l_odd an_l_odd : Option Addr} {sl_l_odd : Array (Option Value)} {oc_l_odd kV_l_odd dc_l_odd pm_l_odd cd_l_odd ct_l_odd : Value}
    {f_l_plain : Addr} {od_l_plain an_l_plain : Option Addr} {sl_l_plain : Array (Option Value)} {oc_l_plain kV_l_plain dc_l_plain pm_l_plain cd_l_plain ct_l_plain : Value}
    {f_l_truth : Addr} {od_l_truth an_l_truth : Option Addr} {sl_l_truth : Array (Option Value)} {oc_l_truth kV_l_truth dc_l_truth pm_l_truth cd_l_truth ct_l_truth : Value}
    {f_l_is_truth : Addr} {od_l_is_truth an_l_is_truth : Option Addr} {sl_l_is_truth : Array (Option Value)} {oc_l_is_truth kV_l_is_truth dc_l_is_truth pm_l_is_truth cd_l_is_truth ct_l_is_truth : Value}
    {f_l_is_true : Addr} {od_l_is_true an_l_is_true : Option Addr} {sl_l_is_true : Array (Option Value)} {oc_l_is_true kV_l_is_true dc_l_is_true pm_l_is_true cd_l_is_true ct_l_is_true : Value}
    {f_l_soonest : Addr} {od_l_soonest an_l_soonest : Option Addr} {sl_l_soonest : Array (Option Value)} {oc_l_soonest kV_l_soonest dc_l_soonest pm_l_soonest cd_l_soonest ct_l_soonest : Value}
    {f_l_latest : Addr} {od_l_latest an_l_latest : Option Addr} {sl_l_latest : Array (Option Value)} {oc_l_latest kV_l_latest dc_l_latest pm_l_latest cd_l_latest ct_l_latest : Value}
    {f_l_bent : Addr} {od_l_bent an_l_bent : Option Addr} {sl_l_bent : Array (Option Value)} {oc_l_bent kV_l_bent dc_l_bent pm_l_bent cd_l_bent ct_l_bent : Value}
    {f_l_things : Addr} {od_l_things an_l_things : Option Addr} {sl_l_things : Array (Option Value)} {oc_l_things kV_l_things dc_l_things pm_l_things cd_l_things ct_l_things : Value}
    {f_l_law : Addr} {od_l_law an_l_law : Option Addr} {sl_l_law : Array (Option Value)} {oc_l_law kV_l_law dc_l_law pm_l_law cd_l_law ct_l_law : Value}
    {tk_LAST_UNTIL : Tok}
    {tk_MOST_SPANS : Tok}
    {tk_CUT_OFF : Tok}
    {a_KINDS : Addr} {ob_KINDS : Obj}
    {tk_LAST_TRUE_UNTIL : Tok}
    (a_p_is_whole : PySem.W.nsIn K mainGlobals "is_whole" = some (some (.ref f_p_is_whole))) (l_p_is_whole : K.lookup f_p_is_whole = some ⟨oc_p_is_whole, od_p_is_whole, .func (PySem.W.fnOf "is_whole" "is_whole" (defArgs s_p_is_whole) (defBody s_p_is_whole) (defScope s_p_is_whole) .none kV_p_is_whole dc_p_is_whole pm_p_is_whole an_p_is_whole cd_p_is_whole ct_p_is_whole), sl_p_is_whole⟩) (e_p_is_whole : PySem.W.codeIn K cd_p_is_whole "is_whole" = true) (k_p_is_whole : PySem.W.keepIn K (.ref f_p_is_whole) = true)
    (a_p_is_span : PySem.W.nsIn K mainGlobals "is_span" = some (some (.ref f_p_is_span))) (l_p_is_span : K.lookup f_p_is_span = some ⟨oc_p_is_span, od_p_is_span, .func (PySem.W.fnOf "is_span" "is_span" (defArgs s_p_is_span) (defBody s_p_is_span) (defScope s_p_is_span) .none kV_p_is_span dc_p_is_span pm_p_is_span an_p_is_span cd_p_is_span ct_p_is_span), sl_p_is_span⟩) (e_p_is_span : PySem.W.codeIn K cd_p_is_span "is_span" = true) (k_p_is_span : PySem.W.keepIn K (.ref f_p_is_span) = true)
    (a_p_is_book : PySem.W.nsIn K mainGlobals "is_book" = some (some (.ref f_p_is_book))) (l_p_is_book : K.lookup f_p_is_book = some ⟨oc_p_is_book, od_p_is_book, .func (PySem.W.fnOf "is_book" "is_book" (defArgs s_p_is_book) (defBody s_p_is_book) (defScope s_p_is_book) .none kV_p_is_book dc_p_is_book pm_p_is_book an_p_is_book cd_p_is_book ct_p_is_book), sl_p_is_book⟩) (e_p_is_book : PySem.W.codeIn K cd_p_is_book "is_book" = true) (k_p_is_book : PySem.W.keepIn K (.ref f_p_is_book) = true)
    (a_p_is_kind : PySem.W.nsIn K mainGlobals "is_kind" = some (some (.ref f_p_is_kind))) (l_p_is_kind : K.lookup f_p_is_kind = some ⟨oc_p_is_kind, od_p_is_kind, .func (PySem.W.fnOf "is_kind" "is_kind" (defArgs s_p_is_kind) (defBody s_p_is_kind) (defScope s_p_is_kind) .none kV_p_is_kind dc_p_is_kind pm_p_is_kind an_p_is_kind cd_p_is_kind ct_p_is_kind), sl_p_is_kind⟩) (e_p_is_kind : PySem.W.codeIn K cd_p_is_kind "is_kind" = true) (k_p_is_kind : PySem.W.keepIn K (.ref f_p_is_kind) = true)
    (a_p_check_book : PySem.W.nsIn K mainGlobals "check_book" = some (some (.ref f_p_check_book))) (l_p_check_book : K.lookup f_p_check_book = some ⟨oc_p_check_book, od_p_check_book, .func (PySem.W.fnOf "check_book" "check_book" (defArgs s_p_check_book) (defBody s_p_check_book) (defScope s_p_check_book) .none kV_p_check_book dc_p_check_book pm_p_check_book an_p_check_book cd_p_check_book ct_p_check_book), sl_p_check_book⟩) (e_p_check_book : PySem.W.codeIn K cd_p_check_book "check_book" = true) (k_p_check_book : PySem.W.keepIn K (.ref f_p_check_book) = true)
    (a_p_is_plain : PySem.W.nsIn K mainGlobals "is_plain" = some (some (.ref f_p_is_plain))) (l_p_is_plain : K.lookup f_p_is_plain = some ⟨oc_p_is_plain, od_p_is_plain, .func (PySem.W.fnOf "is_plain" "is_plain" (defArgs s_p_is_plain) (defBody s_p_is_plain) (defScope s_p_is_plain) .none kV_p_is_plain dc_p_is_plain pm_p_is_plain an_p_is_plain cd_p_is_plain ct_p_is_plain), sl_p_is_plain⟩) (e_p_is_plain : PySem.W.codeIn K cd_p_is_plain "is_plain" = true) (k_p_is_plain : PySem.W.keepIn K (.ref f_p_is_plain) = true)
    (a_p_check_plain : PySem.W.nsIn K mainGlobals "check_plain" = some (some (.ref f_p_check_plain))) (l_p_check_plain : K.lookup f_p_check_plain = some ⟨oc_p_check_plain, od_p_check_plain, .func (PySem.W.fnOf "check_plain" "check_plain" (defArgs s_p_check_plain) (defBody s_p_check_plain) (defScope s_p_check_plain) .none kV_p_check_plain dc_p_check_plain pm_p_check_plain an_p_check_plain cd_p_check_plain ct_p_check_plain), sl_p_check_plain⟩) (e_p_check_plain : PySem.W.codeIn K cd_p_check_plain "check_plain" = true) (k_p_check_plain : PySem.W.keepIn K (.ref f_p_check_plain) = true)
    (a_p_is_truth : PySem.W.nsIn K mainGlobals "is_truth" = some (some (.ref f_p_is_truth))) (l_p_is_truth : K.lookup f_p_is_truth = some ⟨oc_p_is_truth, od_p_is_truth, .func (PySem.W.fnOf "is_truth" "is_truth" (defArgs s_p_is_truth) (defBody s_p_is_truth) (defScope s_p_is_truth) .none kV_p_is_truth dc_p_is_truth pm_p_is_truth an_p_is_truth cd_p_is_truth ct_p_is_truth), sl_p_is_truth⟩) (e_p_is_truth : PySem.W.codeIn K cd_p_is_truth "is_truth" = true) (k_p_is_truth : PySem.W.keepIn K (.ref f_p_is_truth) = true)
    (a_p_may_stand_for : PySem.W.nsIn K mainGlobals "may_stand_for" = some (some (.ref f_p_may_stand_for))) (l_p_may_stand_for : K.lookup f_p_may_stand_for = some ⟨oc_p_may_stand_for, od_p_may_stand_for, .func (PySem.W.fnOf "may_stand_for" "may_stand_for" (defArgs s_p_may_stand_for) (defBody s_p_may_stand_for) (defScope s_p_may_stand_for) .none kV_p_may_stand_for dc_p_may_stand_for pm_p_may_stand_for an_p_may_stand_for cd_p_may_stand_for ct_p_may_stand_for), sl_p_may_stand_for⟩) (e_p_may_stand_for : PySem.W.codeIn K cd_p_may_stand_for "may_stand_for" = true) (k_p_may_stand_for : PySem.W.keepIn K (.ref f_p_may_stand_for) = true)
    (a_l_cell_at : PySem.W.nsIn K mainGlobals "_law_cell_at" = some (some (.ref f_l_cell_at))) (l_l_cell_at : K.lookup f_l_cell_at = some ⟨oc_l_cell_at, od_l_cell_at, .func (PySem.W.fnOf "_law_cell_at" "_law_cell_at" (defArgs s_l_cell_at) (defBody s_l_cell_at) (defScope s_l_cell_at) .none kV_l_cell_at dc_l_cell_at pm_l_cell_at an_l_cell_at cd_l_cell_at ct_l_cell_at), sl_l_cell_at⟩) (e_l_cell_at : PySem.W.codeIn K cd_l_cell_at "_law_cell_at" = true) (k_l_cell_at : PySem.W.keepIn K (.ref f_l_cell_at) = true)
    (a_l_pot : PySem.W.nsIn K mainGlobals "_law_pot" = some (some (.ref f_l_pot))) (l_l_pot : K.lookup f_l_pot = some ⟨oc_l_pot, od_l_pot, .func (PySem.W.fnOf "_law_pot" "_law_pot" (defArgs s_l_pot) (defBody s_l_pot) (defScope s_l_pot) .none kV_l_pot dc_l_pot pm_l_pot an_l_pot cd_l_pot ct_l_pot), sl_l_pot⟩) (e_l_pot : PySem.W.codeIn K cd_l_pot "_law_pot" = true) (k_l_pot : PySem.W.keepIn K (.ref f_l_pot) = true)
    (a_l_take : PySem.W.nsIn K mainGlobals "_law_take" = some (some (.ref f_l_take))) (l_l_take : K.lookup f_l_take = some ⟨oc_l_take, od_l_take, .func (PySem.W.fnOf "_law_take" "_law_take" (defArgs s_l_take) (defBody s_l_take) (defScope s_l_take) .none kV_l_take dc_l_take pm_l_take an_l_take cd_l_take ct_l_take), sl_l_take⟩) (e_l_take : PySem.W.codeIn K cd_l_take "_law_take" = true) (k_l_take : PySem.W.keepIn K (.ref f_l_take) = true)
    (a_l_whole : PySem.W.nsIn K mainGlobals "_law_whole" = some (some (.ref f_l_whole))) (l_l_whole : K.lookup f_l_whole = some ⟨oc_l_whole, od_l_whole, .func (PySem.W.fnOf "_law_whole" "_law_whole" (defArgs s_l_whole) (defBody s_l_whole) (defScope s_l_whole) .none kV_l_whole dc_l_whole pm_l_whole an_l_whole cd_l_whole ct_l_whole), sl_l_whole⟩) (e_l_whole : PySem.W.codeIn K cd_l_whole "_law_whole" = true) (k_l_whole : PySem.W.keepIn K (.ref f_l_whole) = true)
    (a_l_odd : PySem.W.nsIn K mainGlobals "_law_odd" = some (some (.ref f_l_odd))) (l_l_odd : K.lookup f_l_odd = some ⟨oc_l_odd, od_l_odd, .func (PySem.W.fnOf "_law_odd" "_law_odd" (defArgs s_l_odd) (defBody s_l_odd) (defScope s_l_odd) .none kV_l_odd dc_l_odd pm_l_odd an_l_odd cd_l_odd ct_l_odd), sl_l_odd⟩) (e_l_odd : PySem.W.codeIn K cd_l_odd "_law_odd" = true) (k_l_odd : PySem.W.keepIn K (.ref f_l_odd) = true)
    (a_l_plain : PySem.W.nsIn K mainGlobals "_law_plain" = some (some (.ref f_l_plain))) (l_l_plain : K.lookup f_l_plain = some ⟨oc_l_plain, od_l_plain, .func (PySem.W.fnOf "_law_plain" "_law_plain" (defArgs s_l_plain) (defBody s_l_plain) (defScope s_l_plain) .none kV_l_plain dc_l_plain pm_l_plain an_l_plain cd_l_plain ct_l_plain), sl_l_plain⟩) (e_l_plain : PySem.W.codeIn K cd_l_plain "_law_plain" = true) (k_l_plain : PySem.W.keepIn K (.ref f_l_plain) = true)
    (a_l_truth : PySem.W.nsIn K mainGlobals "_law_truth" = some (some (.ref f_l_truth))) (l_l_truth : K.lookup f_l_truth = some ⟨oc_l_truth, od_l_truth, .func (PySem.W.fnOf "_law_truth" "_law_truth" (defArgs s_l_truth) (defBody s_l_truth) (defScope s_l_truth) .none kV_l_truth dc_l_truth pm_l_truth an_l_truth cd_l_truth ct_l_truth), sl_l_truth⟩) (e_l_truth : PySem.W.codeIn K cd_l_truth "_law_truth" = true) (k_l_truth : PySem.W.keepIn K (.ref f_l_truth) = true)
    (a_l_is_truth : PySem.W.nsIn K mainGlobals "_law_is_truth" = some (some (.ref f_l_is_truth))) (l_l_is_truth : K.lookup f_l_is_truth = some ⟨oc_l_is_truth, od_l_is_truth, .func (PySem.W.fnOf "_law_is_truth" "_law_is_truth" (defArgs s_l_is_truth) (defBody s_l_is_truth) (defScope s_l_is_truth) .none kV_l_is_truth dc_l_is_truth pm_l_is_truth an_l_is_truth cd_l_is_truth ct_l_is_truth), sl_l_is_truth⟩) (e_l_is_truth : PySem.W.codeIn K cd_l_is_truth "_law_is_truth" = true) (k_l_is_truth : PySem.W.keepIn K (.ref f_l_is_truth) = true)
    (a_l_is_true : PySem.W.nsIn K mainGlobals "_law_is_true" = some (some (.ref f_l_is_true))) (l_l_is_true : K.lookup f_l_is_true = some ⟨oc_l_is_true, od_l_is_true, .func (PySem.W.fnOf "_law_is_true" "_law_is_true" (defArgs s_l_is_true) (defBody s_l_is_true) (defScope s_l_is_true) .none kV_l_is_true dc_l_is_true pm_l_is_true an_l_is_true cd_l_is_true ct_l_is_true), sl_l_is_true⟩) (e_l_is_true : PySem.W.codeIn K cd_l_is_true "_law_is_true" = true) (k_l_is_true : PySem.W.keepIn K (.ref f_l_is_true) = true)
    (a_l_soonest : PySem.W.nsIn K mainGlobals "_law_soonest" = some (some (.ref f_l_soonest))) (l_l_soonest : K.lookup f_l_soonest = some ⟨oc_l_soonest, od_l_soonest, .func (PySem.W.fnOf "_law_soonest" "_law_soonest" (defArgs s_l_soonest) (defBody s_l_soonest) (defScope s_l_soonest) .none kV_l_soonest dc_l_soonest pm_l_soonest an_l_soonest cd_l_soonest ct_l_soonest), sl_l_soonest⟩) (e_l_soonest : PySem.W.codeIn K cd_l_soonest "_law_soonest" = true) (k_l_soonest : PySem.W.keepIn K (.ref f_l_soonest) = true)
    (a_l_latest : PySem.W.nsIn K mainGlobals "_law_latest" = some (some (.ref f_l_latest))) (l_l_latest : K.lookup f_l_latest = some ⟨oc_l_latest, od_l_latest, .func (PySem.W.fnOf "_law_latest" "_law_latest" (defArgs s_l_latest) (defBody s_l_latest) (defScope s_l_latest) .none kV_l_latest dc_l_latest pm_l_latest an_l_latest cd_l_latest ct_l_latest), sl_l_latest⟩) (e_l_latest : PySem.W.codeIn K cd_l_latest "_law_latest" = true) (k_l_latest : PySem.W.keepIn K (.ref f_l_latest) = true)
    (a_l_bent : PySem.W.nsIn K mainGlobals "_law_bent" = some (some (.ref f_l_bent))) (l_l_bent : K.lookup f_l_bent = some ⟨oc_l_bent, od_l_bent, .func (PySem.W.fnOf "_law_bent" "_law_bent" (defArgs s_l_bent) (defBody s_l_bent) (defScope s_l_bent) .none kV_l_bent dc_l_bent pm_l_bent an_l_bent cd_l_bent ct_l_bent), sl_l_bent⟩) (e_l_bent : PySem.W.codeIn K cd_l_bent "_law_bent" = true) (k_l_bent : PySem.W.keepIn K (.ref f_l_bent) = true)
    (a_l_things : PySem.W.nsIn K mainGlobals "_law_things" = some (some (.ref f_l_things))) (l_l_things : K.lookup f_l_things = some ⟨oc_l_things, od_l_things, .func (PySem.W.fnOf "_law_things" "_law_things" (defArgs s_l_things) (defBody s_l_things) (defScope s_l_things) .none kV_l_things dc_l_things pm_l_things an_l_things cd_l_things ct_l_things), sl_l_things⟩) (e_l_things : PySem.W.codeIn K cd_l_things "_law_things" = true) (k_l_things : PySem.W.keepIn K (.ref f_l_things) = true)
    (a_l_law : PySem.W.nsIn K mainGlobals "law" = some (some (.ref f_l_law))) (l_l_law : K.lookup f_l_law = some ⟨oc_l_law, od_l_law, .func (PySem.W.fnOf "law" "law" (defArgs s_l_law) (defBody s_l_law) (defScope s_l_law) .none kV_l_law dc_l_law pm_l_law an_l_law cd_l_law ct_l_law), sl_l_law⟩) (e_l_law : PySem.W.codeIn K cd_l_law "law" = true) (k_l_law : PySem.W.keepIn K (.ref f_l_law) = true)
    (z_all : PySem.W.nsIn K mainGlobals "all" = some none)
    (z_bool : PySem.W.nsIn K mainGlobals "bool" = some none)
    (z_enumerate : PySem.W.nsIn K mainGlobals "enumerate" = some none)
    (z_int : PySem.W.nsIn K mainGlobals "int" = some none)
    (z_isinstance : PySem.W.nsIn K mainGlobals "isinstance" = some none)
    (z_len : PySem.W.nsIn K mainGlobals "len" = some none)
    (z_list : PySem.W.nsIn K mainGlobals "list" = some none)
    (z_max : PySem.W.nsIn K mainGlobals "max" = some none)
    (z_min : PySem.W.nsIn K mainGlobals "min" = some none)
    (z_range : PySem.W.nsIn K mainGlobals "range" = some none)
    (z_repr : PySem.W.nsIn K mainGlobals "repr" = some none)
    (z_tuple : PySem.W.nsIn K mainGlobals "tuple" = some none)
    (z_zip : PySem.W.nsIn K mainGlobals "zip" = some none)
    (c_LAST_UNTIL : PySem.W.nsIn K mainGlobals "LAST_UNTIL" = some (some (.int 999 tk_LAST_UNTIL)))
    (c_MOST_SPANS : PySem.W.nsIn K mainGlobals "MOST_SPANS" = some (some (.int 40 tk_MOST_SPANS)))
    (c_CUT_OFF : PySem.W.nsIn K mainGlobals "CUT_OFF" = some (some (.int 0 tk_CUT_OFF)))
    (c_KINDS : PySem.W.nsIn K mainGlobals "KINDS" = some (some (.ref a_KINDS))) (o_KINDS : K.lookup a_KINDS = some ob_KINDS) (q_KINDS : ∃ (its : Array Value) (n : Nat), ob_KINDS.cls = .type "tuple" ∧ ob_KINDS.data = .seq its n ∧ its.size ≤ sizeLine ∧ Vals [.int 1, .int 2, .int 3, .int 4] its.toList)
    (c_LAST_TRUE_UNTIL : PySem.W.nsIn K mainGlobals "LAST_TRUE_UNTIL" = some (some (.int 2000 tk_LAST_TRUE_UNTIL))) :
    ∃ fd : FuncData, (∀ (s : Shared) (v : Value), BindsTo s fd ⟨[v], []⟩ [("_law_script", v)]) ∧ ∀ base : Heap, K.In base → base.Ns mainGlobals mg → FnOk l.prog w K mg base CX0 10 fa fd ["_law_script"] (SpL K 6 S_l_law) := by
  have e := hfa.symm.trans (PySem.W.mg_of X G a_l_law)
  cases e
  have T : Txt K mg { f_p_is_whole := f_p_is_whole, d_p_is_whole := PySem.W.fnOf "is_whole" "is_whole" (defArgs s_p_is_whole) (defBody s_p_is_whole) (defScope s_p_is_whole) .none kV_p_is_whole dc_p_is_whole pm_p_is_whole an_p_is_whole cd_p_is_whole ct_p_is_whole, f_p_is_span := f_p_is_span, d_p_is_span := PySem.W.fnOf "is_span" "is_span" (defArgs s_p_is_span) (defBody s_p_is_span) (defScope s_p_is_span) .none kV_p_is_span dc_p_is_span pm_p_is_span an_p_is_span cd_p_is_span ct_p_is_span, f_p_is_book := f_p_is_book, d_p_is_book := PySem.W.fnOf "is_book" "is_book" (defArgs s_p_is_book) (defBody s_p_is_book) (defScope s_p_is_book) .none kV_p_is_book dc_p_is_book pm_p_is_book an_p_is_book cd_p_is_book ct_p_is_book, f_p_is_kind := f_p_is_kind, d_p_is_kind := PySem.W.fnOf "is_kind" "is_kind" (defArgs s_p_is_kind) (defBody s_p_is_kind) (defScope s_p_is_kind) .none kV_p_is_kind dc_p_is_kind pm_p_is_kind an_p_is_kind cd_p_is_kind ct_p_is_kind, f_p_check_book := f_p_check_book, d_p_check_book := PySem.W.fnOf "check_book" "check_book" (defArgs s_p_check_book) (defBody s_p_check_book) (defScope s_p_check_book) .none kV_p_check_book dc_p_check_book pm_p_check_book an_p_check_book cd_p_check_book ct_p_check_book, f_p_is_plain := f_p_is_plain, d_p_is_plain := PySem.W.fnOf "is_plain" "is_plain" (defArgs s_p_is_plain) (defBody s_p_is_plain) (defScope s_p_is_plain) .none kV_p_is_plain dc_p_is_plain pm_p_is_plain an_p_is_plain cd_p_is_plain ct_p_is_plain, f_p_check_plain := f_p_check_plain, d_p_check_plain := PySem.W.fnOf "check_plain" "check_plain" (defArgs s_p_check_plain) (defBody s_p_check_plain) (defScope s_p_check_plain) .none kV_p_check_plain dc_p_check_plain pm_p_check_plain an_p_check_plain cd_p_check_plain ct_p_check_plain, f_p_is_truth := f_p_is_truth, d_p_is_truth := PySem.W.fnOf "is_truth" "is_truth" (defArgs s_p_is_truth) (defBody s_p_is_truth) (defScope s_p_is_truth) .none kV_p_is_truth dc_p_is_truth pm_p_is_truth an_p_is_truth cd_p_is_truth ct_p_is_truth, f_p_may_stand_for := f_p_may_stand_for, d_p_may_stand_for := PySem.W.fnOf "may_stand_for" "may_stand_for" (defArgs s_p_may_stand_for) (defBody s_p_may_stand_for) (defScope s_p_may_stand_for) .none kV_p_may_stand_for dc_p_may_stand_for pm_p_may_stand_for an_p_may_stand_for cd_p_may_stand_for ct_p_may_stand_for, f_l_cell_at := f_l_cell_at, d_l_cell_at := PySem.W.fnOf "_law_cell_at" "_law_cell_at" (defArgs s_l_cell_at) (defBody s_l_cell_at) (defScope s_l_cell_at) .none kV_l_cell_at dc_l_cell_at pm_l_cell_at an_l_cell_at cd_l_cell_at ct_l_cell_at, f_l_pot := f_l_pot, d_l_pot := PySem.W.fnOf "_law_pot" "_law_pot" (defArgs s_l_pot) (defBody s_l_pot) (defScope s_l_pot) .none kV_l_pot dc_l_pot pm_l_pot an_l_pot cd_l_pot ct_l_pot, f_l_take := f_l_take, d_l_take := PySem.W.fnOf "_law_take" "_law_take" (defArgs s_l_take) (defBody s_l_take) (defScope s_l_take) .none kV_l_take dc_l_take pm_l_take an_l_take cd_l_take ct_l_take, f_l_whole := f_l_whole, d_l_whole := PySem.W.fnOf "_law_whole" "_law_whole" (defArgs s_l_whole) (defBody s_l_whole) (defScope s_l_whole) .none kV_l_whole dc_l_whole pm_l_whole an_l_whole cd_l_whole ct_l_whole, f_l_odd := f_l_odd, d_l_odd := PySem.W.fnOf "_law_odd" "_law_odd" (defArgs s_l_odd) (defBody s_l_odd) (defScope s_l_odd) .none kV_l_odd dc_l_odd pm_l_odd an_l_odd cd_l_odd ct_l_odd, f_l_plain := f_l_plain, d_l_plain := PySem.W.fnOf "_law_plain" "_law_plain" (defArgs s_l_plain) (defBody s_l_plain) (defScope s_l_plain) .none kV_l_plain dc_l_plain pm_l_plain an_l_plain cd_l_plain ct_l_plain, f_l_truth := f_l_truth, d_l_truth := PySem.W.fnOf "_law_truth" "_law_truth" (defArgs s_l_truth) (defBody s_l_truth) (defScope s_l_truth) .none kV_l_truth dc_l_truth pm_l_truth an_l_truth cd_l_truth ct_l_truth, f_l_is_truth := f_l_is_truth, d_l_is_truth := PySem.W.fnOf "_law_is_truth" "_law_is_truth" (defArgs s_l_is_truth) (defBody s_l_is_truth) (defScope s_l_is_truth) .none kV_l_is_truth dc_l_is_truth pm_l_is_truth an_l_is_truth cd_l_is_truth ct_l_is_truth, f_l_is_true := f_l_is_true, d_l_is_true := PySem.W.fnOf "_law_is_true" "_law_is_true" (defArgs s_l_is_true) (defBody s_l_is_true) (defScope s_l_is_true) .none kV_l_is_true dc_l_is_true pm_l_is_true an_l_is_true cd_l_is_true ct_l_is_true, f_l_soonest := f_l_soonest, d_l_soonest := PySem.W.fnOf "_law_soonest" "_law_soonest" (defArgs s_l_soonest) (defBody s_l_soonest) (defScope s_l_soonest) .none kV_l_soonest dc_l_soonest pm_l_soonest an_l_soonest cd_l_soonest ct_l_soonest, f_l_latest := f_l_latest, d_l_latest := PySem.W.fnOf "_law_latest" "_law_latest" (defArgs s_l_latest) (defBody s_l_latest) (defScope s_l_latest) .none kV_l_latest dc_l_latest pm_l_latest an_l_latest cd_l_latest ct_l_latest, f_l_bent := f_l_bent, d_l_bent := PySem.W.fnOf "_law_bent" "_law_bent" (defArgs s_l_bent) (defBody s_l_bent) (defScope s_l_bent) .none kV_l_bent dc_l_bent pm_l_bent an_l_bent cd_l_bent ct_l_bent, f_l_things := f_l_things, d_l_things := PySem.W.fnOf "_law_things" "_law_things" (defArgs s_l_things) (defBody s_l_things) (defScope s_l_things) .none kV_l_things dc_l_things pm_l_things an_l_things cd_l_things ct_l_things, f_l_law := fa, d_l_law := PySem.W.fnOf "law" "law" (defArgs s_l_law) (defBody s_l_law) (defScope s_l_law) .none kV_l_law dc_l_law pm_l_law an_l_law cd_l_law ct_l_law, a_KINDS := a_KINDS } := by
    constructor
    case F_p_is_whole => exact fun_mk (st := s_p_is_whole) l_p_is_whole e_p_is_whole k_p_is_whole
    case m_p_is_whole => exact PySem.W.mg_of X G a_p_is_whole
    case b_p_is_whole => exact (fun_mk (st := s_p_is_whole) l_p_is_whole e_p_is_whole k_p_is_whole).binds (ps := ["thing"]) fun _ _ _ _ _ _ us hl => match us, hl with | [_], _ => rfl
    case F_p_is_span => exact fun_mk (st := s_p_is_span) l_p_is_span e_p_is_span k_p_is_span
    case m_p_is_span => exact PySem.W.mg_of X G a_p_is_span
    case b_p_is_span => exact (fun_mk (st := s_p_is_span) l_p_is_span e_p_is_span k_p_is_span).binds (ps := ["thing"]) fun _ _ _ _ _ _ us hl => match us, hl with | [_], _ => rfl
    case F_p_is_book => exact fun_mk (st := s_p_is_book) l_p_is_book e_p_is_book k_p_is_book
    case m_p_is_book => exact PySem.W.mg_of X G a_p_is_book
    case b_p_is_book => exact (fun_mk (st := s_p_is_book) l_p_is_book e_p_is_book k_p_is_book).binds (ps := ["thing"]) fun _ _ _ _ _ _ us hl => match us, hl with | [_], _ => rfl
    case F_p_is_kind => exact fun_mk (st := s_p_is_kind) l_p_is_kind e_p_is_kind k_p_is_kind
    case m_p_is_kind => exact PySem.W.mg_of X G a_p_is_kind
    case b_p_is_kind => exact (fun_mk (st := s_p_is_kind) l_p_is_kind e_p_is_kind k_p_is_kind).binds (ps := ["thing"]) fun _ _ _ _ _ _ us hl => match us, hl with | [_], _ => rfl
    case F_p_check_book => exact fun_mk (st := s_p_check_book) l_p_check_book e_p_check_book k_p_check_book
    case m_p_check_book => exact PySem.W.mg_of X G a_p_check_book
    case b_p_check_book => exact (fun_mk (st := s_p_check_book) l_p_check_book e_p_check_book k_p_check_book).binds (ps := ["book"]) fun _ _ _ _ _ _ us hl => match us, hl with | [_], _ => rfl
    case F_p_is_plain => exact fun_mk (st := s_p_is_plain) l_p_is_plain e_p_is_plain k_p_is_plain
    case m_p_is_plain => exact PySem.W.mg_of X G a_p_is_plain
    case b_p_is_plain => exact (fun_mk (st := s_p_is_plain) l_p_is_plain e_p_is_plain k_p_is_plain).binds (ps := ["book"]) fun _ _ _ _ _ _ us hl => match us, hl with | [_], _ => rfl
    case F_p_check_plain => exact fun_mk (st := s_p_check_plain) l_p_check_plain e_p_check_plain k_p_check_plain
    case m_p_check_plain => exact PySem.W.mg_of X G a_p_check_plain
    case b_p_check_plain => exact (fun_mk (st := s_p_check_plain) l_p_check_plain e_p_check_plain k_p_check_plain).binds (ps := ["book"]) fun _ _ _ _ _ _ us hl => match us, hl with | [_], _ => rfl
    case F_p_is_truth => exact fun_mk (st := s_p_is_truth) l_p_is_truth e_p_is_truth k_p_is_truth
    case m_p_is_truth => exact PySem.W.mg_of X G a_p_is_truth
    case b_p_is_truth => exact (fun_mk (st := s_p_is_truth) l_p_is_truth e_p_is_truth k_p_is_truth).binds (ps := ["book", "thing"]) fun _ _ _ _ _ _ us hl => match us, hl with | [_, _], _ => rfl
    case F_p_may_stand_for => exact fun_mk (st := s_p_may_stand_for) l_p_may_stand_for e_p_may_stand_for k_p_may_stand_for
    case m_p_may_stand_for => exact PySem.W.mg_of X G a_p_may_stand_for
    case b_p_may_stand_for => exact (fun_mk (st := s_p_may_stand_for) l_p_may_stand_for e_p_may_stand_for k_p_may_stand_for).binds (ps := ["span", "thing"]) fun _ _ _ _ _ _ us hl => match us, hl with | [_, _], _ => rfl
    case F_l_cell_at => exact fun_mk (st := s_l_cell_at) l_l_cell_at e_l_cell_at k_l_cell_at
    case m_l_cell_at => exact PySem.W.mg_of X G a_l_cell_at
    case b_l_cell_at => exact (fun_mk (st := s_l_cell_at) l_l_cell_at e_l_cell_at k_l_cell_at).binds (ps := ["_law_script", "_law_k"]) fun _ _ _ _ _ _ us hl => match us, hl with | [_, _], _ => rfl
    case F_l_pot => exact fun_mk (st := s_l_pot) l_l_pot e_l_pot k_l_pot
    case m_l_pot => exact PySem.W.mg_of X G a_l_pot
    case b_l_pot => exact (fun_mk (st := s_l_pot) l_l_pot e_l_pot k_l_pot).binds (ps := ["_law_cell"]) fun _ _ _ _ _ _ us hl => match us, hl with | [_], _ => rfl
    case F_l_take => exact fun_mk (st := s_l_take) l_l_take e_l_take k_l_take
    case m_l_take => exact PySem.W.mg_of X G a_l_take
    case b_l_take => exact (fun_mk (st := s_l_take) l_l_take e_l_take k_l_take).binds (ps := ["_law_pot_here", "_law_far"]) fun _ _ _ _ _ _ us hl => match us, hl with | [_, _], _ => rfl
    case F_l_whole => exact fun_mk (st := s_l_whole) l_l_whole e_l_whole k_l_whole
    case m_l_whole => exact PySem.W.mg_of X G a_l_whole
    case b_l_whole => exact (fun_mk (st := s_l_whole) l_l_whole e_l_whole k_l_whole).binds (ps := ["_law_thing"]) fun _ _ _ _ _ _ us hl => match us, hl with | [_], _ => rfl
    case F_l_odd => exact fun_mk (st := s_l_odd) l_l_odd e_l_odd k_l_odd
    case m_l_odd => exact PySem.W.mg_of X G a_l_odd
    case b_l_odd => exact (fun_mk (st := s_l_odd) l_l_odd e_l_odd k_l_odd).binds (ps := ["_law_pot_here"]) fun _ _ _ _ _ _ us hl => match us, hl with | [_], _ => rfl
    case F_l_plain => exact fun_mk (st := s_l_plain) l_l_plain e_l_plain k_l_plain
    case m_l_plain => exact PySem.W.mg_of X G a_l_plain
    case b_l_plain => exact (fun_mk (st := s_l_plain) l_l_plain e_l_plain k_l_plain).binds (ps := ["_law_pot_here", "_law_most", "_law_far"]) fun _ _ _ _ _ _ us hl => match us, hl with | [_, _, _], _ => rfl
    case F_l_truth => exact fun_mk (st := s_l_truth) l_l_truth e_l_truth k_l_truth
    case m_l_truth => exact PySem.W.mg_of X G a_l_truth
    case b_l_truth => exact (fun_mk (st := s_l_truth) l_l_truth e_l_truth k_l_truth).binds (ps := ["_law_pot_here", "_law_book"]) fun _ _ _ _ _ _ us hl => match us, hl with | [_, _], _ => rfl
    case F_l_is_truth => exact fun_mk (st := s_l_is_truth) l_l_is_truth e_l_is_truth k_l_is_truth
    case m_l_is_truth => exact PySem.W.mg_of X G a_l_is_truth
    case b_l_is_truth => exact (fun_mk (st := s_l_is_truth) l_l_is_truth e_l_is_truth k_l_is_truth).binds (ps := ["_law_book", "_law_thing"]) fun _ _ _ _ _ _ us hl => match us, hl with | [_, _], _ => rfl
    case F_l_is_true => exact fun_mk (st := s_l_is_true) l_l_is_true e_l_is_true k_l_is_true
    case m_l_is_true => exact PySem.W.mg_of X G a_l_is_true
    case b_l_is_true => exact (fun_mk (st := s_l_is_true) l_l_is_true e_l_is_true k_l_is_true).binds (ps := ["_law_span", "_law_thing"]) fun _ _ _ _ _ _ us hl => match us, hl with | [_, _], _ => rfl
    case F_l_soonest => exact fun_mk (st := s_l_soonest) l_l_soonest e_l_soonest k_l_soonest
    case m_l_soonest => exact PySem.W.mg_of X G a_l_soonest
    case b_l_soonest => exact (fun_mk (st := s_l_soonest) l_l_soonest e_l_soonest k_l_soonest).binds (ps := ["_law_book"]) fun _ _ _ _ _ _ us hl => match us, hl with | [_], _ => rfl
    case F_l_latest => exact fun_mk (st := s_l_latest) l_l_latest e_l_latest k_l_latest
    case m_l_latest => exact PySem.W.mg_of X G a_l_latest
    case b_l_latest => exact (fun_mk (st := s_l_latest) l_l_latest e_l_latest k_l_latest).binds (ps := ["_law_book"]) fun _ _ _ _ _ _ us hl => match us, hl with | [_], _ => rfl
    case F_l_bent => exact fun_mk (st := s_l_bent) l_l_bent e_l_bent k_l_bent
    case m_l_bent => exact PySem.W.mg_of X G a_l_bent
    case b_l_bent => exact (fun_mk (st := s_l_bent) l_l_bent e_l_bent k_l_bent).binds (ps := ["_law_pot_here", "_law_thing", "_law_deep"]) fun _ _ _ _ _ _ us hl => match us, hl with | [_, _, _], _ => rfl
    case F_l_things => exact fun_mk (st := s_l_things) l_l_things e_l_things k_l_things
    case m_l_things => exact PySem.W.mg_of X G a_l_things
    case b_l_things => exact (fun_mk (st := s_l_things) l_l_things e_l_things k_l_things).binds (ps := ["_law_pot_here", "_law_book"]) fun _ _ _ _ _ _ us hl => match us, hl with | [_, _], _ => rfl
    case F_l_law => exact fun_mk (st := s_l_law) l_l_law e_l_law k_l_law
    case m_l_law => exact PySem.W.mg_of X G a_l_law
    case b_l_law => exact (fun_mk (st := s_l_law) l_l_law e_l_law k_l_law).binds (ps := ["_law_script"]) fun _ _ _ _ _ _ us hl => match us, hl with | [_], _ => rfl
    case z_all => exact PySem.W.mg_none_of X G z_all
    case z_bool => exact PySem.W.mg_none_of X G z_bool
    case z_enumerate => exact PySem.W.mg_none_of X G z_enumerate
    case z_int => exact PySem.W.mg_none_of X G z_int
    case z_isinstance => exact PySem.W.mg_none_of X G z_isinstance
    case z_len => exact PySem.W.mg_none_of X G z_len
    case z_list => exact PySem.W.mg_none_of X G z_list
    case z_max => exact PySem.W.mg_none_of X G z_max
    case z_min => exact PySem.W.mg_none_of X G z_min
    case z_range => exact PySem.W.mg_none_of X G z_range
    case z_repr => exact PySem.W.mg_none_of X G z_repr
    case z_tuple => exact PySem.W.mg_none_of X G z_tuple
    case z_zip => exact PySem.W.mg_none_of X G z_zip
    case c_LAST_UNTIL => exact ⟨_, PySem.W.mg_of X G c_LAST_UNTIL⟩
    case c_MOST_SPANS => exact ⟨_, PySem.W.mg_of X G c_MOST_SPANS⟩
    case c_CUT_OFF => exact ⟨_, PySem.W.mg_of X G c_CUT_OFF⟩
    case c_KINDS => exact PySem.W.mg_of X G c_KINDS
    case k_KINDS => exact let ⟨its, n, q1, q2, q3, q4⟩ := q_KINDS; ⟨_, its, n, o_KINDS, q1, q2, q3, q4⟩
    case c_LAST_TRUE_UNTIL => exact ⟨_, PySem.W.mg_of X G c_LAST_TRUE_UNTIL⟩
  exact ⟨PySem.W.fnOf "law" "law" (defArgs s_l_law) (defBody s_l_law) (defScope s_l_law) .none kV_l_law dc_l_law pm_l_law an_l_law cd_l_law ct_l_law, fun s v => .of_eq rfl, fun base _ _ => ok_l_law T⟩
theorem walk {l : PySem.W.OpenLaw} {q : Program} {loose : List Str} {XP : (Str → Option Value) → Heap → Prop} {YP : World → Heap → Prop} {d : DefRec} {K : Params → PySem.W.Frag} (hi : PyProof.Rows.importsNone q = true) (hn : l.most = some 63) (hdf : d.params.defaults = [])
    (hY : ∀ (w : World) (h : Heap), YP w h → (K w.params).In h)
    (F : ∀ (w : World) (mg : Str → Option Value) (fa : Addr) (h : Heap), (K w.params).In h → h.Ns mainGlobals mg → mg d.name = some (.ref fa) →
      ∃ fd : FuncData, (∀ (s : Shared) (u : Value), BindsTo s fd ⟨[u], []⟩ [("_law_script", u)]) ∧ ∀ base : Heap, (K w.params).In base → base.Ns mainGlobals mg → FnOk l.prog w (K w.params) mg base CX0 10 fa fd ["_law_script"] (SpL (K w.params) 6 S_l_law)) :
    PySem.W.WalkO q loose XP YP l.row.toRowW d [] (fun f vs => PySem.call f vs) :=
  L2.walk_of (n := 63) (k := 10) (x := "_law_script") (CX := fun _ => CX0) (sp := fun w => SpL (K w.params) 6 S_l_law) hi hn (by decide) hdf ⟨rfl, rfl, by decide, by decide⟩ hY F (fun _ _ a ns hl ho hS => let ⟨ρ, e⟩ := law_true ns hl; ⟨a, ns, ρ, rfl, Scr.of ho hS, e, fun _ => rfl⟩) fun _ _ _ _ _ z => z
end Mine
open PySem PySem.W PyProof.Rows
set_option maxRecDepth 100000 in
set_option maxHeartbeats 0 in
theorem PySem.Challenge.cw_outlasts_k70_truths_looked_at_holds : PySem.Challenge.rw_outlasts_k70_truths_looked_at.Holds := by
  w_on; o_law; k_head; (case hw => w_witness2)
  k_fill
  refine Mine.walk (l := PySem.Challenge.rw_outlasts_k70_truths_looked_at) ?I rfl rfl (fun w h Y => PySem.W.kIn_of Y) ?F
  case I => decide +kernel
  case F =>
    intro w mg fa h KX G hmg
    refine' Mine.all_mk KX G hmg ?a_p_is_whole ?l_p_is_whole ?e_p_is_whole ?k_p_is_whole ?a_p_is_span ?l_p_is_span ?e_p_is_span ?k_p_is_span ?a_p_is_book ?l_p_is_book ?e_p_is_book ?k_p_is_book ?a_p_is_kind ?l_p_is_kind ?e_p_is_kind ?k_p_is_kind ?a_p_check_book ?l_p_check_book ?e_p_check_book ?k_p_check_book ?a_p_is_plain ?l_p_is_plain ?e_p_is_plain ?k_p_is_plain ?a_p_check_plain ?l_p_check_plain ?e_p_check_plain ?k_p_check_plain ?a_p_is_truth ?l_p_is_truth ?e_p_is_truth ?k_p_is_truth ?a_p_may_stand_for ?l_p_may_stand_for ?e_p_may_stand_for ?k_p_may_stand_for ?a_l_cell_at ?l_l_cell_at ?e_l_cell_at ?k_l_cell_at ?a_l_pot ?l_l_pot ?e_l_pot ?k_l_pot ?a_l_take ?l_l_take ?e_l_take ?k_l_take ?a_l_whole ?l_l_whole ?e_l_whole ?k_l_whole ?a_l_odd ?l_l_odd ?e_l_odd ?k_l_odd ?a_l_plain ?l_l_plain ?e_l_plain ?k_l_plain ?a_l_truth ?l_l_truth ?e_l_truth ?k_l_truth ?a_l_is_truth ?l_l_is_truth ?e_l_is_truth ?k_l_is_truth ?a_l_is_true ?l_l_is_true ?e_l_is_true ?k_l_is_true ?a_l_soonest ?l_l_soonest ?e_l_soonest ?k_l_soonest ?a_l_latest ?l_l_latest ?e_l_latest ?k_l_latest ?a_l_bent ?l_l_bent ?e_l_bent ?k_l_bent ?a_l_things ?l_l_things ?e_l_things ?k_l_things ?a_l_law ?l_l_law ?e_l_law ?k_l_law ?z_all ?z_bool ?z_enumerate ?z_int ?z_isinstance ?z_len ?z_list ?z_max ?z_min ?z_range ?z_repr ?z_tuple ?z_zip ?c_LAST_UNTIL ?c_MOST_SPANS ?c_CUT_OFF ?c_KINDS ?o_KINDS ?q_KINDS ?c_LAST_TRUE_UNTIL
    (case a_p_is_whole => k_is)
    (case l_p_is_whole => k_is)
    (case e_p_is_whole => k_is)
    (case k_p_is_whole => k_is)
    (case a_p_is_span => k_is)
    (case l_p_is_span => k_is)
    (case e_p_is_span => k_is)
    (case k_p_is_span => k_is)
    (case a_p_is_book => k_is)
    (case l_p_is_book => k_is)
    (case e_p_is_book => k_is)
    (case k_p_is_book => k_is)
    (case a_p_is_kind => k_is)
    (case l_p_is_kind => k_is)
    (case e_p_is_kind => k_is)
    (case k_p_is_kind => k_is)
    (case a_p_check_book => k_is)
    (case l_p_check_book => k_is)
    (case e_p_check_book => k_is)
    (case k_p_check_book => k_is)
    (case a_p_is_plain => k_is)
    (case l_p_is_plain => k_is)
    (case e_p_is_plain => k_is)
    (case k_p_is_plain => k_is)
    (case a_p_check_plain => k_is)
    (case l_p_check_plain => k_is)
    (case e_p_check_plain => k_is)
    (case k_p_check_plain => k_is)
    (case a_p_is_truth => k_is)
    (case l_p_is_truth => k_is)
    (case e_p_is_truth => k_is)
    (case k_p_is_truth => k_is)
    (case a_p_may_stand_for => k_is)
    (case l_p_may_stand_for => k_is)
    (case e_p_may_stand_for => k_is)
    (case k_p_may_stand_for => k_is)
    (case a_l_cell_at => k_is)
    (case l_l_cell_at => k_is)
    (case e_l_cell_at => k_is)
    (case k_l_cell_at => k_is)
    (case a_l_pot => k_is)
    (case l_l_pot => k_is)
    (case e_l_pot => k_is)
    (case k_l_pot => k_is)
    (case a_l_take => k_is)
    (case l_l_take => k_is)
    (case e_l_take => k_is)
    (case k_l_take => k_is)
    (case a_l_whole => k_is)
    (case l_l_whole => k_is)
    (case e_l_whole => k_is)
    (case k_l_whole => k_is)
    (case a_l_odd => k_is)
    (case l_l_odd => k_is)
    (case e_l_odd => k_is)
    (case k_l_odd => k_is)
    (case a_l_plain => k_is)
    (case l_l_plain => k_is)
    (case e_l_plain => k_is)
    (case k_l_plain => k_is)
    (case a_l_truth => k_is)
    (case l_l_truth => k_is)
    (case e_l_truth => k_is)
    (case k_l_truth => k_is)
    (case a_l_is_truth => k_is)
    (case l_l_is_truth => k_is)
    (case e_l_is_truth => k_is)
    (case k_l_is_truth => k_is)
    (case a_l_is_true => k_is)
    (case l_l_is_true => k_is)
    (case e_l_is_true => k_is)
    (case k_l_is_true => k_is)
    (case a_l_soonest => k_is)
    (case l_l_soonest => k_is)
    (case e_l_soonest => k_is)
    (case k_l_soonest => k_is)
    (case a_l_latest => k_is)
    (case l_l_latest => k_is)
    (case e_l_latest => k_is)
    (case k_l_latest => k_is)
    (case a_l_bent => k_is)
    (case l_l_bent => k_is)
    (case e_l_bent => k_is)
    (case k_l_bent => k_is)
    (case a_l_things => k_is)
    (case l_l_things => k_is)
    (case e_l_things => k_is)
    (case k_l_things => k_is)
    (case a_l_law => k_is)
    (case l_l_law => k_is)
    (case e_l_law => k_is)
    (case k_l_law => k_is)
    (case z_all => k_is)
    (case z_bool => k_is)
    (case z_enumerate => k_is)
    (case z_int => k_is)
    (case z_isinstance => k_is)
    (case z_len => k_is)
    (case z_list => k_is)
    (case z_max => k_is)
    (case z_min => k_is)
    (case z_range => k_is)
    (case z_repr => k_is)
    (case z_tuple => k_is)
    (case z_zip => k_is)
    (case c_LAST_UNTIL => k_is)
    (case c_MOST_SPANS => k_is)
    (case c_CUT_OFF => k_is)
    (case c_KINDS => k_is)
    (case o_KINDS => k_is)
    (case q_KINDS => exact ⟨_, _, rfl, rfl, by decide, .cons ⟨_, rfl⟩ (.cons ⟨_, rfl⟩ (.cons ⟨_, rfl⟩ (.cons ⟨_, rfl⟩ (.nil))))⟩)
    (case c_LAST_TRUE_UNTIL => k_is)

