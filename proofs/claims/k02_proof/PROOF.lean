import PyProof.Rows.All
import Wide.All
import OpenK.AllK
import Wide.FinOn
import PyProof.EqAt
import PyProof.EqKinds
import PyProof.TupleCall
import PyProof.ZipIter
import PyProof.Draws
import KE.IntBitsLaws
import Lean
import PySem.Challenge.RW_beadnets_k02_whole_sums
set_option Elab.async false
set_option Elab.async false
set_option linter.all false
set_option maxRecDepth 100000
/-! THE HAND LAYER, for ints, bools, texts, own classes, LISTS and tuples (index, slices, in, append, pop ..), calls, loops. Paste it whole ahead of your own text; what your proof does not reach may be deleted. -/
namespace L2
open PySem PySem.Spec PyProof.Rows

/-- a key: an int or a str -/
abbrev Key := Sum Int Str
def keyIs : Key → Value → Bool
  | .inl k, v => Value.isInt k v
  | .inr x, v => Value.isStrOf x v
def keyH (w : World) : Key → Int
  | .inl k => hashInt k
  | .inr x => hashStr w x
theorem keyIs_shape : ∀ {k : Key} {v : Value}, keyIs k v = true → (∃ i t, k = Sum.inl i ∧ v = Value.int i t) ∨ (∃ x t, k = Sum.inr x ∧ v = Value.str x t)
  | .inl i, v, h => by
    obtain ⟨t, e⟩ := Value.isInt_shape (k := i) (v := v) h
    exact .inl ⟨i, t, rfl, e⟩
  | .inr x, v, h => by
    obtain ⟨t, e⟩ := Value.isStrOf_shape (x := x) (v := v) h
    exact .inr ⟨x, t, rfl, e⟩
theorem keyIs_int (i : Int) (t : Tok) : keyIs (.inl i) (.int i t) = true := by simp [keyIs, Value.isInt]
theorem keyIs_str (x : Str) (t : Tok) : keyIs (.inr x) (.str x t) = true := by simp [keyIs, Value.isStrOf]
theorem key_ll (a b : Int) : decide ((Sum.inl a : Key) = Sum.inl b) = (a == b) := by
  by_cases e : a = b
  · subst e; simp
  · have h : ¬ (Sum.inl a : Key) = Sum.inl b := fun q => e (Sum.inl.inj q)
    rw [decide_eq_false h]
    exact (beq_eq_false_iff_ne.mpr e).symm
theorem key_rr (a b : Str) : decide ((Sum.inr a : Key) = Sum.inr b) = decide (a = b) := by
  by_cases e : a = b
  · subst e; simp
  · have h : ¬ (Sum.inr a : Key) = Sum.inr b := fun q => e (Sum.inr.inj q)
    rw [decide_eq_false h, decide_eq_false e]
theorem key_lr (a : Int) (b : Str) : decide ((Sum.inl a : Key) = Sum.inr b) = false := decide_eq_false (fun q => nomatch q)
theorem key_rl (a : Str) (b : Int) : decide ((Sum.inr a : Key) = Sum.inl b) = false := decide_eq_false (fun q => nomatch q)

def mixKind (prog : Program) (w : World) : PySem.KeyKind prog w Key where
  is := keyIs
  hash := keyH w
  inj := fun v a b ha hb => by
    rcases keyIs_shape ha with ⟨i, t, rfl, rfl⟩ | ⟨x, t, rfl, rfl⟩
    · rcases keyIs_shape hb with ⟨j, u, rfl, e⟩ | ⟨y, u, rfl, e⟩
      · injection e with e1 _; rw [e1]
      · exact nomatch e
    · rcases keyIs_shape hb with ⟨j, u, rfl, e⟩ | ⟨y, u, rfl, e⟩
      · exact nomatch e
      · injection e with e1 _; rw [e1]
  byValue := fun k v h => by
    rcases keyIs_shape h with ⟨i, t, rfl, rfl⟩ | ⟨x, t, rfl, rfl⟩ <;> rfl
  pyHash := fun hv h => by
    rcases keyIs_shape hv with ⟨i, t, rfl, rfl⟩ | ⟨x, t, rfl, rfl⟩
    · exact wpAny_pyHash_int h
    · exact wpAny_pyHash_str h
  eqBool := fun hu hv h => by
    rcases keyIs_shape hu with ⟨i, t, rfl, rfl⟩ | ⟨x, t, rfl, rfl⟩
    · rcases keyIs_shape hv with ⟨j, u, rfl, rfl⟩ | ⟨y, u, rfl, rfl⟩
      · rw [key_ll] at h; exact wpAny_eqBool_int h
      · rw [key_lr] at h; exact SeqAt.EqAt.int_str i t y u _ _ _ _ h
    · rcases keyIs_shape hv with ⟨j, u, rfl, rfl⟩ | ⟨y, u, rfl, rfl⟩
      · rw [key_rl] at h; exact SeqAt.EqAt.str_int x t j u _ _ _ _ h
      · rw [key_rr] at h; exact wpAny_eqBool_str h
  «strs» := fun k x t v h => by
    rcases keyIs_shape h with ⟨i, u, rfl, e⟩ | ⟨y, u, rfl, e⟩
    · exact nomatch e
    · injection e with e1 _
      subst e1
      cases v <;> rfl

theorem mixKind_is (prog : Program) (w : World) (k : Key) (v : Value) : (mixKind prog w).is k v = keyIs k v := rfl
theorem mixKind_int (prog : Program) (w : World) (i : Int) (t : Tok) : (mixKind prog w).is (.inl i) (.int i t) = true := keyIs_int i t
theorem mixKind_str (prog : Program) (w : World) (x : Str) (t : Tok) : (mixKind prog w).is (.inr x) (.str x t) = true := keyIs_str x t
end L2

namespace L2
open PySem PySem.Spec PyProof.Rows

/-- a value, without the heap -/
inductive V where
  | non | bl (b : Bool) | int (i : Int) | str (x : Str) | byt (b : Array UInt8) | flt (b : UInt64) | ref (a : Addr) | ty (n : String)
  deriving DecidableEq

def RelV : V → Value → Prop
  | .non, u => u = Value.none
  | .bl b, u => u = Value.bool b
  | .int i, u => ∃ t, u = Value.int i t
  | .str x, u => ∃ t, u = Value.str x t
  | .byt b, u => ∃ t, u = Value.bytes b t
  | .flt b, u => ∃ t, u = Value.float b t
  | .ref a, u => u = Value.ref a
  | .ty n, u => u = Value.type n

abbrev Vals : List V → List Value → Prop := Paired RelV
theorem Vals.length {xs : List V} {us : List Value} (r : Vals xs us) : xs.length = us.length := Paired.length r
theorem Vals.get : ∀ {xs : List V} {us : List Value} {i : Nat} {x : V}, Vals xs us → xs[i]? = some x → ∃ u, us[i]? = some u ∧ RelV x u
  | _, _, _, _, .nil, e => by simp at e
  | _, _, 0, _, .cons r _, e => by simp at e; subst e; exact ⟨_, rfl, r⟩
  | _, _, i + 1, x, .cons _ t, e => by
    obtain ⟨u, h1, h2⟩ := Vals.get (i := i) (x := x) t (by simpa using e)
    exact ⟨u, by simpa using h1, h2⟩
theorem Vals.set {x : V} {u : Value} (r : RelV x u) : ∀ {xs : List V} {us : List Value} (i : Nat), Vals xs us → Vals (xs.set i x) (us.set i u)
  | _, _, _, .nil => .nil
  | _, _, 0, .cons _ t => .cons r t
  | _, _, i + 1, .cons q t => .cons q (Vals.set r i t)
theorem Vals.append : ∀ {xs ys : List V} {us ws : List Value}, Vals xs us → Vals ys ws → Vals (xs ++ ys) (us ++ ws)
  | _, _, _, _, .nil, s => s
  | _, _, _, _, .cons r t, s => .cons r (Vals.append t s)
theorem Vals.take : ∀ {xs : List V} {us : List Value} (n : Nat), Vals xs us → Vals (xs.take n) (us.take n)
  | _, _, 0, _ => .nil
  | _, _, _ + 1, .nil => .nil
  | _, _, n + 1, .cons r t => .cons r (Vals.take n t)
theorem Vals.drop : ∀ {xs : List V} {us : List Value} (n : Nat), Vals xs us → Vals (xs.drop n) (us.drop n)
  | _, _, 0, r => r
  | _, _, _ + 1, .nil => .nil
  | _, _, n + 1, .cons _ t => Vals.drop n t
theorem Vals.none_of : ∀ {xs : List V} {us : List Value} {i : Nat}, Vals xs us → xs[i]? = none → us[i]? = none := fun {xs us i} r e => by
  have h1 := r.length
  have h2 : xs.length ≤ i := List.getElem?_eq_none_iff.mp e
  exact List.getElem?_eq_none_iff.mpr (by omega)

def RelO : Option V → Option Value → Prop
  | some v, some u => RelV v u
  | none, none => True
  | _, _ => False
def KV {κ : Type} : List (κ × V) → List (κ × Value) → Prop := Paired fun (p : κ × V) (q : κ × Value) => p.1 = q.1 ∧ RelV p.2 q.2

/-- a key of a dict (00_mix): an int or a text -/
def kV : Key → V
  | .inl i => .int i
  | .inr x => .str x

/-- what stands at a tracked address -/
inductive HO where
  /-- a list -/
  | lst (xs : List V)
  /-- a tuple (never changes) -/
  | tup (xs : List V)
  /-- a dict whose keys are ints and texts; one whose keys are tuples of ints and texts (the empty one is both) -/
  | dK (kvs : List (Key × V)) | dT (kvs : List (List Key × V))
  /-- a set of ints: its members, its size -/
  | set (S : Int → Bool) (n : Nat)
  /-- an instance of the class at C, its dict at dx, its attributes -/
  | ins (C dx : Addr) (fs : List (Str × V))
  /-- the dict of the instance at x -/
  | own (x : Addr)
  /-- the dict of an exception -/
  | xd (fs : List (Str × V))
  /-- a bound method, f of x -/
  | met (f x : Addr)
  /-- a range object lo, lo + 1, .. below hi -/
  | rng (lo hi : Int)
  /-- a thing that is known to the object (the script; a dict while a loop walks it): read, never written while it is so -/
  | frz (o : Obj) (u : HO)
  /-- a code object's table -/
  | tbl (ps : Array Value)
  /-- any other thing, by what is true of its one object (a def of one's own: SetO a S n := HO.ext fun h => ..) -/
  | ext (φ : Heap → Prop)

abbrev Hp := Addr → Option HO
def upd (H : Hp) (a : Addr) (o : HO) : Hp := fun b => if b = a then some o else H b
theorem upd_same {H : Hp} {a : Addr} {o : HO} : upd H a o a = some o := by unfold upd; rw [if_pos rfl]
theorem upd_ne {H : Hp} {a b : Addr} {o : HO} (h : b ≠ a) : upd H a o b = H b := by unfold upd; rw [if_neg h]
theorem upd_upd {H : Hp} {a : Addr} {o u : HO} : upd (upd H a o) a u = upd H a u := by
  funext b; unfold upd; split <;> rfl
/-- two objects of different content stand apart -/
theorem ne_of {H : Hp} {a b : Addr} {o u : HO} (h : H a = some o) (h' : H b = some u) (d : o ≠ u) : a ≠ b := by
  intro e; subst e; rw [h] at h'; exact d (Option.some.inj h')
theorem ne_of_none {H : Hp} {a b : Addr} {o : HO} (h : H a = some o) (h' : H b = none) : a ≠ b := by
  intro e; subst e; rw [h] at h'; cases h'

section
variable (P : Program) (w : World)
def ObjOk (H : Hp) (h : Heap) (a : Addr) : HO → Prop
  | .lst xs => xs.length ≤ sizeLine ∧ ∃ (its : List Value) (n : Nat), Vals xs its ∧ h.get? a = some { cls := .type "list", data := .seq its.toArray n }
  | .tup xs => xs.length ≤ sizeLine ∧ ∃ its : List Value, Vals xs its ∧ IsTup h a its.toArray
  | .dK kvs => kvs.length ≤ sizeLine ∧ (a == sysModules) = false ∧ ∃ vs, KV kvs vs ∧ h.DictOf (mixKind P w) a vs
  | .dT kvs => kvs.length ≤ sizeLine ∧ (a == sysModules) = false ∧ ∃ xs : List (List Key × Addr × Value),
      Paired (fun (p : List Key × V) (q : List Key × Addr × Value) => p.1 = q.1 ∧ H q.2.1 = some (.tup (p.1.map kV)) ∧ RelV p.2 q.2.2) kvs xs ∧
      ∃ o es ep, h.get? a = some o ∧ o.ExactDict ∧ o.data = .dict es ep ∧ es.toList = xs.map (entryOfKey (tupleKind (mixKind P w))) ∧ (xs.map (·.1)).Nodup
  | .set S n => h.SetOf (intKind P w) a S n
  | .ins C dx fs => H dx = some (.own a) ∧ fs.length ≤ 1000 ∧ dx ≠ a ∧ h.get? a = some (PySem.W.instObj C dx) ∧
      ∃ mA, h.Ns1 dx mA ∧ (∀ f, RelO (fs.lookup f) (mA f)) ∧ PySem.Within mA (fs.map (·.1))
  | .own _ => ∃ o, h.get? a = some o
  | .xd fs => ∃ mA, h.Ns1 a mA ∧ ∀ f, RelO (fs.lookup f) (mA f)
  | .rng lo hi => ∃ t u v, h.get? a = some { cls := .type "range", data := .fields #[.int lo t, .int hi u, .int 1 v] }
  | .frz o u => h.get? a = some o ∧ ObjOk H h a u
  | .tbl ps => h.get? a = some { cls := .none, data := .fields ps }
  | .met f x => h.get? a = some (PySem.W.methodObj (.ref f) (.ref x))
  | .ext φ => φ h ∧ (∃ o, h.get? a = some o) ∧ ∀ h1 h2 : Heap, φ h1 → (∀ o, h1.get? a = some o → h2.get? a = some o) → φ h2
/-- the abstract heap is held -/
def HOk (H : Hp) (h : Heap) : Prop := ∀ a o, H a = some o → ObjOk P w H h a o
end

section
variable {P : Program} {w : World} {H H' : Hp} {h h' : Heap} {a : Addr} {o : HO}
theorem ObjOk.lt (x : ObjOk P w H h a o) : a < h.objs.size := by
  cases o with
  | lst xs => obtain ⟨_, _, _, _, e⟩ := x; exact Heap.lt_size e
  | tup xs => obtain ⟨_, _, _, p⟩ := x; exact p.lt
  | dK kvs => obtain ⟨_, _, _, _, o, _, _, e, _⟩ := x; exact Heap.lt_size e
  | dT kvs => obtain ⟨_, _, _, _, o, _, _, e, _⟩ := x; exact Heap.lt_size e
  | set S n => obtain ⟨o, _, _, _, e, _⟩ := x; exact Heap.lt_size e
  | ins C dx fs => obtain ⟨_, _, _, e, _⟩ := x; exact Heap.lt_size e
  | own y => obtain ⟨_, e⟩ := x; exact Heap.lt_size e
  | xd fs => obtain ⟨_, ⟨_, _, _, e, _⟩, _⟩ := x; exact Heap.lt_size e
  | rng lo hi => obtain ⟨_, _, _, e⟩ := x; exact Heap.lt_size e
  | frz ob u => obtain ⟨e, _⟩ := x; exact Heap.lt_size e
  | tbl ps => exact Heap.lt_size (show h.get? a = some _ from x)
  | met f y => exact Heap.lt_size (show h.get? a = some _ from x)
  | ext φ => obtain ⟨_, ⟨_, e⟩, _⟩ := x; exact Heap.lt_size e
theorem Paired.mapP {α β : Type} {F G : α → β → Prop} : ∀ {l₁ : List α} {l₂ : List β}, Paired F l₁ l₂ → (∀ a b, F a b → G a b) → Paired G l₁ l₂
  | _, _, .nil, _ => .nil
  | _, _, .cons r t, f => .cons (f _ _ r) (Paired.mapP t f)
theorem Paired.imp' {α β : Type} {F G : α → β → Prop} (f : ∀ a b, F a b → G a b) {l₁ : List α} {l₂ : List β} (r : Paired F l₁ l₂) : Paired G l₁ l₂ := Paired.mapP r f
/-- what an object's description leans on: its own object, its own dict, the tuples -/
theorem ObjOk.stay (x : ObjOk P w H h a o) (k : ∀ b u, (b = a ∨ H b = some (.own a)) → h.get? b = some u → h'.get? b = some u)
    (ho : ∀ b, H b = some (.own a) → H' b = some (.own a)) (ht : ∀ b xs, H b = some (.tup xs) → H' b = some (.tup xs)) : ObjOk P w H' h' a o := by
  induction o with
  | lst xs => obtain ⟨z, its, n, r, e⟩ := x; exact ⟨z, its, n, r, k _ _ (.inl rfl) e⟩
  | tup xs => obtain ⟨z, its, r, ob, e, c⟩ := x; exact ⟨z, its, r, ob, k _ _ (.inl rfl) e, c⟩
  | dK kvs => obtain ⟨z, y, vs, r, ob, es, ep, e, c⟩ := x; exact ⟨z, y, vs, r, ob, es, ep, k _ _ (.inl rfl) e, c⟩
  | dT kvs =>
    obtain ⟨z, y, xs, r, ob, es, ep, e, c⟩ := x
    exact ⟨z, y, xs, Paired.mapP r fun p q z => ⟨z.1, ht _ _ z.2.1, z.2.2⟩, ob, es, ep, k _ _ (.inl rfl) e, c⟩
  | set S n => obtain ⟨ob, es, ep, t, e, c⟩ := x; exact ⟨ob, es, ep, t, k _ _ (.inl rfl) e, c⟩
  | ins C dx fs =>
    obtain ⟨d, z, ne, e, mA, ⟨od, es, ep, e2, c⟩, r⟩ := x
    exact ⟨ho _ d, z, ne, k _ _ (.inl rfl) e, mA, ⟨od, es, ep, k _ _ (.inr d) e2, c⟩, r⟩
  | own y => obtain ⟨ob, e⟩ := x; exact ⟨ob, k _ _ (.inl rfl) e⟩
  | xd fs => obtain ⟨mA, ⟨od, es, ep, e, c⟩, r⟩ := x; exact ⟨mA, ⟨od, es, ep, k _ _ (.inl rfl) e, c⟩, r⟩
  | rng lo hi => obtain ⟨t, u, v, e⟩ := x; exact ⟨t, u, v, k _ _ (.inl rfl) e⟩
  | frz ob u ih => obtain ⟨e, q⟩ := x; exact ⟨k _ _ (.inl rfl) e, ih q⟩
  | tbl ps =>
    have e : h.get? a = some { cls := .none, data := .fields ps } := x
    show h'.get? a = some { cls := .none, data := .fields ps }
    exact k a _ (.inl rfl) e
  | met f y =>
    have e : h.get? a = some (PySem.W.methodObj (.ref f) (.ref y)) := x
    show h'.get? a = some (PySem.W.methodObj (.ref f) (.ref y))
    exact k a _ (.inl rfl) e
  | ext φ => obtain ⟨p, ⟨o, e⟩, st⟩ := x; exact ⟨st _ _ p fun o q => k _ _ (.inl rfl) q, ⟨o, k _ _ (.inl rfl) e⟩, st⟩
theorem HOk.lt (x : HOk P w H h) (e : H a = some o) : a < h.objs.size := (x a o e).lt
theorem HOk.fresh (x : HOk P w H h) (e : h.objs.size ≤ a) : H a = none := by
  cases q : H a with
  | none => rfl
  | some u => exact absurd (Nat.lt_of_lt_of_le (x.lt q) e) (Nat.lt_irrefl _)
/-- every object of the heap is kept -/
theorem HOk.kept (x : HOk P w H h) (k : ∀ b u, h.get? b = some u → h'.get? b = some u) : HOk P w H h' := fun a o e =>
  (x a o e).stay (fun b u _ q => k b u q) (fun _ q => q) fun _ _ q => q
/-- a new object is laid and tracked -/
theorem HOk.laid (x : HOk P w H h) (k : ∀ b u, h.get? b = some u → h'.get? b = some u) (hp : h.objs.size ≤ a) (new : ObjOk P w (upd H a o) h' a o) : HOk P w (upd H a o) h' := fun b u e => by
  have hn := x.fresh hp
  by_cases hb : b = a
  · subst hb; rw [upd_same] at e; cases e; exact new
  · rw [upd_ne hb] at e
    exact (x b u e).stay (fun c v _ q => k c v q) (fun c q => by rw [upd_ne (ne_of_none q hn)]; exact q) fun c xs q => by rw [upd_ne (ne_of_none q hn)]; exact q
end

/-- what may be read as u: it is u, or a known u -/
def Rd (H : Hp) (a : Addr) (u : HO) : Prop := H a = some u ∨ ∃ o, H a = some (.frz o u)
theorem Rd.of {H : Hp} {a : Addr} {u : HO} (h : H a = some u) : Rd H a u := .inl h
theorem Rd.ok {P : Program} {w : World} {H : Hp} {h : Heap} {a : Addr} {u : HO} (r : Rd H a u) (x : HOk P w H h) : ObjOk P w H h a u := by
  rcases r with r | ⟨o, r⟩
  · exact x a u r
  · obtain ⟨_, q⟩ := x a _ r
    exact q
/-- what may be written -/
def Mut : Option HO → Prop
  | some (.lst _) => True
  | some (.dK _) => True
  | some (.dT _) => True
  | some (.set _ _) => True
  | some (.ins _ _ _) => True
  | some (.ext _) => True
  | _ => False
section
variable {P : Program} {w : World} {H : Hp} {h h' : Heap} {x e : Addr} {o' : HO}
/-- the object at e is changed: x itself, or the dict of the instance x -/
theorem HOk.write (ok : HOk P w H h) (mu : Mut (H x)) (he : e = x ∨ H e = some (.own x)) (k : ∀ b u, b ≠ e → h.get? b = some u → h'.get? b = some u) (heo : ∃ u, h'.get? e = some u)
    (new : ObjOk P w (upd H x o') h' x o') : HOk P w (upd H x o') h' := fun b u q => by
  have nown : ∀ c y, H c = some (.own y) → c ≠ x := fun c y r z => by subst z; rw [r] at mu; exact mu
  have ntup : ∀ c xs, H c = some (.tup xs) → c ≠ x := fun c xs r z => by subst z; rw [r] at mu; exact mu
  by_cases hb : b = x
  · subst hb; rw [upd_same] at q; cases q; exact new
  · rw [upd_ne hb] at q
    by_cases hbe : b = e
    · have q' : H b = some (.own x) := by
        rcases he with z | z
        · exact absurd (hbe.trans z) hb
        · rw [hbe]; exact z
      rw [q] at q'; cases q'
      obtain ⟨v, hv⟩ := heo
      exact ⟨v, by rw [hbe]; exact hv⟩
    · refine (ok b u q).stay (fun c v hc r => k c v ?_ r) (fun c r => by rw [upd_ne (nown c b r)]; exact r) fun c xs r => by rw [upd_ne (ntup c xs r)]; exact r
      rcases hc with rfl | hc
      · exact hbe
      · rintro rfl
        rcases he with z | z
        · exact nown c b hc z
        · rw [hc] at z; cases z; exact hb rfl
end

/-! ### kept unless tracked; of the frames at fs (the callers') the slots may change (an exception that passes writes there); of the records at ex (iterators) nothing is said -/
structure Un (fs ex : List Addr) (H H' : Hp) (h h' : Heap) : Prop where
  keep : ∀ b o, h.get? b = some o → H b = none → b ∉ fs → b ∉ ex → h'.get? b = some o
  slot : ∀ b o, h.get? b = some o → H b = none → b ∈ fs → b ∉ ex → ∃ sl, h'.get? b = some { o with slots := sl }
  free : ∀ b o, h.get? b = some o → H b = none → b ∉ ex → H' b = none
  there : ∀ b o, h.get? b = some o → b ∉ ex → ∃ o', h'.get? b = some o'
  tups : ∀ b xs, H b = some (.tup xs) → H' b = some (.tup xs)
  frzs : ∀ b o u, H b = some (.frz o u) → H' b = some (.frz o u)
  tbls : ∀ b ps, H b = some (.tbl ps) → ∃ more, H' b = some (.tbl (ps ++ more))
section
variable {fs fs' ex ex' : List Addr} {H H1 H2 : Hp} {h h1 h2 h' : Heap} {a x e : Addr} {o : HO}
theorem Un.any (u : Un fs ex H H1 h h1) {b : Addr} {ob : Obj} (q : h.get? b = some ob) (n : H b = none) (hx : b ∉ ex) : ∃ sl, h1.get? b = some { ob with slots := sl } := by
  by_cases hb : b ∈ fs
  · exact u.slot b ob q n hb hx
  · exact ⟨ob.slots, u.keep b ob q n hb hx⟩
theorem Un.trans (a : Un fs ex H H1 h h1) (b : Un fs ex H1 H2 h1 h2) : Un fs ex H H2 h h2 where
  keep := fun c ob q n hc hx => b.keep c ob (a.keep c ob q n hc hx) (a.free c ob q n hx) hc hx
  slot := fun c ob q n hc hx => by
    obtain ⟨sl, e1⟩ := a.slot c ob q n hc hx
    obtain ⟨sl', e2⟩ := b.slot c _ e1 (a.free c ob q n hx) hc hx
    exact ⟨sl', e2⟩
  free := fun c ob q n hx => by
    obtain ⟨o', e1⟩ := a.there c ob q hx
    exact b.free c o' e1 (a.free c ob q n hx) hx
  there := fun c ob q hx => by
    obtain ⟨o', e1⟩ := a.there c ob q hx
    exact b.there c o' e1 hx
  tups := fun c xs q => b.tups c xs (a.tups c xs q)
  frzs := fun c ob xs q => b.frzs c ob xs (a.frzs c ob xs q)
  tbls := fun c ps q => by
    obtain ⟨m1, e1⟩ := a.tbls c ps q
    obtain ⟨m2, e2⟩ := b.tbls c _ e1
    exact ⟨m1 ++ m2, by rw [e2, Array.append_assoc]⟩
theorem Un.kept (k : ∀ b u, h.get? b = some u → h'.get? b = some u) : Un fs ex H H h h' :=
  ⟨fun b ob q _ _ _ => k b ob q, fun b ob q _ _ _ => ⟨ob.slots, k b ob q⟩, fun _ _ _ n _ => n, fun b ob q _ => ⟨ob, k b ob q⟩, fun _ _ q => q, fun _ _ _ q => q, fun _ ps q => ⟨#[], by rw [q]; simp⟩⟩
theorem Un.refl : Un fs ex H H h h := Un.kept fun _ _ q => q
theorem Un.laid (k : ∀ b u, h.get? b = some u → h'.get? b = some u) (hp : h.objs.size ≤ a) (hn : H a = none) : Un fs ex H (upd H a o) h h' where
  keep := fun b u q _ _ _ => k b u q
  slot := fun b u q _ _ _ => ⟨u.slots, k b u q⟩
  free := fun b u q n _ => by rw [upd_ne (Nat.ne_of_lt (Nat.lt_of_lt_of_le (Heap.lt_size q) hp))]; exact n
  there := fun b u q _ => ⟨u, k b u q⟩
  tups := fun b xs q => by rw [upd_ne (ne_of_none q hn)]; exact q
  frzs := fun b u xs q => by rw [upd_ne (ne_of_none q hn)]; exact q
  tbls := fun b ps q => ⟨#[], by rw [upd_ne (ne_of_none q hn), q]; simp⟩
theorem Un.write (mu : Mut (H x)) (he : e = x ∨ H e = some (.own x)) (k : ∀ b u, b ≠ e → h.get? b = some u → h'.get? b = some u) (heo : ∃ u, h'.get? e = some u) : Un fs ex H (upd H x o) h h' := by
  have hx : ∀ b, H b = none → b ≠ x := fun b n z => by subst z; rw [n] at mu; exact mu
  have hb : ∀ b, H b = none → b ≠ e := fun b n z => by
    subst z
    rcases he with r | r
    · exact hx b n r
    · rw [n] at r; cases r
  have hm : ∀ b u, H b = some u → ¬ Mut (some u) → b ≠ x := fun b u q nm z => by subst z; rw [q] at mu; exact nm mu
  refine ⟨fun b u q n _ _ => k b u (hb b n) q, fun b u q n _ _ => ⟨u.slots, k b u (hb b n) q⟩, fun b u q n _ => by rw [upd_ne (hx b n)]; exact n, fun b u q _ => ?_,
    fun b xs q => by rw [upd_ne (hm b _ q fun z => z)]; exact q, fun b u xs q => by rw [upd_ne (hm b _ q fun z => z)]; exact q, fun b ps q => ⟨#[], by rw [upd_ne (hm b _ q fun z => z), q]; simp⟩⟩
  by_cases hbe : b = e
  · subst hbe; exact heo
  · exact ⟨u, k b u hbe q⟩
theorem Un.mono (u : Un fs ex H H1 h h1) (hs : ∀ b ∈ fs, b ∈ fs') (hx : ∀ b ∈ ex, b ∈ ex') : Un fs' ex' H H1 h h1 :=
  ⟨fun b ob q n hb he => u.keep b ob q n (fun z => hb (hs b z)) fun z => he (hx b z), fun _ _ q n _ he => u.any q n fun z => he (hx _ z), fun b ob q n he => u.free b ob q n fun z => he (hx b z), fun b ob q he => u.there b ob q fun z => he (hx b z), u.tups, u.frzs, u.tbls⟩
end

/-! ### the heap without what is tracked -/
def trk (h : Heap) (H : Hp) : List Addr := (List.range h.objs.size).filter fun a => (H a).isSome
def hidT (h : Heap) (H : Hp) : Heap := PySem.W.hideAll h (trk h H)
theorem hidT_size (h : Heap) (H : Hp) : (hidT h H).objs.size = h.objs.size := PySem.W.hideAll_size _ _
theorem hidT_get {h : Heap} {H : Hp} {b : Addr} {o : Obj} (e : h.get? b = some o) (n : H b = none) : (hidT h H).get? b = some o :=
  PySem.W.hideAll_get _ e fun hm => by
    have q : (H b).isSome = true := (List.mem_filter.mp hm).2
    rw [n] at q; simp at q
theorem of_hidT {h : Heap} {H : Hp} {b : Addr} {o : Obj} (e : (hidT h H).get? b = some o) : h.get? b = some o ∧ H b = none := by
  have e' : h.get? b = some o := PySem.W.of_hideAll (trk h H) e
  refine ⟨e', ?_⟩
  cases q : H b with
  | none => rfl
  | some x =>
    have hm : b ∈ trk h H := List.mem_filter.mpr ⟨List.mem_range.mpr (Heap.lt_size e'), by simp [q]⟩
    have z : (hidT h H).get? b = none := PySem.W.hideAll_none (trk h H) hm
    rw [z] at e; cases e

/-! ### OpenK's ledger, filled with every new object but one -/
def allNews (g h : Heap) (L : Addr) : List (Addr × Obj) := (List.range h.objs.size).filterMap fun a => if a = L ∨ (g.get? a).isSome = true then none else (h.get? a).map fun o => (a, o)
theorem mem_allNews {g h : Heap} {L a : Addr} {o : Obj} (h1 : a ≠ L) (h2 : g.get? a = none) (h3 : h.get? a = some o) : (a, o) ∈ allNews g h L :=
  List.mem_filterMap.mpr ⟨a, List.mem_range.mpr (Heap.lt_size h3), by simp [h1, h2, h3]⟩
theorem of_mem_allNews {g h : Heap} {L : Addr} {p : Addr × Obj} (hp : p ∈ allNews g h L) : p.1 ≠ L ∧ g.get? p.1 = none ∧ h.get? p.1 = some p.2 := by
  obtain ⟨b, _, e⟩ := List.mem_filterMap.mp hp
  split at e
  · cases e
  · rename_i hn
    cases q : h.get? b with
    | none => rw [q] at e; simp at e
    | some u =>
      rw [q] at e
      simp only [Option.map_some, Option.some.injEq] at e
      subst e
      refine ⟨fun z => hn (.inl z), ?_, q⟩
      show g.get? b = none
      cases r : g.get? b with
      | none => rfl
      | some v => exact (hn (.inr (by simp [r]))).elim
def rest (g h : Heap) (L d : Addr) : List (Addr × Obj) := (allNews g h L).filter fun p => decide (p.1 ≠ d)
theorem rest_ne {g h : Heap} {L d : Addr} : ∀ p ∈ rest g h L d, p.1 ≠ d := fun p hp => of_decide_eq_true (List.mem_filter.mp hp).2
theorem mem_rest {g h : Heap} {L d a : Addr} {o : Obj} (h1 : a ≠ L) (h2 : g.get? a = none) (h3 : h.get? a = some o) (h4 : a ≠ d) : (a, o) ∈ rest g h L d :=
  List.mem_filter.mpr ⟨mem_allNews h1 h2 h3, decide_eq_true h4⟩
theorem news_all {g h : Heap} {L : Addr} : News g L h (allNews g h L) := fun p hp => let ⟨a, b, c⟩ := of_mem_allNews hp; ⟨c, a, b⟩
theorem news_at {g h : Heap} {L d : Addr} {o : Obj} (h1 : d ≠ L) (h2 : g.get? d = none) (h3 : h.get? d = some o) : News g L h ((d, o) :: rest g h L d) := fun p hp => by
  rcases List.mem_cons.mp hp with rfl | hp
  · exact ⟨h3, h1, h2⟩
  · exact news_all p (List.mem_filter.mp hp).1
/-- behind a rule that changed d alone: all else but the frame is kept -/
theorem kept_of_news {g h h' : Heap} {L d : Addr} {m : Str → Option Value} (k : ∀ b o, g.get? b = some o → h.get? b = some o) (F : Fr g L h' m) (N : News g L h' (rest g h L d)) :
    ∀ b o, b ≠ L → b ≠ d → h.get? b = some o → h'.get? b = some o := fun b o h1 h2 e => by
  cases q : g.get? b with
  | some u =>
    have := k b u q
    rw [e] at this; cases this
    exact F.keep b _ q
  | none => exact (N (b, o) (mem_rest h1 q e h2)).1
end L2

namespace L2
open PySem PySem.Spec PyProof.Rows

/-- the module's facts, over the base: the heap at the law's entry without what is tracked there -/
structure Mod (K : PySem.W.Frag) (mg : Str → Option Value) (base : Heap) : Prop where
  kin : K.In base
  glob : base.Ns mainGlobals mg
  blt : ∃ mb, base.Ns builtinsNs mb ∧ ∀ x : Str, x ≠ "__name__" → mb x = bootBuiltins x
  nolimit : base.NoLimit

/-- the context: a def's body (or a comprehension's block) running. base: fixed through the whole law; s₀, H₀: the entry; outer: the frames whose slots others may change (a def's callers); stack: all frames that run;
   ex: iterators that were made ahead of the entry and are walked here (a comprehension's); fn: the names whose cells were made at the entry (a def: all; a comprehension's block: its own); calm: not within an except suite; pn: pins that every state bears; xe: what is wanted of an exception that leaves the code -/
structure Cx where
  prog : Program
  w : World
  K : PySem.W.Frag
  mg : Str → Option Value
  base : Heap
  A : Around
  N : List Str
  s₀ : Shared
  H₀ : Hp
  env : Env
  outer : List Env
  stack : List Env
  ex : List Addr
  fn : Str → Bool
  calm : Bool
  pn : List (Addr × Obj)
  xe : Value → Shared → Prop
/-- the callers' frames -/
def frs (l : List Env) : List Addr := l.filterMap (·.frame)
abbrev Cx.fs (X : Cx) : List Addr := frs X.outer

def Vis (sc : Scope) (x : Str) : Prop := sc.names.lookup x = some .local ∨ sc.names.lookup x = some .cell ∨ sc.names.lookup x = some .free
def Loc (sc : Scope) (x : Str) : Prop := sc.names.lookup x = some .local ∨ sc.names.lookup x = some .cell
def Look (env : Env) (h : Heap) (m : Str → Option Value) (x : Str) (u : Value) : Prop :=
  (env.kindOf x = some .local ∧ m x = some u) ∨ ((env.kindOf x = some .cell ∨ env.kindOf x = some .free) ∧ ∃ c, env.cells.lookup x = some c ∧ h.IsCell c (some u))

structure Cx.Ok (X : Cx) : Prop where
  mod : Mod X.K X.mg X.base
  kind : X.env.scope.kind = .function
  glob : X.env.globals = mainGlobals
  blt : X.env.builtins = builtinsNs
  above : X.s₀.heap.objs.size ≤ X.env.locals
  inj : ∀ x y c, X.env.cells.lookup x = some c → X.env.cells.lookup y = some c → x = y
  has : ∀ x, (X.env.kindOf x = some .cell ∨ X.env.kindOf x = some .free) → ∃ c, X.env.cells.lookup x = some c
  cab : ∀ x c, X.fn x = true → X.env.cells.lookup x = some c → X.s₀.heap.objs.size ≤ c
  hd : X.calm = true → X.A.handled = none
  frames : X.A.frames = some X.stack
  stk : X.stack = X.outer ∨ (X.stack = X.env :: X.outer ∧ X.env.frame = some X.env.locals)
  exf : ∀ b ∈ X.ex, b ≠ X.env.locals ∧ ∀ x c, X.env.cells.lookup x = some c → c ≠ b
  bs : ∀ b o, X.base.get? b = some o → X.s₀.heap.get? b = some o ∧ X.H₀ b = none
  bsz : X.base.objs.size ≤ X.s₀.heap.objs.size
  noex : ∀ b o, X.base.get? b = some o → b ∉ X.ex
  exfs : ∀ b ∈ X.ex, b ∉ X.fs
  funs : X.s₀.heap.FunFrames X.base X.outer
  frf : ∀ b ∈ X.fs, X.H₀ b = none

structure Inv (X : Cx) (pins : List (Addr × Obj)) (σ : List (Option V)) (H : Hp) (s : Shared) : Prop where
  ok : X.Ok
  os : s.os = X.s₀.os
  bare : AllBare s.gens
  base : Un X.fs X.ex X.H₀ H X.s₀.heap s.heap
  loc : ∃ m, s.heap.Ns X.env.locals m ∧ ∀ (i : Nat) (x : Str) (v : V), X.N[i]? = some x → σ[i]? = some (some v) → Vis X.env.scope x → ∃ u, RelV v u ∧ Look X.env s.heap m x u
  cell : ∀ x c, X.env.cells.lookup x = some c → ∃ v, s.heap.IsCell c v
  free : H X.env.locals = none
  freeC : ∀ x c, X.env.cells.lookup x = some c → H c = none
  pin : ∀ p ∈ X.pn ++ pins, s.heap.get? p.1 = some p.2 ∧ H p.1 = none ∧ p.1 ≠ X.env.locals ∧ p.1 ∉ X.fs ∧ ∀ v, p.2.data ≠ .cell v
  hok : HOk X.prog X.w H s.heap
  len : σ.length = X.N.length

section
variable {X : Cx} {pins : List (Addr × Obj)} {σ : List (Option V)} {H H' : Hp} {s : Shared} {h' : Heap}

theorem Cx.Ok.nofr (ok : X.Ok) {b : Addr} {o : Obj} (e : X.base.get? b = some o) : b ∉ X.fs := fun hb => by
  have := (ok.funs.mem hb).1
  rw [e] at this; cases this
theorem Inv.bs (I : Inv X pins σ H s) : ∀ b o, X.base.get? b = some o → s.heap.get? b = some o ∧ H b = none := fun b o e =>
  ⟨I.base.keep b o (I.ok.bs b o e).1 (I.ok.bs b o e).2 (I.ok.nofr e) (I.ok.noex b o e), I.base.free b o (I.ok.bs b o e).1 (I.ok.bs b o e).2 (I.ok.noex b o e)⟩
theorem Inv.bk (I : Inv X pins σ H s) : ∀ b o, X.base.get? b = some o → s.heap.get? b = some o := fun b o e => (I.bs b o e).1
theorem Inv.mod (I : Inv X pins σ H s) : Mod X.K X.mg X.base := I.ok.mod
theorem Inv.kIn (I : Inv X pins σ H s) : X.K.In s.heap := I.ok.mod.kin.keeps I.bk
theorem Inv.nolimit (I : Inv X pins σ H s) : s.heap.NoLimit := I.ok.mod.nolimit.keeps I.bk
/-- the frame over the base: for OpenK's rules (K.In X.base is I.mod.kin) -/
theorem Inv.fr (I : Inv X pins σ H s) : ∃ m, Fr X.base X.env.locals s.heap m :=
  let ⟨m, hn, _⟩ := I.loc
  ⟨m, hn, I.bk, Nat.le_trans I.ok.bsz I.ok.above⟩
theorem Inv.lt (I : Inv X pins σ H s) : X.env.locals < s.heap.objs.size := let ⟨_, hn, _⟩ := I.loc; hn.lt
theorem Inv.sz (I : Inv X pins σ H s) : X.s₀.heap.objs.size ≤ s.heap.objs.size := Nat.le_trans I.ok.above (Nat.le_of_lt I.lt)
theorem Inv.nofs (I : Inv X pins σ H s) {a : Addr} (h : s.heap.objs.size ≤ a) : a ∉ X.fs := fun hb => by
  obtain ⟨_, o, ho, _⟩ := I.ok.funs.mem hb
  exact absurd (Nat.lt_of_lt_of_le (Heap.lt_size ho) (Nat.le_trans I.sz h)) (Nat.lt_irrefl _)
theorem Inv.cne (I : Inv X pins σ H s) : ∀ x c, X.env.cells.lookup x = some c → c ≠ X.env.locals := fun x c e z => by
  obtain ⟨v, o, ho, hd⟩ := I.cell x c e
  obtain ⟨m, ⟨o', es, ep, ho', hd', _⟩, _⟩ := I.loc
  rw [z, ho'] at ho; cases ho; rw [hd'] at hd; cases hd
theorem Inv.funs (I : Inv X pins σ H s) : s.heap.FunFrames X.base X.outer := by
  have all : ∀ (l : List Env), (∀ b ∈ frs l, b ∈ X.fs) → X.s₀.heap.FunFrames X.base l → s.heap.FunFrames X.base l := by
    intro l
    induction l with
    | nil => intro _ _; trivial
    | cons env r ih =>
      intro hs hl
      obtain ⟨hk, ⟨L, o, hf, hn, ho, hd⟩, hr⟩ := hl
      have hL : L ∈ X.fs := hs L (by unfold frs; rw [List.filterMap_cons, hf]; exact List.mem_cons_self)
      obtain ⟨sl, e⟩ := I.base.slot L o ho (I.ok.frf L hL) hL fun z => I.ok.exfs L z hL
      exact ⟨hk, ⟨L, _, hf, hn, e, hd⟩, ih (fun b hb => hs b (by unfold frs; rw [List.filterMap_cons, hf]; exact List.mem_cons_of_mem _ hb)) hr⟩
  exact all X.outer (fun _ hb => hb) I.ok.funs

/-- the frames that run, for a call -/
theorem Inv.stack (I : Inv X pins σ H s) : s.heap.FunFrames X.base X.stack := by
  rcases I.ok.stk with e | ⟨e, hf⟩
  · rw [e]; exact I.funs
  · rw [e]
    obtain ⟨m, hn, _⟩ := I.loc
    refine .cons (by rw [I.ok.kind]; decide) hf hn ?_ I.funs
    exact Heap.get?_none_of_le (Nat.le_trans I.ok.bsz I.ok.above)
theorem Inv.stkSub (I : Inv X pins σ H s) : ∀ b ∈ frs X.stack, b ∈ X.env.locals :: X.fs := fun b hb => by
  rcases I.ok.stk with e | ⟨e, hf⟩
  · rw [e] at hb; exact List.mem_cons_of_mem _ hb
  · rw [e] at hb
    unfold frs at hb
    rw [List.filterMap_cons, hf] at hb
    exact hb
theorem Inv.stkFree (I : Inv X pins σ H s) : ∀ b ∈ frs X.stack, H b = none := fun b hb => by
  rcases List.mem_cons.mp (I.stkSub b hb) with e | hb
  · rw [e]; exact I.free
  · obtain ⟨_, o, ho, _⟩ := I.ok.funs.mem hb
    exact I.base.free b o ho (I.ok.frf b hb) fun z => I.ok.exfs b z hb

/-- THE STEP: the untracked objects but the frame and the records at ch are kept (the callers' frames up to slots), the frame's map is kept, the new abstract heap is held -/
theorem Inv.step {g' : Array GenState} {t' : Nat} {d' : Drawn} {ch : List Addr} (I : Inv X pins σ H s)
    (hch : ∀ b ∈ ch, (b ∈ X.ex ∨ X.s₀.heap.objs.size ≤ b) ∧ b ≠ X.env.locals ∧ (∀ x c, X.env.cells.lookup x = some c → c ≠ b) ∧ ∀ p ∈ X.pn ++ pins, p.1 ≠ b)
    (keep : ∀ b o, b ≠ X.env.locals → b ∉ X.fs → b ∉ ch → s.heap.get? b = some o → H b = none → h'.get? b = some o)
    (slot : ∀ b o, b ≠ X.env.locals → b ∈ X.fs → b ∉ ch → s.heap.get? b = some o → H b = none → ∃ sl, h'.get? b = some { o with slots := sl }) (free : ∀ b o, b ∉ ch → s.heap.get? b = some o → H b = none → H' b = none)
    (there : ∀ b o, b ∉ ch → s.heap.get? b = some o → ∃ o', h'.get? b = some o')
    (tups : ∀ b xs, H b = some (.tup xs) → H' b = some (.tup xs)) (frzs : ∀ b o u, H b = some (.frz o u) → H' b = some (.frz o u)) (tbls : ∀ b ps, H b = some (.tbl ps) → ∃ more, H' b = some (.tbl (ps ++ more)))
    (ns : ∀ m, s.heap.Ns X.env.locals m → h'.Ns X.env.locals m) (hok : HOk X.prog X.w H' h') (hg : AllBare g') :
    Inv X pins σ H' { s with heap := h', gens := g', drawn := d', toks := t' } := by
  have neL : ∀ b o, X.s₀.heap.get? b = some o → b ≠ X.env.locals := fun b o e => Nat.ne_of_lt (Nat.lt_of_lt_of_le (Heap.lt_size e) I.ok.above)
  have neC : ∀ b o, X.s₀.heap.get? b = some o → b ∉ X.ex → b ∉ ch := fun b o e hx hb => by
    rcases (hch b hb).1 with z | z
    · exact hx z
    · exact absurd (Nat.lt_of_lt_of_le (Heap.lt_size e) z) (Nat.lt_irrefl _)
  have cellK : ∀ x c, X.env.cells.lookup x = some c → ∀ v, s.heap.IsCell c v → h'.IsCell c v := fun x c e v ⟨o, ho, hd⟩ => by
    have nch : c ∉ ch := fun z => (hch c z).2.2.1 x c e rfl
    by_cases hc : c ∈ X.fs
    · obtain ⟨sl, q⟩ := slot c o (I.cne x c e) hc nch ho (I.freeC x c e)
      exact ⟨_, q, hd⟩
    · exact ⟨o, keep c o (I.cne x c e) hc nch ho (I.freeC x c e), hd⟩
  refine ⟨I.ok, I.os, hg, ⟨fun b o e n hb hx => ?_, fun b o e n hb hx => ?_, fun b o e n hx => ?_, fun b o e hx => ?_, fun b xs e => tups b xs (I.base.tups b xs e), fun b o xs e => frzs b o xs (I.base.frzs b o xs e), fun b ps e => ?_⟩, ?_, fun x c e => ?_, ?_, fun x c e => ?_, fun p hp => ?_, hok, I.len⟩
  · exact keep b o (neL b o e) hb (neC b o e hx) (I.base.keep b o e n hb hx) (I.base.free b o e n hx)
  · obtain ⟨sl, e1⟩ := I.base.slot b o e n hb hx
    obtain ⟨sl', e2⟩ := slot b _ (neL b o e) hb (neC b o e hx) e1 (I.base.free b o e n hx)
    exact ⟨sl', e2⟩
  · obtain ⟨o', e1⟩ := I.base.there b o e hx
    exact free b o' (neC b o e hx) e1 (I.base.free b o e n hx)
  · obtain ⟨o', e1⟩ := I.base.there b o e hx
    exact there b o' (neC b o e hx) e1
  · obtain ⟨m1, e1⟩ := I.base.tbls b ps e
    obtain ⟨m2, e2⟩ := tbls b _ e1
    exact ⟨m1 ++ m2, by rw [e2, Array.append_assoc]⟩
  · obtain ⟨m, hn, hl⟩ := I.loc
    refine ⟨m, ns m hn, fun i x v e1 e2 e3 => ?_⟩
    obtain ⟨u, r, l⟩ := hl i x v e1 e2 e3
    refine ⟨u, r, ?_⟩
    rcases l with l | ⟨k, c, e, z⟩
    · exact .inl l
    · exact .inr ⟨k, c, e, cellK x c e _ z⟩
  · obtain ⟨v, z⟩ := I.cell x c e
    exact ⟨v, cellK x c e v z⟩
  · obtain ⟨m, ⟨o, _, _, ho, _⟩, _⟩ := I.loc
    exact free _ o (fun z => (hch _ z).2.1 rfl) ho I.free
  · obtain ⟨v, o, ho, hd⟩ := I.cell x c e
    exact free c o (fun z => (hch c z).2.2.1 x c e rfl) ho (I.freeC x c e)
  · obtain ⟨e, n, ne, nf, d⟩ := I.pin p hp
    have nch : p.1 ∉ ch := fun z => (hch p.1 z).2.2.2 p hp rfl
    exact ⟨keep p.1 p.2 ne nf nch e n, free p.1 p.2 nch e n, ne, nf, d⟩
/-- .. where the frame's own object is kept too -/
theorem Inv.un {t' : Nat} (I : Inv X pins σ H s) (u : Un X.fs [] H H' s.heap h') (hok : HOk X.prog X.w H' h') : Inv X pins σ H' { s with heap := h', toks := t' } := by
  obtain ⟨m, ⟨o, es, ep, ho, r⟩, _⟩ := id I.loc
  obtain ⟨sl, hL⟩ := u.any ho I.free (by simp)
  exact I.step (g' := s.gens) (d' := s.drawn) (ch := []) (fun _ z => nomatch z) (fun b o _ hb _ e n => u.keep b o e n hb (by simp)) (fun b o _ hb _ e n => u.slot b o e n hb (by simp)) (fun b o _ e n => u.free b o e n (by simp)) (fun b o _ e => u.there b o e (by simp)) u.tups u.frzs u.tbls (fun m' hm => by
    obtain ⟨o', es', ep', ho', r'⟩ := hm
    rw [ho] at ho'; cases ho'
    exact ⟨_, es', ep', hL, r'⟩) hok I.bare
/-- behind a call (or a comprehension's block): the slots of this frame may have changed too, the records at ch may have turned -/
theorem Inv.call {g' : Array GenState} {t' : Nat} {d' : Drawn} {ch : List Addr} (I : Inv X pins σ H s) (u : Un (frs X.stack) ch H H' s.heap h') (hok : HOk X.prog X.w H' h') (hg : AllBare g')
    (hch : ∀ b ∈ ch, (b ∈ X.ex ∨ X.s₀.heap.objs.size ≤ b) ∧ b ≠ X.env.locals ∧ (∀ x c, X.env.cells.lookup x = some c → c ≠ b) ∧ ∀ p ∈ X.pn ++ pins, p.1 ≠ b) :
    Inv X pins σ H' { s with heap := h', gens := g', drawn := d', toks := t' } := by
  obtain ⟨m, ⟨o, es, ep, ho, r⟩, _⟩ := id I.loc
  obtain ⟨sl, hL⟩ := u.any ho I.free fun z => (hch _ z).2.1 rfl
  exact I.step (ch := ch) hch (fun b o hL hb hc e n => u.keep b o e n (fun z => (List.mem_cons.mp (I.stkSub b z)).elim hL hb) hc) (fun b o _ _ hc e n => u.any e n hc) (fun b o hc e n => u.free b o e n hc) (fun b o hc e => u.there b o e hc) u.tups u.frzs u.tbls (fun m' hm => by
    obtain ⟨o', es', ep', ho', r'⟩ := hm
    rw [ho] at ho'; cases ho'
    exact ⟨_, es', ep', hL, r'⟩) hok hg
/-- an untracked record of ours (an iterator) has turned -/
theorem Inv.turned {t' : Nat} {it : Addr} (I : Inv X pins σ H s) (k : ∀ b o, b ≠ it → s.heap.get? b = some o → h'.get? b = some o) (hn : H it = none) (hL : it ≠ X.env.locals)
    (h1 : it ∈ X.ex ∨ X.s₀.heap.objs.size ≤ it) (h2 : ∀ x c, X.env.cells.lookup x = some c → c ≠ it) (h3 : ∀ p ∈ X.pn ++ pins, p.1 ≠ it) : Inv X pins σ H { s with heap := h', toks := t' } := by
  have nit : ∀ b u, H b = some u → b ≠ it := fun b u e z => by rw [z, hn] at e; cases e
  refine I.step (g' := s.gens) (d' := s.drawn) (ch := [it]) (fun b hb => ?_) (fun b o _ _ hc e _ => k b o (fun z => hc (by simp [z])) e) (fun b o _ _ hc e _ => ⟨o.slots, k b o (fun z => hc (by simp [z])) e⟩) (fun _ _ _ _ n => n)
    (fun b o hc e => ⟨o, k b o (fun z => hc (by simp [z])) e⟩) (fun _ _ e => e) (fun _ _ _ e => e) (fun b ps e => ⟨#[], by rw [e]; simp⟩) (fun m hm => ?_) (fun b u e => ?_) I.bare
  · have e : b = it := by simpa using hb
    subst e
    exact ⟨h1, hL, h2, h3⟩
  · obtain ⟨o, es, ep, ho, r⟩ := hm
    exact ⟨o, es, ep, k _ o (Ne.symm hL) ho, r⟩
  · refine (I.hok b u e).stay (fun c v hc q => k c v ?_ q) (fun _ q => q) fun _ _ q => q
    rcases hc with z | z
    · rw [z]; exact nit b u e
    · exact nit c _ z
theorem Inv.tok (I : Inv X pins σ H s) (t : Nat) : Inv X pins σ H { s with toks := t } := I.un (h' := s.heap) (t' := t) Un.refl I.hok
/-- all objects kept -/
theorem Inv.kept {t' : Nat} (I : Inv X pins σ H s) (k : ∀ b u, s.heap.get? b = some u → h'.get? b = some u) : Inv X pins σ H { s with heap := h', toks := t' } := I.un (Un.kept k) (I.hok.kept k)
/-- a new object laid and tracked -/
theorem Inv.laid {a : Addr} {o : HO} {t' : Nat} (I : Inv X pins σ H s) (k : ∀ b u, s.heap.get? b = some u → h'.get? b = some u) (hp : s.heap.objs.size ≤ a) (new : ObjOk X.prog X.w (upd H a o) h' a o) :
    Inv X pins σ (upd H a o) { s with heap := h', toks := t' } := I.un (Un.laid k hp (I.hok.fresh hp)) (I.hok.laid k hp new)
/-- an object written -/
theorem Inv.write {x e : Addr} {o : HO} {t' : Nat} (I : Inv X pins σ H s) (mu : Mut (H x)) (he : e = x ∨ H e = some (.own x)) (k : ∀ b u, b ≠ e → s.heap.get? b = some u → h'.get? b = some u) (heo : ∃ u, h'.get? e = some u)
    (new : ObjOk X.prog X.w (upd H x o) h' x o) : Inv X pins σ (upd H x o) { s with heap := h', toks := t' } := I.un (Un.write mu he k heo) (I.hok.write mu he k heo new)
/-- forgetting slots, pins -/
theorem Inv.weak {σ' : List (Option V)} (I : Inv X pins σ H s) (hl : σ'.length = σ.length) (w : ∀ (i : Nat) v, σ'[i]? = some (some v) → σ[i]? = some (some v)) : Inv X pins σ' H s :=
  ⟨I.ok, I.os, I.bare, I.base, let ⟨m, hn, hl'⟩ := I.loc; ⟨m, hn, fun i x v e1 e2 e3 => hl' i x v e1 (w i v e2) e3⟩, I.cell, I.free, I.freeC, I.pin, I.hok, hl.trans I.len⟩
theorem Inv.pins_of {pins' : List (Addr × Obj)} (I : Inv X pins σ H s) (h : ∀ p ∈ pins', s.heap.get? p.1 = some p.2 ∧ H p.1 = none ∧ p.1 ≠ X.env.locals ∧ p.1 ∉ X.fs ∧ ∀ v, p.2.data ≠ .cell v) : Inv X pins' σ H s :=
  ⟨I.ok, I.os, I.bare, I.base, I.loc, I.cell, I.free, I.freeC, fun p hp => (List.mem_append.mp hp).elim (fun z => I.pin p (List.mem_append_left _ z)) (h p), I.hok, I.len⟩

theorem nodup_ix {N : List Str} (hN : N.Nodup) {i j : Nat} {x : Str} (a : N[i]? = some x) (b : N[j]? = some x) : i = j := by
  obtain ⟨h1, e1⟩ := List.getElem?_eq_some_iff.mp a
  obtain ⟨h2, e2⟩ := List.getElem?_eq_some_iff.mp b
  exact (List.getElem_inj hN).mp (e1.trans e2.symm)

/-- a name is stored; what changed -/
theorem store_ok2 {M : Model} {A : Around} {E : Value → Shared → Prop} {i : Nat} {x : Str} {v : V} {u : Value} {Q : Unit → Shared → Prop} (I : Inv X pins σ H s) (hN : X.N.Nodup) (hi : X.N[i]? = some x) (hx : Loc X.env.scope x) (r : RelV v u)
    (h : ∀ s', Inv X pins (σ.set i (some v)) H s' → (∃ a, Heap.SameBut a s.heap s'.heap ∧ (a = X.env.locals ∨ X.env.cells.lookup x = some a)) → Q () s') (hf : X.fn x = true ∨ X.env.scope.names.lookup x = some .local := by first | exact .inl rfl | exact .inr rfl | assumption) : wpAny M A (storeName X.env x u) Q E s := by
  obtain ⟨m, hn, hl⟩ := id I.loc
  have hcls : (X.env.scope.kind == .class || (X.env.scope.kind == .module && X.env.locals != X.env.globals)) = false := by rw [I.ok.kind]; rfl
  have hiσ : i < σ.length := by rw [I.len]; exact (List.getElem?_eq_some_iff.mp hi).1
  have cne := I.cne
  have tracked : ∀ {a : Addr} {h' : Heap}, (∃ o, s.heap.get? a = some o ∧ H a = none) → Heap.SameBut a s.heap h' → HOk X.prog X.w H h' := fun {a h'} ha hs b ob e => by
    obtain ⟨_, _, hfree⟩ := ha
    refine (I.hok b ob e).stay (fun c w' hc q => (hs.2 c ?_).trans q) (fun _ q => q) fun _ _ q => q
    rintro rfl
    rcases hc with rfl | hc
    · rw [hfree] at e; cases e
    · rw [hfree] at hc; cases hc
  rcases hx with hk | hk
  · refine wpAny_storeName_local hk hn (fun h' hn' hs => ?_) hcls
    obtain ⟨oL, _, _, hoL, _⟩ := id hn
    refine h _ ⟨I.ok, I.os, I.bare, ⟨fun b o e n hb hx => ?_, fun b o e n hb hx => ?_, I.base.free, fun b o e hx => ?_, I.base.tups, I.base.frzs, I.base.tbls⟩, ⟨_, hn', fun j y v' e1 e2 e3 => ?_⟩, fun y c e => ?_, I.free, I.freeC, fun p hp => ?_, tracked ⟨oL, hoL, I.free⟩ hs, by simpa using I.len⟩ ⟨_, hs, .inl rfl⟩
    · exact (hs.2 b (Nat.ne_of_lt (Nat.lt_of_lt_of_le (Heap.lt_size e) I.ok.above))).trans (I.base.keep b o e n hb hx)
    · obtain ⟨sl, e1⟩ := I.base.slot b o e n hb hx
      exact ⟨sl, (hs.2 b (Nat.ne_of_lt (Nat.lt_of_lt_of_le (Heap.lt_size e) I.ok.above))).trans e1⟩
    · obtain ⟨o', e1⟩ := I.base.there b o e hx
      exact ⟨o', (hs.2 b (Nat.ne_of_lt (Nat.lt_of_lt_of_le (Heap.lt_size e) I.ok.above))).trans e1⟩
    · by_cases hj : j = i
      · subst hj
        rw [hi] at e1; cases e1
        rw [List.getElem?_set_self hiσ] at e2
        cases e2
        exact ⟨u, r, .inl ⟨hk, by simp⟩⟩
      · rw [List.getElem?_set_ne (Ne.symm hj)] at e2
        obtain ⟨u', r', q⟩ := hl j y v' e1 e2 e3
        refine ⟨u', r', ?_⟩
        rcases q with ⟨k, e⟩ | ⟨k, c, e, z⟩
        · refine .inl ⟨k, ?_⟩
          have : y ≠ x := fun e => hj (nodup_ix hN e1 (e ▸ hi))
          simp [this, e]
        · exact .inr ⟨k, c, e, z.sameBut hs (cne y c e)⟩
    · obtain ⟨w', z⟩ := I.cell y c e
      exact ⟨w', z.sameBut hs (cne y c e)⟩
    · obtain ⟨e, n, ne, nf, d⟩ := I.pin p hp
      exact ⟨(hs.2 p.1 ne).trans e, n, ne, nf, d⟩
  · have hfn : X.fn x = true := by
      rcases hf with z | z
      · exact z
      · rw [z] at hk; cases hk
    obtain ⟨c, hc⟩ := I.ok.has x (.inl hk)
    obtain ⟨w', z⟩ := I.cell x c hc
    refine wpAny_storeName_cell I.ok.kind hk hc z (fun h' hc' hs => ?_)
    obtain ⟨oc, hoc, hocd⟩ := id z
    refine h { s with heap := h' } ⟨I.ok, I.os, I.bare, ⟨fun b o e n hb hx => ?_, fun b o e n hb hx => ?_, I.base.free, fun b o e hx => ?_, I.base.tups, I.base.frzs, I.base.tbls⟩, ⟨m, hn.sameBut hs (Ne.symm (cne x c hc)), fun j y v' e1 e2 e3 => ?_⟩, fun y c' e => ?_, I.free, I.freeC, fun p hp => ?_, tracked ⟨oc, hoc, I.freeC x c hc⟩ hs, by simpa using I.len⟩ ⟨c, hs, .inr hc⟩
    · exact (hs.2 b (Nat.ne_of_lt (Nat.lt_of_lt_of_le (Heap.lt_size e) (I.ok.cab x c hfn hc)))).trans (I.base.keep b o e n hb hx)
    · obtain ⟨sl, e1⟩ := I.base.slot b o e n hb hx
      exact ⟨sl, (hs.2 b (Nat.ne_of_lt (Nat.lt_of_lt_of_le (Heap.lt_size e) (I.ok.cab x c hfn hc)))).trans e1⟩
    · obtain ⟨o', e1⟩ := I.base.there b o e hx
      exact ⟨o', (hs.2 b (Nat.ne_of_lt (Nat.lt_of_lt_of_le (Heap.lt_size e) (I.ok.cab x c hfn hc)))).trans e1⟩
    · by_cases hj : j = i
      · subst hj
        rw [hi] at e1; cases e1
        rw [List.getElem?_set_self hiσ] at e2
        cases e2
        exact ⟨u, r, .inr ⟨.inl hk, c, hc, hc'⟩⟩
      · rw [List.getElem?_set_ne (Ne.symm hj)] at e2
        obtain ⟨u', r', q⟩ := hl j y v' e1 e2 e3
        refine ⟨u', r', ?_⟩
        rcases q with q | ⟨k, c', e, z'⟩
        · exact .inl q
        · refine .inr ⟨k, c', e, z'.sameBut hs ?_⟩
          rintro rfl
          exact hj (nodup_ix hN e1 (I.ok.inj _ _ _ e hc ▸ hi))
    · by_cases hcc : c' = c
      · subst hcc; exact ⟨_, hc'⟩
      · obtain ⟨w2, z2⟩ := I.cell y c' e
        exact ⟨w2, z2.sameBut hs hcc⟩
    · obtain ⟨e, n, ne, nf, d⟩ := I.pin p hp
      refine ⟨(hs.2 p.1 ?_).trans e, n, ne, nf, d⟩
      intro q
      rw [q, hoc] at e
      have q' : oc = p.2 := Option.some.inj e
      exact d w' (by rw [← q']; exact hocd)
theorem store_ok {M : Model} {A : Around} {E : Value → Shared → Prop} {i : Nat} {x : Str} {v : V} {u : Value} {Q : Unit → Shared → Prop} (I : Inv X pins σ H s) (hN : X.N.Nodup) (hi : X.N[i]? = some x) (hx : Loc X.env.scope x) (r : RelV v u)
    (h : ∀ s', Inv X pins (σ.set i (some v)) H s' → Q () s') (hf : X.fn x = true ∨ X.env.scope.names.lookup x = some .local := by first | exact .inl rfl | exact .inr rfl | assumption) : wpAny M A (storeName X.env x u) Q E s :=
  store_ok2 I hN hi hx r (fun s' I' _ => h s' I') hf
/-- behind a call or a block, the state as it is -/
theorem Inv.call' {s' : Shared} {ch : List Addr} (I : Inv X pins σ H s) (ho : s'.os = s.os) (u : Un (frs X.stack) ch H H' s.heap s'.heap) (hok : HOk X.prog X.w H' s'.heap) (hg : AllBare s'.gens)
    (hch : ∀ b ∈ ch, (b ∈ X.ex ∨ X.s₀.heap.objs.size ≤ b) ∧ b ≠ X.env.locals ∧ (∀ x c, X.env.cells.lookup x = some c → c ≠ b) ∧ ∀ p ∈ X.pn ++ pins, p.1 ≠ b) : Inv X pins σ H' s' := by
  obtain ⟨h', g', d', t', o'⟩ := s'
  have e : o' = s.os := ho
  subst e
  exact I.call (g' := g') (t' := t') (d' := d') u hok hg hch
end

/-! ### the judgements -/
/-- an exception: its class, its own dict's address (where it has one), the abstract heap behind it -/
abbrev XK := Value → Option Addr → Hp → Prop
abbrev St := List (Option V)
abbrev VK := V → Hp → Prop
/-- an expression's reading; a test's; an argument list's -/
abbrev TE := St → Hp → VK → Prop
abbrev TT := St → Hp → (Bool → Hp → Prop) → Prop
abbrev TA := St → Hp → (List V → Hp → Prop) → Prop
/-- what is wanted behind a statement -/
structure Ends where
  nx : St → Hp → Prop
  rt : VK
  bk : St → Hp → Prop := fun _ _ => False
  ct : St → Hp → Prop := fun _ _ => False
abbrev TS := Ends → St → Hp → Prop

def EP (X : Cx) (pins : List (Addr × Obj)) (σ : St) (Q : VK) (u : Value) (s' : Shared) : Prop := ∃ v H', Inv X pins σ H' s' ∧ RelV v u ∧ Q v H'
def TP (X : Cx) (pins : List (Addr × Obj)) (σ : St) (Q : Bool → Hp → Prop) (b : Bool) (s' : Shared) : Prop := ∃ H', Inv X pins σ H' s' ∧ Q b H'
def AP (X : Cx) (pins : List (Addr × Obj)) (σ : St) (Q : List V → Hp → Prop) (us : List Value) (s' : Shared) : Prop := ∃ vs H', Inv X pins σ H' s' ∧ Vals vs us ∧ Q vs H'
def SP (X : Cx) (pins : List (Addr × Obj)) (D : Ends) (f : Flow) (s' : Shared) : Prop :=
  match f with
  | .next => ∃ σ' H', Inv X pins σ' H' s' ∧ D.nx σ' H'
  | .brk => ∃ σ' H', Inv X pins σ' H' s' ∧ D.bk σ' H'
  | .cont => ∃ σ' H', Inv X pins σ' H' s' ∧ D.ct σ' H'
  | .ret u => ∃ v σ' H', Inv X pins σ' H' s' ∧ RelV v u ∧ D.rt v H'

def PE (X : Cx) (e : Expr) (t : TE) : Prop :=
  ∀ (pins : List (Addr × Obj)) (s : Shared) (σ : St) (H : Hp) (Q : VK), Inv X pins σ H s → t σ H Q → wpAny (model X.prog X.w) X.A (eval e X.env) (EP X pins σ Q) X.xe s
def PT (X : Cx) (e : Expr) (t : TT) : Prop :=
  ∀ (pins : List (Addr × Obj)) (s : Shared) (σ : St) (H : Hp) (Q : Bool → Hp → Prop), Inv X pins σ H s → t σ H Q → wpAny (model X.prog X.w) X.A (isTrue e X.env (eval e X.env)) (TP X pins σ Q) X.xe s
/-- a test whatever its 'whole' is (and, or) -/
def PW (X : Cx) (e : Expr) (t : TT) : Prop :=
  ∀ (whole : Sem Value) (pins : List (Addr × Obj)) (s : Shared) (σ : St) (H : Hp) (Q : Bool → Hp → Prop), Inv X pins σ H s → t σ H Q → wpAny (model X.prog X.w) X.A (isTrue e X.env whole) (TP X pins σ Q) X.xe s
theorem PW.pt {X : Cx} {e : Expr} {t : TT} (h : PW X e t) : PT X e t := h _
/-- an argument list (no star), from the left -/
def PA (X : Cx) (es : List Expr) (t : TA) : Prop :=
  ∀ (pos : Pos) (pins : List (Addr × Obj)) (s : Shared) (σ : St) (H : Hp) (Q : List V → Hp → Prop), Inv X pins σ H s → t σ H Q → wpAny (model X.prog X.w) X.A (spliced (backTo pos (starEach es X.env))) (AP X pins σ Q) X.xe s
def PS (X : Cx) (st : Stmt) (t : TS) : Prop :=
  ∀ (pins : List (Addr × Obj)) (s : Shared) (σ : St) (H : Hp) (D : Ends), Inv X pins σ H s → t D σ H → wpAny (model X.prog X.w) X.A (exec st X.env) (SP X pins D) X.xe s
def PSs (X : Cx) (st : List Stmt) (t : TS) : Prop :=
  ∀ (pins : List (Addr × Obj)) (s : Shared) (σ : St) (H : Hp) (D : Ends), Inv X pins σ H s → t D σ H → wpAny (model X.prog X.w) X.A (execs st X.env) (SP X pins D) X.xe s
/-- weaken the end -/
theorem thn {α : Type} {t : Sem α} {Q Q' : α → Shared → Prop} {M : Model} {A : Around} {E : Value → Shared → Prop} {s : Shared} (h : wpAny M A t Q E s) (hQ : ∀ a s, Q a s → Q' a s) : wpAny M A t Q' E s := wpAny_mono h hQ fun _ _ x => x
end L2

namespace L2
open PySem PySem.Spec PyProof.Rows
section
variable {X : Cx}

/-- two expressions in a row -/
theorem bin {a b : Expr} {ta tb : TE} (ha : PE X a ta) (hb : PE X b tb) {pins : List (Addr × Obj)} {s : Shared} {σ : St} {H : Hp} {R : V → V → Hp → Prop} (I : Inv X pins σ H s) (h : ta σ H fun x H1 => tb σ H1 fun y H2 => R x y H2)
    {α : Type} {Q : α → Shared → Prop} {f : Value → Value → Sem α}
    (hf : ∀ v u s2 x y H2, Inv X pins σ H2 s2 → RelV x v → RelV y u → R x y H2 → wpAny (model X.prog X.w) X.A (f v u) Q X.xe s2) :
    wpAny (model X.prog X.w) X.A (eval a X.env) (fun v s₁ => wpAny (model X.prog X.w) X.A (eval b X.env) (fun u s₂ => wpAny (model X.prog X.w) X.A (f v u) Q X.xe s₂) X.xe s₁) X.xe s := by
  refine thn (ha pins s σ H _ I h) fun v s1 ⟨x, H1, I1, r1, q1⟩ => ?_
  refine thn (hb pins s1 σ H1 _ I1 q1) fun u s2 ⟨y, H2, I2, r2, q2⟩ => ?_
  exact hf v u s2 x y H2 I2 r1 r2 q2

/-! ### names and constants -/
def tVar (i : Nat) : TE := fun σ H Q => ∃ v, σ[i]? = some (some v) ∧ Q v H
def tC (v : V) : TE := fun _ H Q => Q v H
theorem pe_var {i : Nat} {x : Str} {pos : Pos} (hN : X.N[i]? = some x) (hv : Vis X.env.scope x) (hd : (x == ("__debug__" : Str)) = false := by decide) (hcd : (x == ("__classdict__" : Str)) = false := by decide) : PE X (.Name x pos) (tVar i) := by
  intro pins s σ H Q I h
  obtain ⟨v, e, h⟩ := h
  obtain ⟨m, hn, hl⟩ := I.loc
  obtain ⟨u, r, l⟩ := hl i x v hN e hv
  have fin : EP X pins σ Q u s := ⟨v, H, I, r, h⟩
  rcases l with ⟨hk, hm⟩ | ⟨hk, c, hc, hcell⟩
  · exact wpAny_Name (wpAny_loadName_local I.ok.kind hk hn hm fin) hd
  · rcases hk with hk | hk
    · exact wpAny_Name (wpAny_loadName_cell I.ok.kind hk hc hcell fin) hd
    · exact wpAny_Name (wpAny_loadName_free I.ok.kind hk hc hcell fin hcd) hd
theorem pe_int {i j pos} : PE X (.Constant (.int i) j pos) (tC (.int i)) := fun _ _ _ H _ I h => wpAny_Constant_int ⟨.int i, H, I.tok _, ⟨_, rfl⟩, h⟩
theorem pe_bl {b j pos} : PE X (.Constant (.bool b) j pos) (tC (.bl b)) := fun _ _ _ H _ I h => Constant_bool ⟨.bl b, H, I, rfl, h⟩
theorem pe_non {j pos} : PE X (.Constant .none j pos) (tC .non) := fun _ _ _ H _ I h => Constant_none ⟨.non, H, I, rfl, h⟩
theorem pe_str {x j pos} : PE X (.Constant (.str x) j pos) (tC (.str x)) := fun _ _ _ H _ I h => Calls.Constant_str ⟨.str x, H, I.tok _, ⟨_, rfl⟩, h⟩

/-- a global name of the def -/
def Gl (X : Cx) (x : Str) : Prop := X.env.kindOf x = some .globalImplicit
theorem ld_glob {E : Value → Shared → Prop} {pins : List (Addr × Obj)} {s : Shared} {σ : St} {H : Hp} {x : Str} {u : Value} {pos : Pos} {Q : Value → Shared → Prop} (I : Inv X pins σ H s) (hg : Gl X x) (hm : X.mg x = some u) (h : Q u s)
    (hd : (x == ("__debug__" : Str)) = false := by decide) : wpAny (model X.prog X.w) X.A (eval (.Name x pos) X.env) Q E s :=
  Calls.Name_function_global I.ok.kind hg (Calls.loadGlobal_global (by rw [I.ok.glob]; exact I.mod.glob.keeps I.bk) hm h) hd
theorem ld_blt {E : Value → Shared → Prop} {pins : List (Addr × Obj)} {s : Shared} {σ : St} {H : Hp} {x : Str} {u : Value} {pos : Pos} {Q : Value → Shared → Prop} (I : Inv X pins σ H s) (hg : Gl X x) (hm : X.mg x = none) (hv : bootBuiltins x = some u) (h : Q u s)
    (hn : x ≠ "__name__" := by decide) (hd : (x == ("__debug__" : Str)) = false := by decide) : wpAny (model X.prog X.w) X.A (eval (.Name x pos) X.env) Q E s := by
  obtain ⟨mb, h1, h2⟩ := I.mod.blt
  exact Calls.Name_function_global I.ok.kind hg (Calls.loadGlobal_builtin (by rw [I.ok.glob]; exact I.mod.glob.keeps I.bk) hm (by rw [I.ok.blt]; exact h1.keeps I.bk) ((h2 x hn).trans hv) h) hd
/-- a module's constant, a class, a function, as a value -/
theorem pe_glob {x : Str} {v : V} {u : Value} {pos : Pos} (hg : Gl X x) (hm : X.mg x = some u) (r : RelV v u) (hd : (x == ("__debug__" : Str)) = false := by decide) : PE X (.Name x pos) (tC v) :=
  fun _ _ _ H _ I h => ld_glob I hg hm ⟨v, H, I, r, h⟩ hd
theorem pe_bltn {x : Str} {v : V} {u : Value} {pos : Pos} (hg : Gl X x) (hm : X.mg x = none) (hv : bootBuiltins x = some u) (r : RelV v u) (hn : x ≠ "__name__" := by decide) (hd : (x == ("__debug__" : Str)) = false := by decide) : PE X (.Name x pos) (tC v) :=
  fun _ _ _ H _ I h => ld_blt I hg hm hv ⟨v, H, I, r, h⟩ hn hd

/-! ### arithmetic -/
/-- two ints -/
def t2I (ta tb : TE) (k : Int → Int → Hp → Prop) : St → Hp → Prop := fun σ H => ta σ H fun x H1 => tb σ H1 fun y H2 => ∃ i j, x = .int i ∧ y = .int j ∧ k i j H2
def tAdd (ta tb : TE) : TE := fun σ H Q => t2I ta tb (fun i j H2 => Q (.int (i + j)) H2) σ H
def tSub (ta tb : TE) : TE := fun σ H Q => t2I ta tb (fun i j H2 => Q (.int (i - j)) H2) σ H
/-- the left factor below 2^64 -/
def tMul (ta tb : TE) : TE := fun σ H Q => t2I ta tb (fun i j H2 => (-(2 ^ 64) < i ∧ i < 2 ^ 64) ∧ Q (.int (i * j)) H2) σ H
variable {a b : Expr} {ta tb : TE} {pos : Pos}
theorem pe_add (ha : PE X a ta) (hb : PE X b tb) : PE X (.BinOp a .Add b pos) (tAdd ta tb) := by
  intro pins s σ H Q I h
  refine wpAny_BinOp (bin ha hb I h fun v u s2 x y H2 I2 rx ry q => ?_)
  obtain ⟨i, j, rfl, rfl, q⟩ := q
  obtain ⟨t, rfl⟩ := rx
  obtain ⟨t', rfl⟩ := ry
  exact add_int ⟨.int _, H2, I2.tok _, ⟨_, rfl⟩, q⟩
theorem pe_sub (ha : PE X a ta) (hb : PE X b tb) : PE X (.BinOp a .Sub b pos) (tSub ta tb) := by
  intro pins s σ H Q I h
  refine wpAny_BinOp (bin ha hb I h fun v u s2 x y H2 I2 rx ry q => ?_)
  obtain ⟨i, j, rfl, rfl, q⟩ := q
  obtain ⟨t, rfl⟩ := rx
  obtain ⟨t', rfl⟩ := ry
  exact sub_int ⟨.int _, H2, I2.tok _, ⟨_, rfl⟩, q⟩
theorem pe_mul (ha : PE X a ta) (hb : PE X b tb) : PE X (.BinOp a .Mult b pos) (tMul ta tb) := by
  intro pins s σ H Q I h
  refine wpAny_BinOp (bin ha hb I h fun v u s2 x y H2 I2 rx ry q => ?_)
  obtain ⟨i, j, rfl, rfl, ⟨q1, q2⟩, q⟩ := q
  obtain ⟨t, rfl⟩ := rx
  obtain ⟨t', rfl⟩ := ry
  exact mul_int ⟨.int _, H2, I2.tok _, ⟨_, rfl⟩, q⟩ (.of_left (intBits_le_64 q1 q2))

/-! ### comparisons -/
def PC (X : Cx) (op : CmpOp) (a b : Expr) (t : TE) : Prop :=
  ∀ (pins : List (Addr × Obj)) (s : Shared) (σ : St) (H : Hp) (Q : VK), Inv X pins σ H s → t σ H Q →
    wpAny (model X.prog X.w) X.A (eval a X.env) (fun v s₁ => wpAny (model X.prog X.w) X.A (eval b X.env) (fun u s₂ => wpAny (model X.prog X.w) X.A (compareOp op v u) (EP X pins σ Q) X.xe s₂) X.xe s₁) X.xe s
theorem nobehind (b : Expr) {op : CmpOp} (h : op ≠ .In) (h2 : op ≠ .NotIn) : behindInMarks op b = false := by
  have e1 : (op == CmpOp.In) = false := by cases op <;> first | rfl | exact absurd rfl h
  have e2 : (op == CmpOp.NotIn) = false := by cases op <;> first | rfl | exact absurd rfl h2
  cases b <;> simp [behindInMarks, e1, e2]
def tCmp (p : Int → Int → Bool) (ta tb : TE) : TE := fun σ H Q => t2I ta tb (fun i j H2 => Q (.bl (p i j)) H2) σ H
abbrev tLt : TE → TE → TE := tCmp fun i j => decide (i < j)
abbrev tLe : TE → TE → TE := tCmp fun i j => decide (i ≤ j)
abbrev tGt : TE → TE → TE := tCmp fun i j => decide (j < i)
abbrev tGe : TE → TE → TE := tCmp fun i j => decide (j ≤ i)
abbrev tEqI : TE → TE → TE := tCmp fun i j => decide (i = j)
abbrev tNeI : TE → TE → TE := tCmp fun i j => !decide (i = j)
/-- a comparison of two ints, by its rule -/
theorem pc_int {op : CmpOp} {p : Int → Int → Bool} (ha : PE X a ta) (hb : PE X b tb)
    (rule : ∀ (i j : Int) (t u : Tok) (Q : Value → Shared → Prop) (s : Shared), Q (.bool (p i j)) s → wpAny (model X.prog X.w) X.A (compareOp op (.int i t) (.int j u)) Q X.xe s) : PC X op a b (tCmp p ta tb) := by
  intro pins s σ H Q I h
  refine bin ha hb I h fun v u s2 x y H2 I2 rx ry q => ?_
  obtain ⟨i, j, rfl, rfl, q⟩ := q
  obtain ⟨t, rfl⟩ := rx
  obtain ⟨t', rfl⟩ := ry
  exact rule i j t t' _ s2 ⟨.bl _, H2, I2, rfl, q⟩
theorem pc_lt (ha : PE X a ta) (hb : PE X b tb) : PC X .Lt a b (tLt ta tb) := pc_int ha hb fun _ _ _ _ _ _ h => lt_int h
theorem pc_le (ha : PE X a ta) (hb : PE X b tb) : PC X .LtE a b (tLe ta tb) := pc_int ha hb fun _ _ _ _ _ _ h => le_int h
theorem pc_gt (ha : PE X a ta) (hb : PE X b tb) : PC X .Gt a b (tGt ta tb) := pc_int ha hb fun _ _ _ _ _ _ h => gt_int h
theorem pc_ge (ha : PE X a ta) (hb : PE X b tb) : PC X .GtE a b (tGe ta tb) := pc_int ha hb fun _ _ _ _ _ _ h => ge_int h
theorem pc_eqI (ha : PE X a ta) (hb : PE X b tb) : PC X .Eq a b (tEqI ta tb) := pc_int ha hb fun _ _ _ _ _ _ h => eq_int (by rw [Bool.beq_eq_decide_eq]; exact h)
theorem pc_neI (ha : PE X a ta) (hb : PE X b tb) : PC X .NotEq a b (tNeI ta tb) := pc_int ha hb fun _ _ _ _ _ _ h => ne_int (by rw [bne, Bool.beq_eq_decide_eq]; exact h)
/-- is None -/
def tIsN (ta : TE) : TE := fun σ H Q => ta σ H fun x H1 => Q (.bl (decide (x = .non))) H1
def tNotN (ta : TE) : TE := fun σ H Q => ta σ H fun x H1 => Q (.bl (!decide (x = .non))) H1
theorem RelV.none_iff {x : V} {v : Value} (r : RelV x v) : (v == Value.none) = decide (x = .non) := by
  cases x with
  | non => cases r; rfl
  | bl _ => cases r; rfl
  | int _ => obtain ⟨t, rfl⟩ := r; rfl
  | str _ => obtain ⟨t, rfl⟩ := r; rfl
  | byt _ => obtain ⟨t, rfl⟩ := r; rfl
  | flt _ => obtain ⟨t, rfl⟩ := r; rfl
  | ref _ => cases r; rfl
  | ty _ => cases r; rfl
theorem pc_isN {j pos'} (ha : PE X a ta) : PC X .Is a (.Constant .none j pos') (tIsN ta) := by
  intro pins s σ H Q I h
  refine thn (ha pins s σ H _ I h) fun v s1 ⟨x, H1, I1, r1, q1⟩ => ?_
  exact Constant_none (is_none_gen ⟨.bl _, H1, I1, by rw [r1.none_iff]; rfl, q1⟩)
theorem pc_notN {j pos'} (ha : PE X a ta) : PC X .IsNot a (.Constant .none j pos') (tNotN ta) := by
  intro pins s σ H Q I h
  refine thn (ha pins s σ H _ I h) fun v s1 ⟨x, H1, I1, r1, q1⟩ => ?_
  exact Constant_none (isnot_none_gen ⟨.bl _, H1, I1, by rw [r1.none_iff]; rfl, q1⟩)
/-- a comparison as a value, as a test -/
def tB (t : TE) : TT := fun σ H Q => t σ H fun x H1 => ∃ c, x = .bl c ∧ Q c H1
theorem pe_cmp {op : CmpOp} {t : TE} (h : PC X op a b t) (h1 : behindInMarks op b = false := by first | exact nobehind _ (by decide) (by decide) | rfl) : PE X (.Compare a [op] [b] pos) t := fun pins s σ H Q I hw => wpAny_Compare1 (h pins s σ H Q I hw) h1
theorem pt_cmp {op : CmpOp} {t : TE} (h : PC X op a b t) (h1 : behindInMarks op b = false := by first | exact nobehind _ (by decide) (by decide) | rfl) : PT X (.Compare a [op] [b] pos) (tB t) := by
  intro pins s σ H Q I hw
  refine wpAny_isTrue_Compare1 (thn (h pins s σ H _ I hw) fun v s1 h1 => thn h1 fun u s2 h2 => thn h2 fun c s3 ⟨x, H1, I1, r1, q1⟩ => ?_) h1
  obtain ⟨d, rfl, q⟩ := q1
  cases r1
  exact wpAny_truthy_bool ⟨H1, I1, q⟩
/-- an expression whose value is a bool, as a test -/
theorem pt_val {e : Expr} {t : TE} (h : PE X e t) (he : ∀ whole, isTrue e X.env whole = (do let v ← whole; standAt e.pos; holding [v] (truthy v)) := by intro _; rfl) : PT X e (tB t) := by
  intro pins s σ H Q I hw
  refine isTrue_plain (thn (h pins s σ H _ I hw) fun v s1 ⟨x, H1, I1, r1, q1⟩ => ?_) (he _)
  obtain ⟨d, rfl, q⟩ := q1
  cases r1
  exact wpAny_truthy_bool ⟨H1, I1, q⟩

/-! ### and, or, not -/
variable {tA tB' : TT} {rest : List Expr}
def tAnd (t u : TT) : TT := fun σ H Q => t σ H fun c H1 => if c = true then u σ H1 Q else Q false H1
def tOr (t u : TT) : TT := fun σ H Q => t σ H fun c H1 => if c = true then Q true H1 else u σ H1 Q
def tNot (t : TT) : TT := fun σ H Q => t σ H fun c H1 => Q (!c) H1
theorem pw_and1 (ha : PT X a tA) : PW X (.BoolOp .And [a] pos) tA := by
  intro wh pins s σ H Q I h
  refine isTrue_and (thn (ha pins s σ H Q I h) fun c s1 e => ?_)
  cases c with
  | true => exact isTrue_and_nil e
  | false => exact e
theorem pw_or1 (ha : PT X a tA) : PW X (.BoolOp .Or [a] pos) tA := by
  intro wh pins s σ H Q I h
  refine isTrue_or (thn (ha pins s σ H Q I h) fun c s1 e => ?_)
  cases c with
  | false => exact isTrue_or_nil e
  | true => exact e
theorem pw_and (ha : PT X a tA) (hb : PW X (.BoolOp .And (b :: rest) pos) tB') : PW X (.BoolOp .And (a :: b :: rest) pos) (tAnd tA tB') := by
  intro wh pins s σ H Q I h
  refine isTrue_and (thn (ha pins s σ H _ I h) fun c s1 ⟨H1, I1, q1⟩ => ?_)
  cases c with
  | true => exact hb wh pins s1 σ H1 Q I1 q1
  | false => exact ⟨H1, I1, q1⟩
theorem pw_or (ha : PT X a tA) (hb : PW X (.BoolOp .Or (b :: rest) pos) tB') : PW X (.BoolOp .Or (a :: b :: rest) pos) (tOr tA tB') := by
  intro wh pins s σ H Q I h
  refine isTrue_or (thn (ha pins s σ H _ I h) fun c s1 ⟨H1, I1, q1⟩ => ?_)
  cases c with
  | true => exact ⟨H1, I1, q1⟩
  | false => exact hb wh pins s1 σ H1 Q I1 q1
theorem pt_not (ha : PT X a tA) : PT X (.UnaryOp .Not a pos) (tNot tA) := by
  intro pins s σ H Q I h
  exact isTrue_not (ha pins s σ H (fun c H1 => Q (!c) H1) I h)
/-- .. as values (bools) -/
def tAndV (ta tb : TE) : TE := fun σ H Q => ta σ H fun x H1 => ∃ c, x = .bl c ∧ if c = true then tb σ H1 Q else Q (.bl false) H1
def tOrV (ta tb : TE) : TE := fun σ H Q => ta σ H fun x H1 => ∃ c, x = .bl c ∧ if c = true then Q (.bl true) H1 else tb σ H1 Q
def tNotV (ta : TE) : TE := fun σ H Q => ta σ H fun x H1 => ∃ c, x = .bl c ∧ Q (.bl (!c)) H1
theorem pe_one {op} {t : TE} (h : PE X a t) : PE X (.BoolOp op [a] pos) t := fun pins s σ H Q I hw => BoolOp_one (h pins s σ H Q I hw)
theorem pe_and (ha : PE X a ta) (hb : PE X (.BoolOp .And (b :: rest) pos) tb) : PE X (.BoolOp .And (a :: b :: rest) pos) (tAndV ta tb) := by
  intro pins s σ H Q I h
  refine BoolOp_and (thn (ha pins s σ H _ I h) fun v s1 ⟨x, H1, I1, r1, q1⟩ => ?_)
  obtain ⟨c, rfl, q1⟩ := q1
  cases r1
  refine wpAny_truthy_bool ?_
  cases c with
  | true => exact hb pins s1 σ H1 Q I1 q1
  | false => exact ⟨.bl false, H1, I1, rfl, q1⟩
theorem pe_or (ha : PE X a ta) (hb : PE X (.BoolOp .Or (b :: rest) pos) tb) : PE X (.BoolOp .Or (a :: b :: rest) pos) (tOrV ta tb) := by
  intro pins s σ H Q I h
  refine BoolOp_or (thn (ha pins s σ H _ I h) fun v s1 ⟨x, H1, I1, r1, q1⟩ => ?_)
  obtain ⟨c, rfl, q1⟩ := q1
  cases r1
  refine wpAny_truthy_bool ?_
  cases c with
  | false => exact hb pins s1 σ H1 Q I1 q1
  | true => exact ⟨.bl true, H1, I1, rfl, q1⟩
theorem pe_not (ha : PE X a ta) : PE X (.UnaryOp .Not a pos) (tNotV ta) := by
  intro pins s σ H Q I h
  refine UnaryOp_ (thn (ha pins s σ H _ I h) fun v s1 ⟨x, H1, I1, r1, q1⟩ => ?_)
  obtain ⟨c, rfl, q1⟩ := q1
  cases r1
  exact not_of (wpAny_truthy_bool ⟨.bl (!c), H1, I1, rfl, q1⟩)
/-- a if t else b -/
def tIf (t : TT) (ta tb : TE) : TE := fun σ H Q => t σ H fun c H1 => if c = true then ta σ H1 Q else tb σ H1 Q
theorem pe_ifExp {c : Expr} (hc : PT X c tA) (ha : PE X a ta) (hb : PE X b tb) : PE X (.IfExp c a b pos) (tIf tA ta tb) := by
  intro pins s σ H Q I h
  refine wpAny_IfExp (thn (hc pins s σ H _ I h) fun d s1 ⟨H1, I1, q1⟩ => ?_)
  cases d with
  | true => exact ha pins s1 σ H1 Q I1 q1
  | false => exact hb pins s1 σ H1 Q I1 q1
end
end L2

namespace L2
open PySem PySem.Spec PyProof.Rows

/-! ### a list, a tuple that is read: tracked, frozen, or an object of the module -/
def SqL (K : PySem.W.Frag) (H : Hp) (a : Addr) (xs : List V) : Prop :=
  Rd H a (.lst xs) ∨
    ∃ (o : Obj) (its : Array Value) (n : Nat), K.lookup a = some o ∧ o.cls = .type "list" ∧ o.dict = none ∧ o.data = .seq its n ∧ its.size ≤ sizeLine ∧ Vals xs its.toList
def SqT (K : PySem.W.Frag) (H : Hp) (a : Addr) (xs : List V) : Prop :=
  Rd H a (.tup xs) ∨
    ∃ (o : Obj) (its : Array Value) (n : Nat), K.lookup a = some o ∧ o.cls = .type "tuple" ∧ o.data = .seq its n ∧ its.size ≤ sizeLine ∧ Vals xs its.toList
def absV : Value → Option V
  | .none => some .non
  | .bool b => some (.bl b)
  | .int i _ => some (.int i)
  | .str x _ => some (.str x)
  | .bytes b _ => some (.byt b)
  | .float b _ => some (.flt b)
  | .ref a => some (.ref a)
  | .type n => some (.ty n)
  | _ => none
theorem RelV.abs {x : V} {u : Value} (r : RelV x u) : absV u = some x := by
  cases x with
  | non => cases r; rfl
  | bl _ => cases r; rfl
  | int _ => obtain ⟨t, rfl⟩ := r; rfl
  | str _ => obtain ⟨t, rfl⟩ := r; rfl
  | byt _ => obtain ⟨t, rfl⟩ := r; rfl
  | flt _ => obtain ⟨t, rfl⟩ := r; rfl
  | ref _ => cases r; rfl
  | ty _ => cases r; rfl
theorem RelV.inj {x y : V} {u : Value} (r : RelV x u) (q : RelV y u) : x = y := Option.some.inj (r.abs.symm.trans q.abs)
theorem Vals.inj : ∀ {xs ys : List V} {us : List Value}, Vals xs us → Vals ys us → xs = ys
  | _, _, _, .nil, .nil => rfl
  | _, _, _, .cons r t, .cons r' t' => by rw [r.inj r', Vals.inj t t']
section
variable {X : Cx} {pins : List (Addr × Obj)} {σ : St} {H : Hp} {s : Shared} {a : Addr} {xs ys : List V}
theorem SqL.of {K : PySem.W.Frag} (h : H a = some (.lst xs)) : SqL K H a xs := .inl (.inl h)
theorem SqT.of {K : PySem.W.Frag} (h : H a = some (.tup xs)) : SqT K H a xs := .inl (.inl h)
theorem Inv.list (I : Inv X pins σ H s) (h : SqL X.K H a xs) : ∃ its : List Value, Vals xs its ∧ PlainL s.heap a its.toArray ∧ xs.length ≤ sizeLine := by
  rcases h with h | ⟨o, its, n, hk, hc, hd, hs, hz, r⟩
  · obtain ⟨z, its, n, r, e⟩ := h.ok I.hok
    exact ⟨its, r, ⟨_, n, e, rfl, rfl, rfl⟩, z⟩
  · refine ⟨its.toList, r, ⟨o, n, I.kIn a o hk, hc, hd, by simpa using hs⟩, ?_⟩
    have e := r.length
    simp only [Array.length_toList] at e
    omega
theorem Inv.tuple (I : Inv X pins σ H s) (h : SqT X.K H a xs) : ∃ its : List Value, Vals xs its ∧ IsTup s.heap a its.toArray ∧ xs.length ≤ sizeLine := by
  rcases h with h | ⟨o, its, n, hk, hc, hs, hz, r⟩
  · obtain ⟨z, its, r, p⟩ := h.ok I.hok
    exact ⟨its, r, p, z⟩
  · refine ⟨its.toList, r, ⟨o, I.kIn a o hk, hc, n, by simpa using hs⟩, ?_⟩
    have e := r.length
    simp only [Array.length_toList] at e
    omega
theorem Inv.list_inj (I : Inv X pins σ H s) (h : SqL X.K H a xs) (h' : SqL X.K H a ys) : xs = ys := by
  obtain ⟨its, r, ⟨o, n, e, _, _, d⟩, _⟩ := I.list h
  obtain ⟨its', r', ⟨o', n', e', _, _, d'⟩, _⟩ := I.list h'
  rw [e] at e'; cases e'
  rw [d] at d'
  injection d' with d1 _
  have : its = its' := by simpa using congrArg Array.toList d1
  subst this
  exact r.inj r'
theorem Inv.tuple_inj (I : Inv X pins σ H s) (h : SqT X.K H a xs) (h' : SqT X.K H a ys) : xs = ys := by
  obtain ⟨its, r, ⟨o, e, _, n, d⟩, _⟩ := I.tuple h
  obtain ⟨its', r', ⟨o', e', _, n', d'⟩, _⟩ := I.tuple h'
  rw [e] at e'; cases e'
  rw [d] at d'
  injection d' with d1 _
  have : its = its' := by simpa using congrArg Array.toList d1
  subst this
  exact r.inj r'
end

/-! ### another wish about exceptions -/
abbrev Cx.wish (X : Cx) (E : Value → Shared → Prop) : Cx := { X with xe := E }
/-- no exception leaves -/
abbrev Cx.nox (X : Cx) : Cx := X.wish fun _ _ => False
theorem Cx.Ok.wish {X : Cx} (ok : X.Ok) (E : Value → Shared → Prop) : (X.wish E).Ok :=
  ⟨ok.mod, ok.kind, ok.glob, ok.blt, ok.above, ok.inj, ok.has, ok.cab, ok.hd, ok.frames, ok.stk, ok.exf, ok.bs, ok.bsz, ok.noex, ok.exfs, ok.funs, ok.frf⟩
theorem Cx.Ok.unwish {X : Cx} {E : Value → Shared → Prop} (ok : (X.wish E).Ok) : X.Ok :=
  ⟨ok.mod, ok.kind, ok.glob, ok.blt, ok.above, ok.inj, ok.has, ok.cab, ok.hd, ok.frames, ok.stk, ok.exf, ok.bs, ok.bsz, ok.noex, ok.exfs, ok.funs, ok.frf⟩
section
variable {X : Cx} {pins : List (Addr × Obj)} {σ : St} {H : Hp} {s : Shared} {E : Value → Shared → Prop}
theorem Inv.wish (I : Inv X pins σ H s) (E : Value → Shared → Prop) : Inv (X.wish E) pins σ H s := ⟨I.ok.wish E, I.os, I.bare, I.base, I.loc, I.cell, I.free, I.freeC, I.pin, I.hok, I.len⟩
theorem Inv.unwish (I : Inv (X.wish E) pins σ H s) : Inv X pins σ H s := ⟨I.ok.unwish, I.os, I.bare, I.base, I.loc, I.cell, I.free, I.freeC, I.pin, I.hok, I.len⟩
theorem SP.unwish {D : Ends} {f : Flow} {s' : Shared} (h : SP (X.wish E) pins D f s') : SP X pins D f s' := by
  cases f with
  | next => obtain ⟨σ', H', I, q⟩ := h; exact ⟨σ', H', I.unwish, q⟩
  | brk => obtain ⟨σ', H', I, q⟩ := h; exact ⟨σ', H', I.unwish, q⟩
  | cont => obtain ⟨σ', H', I, q⟩ := h; exact ⟨σ', H', I.unwish, q⟩
  | ret u => obtain ⟨v, σ', H', I, r, q⟩ := h; exact ⟨v, σ', H', I.unwish, r, q⟩
theorem PE.nox {e : Expr} {t : TE} (h : PE X.nox e t) : PE X e t := fun pins s σ H Q I hw =>
  wpAny_mono (h pins s σ H Q (I.wish _) hw) (fun _ _ ⟨v, H', I', r, q⟩ => ⟨v, H', I'.unwish, r, q⟩) fun _ _ z => False.elim z
theorem PT.nox {e : Expr} {t : TT} (h : PT X.nox e t) : PT X e t := fun pins s σ H Q I hw =>
  wpAny_mono (h pins s σ H Q (I.wish _) hw) (fun _ _ ⟨H', I', q⟩ => ⟨H', I'.unwish, q⟩) fun _ _ z => False.elim z
theorem PSs.nox {st : List Stmt} {t : TS} (h : PSs X.nox st t) : PSs X st t := fun pins s σ H D I hw =>
  wpAny_mono (h pins s σ H D (I.wish _) hw) (fun _ _ q => q.unwish) fun _ _ z => False.elim z
end

/-! ### blocks and small statements -/
section
variable {X : Cx} {st : Stmt} {rest : List Stmt} {t u : TS} {e : Expr} {te : TE} {pos : Pos}
def tNext : TS := fun D σ H => D.nx σ H
def tSeq (t u : TS) : TS := fun D σ H => t { D with nx := u D } σ H
theorem pss_nil : PSs X [] tNext := fun _ _ σ H _ I h => wpAny_execs_nil ⟨σ, H, I, h⟩
theorem pss_cons (h1 : PS X st t) (h2 : PSs X rest u) : PSs X (st :: rest) (tSeq t u) := by
  intro pins s σ H D I h
  refine wpAny_execs_cons (thn (h1 pins s σ H { D with nx := u D } I h) fun f s1 q => ?_)
  cases f with
  | next =>
    obtain ⟨σ', H', I', q⟩ := q
    exact h2 pins s1 σ' H' D I' q
  | ret v => exact q
  | brk => exact q
  | cont => exact q
theorem pss_one (h1 : PS X st t) : PSs X [st] t := by
  intro pins s σ H D I h
  refine wpAny_execs_cons (thn (h1 pins s σ H D I h) fun f s1 q => ?_)
  cases f with
  | next => exact wpAny_execs_nil q
  | ret v => exact q
  | brk => exact q
  | cont => exact q
def tBreak : TS := fun D σ H => D.bk σ H
def tCont : TS := fun D σ H => D.ct σ H
theorem ps_pass : PS X (.Pass pos) tNext := fun _ _ σ H _ I h => wpAny_Pass ⟨σ, H, I, h⟩
theorem ps_break : PS X (.Break pos) tBreak := fun _ _ σ H _ I h => wpAny_Break ⟨σ, H, I, h⟩
theorem ps_continue : PS X (.Continue pos) tCont := fun _ _ σ H _ I h => wpAny_Continue ⟨σ, H, I, h⟩
/-- in a def's body nothing is shown -/
theorem Inv.quiet {pins : List (Addr × Obj)} {σ : St} {H : Hp} {s : Shared} (I : Inv X pins σ H s) : interactive X.env = false := by simp [interactive, I.ok.kind]
/-- a docstring -/
theorem ps_doc {x j pos pos'} : PS X (.Expr (.Constant (.str x) j pos) pos') tNext := fun _ s σ H _ I h => wpAny_Expr (Calls.Constant_str (show SP X _ _ .next { s with toks := s.toks + 1 } from ⟨σ, H, I.tok _, h⟩)) I.quiet
/-- an expression whose value is dropped -/
def tDrop (te : TE) : TS := fun D σ H => te σ H fun _ H1 => D.nx σ H1
theorem ps_expr (he : PE X e te) (hs : swapsWith e none pos.line X.env = pure false := by rfl) : PS X (.Expr e pos) (tDrop te) := by
  intro pins s σ H D I h
  exact wpAny_Expr_any (thn (he pins s σ H _ I h) fun v s1 ⟨x, H1, I1, r1, q1⟩ => ⟨σ, H1, I1, q1⟩) I.quiet hs
def tRet (te : TE) : TS := fun D σ H => te σ H D.rt
theorem ps_ret (he : PE X e te) : PS X (.Return (some e) pos) (tRet te) := by
  intro pins s σ H D I h
  exact wpAny_Return_some (thn (he pins s σ H _ I h) fun v s1 ⟨x, H1, I1, r1, q1⟩ => ⟨x, σ, H1, I1, r1, q1⟩)
def tRetN : TS := fun D _ H => D.rt .non H
theorem ps_retN : PS X (.Return none pos) tRetN := fun _ _ σ H _ I h => wpAny_Return_none ⟨.non, σ, H, I, rfl, h⟩
def tIfS (c : TT) (t u : TS) : TS := fun D σ H => c σ H fun b H1 => if b = true then t D σ H1 else u D σ H1
theorem ps_if {c : Expr} {a b : List Stmt} {tc : TT} (hc : PT X c tc) (ha : PSs X a t) (hb : PSs X b u) : PS X (.If c a b pos) (tIfS tc t u) := by
  intro pins s σ H D I h
  refine wpAny_If (thn (hc pins s σ H _ I h) fun d s1 ⟨H1, I1, q1⟩ => ?_)
  cases d with
  | true => exact ha pins s1 σ H1 D I1 q1
  | false => exact hb pins s1 σ H1 D I1 q1
/-- code that the proof never comes to -/
def tNever : TS := fun _ _ _ => False
theorem ps_never : PS X st tNever := fun _ _ _ _ _ _ h => h.elim
theorem pss_never {sts : List Stmt} : PSs X sts tNever := fun _ _ _ _ _ _ h => h.elim
end

/-! ### targets -/
abbrev TG := V → St → Hp → (St → Hp → Prop) → Prop
abbrev TGs := List V → St → Hp → (St → Hp → Prop) → Prop
def PG (X : Cx) (target : Expr) (t : TG) : Prop :=
  ∀ (pins : List (Addr × Obj)) (s : Shared) (σ : St) (H : Hp) (v : V) (u : Value) (Q : St → Hp → Prop), Inv X pins σ H s → RelV v u → t v σ H Q →
    wpAny (model X.prog X.w) X.A (assign target X.env u) (fun _ s' => ∃ σ' H', Inv X pins σ' H' s' ∧ Q σ' H') X.xe s
/-- several targets, one after another -/
def PGs (X : Cx) (ts : List Expr) (t : TGs) : Prop :=
  ∀ (pins : List (Addr × Obj)) (s : Shared) (σ : St) (H : Hp) (vs : List V) (us : List Value) (Q : St → Hp → Prop), Inv X pins σ H s → Vals vs us → t vs σ H Q →
    wpAny (model X.prog X.w) X.A (assignInOrder ((assignEach ts X.env).map (·.2)) us) (fun _ s' => ∃ σ' H', Inv X pins σ' H' s' ∧ Q σ' H') X.xe s
/-- o[i] = v, by values -/
abbrev TSet := V → V → V → Hp → (Hp → Prop) → Prop
def PSet (X : Cx) (t : TSet) : Prop :=
  ∀ (pins : List (Addr × Obj)) (s : Shared) (σ : St) (H : Hp) (o i v : V) (ov iv u : Value) (Q : Hp → Prop), Inv X pins σ H s → RelV o ov → RelV i iv → RelV v u → t o i v H Q →
    wpAny (model X.prog X.w) X.A (setItem ov iv u) (fun _ s' => ∃ H', Inv X pins σ H' s' ∧ Q H') X.xe s
/-- a op= b, by values -/
abbrev TIp := V → V → Hp → VK → Prop
def PIp (X : Cx) (op : Operator) (t : TIp) : Prop :=
  ∀ (pins : List (Addr × Obj)) (s : Shared) (σ : St) (H : Hp) (x y : V) (v u : Value) (Q : VK), Inv X pins σ H s → RelV x v → RelV y u → t x y H Q →
    wpAny (model X.prog X.w) X.A (inplaceOp op v u) (EP X pins σ Q) X.xe s
section
variable {X : Cx} {pos : Pos}
def gName (i : Nat) : TG := fun v σ H Q => Q (σ.set i (some v)) H
theorem pg_name {i : Nat} {x : Str} (hN : X.N.Nodup) (hi : X.N[i]? = some x) (hx : Loc X.env.scope x) (hf : X.fn x = true ∨ X.env.scope.names.lookup x = some .local := by first | exact .inl rfl | exact .inr rfl | assumption) : PG X (.Name x pos) (gName i) := by
  intro pins s σ H v u Q I r h
  exact wpAny_assign_Name (store_ok I hN hi hx r (fun s' I' => ⟨_, H, I', h⟩) hf)
def gNil : TGs := fun vs σ H Q => vs = [] ∧ Q σ H
def gCons (t : TG) (u : TGs) : TGs := fun vs σ H Q => ∃ v r, vs = v :: r ∧ t v σ H fun σ' H' => u r σ' H' Q
theorem pgs_nil : PGs X [] gNil := by
  intro pins s σ H vs us Q I r h
  obtain ⟨e, h⟩ := h
  subst e
  cases r
  exact assignInOrder_nil ⟨σ, H, I, h⟩
theorem pgs_cons {e : Expr} {es : List Expr} {t : TG} {u : TGs} (h1 : PG X e t) (h2 : PGs X es u)
    (hs : (assignEach (e :: es) X.env).map (·.2) = assign e X.env :: (assignEach es X.env).map (·.2) := by rfl) : PGs X (e :: es) (gCons t u) := by
  intro pins s σ H vs us Q I r h
  obtain ⟨v, vr, e1, h⟩ := h
  subst e1
  cases r with
  | cons r rr =>
    rw [hs]
    refine assignInOrder_cons (thn (h1 pins s σ H _ _ _ I r h) fun _ s1 ⟨σ1, H1, I1, q1⟩ => ?_)
    exact h2 pins s1 σ1 H1 _ _ Q I1 rr q1
/-- (a, b, ..) = a tuple of that length -/
def gTup (K : PySem.W.Frag) (n : Nat) (t : TGs) : TG := fun v σ H Q => ∃ a xs, v = .ref a ∧ SqT K H a xs ∧ xs.length = n ∧ t xs σ H Q
theorem pg_tup {es : List Expr} {k : Nat} {t : TGs} {n : Nat} (hc : X.calm = true) (h : PGs X es t)
    (hn : (assignEach es X.env).length = n := by rfl) (hst : (assignEach es X.env).findIdx? (·.1) = none := by rfl) : PG X (.Tuple es k pos) (gTup X.K n t) := by
  intro pins s σ H v u Q I r hw
  obtain ⟨a, xs, e1, hq, hl, hw⟩ := hw
  subst e1
  cases r
  obtain ⟨its, rv, ht, hz⟩ := I.tuple hq
  refine assign_Tuple_tuple (I.ok.hd hc) ht (by simp [hn, ← hl, rv.length]) hst fun h' hx => ?_
  have I1 : Inv X pins σ H { s with heap := h' } := I.kept (t' := s.toks) fun b o e => hx b o (Nat.ne_of_lt (Heap.lt_size e)) e
  exact h pins _ σ H xs _ Q I1 (by simpa using rv) hw
/-- o[i] = .. -/
def gSub (to ti : TE) (t : TSet) : TG := fun v σ H Q => to σ H fun o H1 => ti σ H1 fun i H2 => t o i v H2 fun H3 => Q σ H3
theorem pg_sub {o i : Expr} {to ti : TE} {t : TSet} (ho : PE X o to) (hi : PE X i ti) (hs : PSet X t)
    (ha : ∀ v, assign (.Subscript o i pos) X.env v = (do
      let ov ← holding [v] (eval o X.env)
      let iv ← holding [v, ov] (eval i X.env)
      standAt pos
      holding [v, ov, iv] (setItem ov iv v)
      release [v, ov, iv] []) := by intro _; rfl) : PG X (.Subscript o i pos) (gSub to ti t) := by
  intro pins s σ H v u Q I r h
  rw [ha]
  refine wpAny_bind (wpAny_holding (thn (ho pins s σ H _ I h) fun ov s1 ⟨x, H1, I1, r1, q1⟩ => ?_))
  refine wpAny_bind (wpAny_holding (thn (hi pins s1 σ H1 _ I1 q1) fun iv s2 ⟨y, H2, I2, r2, q2⟩ => ?_))
  refine wpAny_bind (wpAny_standAt (wpAny_bind (wpAny_holding (thn (hs pins s2 σ H2 x y v ov iv u _ I2 r1 r2 r q2) fun _ s3 ⟨H3, I3, q3⟩ => ?_))))
  exact wpAny_release ⟨σ, H3, I3, q3⟩
/-- target = value -/
def tAsg (te : TE) (g : TG) : TS := fun D σ H => te σ H fun x H1 => g x σ H1 D.nx
theorem ps_asg {tg e : Expr} {te : TE} {g : TG} (he : PE X e te) (hg : PG X tg g) (hs : swapsWithSole [tg] e pos.line X.env = pure false := by rfl) (hw : swappedStores [tg] e X.env = pure none := by rfl)
    (h1 : (assignEach [tg] X.env).map (·.2) = [assign tg X.env] := by rfl) : PS X (.Assign [tg] e pos) (tAsg te g) := by
  intro pins s σ H D I h
  refine wpAny_Assign_stores (thn (he pins s σ H _ I h) fun v s1 ⟨x, H1, I1, r1, q1⟩ => ?_) hs hw
  rw [h1]
  exact thn (hg pins s1 σ H1 x v _ I1 r1 q1) fun _ s2 q => q
/-- name = value -/
theorem ps_set {i : Nat} {x : Str} {e : Expr} {te : TE} {pos' : Pos} (hN : X.N.Nodup) (hi : X.N[i]? = some x) (hx : Loc X.env.scope x) (he : PE X e te) (hs : swapsWith e (some (.Name x pos')) pos.line X.env = pure false := by rfl) (hf : X.fn x = true ∨ X.env.scope.names.lookup x = some .local := by first | exact .inl rfl | exact .inr rfl | assumption) :
    PS X (.Assign [.Name x pos'] e pos) (tAsg te (gName i)) := by
  intro pins s σ H D I h
  refine wpAny_Assign_Name (thn (he pins s σ H _ I h) fun v s1 ⟨y, H1, I1, r1, q1⟩ => ?_) hs
  exact store_ok I1 hN hi hx r1 (fun s2 I2 => ⟨_, H1, I2, q1⟩) hf
/-- a, b = x, y with plain local names: stored from the right; the pair itself is not tracked (the opening rows as in PyProof/Rows/TupAssign.lean:23) -/
def tPar (i j : Nat) (ta : TA) : TS := fun D σ H => ta σ H fun vs H1 => ∃ v w, vs = [v, w] ∧ D.nx ((σ.set i (some v)).set j (some w)) H1
theorem ps_par {i j : Nat} {x y : Str} {a b : Expr} {ta : TA} {px py pt : Pos} {kt k2 pt2} (hc : X.calm = true) (hN : X.N.Nodup) (hi : X.N[i]? = some x) (hj : X.N[j]? = some y) (hij : i ≠ j)
    (hx : X.env.scope.names.lookup x = some .local) (hy : X.env.scope.names.lookup y = some .local) (ha : PA X [a, b] ta)
    (hw : swappedStores [.Tuple [.Name x px, .Name y py] kt pt] (.Tuple [a, b] k2 pt2) X.env = pure (some [x, y]))
    (hs : swapsWithSole [.Tuple [.Name x px, .Name y py] kt pt] (.Tuple [a, b] k2 pt2) pos.line X.env = pure false := by rfl) :
    PS X (.Assign [.Tuple [.Name x px, .Name y py] kt pt] (.Tuple [a, b] k2 pt2) pos) (tPar i j ta) := by
  intro pins s σ H D I h
  rw [exec_Assign_arm]
  refine wpAny_bind (wpAny_standAt ?_)
  rw [hs]
  refine wpAny_bind (wpAny_pure ?_)
  rw [if_neg (by decide)]
  refine wpAny_bind (Tuple_ (thn (ha _ pins s σ H _ I h) fun us s1 ⟨vs, H1, I1, r1, q1⟩ => ?_))
  obtain ⟨v, w, e1, q1⟩ := q1
  subst e1
  obtain ⟨u1, u2, rfl, rv, rw'⟩ : ∃ u1 u2, us = [u1, u2] ∧ RelV v u1 ∧ RelV w u2 := by
    cases r1 with
    | cons p q =>
      cases q with
      | cons p' q' =>
        cases q'
        exact ⟨_, _, rfl, p, p'⟩
  refine wpAny_newObj_type ?_ (by show 2 ≤ sizeLine; decide)
  have I2 : Inv X pins σ H1 { s1 with heap := s1.heap.push { cls := .type "tuple", data := .seq [u1, u2].toArray } } := I1.kept (t' := s1.toks) fun b o e => Heap.get?_push_of_some _ e
  rw [hw]
  refine wpAny_bind (wpAny_pure ?_)
  show wpAny (model X.prog X.w) X.A (do rule "assign.swapped-stores"; let items ← unpackItems (.ref s1.heap.objs.size) 2 none; assignInOrder [fun v => bindName X.env y v, fun v => bindName X.env x v] items.reverse; pure Flow.next) _ _ _
  refine wpAny_bind (wpAny_rule (wpAny_bind (unpackItems_tuple (items := #[u1, u2]) (I.ok.hd hc) (IsTup.new s1.heap _) fun h' hx' => ?_)))
  have I3 := I2.kept (h' := h') (t' := s1.toks) fun b o e => hx' b o (Nat.ne_of_lt (Heap.lt_size e)) e
  show wpAny _ _ (assignInOrder [fun v => bindName X.env y v, fun v => bindName X.env x v] [u2, u1] >>= fun _ => pure Flow.next) _ _ _
  refine wpAny_bind (assignInOrder_cons (wpAny_bindName (store_ok I3 hN hj (.inl hy) rw' (fun s2 I4 => ?_) (.inr hy))))
  refine assignInOrder_cons (wpAny_bindName (store_ok I4 hN hi (.inl hx) rv (fun s3 I5 => assignInOrder_nil (wpAny_pure ?_)) (.inr hx)))
  rw [List.set_comm _ _ (Ne.symm hij)] at I5
  exact ⟨_, H1, I5, q1⟩
/-- name op= e -/
def tAug (i : Nat) (te : TE) (ti : TIp) : TS := fun D σ H => ∃ x, σ[i]? = some (some x) ∧ te σ H fun y H1 => ti x y H1 fun z H2 => D.nx (σ.set i (some z)) H2
theorem ps_aug {i : Nat} {x : Str} {e : Expr} {te : TE} {op : Operator} {ti : TIp} {pos' : Pos} (hN : X.N.Nodup) (hi : X.N[i]? = some x) (hx : Loc X.env.scope x) (he : PE X e te) (ho : PIp X op ti) (hf : X.fn x = true ∨ X.env.scope.names.lookup x = some .local := by first | exact .inl rfl | exact .inr rfl | assumption) :
    PS X (.AugAssign (.Name x pos') op e pos) (tAug i te ti) := by
  intro pins s σ H D I h
  obtain ⟨v, e1, h⟩ := h
  obtain ⟨m, hn, hl⟩ := I.loc
  have vis : Vis X.env.scope x := by rcases hx with k | k; exact .inl k; exact .inr (.inl k)
  obtain ⟨u, r, l⟩ := hl i x v hi e1 vis
  refine wpAny_AugAssign_Name ?_
  have go : wpAny (model X.prog X.w) X.A (eval e X.env) (fun w s₂ => wpAny (model X.prog X.w) X.A (inplaceOp op u w) (fun r s₃ => wpAny (model X.prog X.w) X.A (storeName X.env x r) (fun _ => SP X pins D .next) X.xe s₃) X.xe s₂) X.xe s := by
    refine thn (he pins s σ H _ I h) fun w s1 ⟨y, H1, I1, r1, q1⟩ => ?_
    refine thn (ho pins s1 σ H1 v y u w _ I1 r r1 q1) fun z s2 ⟨zv, H2, I2, r2, q2⟩ => ?_
    exact store_ok I2 hN hi hx r2 (fun s3 I3 => ⟨_, H2, I3, q2⟩) hf
  rcases l with ⟨hk, hm⟩ | ⟨hk, c, hc, hcell⟩
  · exact wpAny_loadName_local I.ok.kind hk hn hm go
  · rcases hk with hk | hk
    · exact wpAny_loadName_cell I.ok.kind hk hc hcell go
    · rcases hx with k | k
      · have : X.env.scope.names.lookup x = some .free := hk
        rw [k] at this; cases this
      · have : X.env.scope.names.lookup x = some .free := hk
        rw [k] at this; cases this
/-- o[i] op= e -/
def tAugS (to ti te : TE) (tget : V → V → Hp → VK → Prop) (tip : TIp) (tset : TSet) : TS := fun D σ H => to σ H fun o H1 => ti σ H1 fun i H2 => tget o i H2 fun x H3 => te σ H3 fun y H4 => tip x y H4 fun z H5 => tset o i z H5 fun H6 => D.nx σ H6
/-- o[i], by values -/
def PGet (X : Cx) (t : V → V → Hp → VK → Prop) : Prop :=
  ∀ (pins : List (Addr × Obj)) (s : Shared) (σ : St) (H : Hp) (o i : V) (ov iv : Value) (Q : VK), Inv X pins σ H s → RelV o ov → RelV i iv → t o i H Q →
    wpAny (model X.prog X.w) X.A (getItem ov iv) (EP X pins σ Q) X.xe s
theorem ps_augS {o i e : Expr} {to ti te : TE} {tget : V → V → Hp → VK → Prop} {tip : TIp} {tset : TSet} {op : Operator} {tpos : Pos} (ho : PE X o to) (hi : PE X i ti) (hg : PGet X tget) (he : PE X e te) (hp : PIp X op tip) (hs : PSet X tset)
    (ha : ∀ ov iv new, augStore i ov iv new = (do holding [new, ov, iv] (setItem ov iv new); release [new, ov, iv] []; pure .next) := by intros; rfl) : PS X (.AugAssign (.Subscript o i tpos) op e pos) (tAugS to ti te tget tip tset) := by
  intro pins s σ H D I h
  refine wpAny_AugAssign_SubscriptAny (thn (ho pins s σ H _ I h) fun ov s1 ⟨x1, H1, I1, r1, q1⟩ => ?_) ha
  refine thn (hi pins s1 σ H1 _ I1 q1) fun iv s2 ⟨x2, H2, I2, r2, q2⟩ => ?_
  refine thn (hg pins s2 σ H2 x1 x2 ov iv _ I2 r1 r2 q2) fun old s3 ⟨x3, H3, I3, r3, q3⟩ => ?_
  refine thn (he pins s3 σ H3 _ I3 q3) fun v s4 ⟨x4, H4, I4, r4, q4⟩ => ?_
  refine thn (hp pins s4 σ H4 x3 x4 old v _ I4 r3 r4 q4) fun new s5 ⟨x5, H5, I5, r5, q5⟩ => ?_
  exact thn (hs pins s5 σ H5 x1 x2 x5 ov iv new _ I5 r1 r2 r5 q5) fun _ s6 ⟨H6, I6, q6⟩ => ⟨σ, H6, I6, q6⟩
/-- ints -/
def ipI (f : Int → Int → Int) : TIp := fun x y H Q => ∃ i j, x = .int i ∧ y = .int j ∧ Q (.int (f i j)) H
theorem ip_add : PIp X .Add (ipI fun i j => i + j) := by
  intro pins s σ H x y v u Q I r1 r2 h
  obtain ⟨i, j, e1, e2, q⟩ := h
  subst e1; subst e2
  obtain ⟨t, rfl⟩ := r1
  obtain ⟨t', rfl⟩ := r2
  exact iadd_int ⟨.int _, H, I.tok _, ⟨_, rfl⟩, q⟩
theorem ip_sub : PIp X .Sub (ipI fun i j => i - j) := by
  intro pins s σ H x y v u Q I r1 r2 h
  obtain ⟨i, j, e1, e2, q⟩ := h
  subst e1; subst e2
  obtain ⟨t, rfl⟩ := r1
  obtain ⟨t', rfl⟩ := r2
  exact isub_int ⟨.int _, H, I.tok _, ⟨_, rfl⟩, q⟩
end

/-! ### while -/
section
variable {X : Cx} {pos : Pos}
/-- the invariant W with its measure -/
def tWhile (c : TT) (tb : TS) : TS := fun D σ H => ∃ W : Nat → St → Hp → Prop, (∃ m, W m σ H) ∧ ∀ m σ H, W m σ H →
  c σ H fun b H1 => if b = true then ∃ N : St → Hp → Prop, (∀ σ' H', N σ' H' → ∃ m', m' < m ∧ W m' σ' H') ∧ tb { D with nx := N, ct := N, bk := D.nx } σ H1 else D.nx σ H1
theorem ps_while {c : Expr} {body : List Stmt} {tc : TT} {tb : TS} (hp : PassesOwn (model X.prog X.w) X.A X.env X.xe) (hc : PT X c tc) (hb : PSs X body tb) : PS X (.While c body [] pos) (tWhile tc tb) := by
  intro pins s σ H D I h
  obtain ⟨W, ⟨m0, w0⟩, turn⟩ := h
  refine wpAny_While (codeAny_whileLoop (fun n s' => ∃ σ' H', Inv X pins σ' H' s' ∧ W n σ' H') ?_ m0 ⟨σ, H, I, w0⟩)
  rintro n s1 ⟨σ1, H1, I1, w1⟩
  refine wpAny_passesOwn hp (thn (hc pins s1 σ1 H1 _ I1 (turn n σ1 H1 w1)) fun b s2 ⟨H2, I2, q2⟩ => ?_)
  cases b with
  | true =>
    obtain ⟨N, hN, q2⟩ := q2
    rw [if_pos rfl]
    refine wpAny_passesOwn hp (thn (hb pins s2 σ1 H2 _ I2 q2) fun f s3 q3 => ?_)
    cases f with
    | next =>
      obtain ⟨σ3, H3, I3, n3⟩ := q3
      obtain ⟨m', hm, w3⟩ := hN σ3 H3 n3
      exact ⟨m', hm, σ3, H3, I3, w3⟩
    | cont =>
      obtain ⟨σ3, H3, I3, n3⟩ := q3
      obtain ⟨m', hm, w3⟩ := hN σ3 H3 n3
      exact ⟨m', hm, σ3, H3, I3, w3⟩
    | brk => exact q3
    | ret v => exact q3
  | false =>
    rw [if_neg Bool.false_ne_true]
    exact wpAny_execs_nil ⟨σ1, H2, I2, q2⟩
end

/-! ### what a loop or a comprehension walks -/
/-- at turn i: it yields x (the heap may grow), or it stops -/
structure It where
  go : Nat → Hp → Prop
  yld : Nat → Hp → V → Hp → Prop
  stop : Nat → Hp → Prop
/-- the iterator's own objects may turn: they are not the frame's, not pinned, younger than the entry (or a comprehension's own) -/
def FpOk (X : Cx) (pins : List (Addr × Obj)) (H : Hp) (b : Addr) : Prop :=
  H b = none ∧ b ≠ X.env.locals ∧ b ∉ X.fs ∧ (b ∈ X.ex ∨ X.s₀.heap.objs.size ≤ b) ∧ (∀ x c, X.env.cells.lookup x = some c → c ≠ b) ∧ ∀ p ∈ X.pn ++ pins, p.1 ≠ b
theorem Inv.fpOk {X : Cx} {pins : List (Addr × Obj)} {σ : St} {H H' : Hp} {s : Shared} {b : Addr} (I : Inv X pins σ H s) (hb : s.heap.objs.size ≤ b) (hn : H' b = none) : FpOk X pins H' b := by
  refine ⟨hn, Nat.ne_of_gt (Nat.lt_of_lt_of_le I.lt hb), I.nofs hb, .inr (Nat.le_trans I.sz hb), fun x c e z => ?_, fun p hp z => ?_⟩
  · obtain ⟨v, q⟩ := I.cell x c e
    exact absurd (Nat.lt_of_lt_of_le q.lt (by rw [z]; exact hb)) (Nat.lt_irrefl _)
  · exact absurd (Nat.lt_of_lt_of_le (Heap.lt_size (I.pin p hp).1) (by rw [z]; exact hb)) (Nat.lt_irrefl _)
structure Turn (P : Program) (w : World) (K : PySem.W.Frag) (tg : Expr) (J : It) (fp : List Addr) (it : Addr) (tn : Nat → Heap → Prop) : Prop where
  mem : it ∈ fp
  obj : ∀ i h, tn i h → ∀ b ∈ fp, ∃ o, h.get? b = some o ∧ ∀ v, o.data ≠ .cell v
  keep : ∀ i h h', tn i h → (∀ b ∈ fp, ∀ o, h.get? b = some o → h'.get? b = some o) → tn i h'
  item : ∀ (X : Cx), X.prog = P → X.w = w → X.K = K → X.calm = true → ∀ (i : Nat) (pins : List (Addr × Obj)) (s : Shared) (σ : St) (H : Hp) (E : Value → Shared → Prop), Inv X pins σ H s → (∀ b ∈ fp, FpOk X pins H b) → tn i s.heap → J.go i H →
    wpAny (model P w) X.A (pyNext (.ref it)) (fun r s1 => ∃ u, r = some u ∧
      wpAny (model P w) X.A (letOwnedTupleGo tg (.ref it) u) (fun _ s2 => ∃ x H', Inv X pins σ H' s2 ∧ RelV x u ∧ J.yld i H x H' ∧ tn (i + 1) s2.heap ∧ ∀ b ∈ fp, H' b = none) E s1) E s
  done : ∀ (X : Cx), X.prog = P → X.w = w → X.K = K → X.calm = true → ∀ (i : Nat) (pins : List (Addr × Obj)) (s : Shared) (σ : St) (H : Hp) (E : Value → Shared → Prop), Inv X pins σ H s → (∀ b ∈ fp, FpOk X pins H b) → tn i s.heap → J.stop i H →
    wpAny (model P w) X.A (pyNext (.ref it)) (fun r s1 => r = none ∧ Inv X pins σ H s1) E s
  self : ∀ (A : Around) (i : Nat) (s : Shared) (Q : Value → Shared → Prop) (E : Value → Shared → Prop), tn i s.heap → Q (.ref it) s → wpAny (model P w) A (pyIter (.ref it)) Q E s
abbrev TI := St → Hp → (It → Hp → Prop) → Prop
/-- an iterator has come -/
def PIE (X : Cx) (pins : List (Addr × Obj)) (σ : St) (tg : Expr) (R : It → Hp → Prop) (itv : Value) (s2 : Shared) : Prop :=
  ∃ (it : Addr) (fp : List Addr) (tn : Nat → Heap → Prop) (J : It) (H' : Hp), itv = .ref it ∧ Inv X pins σ H' s2 ∧ Turn X.prog X.w X.K tg J fp it tn ∧ tn 0 s2.heap ∧ (∀ b ∈ fp, FpOk X pins H' b) ∧ R J H'
def PI (X : Cx) (tg iter : Expr) (wi : TI) : Prop :=
  ∀ (pins : List (Addr × Obj)) (s : Shared) (σ : St) (H : Hp) (R : It → Hp → Prop), Inv X pins σ H s → wi σ H R →
    wpAny (model X.prog X.w) X.A (eval iter X.env) (fun v s1 => wpAny (model X.prog X.w) X.A (pyIter v) (PIE X pins σ tg R) X.xe s1) X.xe s

/-- the step ahead of the store is nothing for an iterator that keeps no tuple -/
theorem go_of {M : Model} {A : Around} {E : Value → Shared → Prop} {s : Shared} {tg : Expr} {it : Addr} {u : Value} {o : Obj} {n : String} {vs : Array Value} {Q : Unit → Shared → Prop} (ho : s.heap.get? it = some o) (hc : o.cls = .type n) (hd : o.data = .fields vs)
    (hn : ["enumerate", "zip", "dict_itemiterator", "dict_reverseitemiterator", "odict_iterator", "itertools.zip_longest", "itertools.pairwise"].contains n = false) (hQ : Q () s) : wpAny M A (letOwnedTupleGo tg (.ref it) u) Q E s := by
  unfold letOwnedTupleGo
  cases tg <;> first
    | exact wpAny_pure hQ
    | (cases u <;> first
        | exact wpAny_pure hQ
        | (refine wpAny_bind (wpAny_load ho ?_)
           rw [hc, hd]
           show wpAny M A (if (["enumerate", "zip", "dict_itemiterator", "dict_reverseitemiterator", "odict_iterator", "itertools.zip_longest", "itertools.pairwise"].contains n && vs[0]? == some (rawInt _)) = true then _ else _) Q E s
           rw [if_neg (by intro h; rw [hn, Bool.false_and] at h; cases h)]
           exact wpAny_pure hQ))

/-- the list at a, as it stands at each turn (a loop may append to it) -/
def Itl (K : PySem.W.Frag) (a : Addr) : It :=
  ⟨fun i H => ∃ xs x, SqL K H a xs ∧ xs[i]? = some x, fun i H x H' => H' = H ∧ ∀ xs, SqL K H a xs → xs[i]? = some x, fun i H => ∃ xs, SqL K H a xs ∧ xs.length ≤ i⟩
def Itt (K : PySem.W.Frag) (a : Addr) : It :=
  ⟨fun i H => ∃ xs x, SqT K H a xs ∧ xs[i]? = some x, fun i H x H' => H' = H ∧ ∀ xs, SqT K H a xs → xs[i]? = some x, fun i H => ∃ xs, SqT K H a xs ∧ xs.length ≤ i⟩
/-- lo, lo + 1, .. (n of them) -/
def Itr (lo : Int) (n : Nat) : It := ⟨fun i _ => i < n, fun i H x H' => H' = H ∧ x = .int (lo + i), fun i _ => n ≤ i⟩
theorem turn_list {P : Program} {w : World} {K : PySem.W.Frag} {tg : Expr} (a it : Addr) : Turn P w K tg (Itl K a) [it] it (fun i h => h.IsListIter it a i) where
  mem := by simp
  obj := fun i h st b hb => by
    have e : b = it := by simpa using hb
    subst e
    obtain ⟨o, e, c, d⟩ := st
    exact ⟨o, e, fun v z => by rw [d] at z; cases z⟩
  keep := fun i h h' st k => st.at fun o e => k it (by simp) o e
  item := by
    intro X hP hw hK hc i pins s σ H E I hf st hg
    subst hP hw hK
    obtain ⟨xs, x, hq, hx⟩ := hg
    obtain ⟨its, rv, p, hz⟩ := I.list hq
    obtain ⟨u, hu, ru⟩ := rv.get hx
    obtain ⟨f0, f1, f2, f3, f4, f5⟩ := hf it (by simp)
    refine wpAny_pyNext_list_item st p.isList (x := u) (by simpa using hu) fun h' st' sb => ?_
    have I1 : Inv X pins σ H { s with heap := h' } := I.turned (t' := s.toks) (fun b o hb e => (sb.2 b hb).trans e) f0 f1 f3 f4 f5
    obtain ⟨o, e, c, d⟩ := id st'
    exact ⟨u, rfl, go_of (s := { s with heap := h' }) e c d (by decide) ⟨x, H, I1, ru, ⟨rfl, fun ys hy => by rw [I.list_inj hy hq]; exact hx⟩, st', fun b hb => (hf b hb).1⟩⟩
  done := by
    intro X hP hw hK hc i pins s σ H E I hf st hg
    subst hP hw hK
    obtain ⟨xs, hq, hx⟩ := hg
    obtain ⟨its, rv, p, hz⟩ := I.list hq
    obtain ⟨f0, f1, f2, f3, f4, f5⟩ := hf it (by simp)
    have hl := rv.length
    exact wpAny_pyNext_list_end (I.ok.hd hc) st p.isList (by simp; omega) fun h' eb => ⟨rfl, I.turned (t' := s.toks) (fun b o hb e => eb b o hb e) f0 f1 f3 f4 f5⟩
  self := fun _ _ _ _ _ st h => wpAny_pyIter_listiter st h
theorem turn_tuple {P : Program} {w : World} {K : PySem.W.Frag} {tg : Expr} (a it : Addr) : Turn P w K tg (Itt K a) [it] it (fun i h => h.IsTupleIter it a i) where
  mem := by simp
  obj := fun i h st b hb => by
    have e : b = it := by simpa using hb
    subst e
    obtain ⟨o, e, c, d⟩ := st
    exact ⟨o, e, fun v z => by rw [d] at z; cases z⟩
  keep := fun i h h' st k => st.at fun o e => k it (by simp) o e
  item := by
    intro X hP hw hK hc i pins s σ H E I hf st hg
    subst hP hw hK
    obtain ⟨xs, x, hq, hx⟩ := hg
    obtain ⟨its, rv, p, hz⟩ := I.tuple hq
    obtain ⟨u, hu, ru⟩ := rv.get hx
    obtain ⟨f0, f1, f2, f3, f4, f5⟩ := hf it (by simp)
    refine wpAny_pyNext_tuple_item st (show s.heap.IsTuple a its.toArray from p) (x := u) (by simpa using hu) fun h' st' sb => ?_
    have I1 : Inv X pins σ H { s with heap := h' } := I.turned (t' := s.toks) (fun b o hb e => (sb.2 b hb).trans e) f0 f1 f3 f4 f5
    obtain ⟨o, e, c, d⟩ := id st'
    exact ⟨u, rfl, go_of (s := { s with heap := h' }) e c d (by decide) ⟨x, H, I1, ru, ⟨rfl, fun ys hy => by rw [I.tuple_inj hy hq]; exact hx⟩, st', fun b hb => (hf b hb).1⟩⟩
  done := by
    intro X hP hw hK hc i pins s σ H E I hf st hg
    subst hP hw hK
    obtain ⟨xs, hq, hx⟩ := hg
    obtain ⟨its, rv, p, hz⟩ := I.tuple hq
    obtain ⟨f0, f1, f2, f3, f4, f5⟩ := hf it (by simp)
    have hl := rv.length
    exact wpAny_pyNext_tuple_end (I.ok.hd hc) st (show s.heap.IsTuple a its.toArray from p) (by simp; omega) fun h' eb => ⟨rfl, I.turned (t' := s.toks) (fun b o hb e => eb b o hb e) f0 f1 f3 f4 f5⟩
  self := fun _ _ _ _ _ st h => wpAny_pyIter_tupleiter st h
theorem turn_range {P : Program} {w : World} {K : PySem.W.Frag} {tg : Expr} (it : Addr) (lo : Int) (n : Nat) : Turn P w K tg (Itr lo n) [it] it (fun i h => IsRangeIter h it (lo + (i : Nat) * 1) ((n : Int) - (i : Nat)) 1) where
  mem := by simp
  obj := fun i h st b hb => by
    have e : b = it := by simpa using hb
    subst e
    exact ⟨_, st, fun v z => by
      have z' : Data.fields _ = Data.cell v := z
      cases z'⟩
  keep := fun i h h' st k => k it (by simp) _ st
  item := by
    intro X hP hw hK hc i pins s σ H E I hf st hg
    subst hP hw hK
    obtain ⟨f0, f1, f2, f3, f4, f5⟩ := hf it (by simp)
    have W := Walks.range (prog := X.prog) (w := X.w) (I.ok.hd hc) it lo 1 n
    refine W.item i s _ _ hg st fun v h' tk hv st' kk => ?_
    obtain ⟨t, rfl⟩ := hv
    have I1 : Inv X pins σ H { s with heap := h', toks := tk } := I.turned (fun b o hb e => kk b o (by simpa using hb) e) f0 f1 f3 f4 f5
    refine ⟨_, rfl, go_of (s := { s with heap := h', toks := tk }) (n := "range_iterator") st' rfl rfl (by decide) ⟨.int (lo + i), H, I1, ⟨t, ?_⟩, ⟨rfl, rfl⟩, st', fun b hb => (hf b hb).1⟩⟩
    rw [Int.mul_one]
  done := by
    intro X hP hw hK hc i pins s σ H E I hf st hg
    subst hP hw hK
    obtain ⟨f0, f1, f2, f3, f4, f5⟩ := hf it (by simp)
    exact wpAny_pyNext_range_end (I.ok.hd hc) st (by have : n ≤ i := hg; omega) fun h' eb => ⟨rfl, I.turned (t' := s.toks) (fun b o hb e => eb b o hb e) f0 f1 f3 f4 f5⟩
  self := fun _ _ _ _ _ st h => wpAny_pyIter_rangeiter st h
end L2

namespace L2
open PySem PySem.Spec PyProof.Rows
section
variable {X : Cx} {tg : Expr}
def iList (K : PySem.W.Frag) (tl : TE) : TI := fun σ H R => tl σ H fun x H1 => ∃ a, x = .ref a ∧ (∃ xs, SqL K H1 a xs) ∧ R (Itl K a) H1
def iTup (K : PySem.W.Frag) (tl : TE) : TI := fun σ H R => tl σ H fun x H1 => ∃ a, x = .ref a ∧ (∃ xs, SqT K H1 a xs) ∧ R (Itt K a) H1
theorem pi_list {l : Expr} {tl : TE} (hl : PE X l tl) : PI X tg l (iList X.K tl) := by
  intro pins s σ H R I h
  refine thn (hl pins s σ H _ I h) fun v s1 ⟨x, H1, I1, r1, q1⟩ => ?_
  obtain ⟨a, e, ⟨xs, hq⟩, q⟩ := q1
  subst e
  cases r1
  obtain ⟨its, rv, p, hz⟩ := I1.list hq
  refine wpAny_pyIter_list p.isList ?_
  refine ⟨s1.heap.objs.size, [s1.heap.objs.size], _, _, H1, rfl, I1.kept (t' := s1.toks) fun b o e => Heap.get?_push_of_some _ e, turn_list a _, ⟨_, Heap.get?_push_size _ rfl, rfl, rfl⟩, fun b hb => ?_, q⟩
  have e : b = s1.heap.objs.size := by simpa using hb
  subst e
  exact I1.fpOk (Nat.le_refl _) (I1.hok.fresh (Nat.le_refl _))
theorem pi_tup {l : Expr} {tl : TE} (hl : PE X l tl) : PI X tg l (iTup X.K tl) := by
  intro pins s σ H R I h
  refine thn (hl pins s σ H _ I h) fun v s1 ⟨x, H1, I1, r1, q1⟩ => ?_
  obtain ⟨a, e, ⟨xs, hq⟩, q⟩ := q1
  subst e
  cases r1
  obtain ⟨its, rv, p, hz⟩ := I1.tuple hq
  refine wpAny_pyIter_tuple (show s1.heap.IsTuple a its.toArray from p) ?_
  refine ⟨s1.heap.objs.size, [s1.heap.objs.size], _, _, H1, rfl, I1.kept (t' := s1.toks) fun b o e => Heap.get?_push_of_some _ e, turn_tuple a _, ⟨_, Heap.get?_push_size _ rfl, rfl, rfl⟩, fun b hb => ?_, q⟩
  have e : b = s1.heap.objs.size := by simpa using hb
  subst e
  exact I1.fpOk (Nat.le_refl _) (I1.hok.fresh (Nat.le_refl _))
/-- a range object just made, walked -/
theorem range_it {pins : List (Addr × Obj)} {σ : St} {H : Hp} {s : Shared} {R : It → Hp → Prop} {E : Value → Shared → Prop} {lo hi : Int} {t u v : Tok} {tk : Nat} (I : Inv X pins σ H s) (h1 : -(2 ^ 62) ≤ lo) (h2 : lo < 2 ^ 62) (h3 : -(2 ^ 62) ≤ hi) (h4 : hi < 2 ^ 62)
    (q : R (Itr lo (hi - lo).toNat) H) : wpAny (model X.prog X.w) X.A (pyIter (.ref s.heap.objs.size)) (PIE X pins σ tg R) E { s with heap := s.heap.push { cls := .type "range", data := .fields #[.int lo t, .int hi u, .int 1 v] }, toks := tk } := by
  refine wpAny_pyIter_range (IsRange.new ..) (small_one h1 h2 h3 h4) ?_
  have I1 : Inv X pins σ H { s with heap := s.heap.push { cls := .type "range", data := .fields #[.int lo t, .int hi u, .int 1 v] }, toks := tk } := I.kept fun b o e => Heap.get?_push_of_some _ e
  refine ⟨(s.heap.push { cls := .type "range", data := .fields #[.int lo t, .int hi u, .int 1 v] }).objs.size, [(s.heap.push { cls := .type "range", data := .fields #[.int lo t, .int hi u, .int 1 v] }).objs.size], _, _, H, rfl,
    I1.kept (t' := tk) fun b o e => Heap.get?_push_of_some _ e, turn_range _ lo (hi - lo).toNat, ?_, fun b hb => ?_, q⟩
  · have e1 : lo + ((0 : Nat) : Int) * 1 = lo := by simp
    have e2 : (((hi - lo).toNat : Nat) : Int) - ((0 : Nat) : Int) = Builtin.Range.rangeSize lo hi 1 := by rw [rangeSize_one]; split <;> omega
    show IsRangeIter _ _ (lo + ((0 : Nat) : Int) * 1) ((((hi - lo).toNat : Nat) : Int) - ((0 : Nat) : Int)) 1
    rw [e1, e2]
    exact Heap.get?_push_size _ rfl
  · have e : b = (s.heap.push { cls := .type "range", data := .fields #[.int lo t, .int hi u, .int 1 v] }).objs.size := by simpa using hb
    subst e
    exact I1.fpOk (Nat.le_refl _) (I1.hok.fresh (Nat.le_refl _))
def iRng1 (ta : TA) : TI := fun σ H R => ta σ H fun vs H1 => ∃ j : Int, vs = [.int j] ∧ -(2 ^ 62) ≤ j ∧ j < 2 ^ 62 ∧ R (Itr 0 j.toNat) H1
def iRng2 (ta : TA) : TI := fun σ H R => ta σ H fun vs H1 => ∃ i j : Int, vs = [.int i, .int j] ∧ (-(2 ^ 62) ≤ i ∧ i < 2 ^ 62 ∧ -(2 ^ 62) ≤ j ∧ j < 2 ^ 62) ∧ R (Itr i (j - i).toNat) H1
theorem pi_range1 {a : Expr} {ta : TA} {p pos : Pos} (hg : Gl X "range") (hm : X.mg "range" = none) (ha : PA X [a] ta) (hs : starEach [a] X.env = [(false, eval a X.env)] := by rfl) : PI X tg (.Call (.Name "range" p) [a] [] pos) (iRng1 ta) := by
  intro pins s σ H R I h
  refine Call_ (ld_blt I hg hm boot_range (PyProof.Rows.callWith_type1 (thn (ha pos pins s σ H _ I h) fun us s1 ⟨vs, H1, I1, r1, q1⟩ => ?_) hs rfl))
  obtain ⟨j, e, q1, q2, q⟩ := q1
  subst e
  cases r1 with
  | cons r rr =>
    cases rr
    obtain ⟨t, rfl⟩ := r
    exact call_range_1 (range_it I1 (by omega) (by omega) q1 q2 (by simpa using q))
theorem pi_range2 {a b : Expr} {ta : TA} {p pos : Pos} (hg : Gl X "range") (hm : X.mg "range" = none) (ha : PA X [a, b] ta) (hs : starEach [a, b] X.env = [(false, eval a X.env), (false, eval b X.env)] := by rfl) (hs2 : starEach [b] X.env = [(false, eval b X.env)] := by rfl) :
    PI X tg (.Call (.Name "range" p) [a, b] [] pos) (iRng2 ta) := by
  intro pins s σ H R I h
  refine Call_ (ld_blt I hg hm boot_range (PyProof.Rows.callWith_type1 (thn (ha pos pins s σ H _ I h) fun us s1 ⟨vs, H1, I1, r1, q1⟩ => ?_) (by rw [hs, hs2]) (by rw [hs2]; rfl)))
  obtain ⟨i, j, e, ⟨q1, q2, q3, q4⟩, q⟩ := q1
  subst e
  cases r1 with
  | cons r rr =>
    cases rr with
    | cons r' rr =>
      cases rr
      obtain ⟨t, rfl⟩ := r
      obtain ⟨t', rfl⟩ := r'
      exact call_range_2 (range_it I1 q1 q2 q3 q4 q)

/-! ### for -/
/-- W: the invariant by the turn and a measure; N: what the body is to reach -/
def tFor (wi : TI) (g : TG) (tb : TS) : TS := fun D σ H => wi σ H fun J H1 => ∃ W : Nat → Nat → St → Hp → Prop, (∃ m, W 0 m σ H1) ∧ ∀ i m σ H, W i m σ H →
  (J.stop i H ∧ D.nx σ H) ∨ (J.go i H ∧ ∃ N : St → Hp → Prop, (∀ σ' H', N σ' H' → ∃ m', m' < m ∧ W (i + 1) m' σ' H') ∧ ∀ x H', J.yld i H x H' → g x σ H' fun σ2 H2 => tb { D with nx := N, ct := N, bk := D.nx } σ2 H2)
/-- the records at fp as they stand -/
def pinsAt (fp : List Addr) (h : Heap) : List (Addr × Obj) := fp.filterMap fun b => (h.get? b).map fun o => (b, o)
theorem mem_pinsAt {fp : List Addr} {h : Heap} {b : Addr} {o : Obj} (hb : b ∈ fp) (e : h.get? b = some o) : (b, o) ∈ pinsAt fp h := List.mem_filterMap.mpr ⟨b, hb, by rw [e]; rfl⟩
theorem of_pinsAt {fp : List Addr} {h : Heap} {p : Addr × Obj} (hp : p ∈ pinsAt fp h) : p.1 ∈ fp ∧ h.get? p.1 = some p.2 := by
  obtain ⟨b, hb, e⟩ := List.mem_filterMap.mp hp
  cases q : h.get? b with
  | none => rw [q] at e; cases e
  | some o =>
    rw [q] at e
    have e' : (b, o) = p := Option.some.inj e
    subst e'
    exact ⟨hb, q⟩
theorem Inv.pinned {pins : List (Addr × Obj)} {σ : St} {H : Hp} {s : Shared} {fp : List Addr} (I : Inv X pins σ H s) (hf : ∀ b ∈ fp, FpOk X pins H b) (ho : ∀ b ∈ fp, ∃ o, s.heap.get? b = some o ∧ ∀ v, o.data ≠ .cell v) : Inv X (pins ++ pinsAt fp s.heap) σ H s :=
  I.pins_of fun p hp => (List.mem_append.mp hp).elim (fun z => I.pin p (List.mem_append_right _ z)) fun z => by
    obtain ⟨hb, e⟩ := of_pinsAt z
    obtain ⟨f0, f1, f2, _⟩ := hf p.1 hb
    obtain ⟨o, e', d⟩ := ho p.1 hb
    rw [e] at e'; cases e'
    exact ⟨e, f0, f1, f2, d⟩
theorem Inv.unpinned {pins pl : List (Addr × Obj)} {σ : St} {H : Hp} {s : Shared} (I : Inv X (pins ++ pl) σ H s) : Inv X pins σ H s := I.pins_of fun p hp => I.pin p (List.mem_append_right _ (List.mem_append_left _ hp))
theorem ps_for {iter : Expr} {body : List Stmt} {wi : TI} {g : TG} {tb : TS} {pos : Pos} (hp : PassesOwn (model X.prog X.w) X.A X.env X.xe) (hc : X.calm = true) (hi : PI X tg iter wi) (hg : PG X tg g) (hb : PSs X body tb)
    (hs : ∀ x, foldedSetIterable iter X.env x = pure x := by intro _; rfl) : PS X (.For tg iter body [] pos) (tFor wi g tb) := by
  intro pins s σ H D I h
  refine wpAny_For (thn (hi pins s σ H _ I h) fun v s1 h1 => thn h1 fun itv s2 h2 => ?_) hs
  obtain ⟨it, fp, tn, J, H2, e, I2, T, st2, f2, W, ⟨m0, w0⟩, turn⟩ := h2
  subst e
  -- what stays true of the iterator's objects through the loop
  have stat : ∀ {H' : Hp}, (∀ b ∈ fp, H' b = none) → ∀ b ∈ fp, FpOk X pins H' b := fun hn b hb => ⟨hn b hb, (f2 b hb).2⟩
  refine codeAny_forLoop_any (fun n s' => ∃ i σ' H', Inv X pins σ' H' s' ∧ tn i s'.heap ∧ (∀ b ∈ fp, H' b = none) ∧ W i n σ' H') ?_ m0 ⟨0, σ, H2, I2, st2, fun b hb => (f2 b hb).1, w0⟩
  rintro n s3 ⟨i, σ3, H3, I3, st3, fr3, w3⟩
  rcases turn i n σ3 H3 w3 with ⟨stop, qn⟩ | ⟨go, N, hN, step⟩
  · refine wpAny_passesOwn hp (thn (T.done X rfl rfl rfl hc i pins s3 σ3 H3 X.xe I3 (stat fr3) st3 stop) fun r s4 ⟨hr, I4⟩ => ?_)
    subst hr
    exact wpAny_execs_nil ⟨σ3, H3, I4, qn⟩
  · refine wpAny_passesOwn hp (thn (T.item X rfl rfl rfl hc i pins s3 σ3 H3 X.xe I3 (stat fr3) st3 go) fun r s4 ⟨u, hr, h4⟩ => ?_)
    subst hr
    refine wpAny_passesOwn hp (thn h4 fun _ s5 ⟨x, H5, I5, r5, y5, st5, fr5⟩ => ?_)
    have I5' := I5.pinned (stat fr5) (T.obj _ _ st5)
    refine wpAny_passesOwn hp (thn (hg _ s5 σ3 H5 x u _ I5' r5 (step x H5 y5)) fun _ s6 ⟨σ6, H6, I6, q6⟩ => ?_)
    refine wpAny_passesOwn hp (thn (hb _ s6 σ6 H6 _ I6 q6) fun f s7 q7 => ?_)
    have again : ∀ {σ7 : St} {H7 : Hp}, Inv X (pins ++ pinsAt fp s5.heap) σ7 H7 s7 → N σ7 H7 → ∃ m, m < n ∧ ∃ i σ' H', Inv X pins σ' H' s7 ∧ tn i s7.heap ∧ (∀ b ∈ fp, H' b = none) ∧ W i m σ' H' := fun {σ7 H7} I7 n7 => by
      obtain ⟨m', hm, w7⟩ := hN σ7 H7 n7
      refine ⟨m', hm, i + 1, σ7, H7, I7.unpinned, T.keep _ _ _ st5 fun b hb o e => (I7.pin (b, o) (List.mem_append_right _ (List.mem_append_right _ (mem_pinsAt hb e)))).1, fun b hb => ?_, w7⟩
      obtain ⟨o, e, d⟩ := T.obj _ _ st5 b hb
      exact (I7.pin (b, o) (List.mem_append_right _ (List.mem_append_right _ (mem_pinsAt hb e)))).2.1
    cases f with
    | next => obtain ⟨σ7, H7, I7, n7⟩ := q7; exact again I7 n7
    | cont => obtain ⟨σ7, H7, I7, n7⟩ := q7; exact again I7 n7
    | brk => obtain ⟨σ7, H7, I7, q7⟩ := q7; exact ⟨σ7, H7, I7.unpinned, q7⟩
    | ret v => obtain ⟨x7, σ7, H7, I7, r7, q7⟩ := q7; exact ⟨x7, σ7, H7, I7.unpinned, r7, q7⟩
end

/-! ### the forms one uses -/
/-- over a list that the body leaves as it is -/
theorem for_list {K : PySem.W.Frag} {a : Addr} {xs : List V} {g : TG} {tb : TS} {D : Ends} {σ : St} {H : Hp} (Pv : Nat → St → Hp → Prop) (h0 : Pv 0 σ H) (hl : ∀ i σ H, i ≤ xs.length → Pv i σ H → SqL K H a xs)
    (hs : ∀ i x σ H, xs[i]? = some x → Pv i σ H → g x σ H fun σ2 H2 => tb { D with nx := Pv (i + 1), ct := Pv (i + 1), bk := D.nx } σ2 H2) (hd : ∀ σ H, Pv xs.length σ H → D.nx σ H) :
    ∃ W : Nat → Nat → St → Hp → Prop, (∃ m, W 0 m σ H) ∧ ∀ i m σ H, W i m σ H →
      ((Itl K a).stop i H ∧ D.nx σ H) ∨ ((Itl K a).go i H ∧ ∃ N : St → Hp → Prop, (∀ σ' H', N σ' H' → ∃ m', m' < m ∧ W (i + 1) m' σ' H') ∧ ∀ x H', (Itl K a).yld i H x H' → g x σ H' fun σ2 H2 => tb { D with nx := N, ct := N, bk := D.nx } σ2 H2) := by
  refine ⟨fun i m σ H => m = xs.length - i ∧ i ≤ xs.length ∧ Pv i σ H, ⟨xs.length, by simp, Nat.zero_le _, h0⟩, ?_⟩
  rintro i m σ H ⟨rfl, hi, p⟩
  have q := hl i σ H hi p
  by_cases hlt : i < xs.length
  · refine .inr ⟨⟨xs, xs[i], q, by simp [hlt]⟩, Pv (i + 1), fun σ' H' p' => ⟨xs.length - (i + 1), by omega, rfl, hlt, p'⟩, fun x H' y => ?_⟩
    obtain ⟨e, y⟩ := y
    subst e
    exact hs i x σ _ (y xs q) p
  · have e : i = xs.length := by omega
    subst e
    exact .inl ⟨⟨xs, q, Nat.le_refl _⟩, hd σ H p⟩
theorem for_tup {K : PySem.W.Frag} {a : Addr} {xs : List V} {g : TG} {tb : TS} {D : Ends} {σ : St} {H : Hp} (Pv : Nat → St → Hp → Prop) (h0 : Pv 0 σ H) (hl : ∀ i σ H, i ≤ xs.length → Pv i σ H → SqT K H a xs)
    (hs : ∀ i x σ H, xs[i]? = some x → Pv i σ H → g x σ H fun σ2 H2 => tb { D with nx := Pv (i + 1), ct := Pv (i + 1), bk := D.nx } σ2 H2) (hd : ∀ σ H, Pv xs.length σ H → D.nx σ H) :
    ∃ W : Nat → Nat → St → Hp → Prop, (∃ m, W 0 m σ H) ∧ ∀ i m σ H, W i m σ H →
      ((Itt K a).stop i H ∧ D.nx σ H) ∨ ((Itt K a).go i H ∧ ∃ N : St → Hp → Prop, (∀ σ' H', N σ' H' → ∃ m', m' < m ∧ W (i + 1) m' σ' H') ∧ ∀ x H', (Itt K a).yld i H x H' → g x σ H' fun σ2 H2 => tb { D with nx := N, ct := N, bk := D.nx } σ2 H2) := by
  refine ⟨fun i m σ H => m = xs.length - i ∧ i ≤ xs.length ∧ Pv i σ H, ⟨xs.length, by simp, Nat.zero_le _, h0⟩, ?_⟩
  rintro i m σ H ⟨rfl, hi, p⟩
  have q := hl i σ H hi p
  by_cases hlt : i < xs.length
  · refine .inr ⟨⟨xs, xs[i], q, by simp [hlt]⟩, Pv (i + 1), fun σ' H' p' => ⟨xs.length - (i + 1), by omega, rfl, hlt, p'⟩, fun x H' y => ?_⟩
    obtain ⟨e, y⟩ := y
    subst e
    exact hs i x σ _ (y xs q) p
  · have e : i = xs.length := by omega
    subst e
    exact .inl ⟨⟨xs, q, Nat.le_refl _⟩, hd σ H p⟩
theorem for_range {lo : Int} {n : Nat} {g : TG} {tb : TS} {D : Ends} {σ : St} {H : Hp} (Pv : Nat → St → Hp → Prop) (h0 : Pv 0 σ H)
    (hs : ∀ i σ H, i < n → Pv i σ H → g (.int (lo + i)) σ H fun σ2 H2 => tb { D with nx := Pv (i + 1), ct := Pv (i + 1), bk := D.nx } σ2 H2) (hd : ∀ σ H, Pv n σ H → D.nx σ H) :
    ∃ W : Nat → Nat → St → Hp → Prop, (∃ m, W 0 m σ H) ∧ ∀ i m σ H, W i m σ H →
      ((Itr lo n).stop i H ∧ D.nx σ H) ∨ ((Itr lo n).go i H ∧ ∃ N : St → Hp → Prop, (∀ σ' H', N σ' H' → ∃ m', m' < m ∧ W (i + 1) m' σ' H') ∧ ∀ x H', (Itr lo n).yld i H x H' → g x σ H' fun σ2 H2 => tb { D with nx := N, ct := N, bk := D.nx } σ2 H2) := by
  refine ⟨fun i m σ H => m = n - i ∧ i ≤ n ∧ Pv i σ H, ⟨n, by simp, Nat.zero_le _, h0⟩, ?_⟩
  rintro i m σ H ⟨rfl, hi, p⟩
  by_cases hlt : i < n
  · refine .inr ⟨hlt, Pv (i + 1), fun σ' H' p' => ⟨n - (i + 1), by omega, rfl, hlt, p'⟩, fun x H' y => ?_⟩
    obtain ⟨e, y⟩ := y
    subst e y
    exact hs i σ _ hlt p
  · have e : i = n := by omega
    subst e
    exact .inl ⟨Nat.le_refl _, hd σ H p⟩
/-- while, by a word and a measure of the state -/
theorem while_by {c : TT} {tb : TS} {D : Ends} {σ : St} {H : Hp} (Pv : St → Hp → Prop) (μ : St → Hp → Nat) (h0 : Pv σ H)
    (hs : ∀ σ H, Pv σ H → c σ H fun b H1 => if b = true then tb { D with nx := fun σ' H' => Pv σ' H' ∧ μ σ' H' < μ σ H, ct := fun σ' H' => Pv σ' H' ∧ μ σ' H' < μ σ H, bk := D.nx } σ H1 else D.nx σ H1)
    (mono : ∀ σ H Q Q', (∀ b H1, Q b H1 → Q' b H1) → c σ H Q → c σ H Q') : tWhile c tb D σ H := by
  refine ⟨fun m σ H => m = μ σ H ∧ Pv σ H, ⟨_, rfl, h0⟩, ?_⟩
  rintro m σ H ⟨rfl, p⟩
  refine mono σ H _ _ (fun b H1 q => ?_) (hs σ H p)
  cases b with
  | true => exact ⟨_, fun σ' H' ⟨p', l⟩ => ⟨_, l, rfl, p'⟩, q⟩
  | false => exact q
end L2

namespace L2
open PySem PySem.Spec PyProof.Rows

abbrev R2 := V → V → Hp → VK → Prop
/-- a two-place operation on values: f is binaryOp op, inplaceOp op or compareOp op -/
def OpR (X : Cx) (f : Value → Value → Sem Value) (r : R2) : Prop :=
  ∀ (pins : List (Addr × Obj)) (s : Shared) (σ : St) (H : Hp) (x y : V) (v u : Value) (Q : VK), Inv X pins σ H s → RelV x v → RelV y u → r x y H Q →
    wpAny (model X.prog X.w) X.A (f v u) (EP X pins σ Q) X.xe s
/-- a one-place operation -/
def UnR (X : Cx) (f : Value → Sem Value) (r : V → Hp → VK → Prop) : Prop :=
  ∀ (pins : List (Addr × Obj)) (s : Shared) (σ : St) (H : Hp) (x : V) (v : Value) (Q : VK), Inv X pins σ H s → RelV x v → r x H Q →
    wpAny (model X.prog X.w) X.A (f v) (EP X pins σ Q) X.xe s
/-- a call of a value that is known (a builtin, a type) with values -/
def CallR (X : Cx) (f : Value) (r : List V → Hp → VK → Prop) : Prop :=
  ∀ (pins : List (Addr × Obj)) (s : Shared) (σ : St) (H : Hp) (xs : List V) (us : List Value) (Q : VK), Inv X pins σ H s → Vals xs us → r xs H Q →
    wpAny (model X.prog X.w) X.A (call f us) (EP X pins σ Q) X.xe s
/-- a value's truth -/
def TruR (X : Cx) (r : V → Hp → (Bool → Hp → Prop) → Prop) : Prop :=
  ∀ (pins : List (Addr × Obj)) (s : Shared) (σ : St) (H : Hp) (x : V) (v : Value) (Q : Bool → Hp → Prop), Inv X pins σ H s → RelV x v → r x H Q →
    wpAny (model X.prog X.w) X.A (truthy v) (TP X pins σ Q) X.xe s

def tOp (r : R2) (ta tb : TE) : TE := fun σ H Q => ta σ H fun x H1 => tb σ H1 fun y H2 => r x y H2 Q
def tUn (r : V → Hp → VK → Prop) (ta : TE) : TE := fun σ H Q => ta σ H fun x H1 => r x H1 Q
/-- ints in, under C, and a value out -/
def rI (C : Int → Int → Prop) (g : Int → Int → V) : R2 := fun x y H Q => ∃ i j, x = .int i ∧ y = .int j ∧ C i j ∧ Q (g i j) H
def rI0 (g : Int → Int → V) : R2 := fun x y H Q => ∃ i j, x = .int i ∧ y = .int j ∧ Q (g i j) H
def rU (g : Int → V) : V → Hp → VK → Prop := fun x H Q => ∃ i, x = .int i ∧ Q (g i) H

section
variable {X : Cx} {a b c : Expr} {ta tb tc : TE} {pos : Pos}

theorem binT (ha : PE X a ta) (hb : PE X b tb) {pins : List (Addr × Obj)} {s : Shared} {σ : St} {H : Hp} {R : V → V → Hp → Prop} (I : Inv X pins σ H s)
    (h : ta σ H fun x H1 => tb σ H1 fun y H2 => R x y H2) {Q : Value → Shared → Prop} {f : Value → Value → Sem Value}
    (hf : ∀ v u s2 x y H2, Inv X pins σ H2 s2 → RelV x v → RelV y u → R x y H2 → wpAny (model X.prog X.w) X.A (f v u) Q X.xe s2) :
    wpAny (model X.prog X.w) X.A (eval a X.env) (fun v s₁ => wpAny (model X.prog X.w) X.A (eval b X.env) (fun u s₂ => wpAny (model X.prog X.w) X.A (f v u) Q X.xe s₂) X.xe s₁) X.xe s := by
  refine thn (ha pins s σ H _ I h) fun v s1 ⟨x, H1, I1, r1, q1⟩ => ?_
  refine thn (hb pins s1 σ H1 _ I1 q1) fun u s2 ⟨y, H2, I2, r2, q2⟩ => ?_
  exact hf v u s2 x y H2 I2 r1 r2 q2

theorem pe_op {op : Operator} {r : R2} (ho : OpR X (binaryOp op) r) (ha : PE X a ta) (hb : PE X b tb) : PE X (.BinOp a op b pos) (tOp r ta tb) := by
  intro pins s σ H Q I h
  exact wpAny_BinOp (binT ha hb I h fun v u s2 x y H2 I2 rx ry q => ho pins s2 σ H2 x y v u Q I2 rx ry q)
theorem pe_un {op : UnaryOp} {r : V → Hp → VK → Prop} (ho : UnR X (unaryOp op) r) (ha : PE X a ta) : PE X (.UnaryOp op a pos) (tUn r ta) := by
  intro pins s σ H Q I h
  exact UnaryOp_ (thn (ha pins s σ H _ I h) fun v s1 ⟨x, H1, I1, r1, q1⟩ => ho pins s1 σ H1 x v Q I1 r1 q1)
/-- a op= e at a name: the name's slot i -/
theorem augR {op : Operator} {r : R2} (ho : OpR X (inplaceOp op) r) {pins : List (Addr × Obj)} {s : Shared} {σ : St} {H : Hp} {x y : V} {v u : Value} {Q : VK} (I : Inv X pins σ H s)
    (rx : RelV x v) (ry : RelV y u) (q : r x y H Q) : wpAny (model X.prog X.w) X.A (inplaceOp op v u) (EP X pins σ Q) X.xe s := ho pins s σ H x y v u Q I rx ry q

/-! ### ints -/
theorem opI {f : Value → Value → Sem Value} {C : Int → Int → Prop} {g : Int → Int → Int}
    (rule : ∀ (i j : Int) (t u : Tok) (s : Shared) (Q : Value → Shared → Prop) (E : Value → Shared → Prop), C i j → Q (.int (g i j) s.toks) { s with toks := s.toks + 1 } → wpAny (model X.prog X.w) X.A (f (.int i t) (.int j u)) Q E s) :
    OpR X f (rI C fun i j => .int (g i j)) := by
  intro pins s σ H x y v u Q I rx ry h
  obtain ⟨i, j, rfl, rfl, hc, q⟩ := h
  obtain ⟨t, rfl⟩ := rx
  obtain ⟨t', rfl⟩ := ry
  exact rule i j t t' s _ _ hc ⟨.int (g i j), H, I.tok _, ⟨_, rfl⟩, q⟩
theorem opI0 {f : Value → Value → Sem Value} {g : Int → Int → Int}
    (rule : ∀ (i j : Int) (t u : Tok) (s : Shared) (Q : Value → Shared → Prop) (E : Value → Shared → Prop), Q (.int (g i j) s.toks) { s with toks := s.toks + 1 } → wpAny (model X.prog X.w) X.A (f (.int i t) (.int j u)) Q E s) :
    OpR X f (rI0 fun i j => .int (g i j)) := by
  intro pins s σ H x y v u Q I rx ry h
  obtain ⟨i, j, rfl, rfl, q⟩ := h
  obtain ⟨t, rfl⟩ := rx
  obtain ⟨t', rfl⟩ := ry
  exact rule i j t t' s _ _ ⟨.int (g i j), H, I.tok _, ⟨_, rfl⟩, q⟩
theorem opB0 {f : Value → Value → Sem Value} {g : Int → Int → Bool}
    (rule : ∀ (i j : Int) (t u : Tok) (s : Shared) (Q : Value → Shared → Prop) (E : Value → Shared → Prop), Q (.bool (g i j)) s → wpAny (model X.prog X.w) X.A (f (.int i t) (.int j u)) Q E s) :
    OpR X f (rI0 fun i j => .bl (g i j)) := by
  intro pins s σ H x y v u Q I rx ry h
  obtain ⟨i, j, rfl, rfl, q⟩ := h
  obtain ⟨t, rfl⟩ := rx
  obtain ⟨t', rfl⟩ := ry
  exact rule i j t t' s _ _ ⟨.bl (g i j), H, I, rfl, q⟩

def CDiv (i j : Int) : Prop := 0 < j ∧ j < 1073741824
def CDivN (i j : Int) : Prop := j ≠ 0 ∧ j.natAbs < 1073741824
def CPow (i j : Int) : Prop := 0 ≤ j ∧ j ≤ 1000000 ∧ i.natAbs < 2 ^ 64
def CMul (i j : Int) : Prop := (-(2 ^ 64) < i ∧ i < 2 ^ 64) ∨ (-(2 ^ 64) < j ∧ j < 2 ^ 64)
theorem CMul.ok {i j : Int} (h : CMul i j) : IntMulOk i j := by
  rcases h with ⟨h1, h2⟩ | ⟨h1, h2⟩
  · exact .of_left (intBits_le_64 h1 h2)
  · exact .of_right (intBits_le_64 h1 h2)
theorem two_pow_nn (k : Nat) : (0 : Int) ≤ 2 ^ k := by
  rw [two_pow_cast]
  exact Int.natCast_nonneg _

theorem op_add : OpR X (binaryOp .Add) (rI0 fun i j => .int (i + j)) := opI0 fun _ _ _ _ _ _ _ q => add_int q
theorem op_sub : OpR X (binaryOp .Sub) (rI0 fun i j => .int (i - j)) := opI0 fun _ _ _ _ _ _ _ q => sub_int q
theorem op_mul : OpR X (binaryOp .Mult) (rI CMul fun i j => .int (i * j)) := opI fun _ _ _ _ _ _ _ hc q => mul_int q hc.ok
/-- // by a positive divisor -/
theorem op_fdiv : OpR X (binaryOp .FloorDiv) (rI CDiv fun i j => .int (i / j)) := opI fun i j _ _ _ _ _ hc q => by
  have h1 : (0 : Int) < j := hc.1
  have h2 : j < 1073741824 := hc.2
  exact floordiv_int (by omega) (by rw [Int.fdiv_eq_ediv_of_nonneg i (by omega)]; exact q) (.inl (PyProof.noPylong_small (by omega)))
theorem op_fdivN : OpR X (binaryOp .FloorDiv) (rI CDivN fun i j => .int (i.fdiv j)) := opI fun _ _ _ _ _ _ _ hc q => floordiv_int hc.1 q (.inl (PyProof.noPylong_small hc.2))
/-- % by a positive divisor of any size -/
theorem op_mod : OpR X (binaryOp .Mod) (rI (fun _ j => 0 < j) fun i j => .int (i % j)) := opI fun i j _ _ _ _ _ hc q => by
  have h1 : (0 : Int) < j := hc
  exact mod_int' (by omega) (by rw [Int.fmod_eq_emod_of_nonneg i (by omega)]; exact q)
theorem op_modN : OpR X (binaryOp .Mod) (rI (fun _ j => j ≠ 0) fun i j => .int (i.fmod j)) := opI fun _ _ _ _ _ _ _ hc q => mod_int' hc q
theorem op_pow : OpR X (binaryOp .Pow) (rI CPow fun i j => .int (i ^ j.toNat)) := opI fun _ _ _ _ _ _ _ hc q => pow_int_small hc.1 hc.2.1 hc.2.2 q
theorem op_shl : OpR X (binaryOp .LShift) (rI CPow fun i j => .int (i * 2 ^ j.toNat)) := opI fun _ _ _ _ _ _ _ hc q => lshift_int_small hc.1 hc.2.1 hc.2.2 q
theorem op_shr : OpR X (binaryOp .RShift) (rI (fun _ j => 0 ≤ j) fun i j => .int (i / 2 ^ j.toNat)) := opI fun i j _ _ _ _ _ hc q =>
  rshift_int hc (by rw [Int.fdiv_eq_ediv_of_nonneg i (two_pow_nn _)]; exact q)
theorem op_and : OpR X (binaryOp .BitAnd) (rI0 fun i j => .int (Builtin.bitAnd i j)) := opI0 fun _ _ _ _ _ _ _ q => and_int q
theorem op_or : OpR X (binaryOp .BitOr) (rI0 fun i j => .int (Builtin.bitOr i j)) := opI0 fun _ _ _ _ _ _ _ q => or_int q
theorem op_xor : OpR X (binaryOp .BitXor) (rI0 fun i j => .int (Builtin.bitXor i j)) := opI0 fun _ _ _ _ _ _ _ q => xor_int q

theorem iop_add : OpR X (inplaceOp .Add) (rI0 fun i j => .int (i + j)) := opI0 fun _ _ _ _ _ _ _ q => iadd_int q
theorem iop_sub : OpR X (inplaceOp .Sub) (rI0 fun i j => .int (i - j)) := opI0 fun _ _ _ _ _ _ _ q => isub_int q
theorem iop_mul : OpR X (inplaceOp .Mult) (rI CMul fun i j => .int (i * j)) := opI fun _ _ _ _ _ _ _ hc q => imul_int q hc.ok
theorem iop_fdiv : OpR X (inplaceOp .FloorDiv) (rI CDiv fun i j => .int (i / j)) := opI fun i j _ _ _ _ _ hc q => by
  have h1 : (0 : Int) < j := hc.1
  have h2 : j < 1073741824 := hc.2
  exact ifloordiv_int (by omega) (by rw [Int.fdiv_eq_ediv_of_nonneg i (by omega)]; exact q) (.inl (PyProof.noPylong_small (by omega)))
theorem iop_mod : OpR X (inplaceOp .Mod) (rI (fun _ j => 0 < j) fun i j => .int (i % j)) := opI fun i j _ _ _ _ _ hc q => by
  have h1 : (0 : Int) < j := hc
  exact imod_int (by omega) (by rw [Int.fmod_eq_emod_of_nonneg i (by omega)]; exact q)
theorem iop_shl : OpR X (inplaceOp .LShift) (rI CPow fun i j => .int (i * 2 ^ j.toNat)) := opI fun _ _ _ _ _ _ _ hc q => ilshift_int_small hc.1 hc.2.1 hc.2.2 q
theorem iop_shr : OpR X (inplaceOp .RShift) (rI (fun _ j => 0 ≤ j) fun i j => .int (i / 2 ^ j.toNat)) := opI fun i j _ _ _ _ _ hc q =>
  irshift_int hc (by rw [Int.fdiv_eq_ediv_of_nonneg i (two_pow_nn _)]; exact q)
theorem iop_and : OpR X (inplaceOp .BitAnd) (rI0 fun i j => .int (Builtin.bitAnd i j)) := opI0 fun _ _ _ _ _ _ _ q => iand_int q
theorem iop_or : OpR X (inplaceOp .BitOr) (rI0 fun i j => .int (Builtin.bitOr i j)) := opI0 fun _ _ _ _ _ _ _ q => ior_int q
theorem iop_xor : OpR X (inplaceOp .BitXor) (rI0 fun i j => .int (Builtin.bitXor i j)) := opI0 fun _ _ _ _ _ _ _ q => ixor_int q

theorem unI {f : Value → Sem Value} {g : Int → Int}
    (rule : ∀ (i : Int) (t : Tok) (s : Shared) (Q : Value → Shared → Prop) (E : Value → Shared → Prop), Q (.int (g i) s.toks) { s with toks := s.toks + 1 } → wpAny (model X.prog X.w) X.A (f (.int i t)) Q E s) :
    UnR X f (rU fun i => .int (g i)) := by
  intro pins s σ H x v Q I rx h
  obtain ⟨i, rfl, q⟩ := h
  obtain ⟨t, rfl⟩ := rx
  exact rule i t s _ _ ⟨.int (g i), H, I.tok _, ⟨_, rfl⟩, q⟩
theorem un_neg : UnR X (unaryOp .USub) (rU fun i => .int (-i)) := unI fun _ _ _ _ _ q => neg_int q
theorem un_inv : UnR X (unaryOp .Invert) (rU fun i => .int (Builtin.bitNot i)) := unI fun _ _ _ _ _ q => invert_int q

/-! ### bools among ints: n += (a < b) -/
theorem op_add_ib : OpR X (binaryOp .Add) (fun x y H Q => ∃ i k, x = .int i ∧ y = .bl k ∧ Q (.int (i + b2i k)) H) := by
  intro pins s σ H x y v u Q I rx ry h
  obtain ⟨i, k, rfl, rfl, q⟩ := h
  obtain ⟨t, rfl⟩ := rx
  cases ry
  exact add_int_bool ⟨.int (i + b2i k), H, I.tok _, ⟨_, rfl⟩, q⟩
end

/-! ### comparisons -/
/-- the scalars that == tells apart as data does -/
def scal : V → V → Bool
  | .non, .non => true | .non, .int _ => true | .int _, .non => true | .non, .bl _ => true | .bl _, .non => true | .non, .str _ => true | .str _, .non => true
  | .int _, .int _ => true | .bl _, .bl _ => true | .str _, .str _ => true | .byt _, .byt _ => true
  | .int _, .str _ => true | .str _, .int _ => true | .bl _, .str _ => true | .str _, .bl _ => true
  | _, _ => false
def rEq : R2 := fun x y H Q => scal x y = true ∧ Q (.bl (decide (x = y))) H
def rNe : R2 := fun x y H Q => scal x y = true ∧ Q (.bl (!decide (x = y))) H

theorem dec_int {i j : Int} : decide (V.int i = V.int j) = (i == j) := by
  rw [Bool.eq_iff_iff]
  simp
theorem dec_bl {i j : Bool} : decide (V.bl i = V.bl j) = (i == j) := by
  rw [Bool.eq_iff_iff]
  simp
theorem dec_str {i j : Str} : decide (V.str i = V.str j) = (i == j) := by
  rw [Bool.eq_iff_iff]
  simp
theorem dec_byt {i j : Array UInt8} : decide (V.byt i = V.byt j) = (i.toList == j.toList) := by
  rw [Bool.eq_iff_iff]
  cases i
  cases j
  simp

section
variable {X : Cx} {a b c : Expr} {ta tb tc : TE} {pos : Pos}
theorem fin_bl {pins : List (Addr × Obj)} {σ : St} {H : Hp} {s : Shared} {Q : VK} {k k' : Bool} (I : Inv X pins σ H s) (q : Q (.bl k) H) (e : k = k') : EP X pins σ Q (.bool k') s := by
  subst e
  exact ⟨.bl k, H, I, rfl, q⟩
theorem op_eq : OpR X (compareOp .Eq) rEq := by
  intro pins s σ H x y v u Q I rx ry h
  obtain ⟨hs, q⟩ := h
  cases x with
  | non =>
    cases rx
    cases y with
    | non => cases ry; exact PySem.EqNone.eq_none_none (fin_bl I q (by simp))
    | bl j => cases ry; exact PySem.EqNone.eq_none_bool (fin_bl I q (by simp))
    | int j => obtain ⟨t', rfl⟩ := ry; exact PySem.EqNone.eq_none_int (fin_bl I q (by simp))
    | str j => obtain ⟨t', rfl⟩ := ry; exact PySem.EqNone.eq_none_str (fin_bl I q (by simp))
    | _ => exact absurd (show false = true from hs) Bool.false_ne_true
  | bl i =>
    cases rx
    cases y with
    | non => cases ry; exact PySem.EqNone.eq_bool_none (fin_bl I q (by simp))
    | bl j => cases ry; exact eq_bool (fin_bl I q dec_bl)
    | str j => obtain ⟨t', rfl⟩ := ry; exact PySem.EqMixed.eq_bool_str (fin_bl I q (by simp))
    | _ => exact absurd (show false = true from hs) Bool.false_ne_true
  | int i =>
    obtain ⟨t, rfl⟩ := rx
    cases y with
    | non => cases ry; exact PySem.EqNone.eq_int_none (fin_bl I q (by simp))
    | int j => obtain ⟨t', rfl⟩ := ry; exact eq_int (fin_bl I q dec_int)
    | str j => obtain ⟨t', rfl⟩ := ry; exact PySem.EqMixed.eq_int_str (fin_bl I q (by simp))
    | _ => exact absurd (show false = true from hs) Bool.false_ne_true
  | str i =>
    obtain ⟨t, rfl⟩ := rx
    cases y with
    | non => cases ry; exact PySem.EqNone.eq_str_none (fin_bl I q (by simp))
    | bl j => cases ry; exact PySem.EqMixed.eq_str_bool (fin_bl I q (by simp))
    | int j => obtain ⟨t', rfl⟩ := ry; exact PySem.EqMixed.eq_str_int (fin_bl I q (by simp))
    | str j => obtain ⟨t', rfl⟩ := ry; exact eq_str (fin_bl I q dec_str)
    | _ => exact absurd (show false = true from hs) Bool.false_ne_true
  | byt i =>
    obtain ⟨t, rfl⟩ := rx
    cases y with
    | byt j => obtain ⟨t', rfl⟩ := ry; exact PySem.W.eq_bytes (fin_bl I q dec_byt)
    | _ => exact absurd (show false = true from hs) Bool.false_ne_true
  | _ => cases y <;> exact absurd (show false = true from hs) Bool.false_ne_true
theorem op_ne : OpR X (compareOp .NotEq) rNe := by
  intro pins s σ H x y v u Q I rx ry h
  obtain ⟨hs, q⟩ := h
  cases x with
  | non =>
    cases rx
    cases y with
    | non => cases ry; exact PySem.EqNone.ne_none_none (fin_bl I q (by simp))
    | bl j => cases ry; exact PySem.EqNone.ne_none_bool (fin_bl I q (by simp))
    | int j => obtain ⟨t', rfl⟩ := ry; exact PySem.EqNone.ne_none_int (fin_bl I q (by simp))
    | str j => obtain ⟨t', rfl⟩ := ry; exact PySem.EqNone.ne_none_str (fin_bl I q (by simp))
    | _ => exact absurd (show false = true from hs) Bool.false_ne_true
  | bl i =>
    cases rx
    cases y with
    | non => cases ry; exact PySem.EqNone.ne_bool_none (fin_bl I q (by simp))
    | bl j => cases ry; exact ne_bool (fin_bl I q (congrArg not dec_bl))
    | str j => obtain ⟨t', rfl⟩ := ry; exact PySem.EqMixed.ne_bool_str (fin_bl I q (by simp))
    | _ => exact absurd (show false = true from hs) Bool.false_ne_true
  | int i =>
    obtain ⟨t, rfl⟩ := rx
    cases y with
    | non => cases ry; exact PySem.EqNone.ne_int_none (fin_bl I q (by simp))
    | int j => obtain ⟨t', rfl⟩ := ry; exact ne_int (fin_bl I q (congrArg not dec_int))
    | str j => obtain ⟨t', rfl⟩ := ry; exact PySem.EqMixed.ne_int_str (fin_bl I q (by simp))
    | _ => exact absurd (show false = true from hs) Bool.false_ne_true
  | str i =>
    obtain ⟨t, rfl⟩ := rx
    cases y with
    | non => cases ry; exact PySem.EqNone.ne_str_none (fin_bl I q (by simp))
    | bl j => cases ry; exact PySem.EqMixed.ne_str_bool (fin_bl I q (by simp))
    | int j => obtain ⟨t', rfl⟩ := ry; exact PySem.EqMixed.ne_str_int (fin_bl I q (by simp))
    | str j => obtain ⟨t', rfl⟩ := ry; exact ne_str (fin_bl I q (congrArg not dec_str))
    | _ => exact absurd (show false = true from hs) Bool.false_ne_true
  | byt i =>
    obtain ⟨t, rfl⟩ := rx
    cases y with
    | byt j => obtain ⟨t', rfl⟩ := ry; exact PySem.W.ne_bytes (fin_bl I q (congrArg not dec_byt))
    | _ => exact absurd (show false = true from hs) Bool.false_ne_true
  | _ => cases y <;> exact absurd (show false = true from hs) Bool.false_ne_true

theorem op_lt : OpR X (compareOp .Lt) (rI0 fun i j => .bl (decide (i < j))) := opB0 fun _ _ _ _ _ _ _ q => lt_int q
theorem op_le : OpR X (compareOp .LtE) (rI0 fun i j => .bl (decide (i ≤ j))) := opB0 fun _ _ _ _ _ _ _ q => le_int q
theorem op_gt : OpR X (compareOp .Gt) (rI0 fun i j => .bl (decide (j < i))) := opB0 fun _ _ _ _ _ _ _ q => gt_int q
theorem op_ge : OpR X (compareOp .GtE) (rI0 fun i j => .bl (decide (j ≤ i))) := opB0 fun _ _ _ _ _ _ _ q => ge_int q
theorem op_lt_str : OpR X (compareOp .Lt) (fun x y H Q => ∃ i j, x = .str i ∧ y = .str j ∧ Q (.bl (decide (i.cps.toList < j.cps.toList))) H) := by
  intro pins s σ H x y v u Q I rx ry h
  obtain ⟨i, j, rfl, rfl, q⟩ := h
  obtain ⟨t, rfl⟩ := rx
  obtain ⟨t', rfl⟩ := ry
  exact lt_str (fin_bl I q rfl)
/-- the one string within the other -/
theorem op_in_str : OpR X (compareOp .In) (fun x y H Q => ∃ i j, x = .str i ∧ y = .str j ∧ Q (.bl (!(Builtin.Str.occurrences j i 0 j.length 1).isEmpty)) H) := by
  intro pins s σ H x y v u Q I rx ry h
  obtain ⟨i, j, rfl, rfl, q⟩ := h
  obtain ⟨t, rfl⟩ := rx
  obtain ⟨t', rfl⟩ := ry
  exact in_str (fin_bl I q rfl)

/-- is None, is not None: the right side a value none -/
theorem op_isN : OpR X (compareOp .Is) (fun x y H Q => y = .non ∧ Q (.bl (decide (x = .non))) H) := by
  intro pins s σ H x y v u Q I rx ry h
  obtain ⟨rfl, q⟩ := h
  cases ry
  refine is_none_gen (fin_bl I q ?_)
  cases x <;> first
    | (cases rx; rfl)
    | (obtain ⟨t, rfl⟩ := rx; rfl)
theorem op_notN : OpR X (compareOp .IsNot) (fun x y H Q => y = .non ∧ Q (.bl (!decide (x = .non))) H) := by
  intro pins s σ H x y v u Q I rx ry h
  obtain ⟨rfl, q⟩ := h
  cases ry
  refine isnot_none_gen (fin_bl I q ?_)
  cases x <;> first
    | (cases rx; rfl)
    | (obtain ⟨t, rfl⟩ := rx; rfl)

theorem op_notin_str : OpR X (compareOp .NotIn) (fun x y H Q => ∃ i j, x = .str i ∧ y = .str j ∧ Q (.bl (!(!(Builtin.Str.occurrences j i 0 j.length 1).isEmpty))) H) := by
  intro pins s σ H x y v u Q I rx ry h
  obtain ⟨i, j, rfl, rfl, q⟩ := h
  obtain ⟨t, rfl⟩ := rx
  obtain ⟨t', rfl⟩ := ry
  exact notIn_str (fin_bl I q rfl)
/-- is, is not of two objects that are tracked lists or instances -/
def isObj : HO → Bool
  | .lst _ => true
  | .ins _ _ _ => true
  | _ => false
theorem obj_there {pins : List (Addr × Obj)} {s : Shared} {σ : St} {H : Hp} {a : Addr} {o : HO} (I : Inv X pins σ H s) (h : H a = some o) (p : isObj o = true) : ∃ ob, s.heap.get? a = some ob ∧ ob.cls ≠ .type "tuple" := by
  cases o with
  | lst xs =>
    obtain ⟨_, its, n, _, e⟩ : xs.length ≤ sizeLine ∧ ∃ (its : List Value) (n : Nat), Vals xs its ∧ s.heap.get? a = some { cls := .type "list", data := .seq its.toArray n } := I.hok a _ h
    exact ⟨_, e, (by show Value.type "list" ≠ .type "tuple"; decide +kernel)⟩
  | ins C dx fs =>
    have x := I.hok a _ h
    obtain ⟨_, _, _, e, _⟩ := x
    exact ⟨_, e, (by show Value.ref C ≠ .type "tuple"; exact fun z => by cases z)⟩
  | _ => exact absurd (show false = true from p) Bool.false_ne_true
theorem op_is_ref : OpR X (compareOp .Is) (fun x y H Q => ∃ a b oa ob, x = .ref a ∧ y = .ref b ∧ H a = some oa ∧ isObj oa = true ∧ H b = some ob ∧ isObj ob = true ∧ Q (.bl (decide (a = b))) H) := by
  intro pins s σ H x y v u Q I rx ry h
  obtain ⟨a, b, oa, ob, rfl, rfl, ha, pa, hb, pb, q⟩ := h
  cases rx
  cases ry
  obtain ⟨o1, e1, n1⟩ := obj_there I ha pa
  obtain ⟨o2, e2, _⟩ := obj_there I hb pb
  by_cases z : a = b
  · subst z
    exact wpAny_is_ref_self (fin_bl I q (by simp))
  · exact wpAny_is_ref_other z e1 e2 n1 (fin_bl I q (by simp [z]))
theorem op_isnot_ref : OpR X (compareOp .IsNot) (fun x y H Q => ∃ a b oa ob, x = .ref a ∧ y = .ref b ∧ H a = some oa ∧ isObj oa = true ∧ H b = some ob ∧ isObj ob = true ∧ Q (.bl (!decide (a = b))) H) := by
  intro pins s σ H x y v u Q I rx ry h
  obtain ⟨a, b, oa, ob, rfl, rfl, ha, pa, hb, pb, q⟩ := h
  cases rx
  cases ry
  obtain ⟨o1, e1, n1⟩ := obj_there I ha pa
  obtain ⟨o2, e2, _⟩ := obj_there I hb pb
  by_cases z : a = b
  · subst z
    exact wpAny_isNot_ref_self (fin_bl I q (by simp))
  · exact wpAny_isNot_ref_other z e1 e2 n1 (fin_bl I q (by simp [z]))

/-- two rules for one operation: by cases -/
theorem OpR.or {f : Value → Value → Sem Value} {r r' : R2} (h : OpR X f r) (h' : OpR X f r') : OpR X f (fun x y H Q => r x y H Q ∨ r' x y H Q) := by
  intro pins s σ H x y v u Q I rx ry q
  rcases q with q | q
  · exact h pins s σ H x y v u Q I rx ry q
  · exact h' pins s σ H x y v u Q I rx ry q

theorem nomark (b : Expr) {op : CmpOp} (h : op ≠ .In := by decide) (h2 : op ≠ .NotIn := by decide) : behindInMarks op b = false := by
  have e1 : (op == CmpOp.In) = false := by cases op <;> first | rfl | exact absurd rfl h
  have e2 : (op == CmpOp.NotIn) = false := by cases op <;> first | rfl | exact absurd rfl h2
  cases b <;> simp [behindInMarks, e1, e2]
/-- a comparison as a value; hm: nomark b, or (for in, not in) by with_unfolding_all rfl -/
theorem pe_cmpR {op : CmpOp} {r : R2} (ho : OpR X (compareOp op) r) (ha : PE X a ta) (hb : PE X b tb) (hm : behindInMarks op b = false) : PE X (.Compare a [op] [b] pos) (tOp r ta tb) := by
  intro pins s σ H Q I h
  exact wpAny_Compare1 (binT ha hb I h fun v u s2 x y H2 I2 rx ry q => ho pins s2 σ H2 x y v u Q I2 rx ry q) hm
/-- a reading of a value as a test -/
def tTest (t : TE) : TT := fun σ H Q => t σ H fun x H' => ∃ k, x = .bl k ∧ Q k H'
theorem pt_cmpR {op : CmpOp} {r : R2} (ho : OpR X (compareOp op) r) (ha : PE X a ta) (hb : PE X b tb) (hm : behindInMarks op b = false) : PT X (.Compare a [op] [b] pos) (tTest (tOp r ta tb)) := by
  intro pins s σ H Q I h
  refine wpAny_isTrue_Compare1 (thn (ha pins s σ H _ I h) fun v s1 ⟨x, H1, I1, r1, q1⟩ => thn (hb pins s1 σ H1 _ I1 q1) fun u s2 ⟨y, H2, I2, r2, q2⟩ =>
    thn (ho pins s2 σ H2 x y v u _ I2 r1 r2 q2) fun c s3 ⟨z, H3, I3, r3, k, e, q3⟩ => ?_) hm
  subst e
  cases r3
  exact wpAny_truthy_bool ⟨H3, I3, q3⟩
/-- a op1 b op2 c -/
def tChain (r r' : R2) (ta tb tc : TE) : TE := fun σ H Q => ta σ H fun x H1 => tb σ H1 fun y H2 => r x y H2 fun z H3 => ∃ k, z = .bl k ∧
  (if k = true then tc σ H3 fun w' H4 => r' y w' H4 Q else Q (.bl false) H3)
theorem pe_chain {op op' : CmpOp} {r r' : R2} (ho : OpR X (compareOp op) r) (ho' : OpR X (compareOp op') r') (ha : PE X a ta) (hb : PE X b tb) (hc : PE X c tc)
    (hm : lastMarks [op, op'] [b, c] = false := by with_unfolding_all rfl) : PE X (.Compare a [op, op'] [b, c] pos) (tChain r r' ta tb tc) := by
  intro pins s σ H Q I h
  refine Compare_chain (thn (ha pins s σ H _ I h) fun v s1 ⟨x, H1, I1, r1, q1⟩ => chain_link (thn (hb pins s1 σ H1 _ I1 q1) fun u s2 ⟨y, H2, I2, r2, q2⟩ =>
    thn (ho pins s2 σ H2 x y v u _ I2 r1 r2 q2) fun d s3 ⟨z, H3, I3, r3, k, e, q3⟩ => ?_)) hm
  subst e
  cases r3
  refine wpAny_truthy_bool ?_
  cases k with
  | false => exact ite_ff ⟨.bl false, H3, I3, rfl, q3⟩
  | true => exact ite_tt (chain_last (thn (hc pins s3 σ H3 _ I3 q3) fun w' s4 ⟨z', H4, I4, r4, q4⟩ => ho' pins s4 σ H4 y z' u w' Q I4 r2 r4 q4))
theorem pt_chain {op op' : CmpOp} {r r' : R2} (ho : OpR X (compareOp op) r) (ho' : OpR X (compareOp op') r') (ha : PE X a ta) (hb : PE X b tb) (hc : PE X c tc)
    (hm : lastMarks [op, op'] [b, c] = false := by with_unfolding_all rfl) : PT X (.Compare a [op, op'] [b, c] pos) (tTest (tChain r r' ta tb tc)) := by
  intro pins s σ H Q I h
  refine isTrue_chain (thn (ha pins s σ H _ I h) fun v s1 ⟨x, H1, I1, r1, q1⟩ => test_link (thn (hb pins s1 σ H1 _ I1 q1) fun u s2 ⟨y, H2, I2, r2, q2⟩ =>
    thn (ho pins s2 σ H2 x y v u _ I2 r1 r2 q2) fun d s3 ⟨z, H3, I3, r3, k, e, q3⟩ => ?_)) hm
  subst e
  cases r3
  refine wpAny_truthy_bool ?_
  cases k with
  | false =>
    obtain ⟨k', e', q'⟩ := q3
    cases e'
    exact ite_ff ⟨H3, I3, q'⟩
  | true =>
    refine ite_tt (test_last (thn (hc pins s3 σ H3 _ I3 q3) fun w' s4 ⟨z', H4, I4, r4, q4⟩ => thn (ho' pins s4 σ H4 y z' u w' _ I4 r2 r4 q4) fun d' s5 ⟨z2, H5, I5, r5, k2, e2, q5⟩ => ?_))
    subst e2
    cases r5
    exact wpAny_truthy_bool ⟨H5, I5, q5⟩

/-! ### truth -/
/-- a value's truth by the abstract heap -/
def TruV (K : PySem.W.Frag) (x : V) (H : Hp) (k : Bool) : Prop :=
  match x with
  | .non => k = false
  | .bl b => k = b
  | .int i => k = (i != 0)
  | .str y => y.length ≤ sizeLine ∧ k = ((y.length : Int) != 0)
  | .byt y => y.size ≤ sizeLine ∧ k = ((y.size : Int) != 0)
  | .ref p => (∃ xs, SqL K H p xs ∧ k = !xs.isEmpty) ∨ (∃ xs, SqT K H p xs ∧ k = !xs.isEmpty) ∨ ∃ kvs, H p = some (.dK kvs) ∧ k = !kvs.isEmpty
  | _ => False
theorem isEmpty_kv {κ : Type} {kvs : List (κ × V)} {vs : List (κ × Value)} (r : KV kvs vs) : (!vs.isEmpty) = !kvs.isEmpty := by
  cases r <;> rfl
theorem isEmpty_of {xs : List V} {its : List Value} (r : Vals xs its) : (!its.toArray.isEmpty) = !xs.isEmpty := by
  cases r <;> simp
theorem line63 : (sizeLine : Nat) < 2 ^ 63 := by rw [sizeLine_eq]; decide
theorem tru_ok : TruR X (fun x H Q => ∃ k, TruV X.K x H k ∧ Q k H) := by
  intro pins s σ H x v Q I rx h
  obtain ⟨k, e, q⟩ := h
  have hl := line63
  have hs : sizeLine = 16777216 := sizeLine_eq
  cases x with
  | non =>
    cases rx
    have e' : k = false := e
    subst e'
    exact truthy_none ⟨H, I, q⟩
  | bl b =>
    cases rx
    have e' : k = b := e
    subst e'
    exact wpAny_truthy_bool ⟨H, I, q⟩
  | int i =>
    obtain ⟨t, rfl⟩ := rx
    have e' : k = (i != 0) := e
    subst e'
    exact PySem.P.truthy_int ⟨H, I, q⟩
  | str y =>
    obtain ⟨t, rfl⟩ := rx
    obtain ⟨hy, e'⟩ : y.length ≤ sizeLine ∧ k = ((y.length : Int) != 0) := e
    subst e'
    exact PySem.P.truthy_str (by omega) ⟨H, I.tok _, q⟩
  | byt y =>
    obtain ⟨t, rfl⟩ := rx
    obtain ⟨hy, e'⟩ : y.size ≤ sizeLine ∧ k = ((y.size : Int) != 0) := e
    subst e'
    exact PySem.W.truthy_bytes (by omega) ⟨H, I.tok _, q⟩
  | ref p =>
    cases rx
    have e' : (∃ xs, SqL X.K H p xs ∧ k = !xs.isEmpty) ∨ (∃ xs, SqT X.K H p xs ∧ k = !xs.isEmpty) ∨ ∃ kvs, H p = some (.dK kvs) ∧ k = !kvs.isEmpty := e
    rcases e' with ⟨xs, hx, e'⟩ | ⟨xs, hx, e'⟩ | ⟨kvs, hx, e'⟩
    · subst e'
      obtain ⟨its, r, pl, hz⟩ := I.list hx
      have hlen := r.length
      exact wpAny_truthy_list pl.isList (by simp only [List.size_toArray]; omega) ⟨H, I.tok _, by rw [isEmpty_of r]; exact q⟩
    · subst e'
      obtain ⟨its, r, pl, hz⟩ := I.tuple hx
      have hlen := r.length
      exact truthy_tuple pl (by simp only [List.size_toArray]; omega) ⟨H, I.tok _, by rw [isEmpty_of r]; exact q⟩
    · subst e'
      obtain ⟨hz, hS, vs, r, m⟩ : kvs.length ≤ sizeLine ∧ (p == sysModules) = false ∧ ∃ vs, KV kvs vs ∧ s.heap.DictOf (mixKind X.prog X.w) p vs := I.hok p _ hx
      have hlen : kvs.length = vs.length := Paired.length r
      exact wpAny_truthy_dict hS m (by omega) ⟨H, I.tok _, by rw [isEmpty_kv r]; exact q⟩
  | _ => exact (show False from e).elim
/-- any expression whose test is its value's truth (a name, a call, a subscript, a field ..: he by fun _ => rfl) -/
theorem pt_truth (ha : PE X a ta) (he : ∀ whole, isTrue a X.env whole = (do let v ← whole; standAt a.pos; holding [v] (truthy v))) :
    PT X a (fun σ H Q => ta σ H fun x H' => ∃ k, TruV X.K x H' k ∧ Q k H') := by
  intro pins s σ H Q I h
  exact isTrue_plain (thn (ha pins s σ H _ I h) fun v s1 ⟨x, H1, I1, r1, q1⟩ => tru_ok pins s1 σ H1 x v Q I1 r1 q1) (he _)

/-! ### strs and bytes -/
theorem pe_byt {x : List UInt8} {k : Nat} : PE X (.Constant (.bytes x) k pos) (fun _ H Q => Q (.byt x.toArray) H) := fun _ _ _ H _ I h => PySem.W.Constant_bytes ⟨.byt x.toArray, H, I.tok _, ⟨_, rfl⟩, h⟩
theorem op_add_str : OpR X (binaryOp .Add) (fun x y H Q => ∃ i j, x = .str i ∧ y = .str j ∧ i.length + j.length ≤ sizeLine ∧ Q (.str (i ++ j)) H) := by
  intro pins s σ H x y v u Q I rx ry h
  obtain ⟨i, j, rfl, rfl, hz, q⟩ := h
  obtain ⟨t, rfl⟩ := rx
  obtain ⟨t', rfl⟩ := ry
  exact add_str (fun t' tk => ⟨.str (i ++ j), H, I.tok _, ⟨_, rfl⟩, q⟩) hz
theorem iop_add_str : OpR X (inplaceOp .Add) (fun x y H Q => ∃ i j, x = .str i ∧ y = .str j ∧ i.length + j.length ≤ sizeLine ∧ Q (.str (i ++ j)) H) := by
  intro pins s σ H x y v u Q I rx ry h
  obtain ⟨i, j, rfl, rfl, hz, q⟩ := h
  obtain ⟨t, rfl⟩ := rx
  obtain ⟨t', rfl⟩ := ry
  exact iadd_str (fun t' tk => ⟨.str (i ++ j), H, I.tok _, ⟨_, rfl⟩, q⟩) hz
def PlainIxT (b : Expr) : Prop := ∀ o i, subscripted b false o i = operate [o, i] (getItem o i)
/-- s[i], 0 ≤ i < len -/
theorem pe_item_str (ha : PE X a ta) (hb : PE X b tb) (hs : PlainIxT b) :
    PE X (.Subscript a b pos) (tOp (fun x y H Q => ∃ z i c, x = .str z ∧ y = .int i ∧ 0 ≤ i ∧ i < 2 ^ 63 ∧ i < z.length ∧ z.cps[i.toNat]? = some c ∧ Q (.str ⟨#[c]⟩) H) ta tb) := by
  intro pins s σ H Q I h
  refine Subscript_ (binT ha hb I h fun v u s2 x y H2 I2 rx ry q => ?_)
  obtain ⟨z, i, c, rfl, rfl, h0, h63, h1, hc, q⟩ := q
  obtain ⟨t, rfl⟩ := rx
  obtain ⟨t', rfl⟩ := ry
  have e : seqIndex? i z.length = some i.toNat := PySem.StrLaws.seqIndex_nonneg h0 h1
  exact tail_any (typeIs_str s2 z t) slot_str_getitem.lookup (getItem_str (c := c) (by
    have e1 : decide (i < -(2 ^ 63 : Int)) = false := decide_eq_false (by omega)
    have e2 : decide (i ≥ 2 ^ 63) = false := decide_eq_false (by omega)
    rw [e1, e2] <;> rfl) (by rw [e]; exact hc) ⟨.str ⟨#[c]⟩, H2, I2.tok _, ⟨_, rfl⟩, q⟩) (hs _ _)
/-- b[i], 0 ≤ i < len -/
theorem pe_item_byt (ha : PE X a ta) (hb : PE X b tb) (hs : PlainIxT b) :
    PE X (.Subscript a b pos) (tOp (fun x y H Q => ∃ (z : List UInt8) (i : Int), x = .byt z.toArray ∧ y = .int i ∧ z.length ≤ sizeLine ∧ 0 ≤ i ∧ i < z.length ∧ Q (.int ((z.getD i.toNat 0).toNat : Nat)) H) ta tb) := by
  intro pins s σ H Q I h
  refine Subscript_ (binT ha hb I h fun v u s2 x y H2 I2 rx ry q => ?_)
  obtain ⟨z, i, rfl, rfl, hz, h0, h1, q⟩ := q
  obtain ⟨t, rfl⟩ := rx
  obtain ⟨t', rfl⟩ := ry
  have hl : sizeLine = 16777216 := sizeLine_eq
  exact tail_any (PySem.W.typeIs_bytes s2 z.toArray t) PySem.W.FB.slot_bytes_getitem.lookup (PySem.W.getItem_bytes (by omega) h0 h1 ⟨.int ((z.getD i.toNat 0).toNat : Nat), H2, I2.tok _, ⟨_, rfl⟩, q⟩) (hs _ _)

/-! ### scalar builtins, by CallR -/
theorem vals1 {x : V} {us : List Value} (r : Vals [x] us) : ∃ u, us = [u] ∧ RelV x u := by
  cases r with
  | cons r1 r2 => cases r2; exact ⟨_, rfl, r1⟩
theorem vals2 {x y : V} {us : List Value} (r : Vals [x, y] us) : ∃ u w', us = [u, w'] ∧ RelV x u ∧ RelV y w' := by
  cases r with
  | cons r1 r2 =>
    cases r2 with
    | cons r3 r4 => cases r4; exact ⟨_, _, rfl, r1, r3⟩
theorem call_abs : CallR X (.builtin "abs") (fun xs H Q => ∃ i, xs = [.int i] ∧ Q (.int (if i < 0 then -i else i)) H) := by
  intro pins s σ H xs us Q I r h
  obtain ⟨i, rfl, q⟩ := h
  obtain ⟨u, rfl, t, rfl⟩ := vals1 r
  exact call_abs_int fun u tk => ⟨.int (if i < 0 then -i else i), H, I.tok _, ⟨_, rfl⟩, q⟩
theorem call_max2 (hc : X.calm = true) : CallR X (.builtin "max") (fun xs H Q => ∃ i j, xs = [.int i, .int j] ∧ Q (.int (if j > i then j else i)) H) := by
  intro pins s σ H xs us Q I r h
  obtain ⟨i, j, rfl, q⟩ := h
  obtain ⟨u, w', rfl, ⟨t, rfl⟩, ⟨t', rfl⟩⟩ := vals2 r
  refine max_two_ints (I.ok.hd hc) fun h' tk k => ⟨_, H, I.kept k, ?_, q⟩
  by_cases hj : j > i
  · rw [if_pos hj, if_pos hj]; exact ⟨_, rfl⟩
  · rw [if_neg hj, if_neg hj]; exact ⟨_, rfl⟩
theorem call_min2 (hc : X.calm = true) : CallR X (.builtin "min") (fun xs H Q => ∃ i j, xs = [.int i, .int j] ∧ Q (.int (if j < i then j else i)) H) := by
  intro pins s σ H xs us Q I r h
  obtain ⟨i, j, rfl, q⟩ := h
  obtain ⟨u, w', rfl, ⟨t, rfl⟩, ⟨t', rfl⟩⟩ := vals2 r
  refine min_two_ints (I.ok.hd hc) fun h' tk k => ⟨_, H, I.kept k, ?_, q⟩
  by_cases hj : j < i
  · rw [if_pos hj, if_pos hj]; exact ⟨_, rfl⟩
  · rw [if_neg hj, if_neg hj]; exact ⟨_, rfl⟩
theorem call_int1 : CallR X (.type "int") (fun xs H Q => (∃ i, xs = [.int i] ∧ Q (.int i) H) ∨ ∃ k, xs = [.bl k] ∧ Q (.int (if k then 1 else 0)) H) := by
  intro pins s σ H xs us Q I r h
  rcases h with ⟨i, rfl, q⟩ | ⟨k, rfl, q⟩
  · obtain ⟨u, rfl, t, rfl⟩ := vals1 r
    exact call_int_int ⟨.int i, H, I, ⟨_, rfl⟩, q⟩
  · obtain ⟨u, rfl, r1⟩ := vals1 r
    cases r1
    exact call_int_bool ⟨.int (if k then 1 else 0), H, I.tok _, ⟨_, rfl⟩, q⟩
theorem call_bool1 : CallR X (.type "bool") (fun xs H Q => (∃ i, xs = [.int i] ∧ Q (.bl (i != 0)) H) ∨ ∃ k, xs = [.bl k] ∧ Q (.bl k) H) := by
  intro pins s σ H xs us Q I r h
  rcases h with ⟨i, rfl, q⟩ | ⟨k, rfl, q⟩
  · obtain ⟨u, rfl, t, rfl⟩ := vals1 r
    exact call_bool_int ⟨.bl (i != 0), H, I, rfl, q⟩
  · obtain ⟨u, rfl, r1⟩ := vals1 r
    cases r1
    exact call_bool_bool ⟨.bl k, H, I, rfl, q⟩
theorem call_str_int : CallR X (.type "str") (fun xs H Q => ∃ i, xs = [.int i] ∧ i.natAbs.log2 < 1920 ∧ Q (.str (toString i)) H) := by
  intro pins s σ H xs us Q I r h
  obtain ⟨i, rfl, hz, q⟩ := h
  obtain ⟨u, rfl, t, rfl⟩ := vals1 r
  exact PySem.P.str_of_int hz ⟨.str _, H, I.tok _, ⟨_, rfl⟩, q⟩
theorem call_ord : CallR X (.builtin "ord") (fun xs H Q => ∃ x, xs = [.str x] ∧ x.length = 1 ∧ Q (.int (x.cps.getD 0 0 : Nat)) H) := by
  intro pins s σ H xs us Q I r h
  obtain ⟨x, rfl, hz, q⟩ := h
  obtain ⟨u, rfl, t, rfl⟩ := vals1 r
  exact ord_of_one hz ⟨.int _, H, I.tok _, ⟨_, rfl⟩, q⟩
theorem call_chr : CallR X (.builtin "chr") (fun xs H Q => ∃ i, xs = [.int i] ∧ 0 ≤ i ∧ i ≤ 1114111 ∧ Q (.str ⟨#[i.toNat]⟩) H) := by
  intro pins s σ H xs us Q I r h
  obtain ⟨i, rfl, h0, h1, q⟩ := h
  obtain ⟨u, rfl, t, rfl⟩ := vals1 r
  exact chr_of_range h0 h1 ⟨.str _, H, I.tok _, ⟨_, rfl⟩, q⟩
/-- len of a str, a bytes, a list, a tuple -/
def LenV (K : PySem.W.Frag) (x : V) (H : Hp) (n : Nat) : Prop :=
  match x with
  | .str y => y.length ≤ sizeLine ∧ n = y.length
  | .byt y => y.size ≤ sizeLine ∧ n = y.size
  | .ref p => (∃ xs, SqL K H p xs ∧ n = xs.length) ∨ ∃ xs, SqT K H p xs ∧ n = xs.length
  | _ => False
theorem call_len : CallR X (.builtin "len") (fun xs H Q => ∃ x n, xs = [x] ∧ LenV X.K x H n ∧ Q (.int n) H) := by
  intro pins s σ H xs us Q I r h
  obtain ⟨x, n, rfl, e, q⟩ := h
  obtain ⟨u, rfl, rx⟩ := vals1 r
  have hl := line63
  have hs : sizeLine = 16777216 := sizeLine_eq
  cases x with
  | str y =>
    obtain ⟨t, rfl⟩ := rx
    obtain ⟨hy, e'⟩ : y.length ≤ sizeLine ∧ n = y.length := e
    subst e'
    exact len_str (by omega) ⟨.int _, H, I.tok _, ⟨_, rfl⟩, q⟩
  | byt y =>
    obtain ⟨t, rfl⟩ := rx
    obtain ⟨hy, e'⟩ : y.size ≤ sizeLine ∧ n = y.size := e
    subst e'
    exact PySem.W.len_bytes (by omega) ⟨.int _, H, I.tok _, ⟨_, rfl⟩, q⟩
  | ref p =>
    cases rx
    have e' : (∃ xs, SqL X.K H p xs ∧ n = xs.length) ∨ ∃ xs, SqT X.K H p xs ∧ n = xs.length := e
    rcases e' with ⟨xs, hx, e'⟩ | ⟨xs, hx, e'⟩
    · subst e'
      obtain ⟨its, r', pl, hz⟩ := I.list hx
      have hlen := r'.length
      exact Calls.call_len_list pl.isList (by simp only [List.size_toArray]; omega) ⟨.int xs.length, H, I.tok _, ⟨_, by simp only [List.size_toArray]; rw [hlen]⟩, q⟩
    · subst e'
      obtain ⟨its, r', pl, hz⟩ := I.tuple hx
      have hlen := r'.length
      exact len_tuple pl (by simp only [List.size_toArray]; omega) ⟨.int xs.length, H, I.tok _, ⟨_, by simp only [List.size_toArray]; rw [hlen]⟩, q⟩
  | _ => exact (show False from e).elim
/-- divmod: a new tuple -/
theorem call_divmod : CallR X (.builtin "divmod") (fun xs H Q => ∃ i j, xs = [.int i, .int j] ∧ CDiv i j ∧ ∀ p, H p = none → Q (.ref p) (upd H p (.tup [.int (i / j), .int (i % j)]))) := by
  intro pins s σ H xs us Q I r h
  obtain ⟨i, j, rfl, ⟨h1, h2⟩, q⟩ := h
  obtain ⟨u, w', rfl, ⟨t, rfl⟩, ⟨t', rfl⟩⟩ := vals2 r
  refine divmod_int (by omega) ?_ (.inl (PyProof.noPylong_small (by omega)))
  rw [Int.fdiv_eq_ediv_of_nonneg i (by omega), Int.fmod_eq_emod_of_nonneg i (by omega)]
  have hn : H s.heap.objs.size = none := I.hok.fresh (Nat.le_refl _)
  refine ⟨.ref s.heap.objs.size, _, ?_, rfl, q _ hn⟩
  refine I.laid (fun b o e => Heap.get?_push_of_some _ e) (Nat.le_refl _) ⟨by simp only [List.length_cons, List.length_nil]; rw [sizeLine_eq]; decide, [.int (i / j) s.toks, .int (i % j) (s.toks + 1)], .cons ⟨_, rfl⟩ (.cons ⟨_, rfl⟩ .nil), ?_⟩
  exact ⟨_, Heap.get?_push_size s.heap rfl, rfl, 0, rfl⟩
end
end L2

namespace L2
open PySem PySem.Spec PyProof.Rows

/-! ### an instance, its attributes a map -/
structure ObjM (h : Heap) (x dx C : Addr) (mA : Str → Option Value) : Prop where
  obj : h.get? x = some (PySem.W.instObj C dx)
  ns : h.Ns1 dx mA
  ne : dx ≠ x

theorem lookIn_ns {h : Heap} {dx : Addr} {mA : Str → Option Value} (n : h.Ns1 dx mA) : ∃ od, h.get? dx = some od ∧ ∀ name, PySem.W.lookIn name od = some (mA name) := by
  obtain ⟨o, es, ep, ho, hd, hk, _, hm⟩ := n
  refine ⟨o, ho, fun name => ?_⟩
  have e := hm name
  unfold nsFind findBy at e
  rw [← Array.find?_toList] at e
  unfold PySem.W.lookIn
  rw [hd]
  dsimp only
  split
  · rename_i y q
    rw [q] at e
    exact congrArg some e
  · rename_i q
    rw [q] at e
    have a : es.toList.any (·.refKey) = false := by
      rw [List.any_eq_false]
      intro y hy
      obtain ⟨z, t, hkey⟩ := hk y (Array.mem_toList_iff.mp hy)
      simp [DictEntry.refKey, hkey]
    have a' : ¬ es.toList.any (·.refKey) = true := by rw [a]; exact Bool.false_ne_true
    rw [if_neg a']
    exact congrArg some e

theorem ObjM.look {h : Heap} {x dx C : Addr} {mA : Str → Option Value} (I : ObjM h x dx C mA) : ∃ od, PySem.W.InstAt h x (PySem.W.instObj C dx) C (some od) ∧ ∀ name, PySem.W.lookIn name od = some (mA name) :=
  let ⟨od, ho, hl⟩ := lookIn_ns I.ns
  ⟨od, ⟨I.obj, rfl, rfl, ho⟩, hl⟩

section
variable {prog : Program} {w : World} {A : Around} {E : Value → Shared → Prop} {s : Shared} {K : PySem.W.Frag} {x dx C f : Addr} {mA : Str → Option Value} {name : Str} {v : Value}

theorem get_map {expr : Bool} {Q : Value → Shared → Prop} (X : K.In s.heap) (I : ObjM s.heap x dx C mA) (hg : PySem.W.plainGet K C name = true) (hh : PySem.W.hasDictIn K C = true)
    (ha : PySem.W.findIn K (.ref C) name = some none) (hv : mA name = some v) (hv' : PySem.W.handedIn v = true) (h : Q v { s with toks := s.toks + 1 }) :
    wpAny (model prog w) A (getAttr (.ref x) name expr) Q E s := by
  obtain ⟨od, J, hl⟩ := I.look
  exact PySem.W.get_value X J (PySem.W.plainGet_of hg).1 (PySem.W.findObj_own hh ha rfl (by rw [hl, hv])) hv' h

theorem get_const {expr : Bool} {a : Value} {Q : Value → Shared → Prop} (X : K.In s.heap) (I : ObjM s.heap x dx C mA) (hg : PySem.W.plainGet K C name = true) (hh : PySem.W.hasDictIn K C = true)
    (ha : PySem.W.findIn K (.ref C) name = some (some a)) (hn : PySem.W.specialIn K a "__get__" = some none) (hc : PySem.W.copiedNames.contains name = false) (hv : mA name = none) (hv' : PySem.W.handedIn a = true)
    (h : Q a { s with toks := s.toks + 1 }) : wpAny (model prog w) A (getAttr (.ref x) name expr) Q E s := by
  obtain ⟨od, J, hl⟩ := I.look
  exact PySem.W.get_value X J (PySem.W.plainGet_of hg).1 (PySem.W.findObj_cls hh ha hn hv' hc (by rw [hl, hv])) hv' h

theorem get_meth {pl : Sem Bool} {Q : Value × List Value → Shared → Prop} (X : K.In s.heap) (I : ObjM s.heap x dx C mA) (hg : PySem.W.plainGet K C name = true)
    (hf : PySem.W.findIn K (.ref C) name = some (some (.ref f))) (ht : PySem.W.isFn K (.ref f) = true) (hv : mA name = none) (h : Q (.ref f, [.ref x]) s) :
    wpAny (model prog w) A (getMethod (.ref x) name pl) Q E s := by
  obtain ⟨od, J, hl⟩ := I.look
  exact PySem.W.method_fn X J (PySem.W.plainGet_of hg).1 (PySem.W.plainGet_of hg).2 hf (beq_iff_eq.mp ht) (by show (PySem.W.lookIn name od).map (·.isSome) = some false; rw [hl, hv]; rfl) h

theorem set_map {ns : List Str} {Q : Unit → Shared → Prop} (X : K.In s.heap) (I : ObjM s.heap x dx C mA)
    (hs : PySem.W.findIn K (.ref C) "__setattr__" = some (some (.builtin "object.__setattr__"))) (hp : PySem.W.plainOver K C = true) (ht : PySem.W.takerIn K C name = some none) (hh : PySem.W.hasDictIn K C = true)
    (hw : PySem.Within mA ns) (hsz : ns.length ≤ sizeLine)
    (h : ∀ h', ObjM h' x dx C (fun y => if y = name then some v else mA y) → Heap.SameBut dx s.heap h' → Q () { s with heap := h', toks := s.toks + 2 }) :
    wpAny (model prog w) A (setAttr (.ref x) name v) Q E s := by
  obtain ⟨od, J, hl⟩ := I.look
  refine PySem.W.set_plain X J hs (PySem.W.osa_open (s := { s with toks := s.toks + 1 }) (r := none) X J hp ht fun b => ?_)
  obtain ⟨cd, hc, hd'⟩ := PySem.W.any_some hh
  have hx : s.heap.get? x = some ⟨.ref C, some dx, .plain, #[]⟩ := I.obj
  refine wpAny_bind (wpAny_pure (wpAny_bind (wpAny_bind (wpAny_loadPart hx (wpAny_bind (PySem.W.Looks.here (s := { s with toks := s.toks + 1 }) (PySem.W.looks_clsIn X hc) ?_))))))
  rw [hd']
  refine wpAny_pure (a := some dx) (wpAny_bind (wpAny_pure (wpAny_bind ?_)))
  refine wpAny_nsSet1 (s := { s with toks := s.toks + 1 }) I.ns fun h' hn2 hs2 => ?_
  obtain ⟨oD, esD, epD, hoD, hdD, hcD⟩ := hn2.count (PySem.Within.cons name v hw)
  refine wpAny_bind (wpAny_lookBehind hoD (by rw [hdD]; exact pastItsLine_dict (Nat.le_trans hcD (by rw [List.length_cons]; omega))) ?_)
  exact wpAny_pure (h _ ⟨(hs2.2 _ (Ne.symm I.ne)).trans I.obj, hn2, I.ne⟩ hs2)

/-- C(..): the dict at the heap's end, the instance behind it; then its __init__ -/
theorem make_map {R : Result → Shared → Prop} {vs : List Value} {kw : List (Str × Value)} (X : K.In s.heap) (hm : PySem.W.makesIn K C = true)
    (hi : PySem.W.findIn K (.ref C) "__init__" = some (some (.ref f))) (hf : PySem.W.typeIn K (.ref f) = some (.type "function"))
    (h : codeAny (model prog w) (A.under (.builtin "type.__call__" ⟨.ref C :: vs, kw⟩)) (.call (.ref f) ⟨.ref (s.heap.objs.size + 1) :: vs, kw⟩) (PySem.W.InitBack (s.heap.objs.size + 1) R)
      { s with heap := (s.heap.push PySem.W.emptyDict).push (PySem.W.instObj C s.heap.objs.size) }) :
    codeAny (model prog w) A (.call (.ref C) ⟨vs, kw⟩) R s := by
  obtain ⟨hh, g, d, t, os⟩ := s
  exact PySem.W.make_core (PySem.W.makes_of X hm) (PySem.W.looks_findIn X hi) (fun self => PySem.W.bind_fn X self hf) (.inl rfl) h
/-- C() where there is no __init__ but object's -/
theorem make_map0 {R : Result → Shared → Prop} (X : K.In s.heap) (hm : PySem.W.makesIn K C = true)
    (hi : PySem.W.findIn K (.ref C) "__init__" = some (some (.builtin "object.__init__")))
    (hb : ∀ self, PySem.W.Looks (model prog w) s.heap (bindSpecial (.builtin "object.__init__") self) (.builtin "object.__init__", [self]))
    (h : codeAny (model prog w) (A.under (.builtin "type.__call__" ⟨[.ref C], []⟩)) (.call (.builtin "object.__init__") ⟨[.ref (s.heap.objs.size + 1)], []⟩) (PySem.W.InitBack (s.heap.objs.size + 1) R)
      { s with heap := (s.heap.push PySem.W.emptyDict).push (PySem.W.instObj C s.heap.objs.size) }) :
    codeAny (model prog w) A (.call (.ref C) ⟨[], []⟩) R s := by
  obtain ⟨hh, g, d, t, os⟩ := s
  exact PySem.W.make_core (PySem.W.makes_of X hm) (PySem.W.looks_findIn X hi) hb (.inr ⟨rfl, rfl⟩) h
end

/-! ### the attributes as a list of pairs -/
def putF (f : Str) (v : V) : List (Str × V) → List (Str × V)
  | [] => [(f, v)]
  | (g, x) :: r => if g = f then (g, v) :: r else (g, x) :: putF f v r
theorem lookup_putF (f g : Str) (v : V) : ∀ fs : List (Str × V), (putF f v fs).lookup g = if g = f then some v else fs.lookup g
  | [] => by
    show List.lookup g [(f, v)] = _
    by_cases h : g = f
    · have hb : (g == f) = true := beq_iff_eq.mpr h
      simp only [List.lookup, hb, if_pos h]
    · have hb : (g == f) = false := beq_eq_false_iff_ne.mpr h
      simp only [List.lookup, hb, if_neg h]
  | (k, x) :: r => by
    have ih := lookup_putF f g v r
    rw [show putF f v ((k, x) :: r) = (if k = f then (k, v) :: r else (k, x) :: putF f v r) from rfl]
    by_cases hk : k = f
    · rw [if_pos hk]
      by_cases h : g = k
      · have hb : (g == k) = true := beq_iff_eq.mpr h
        simp only [List.lookup, hb, if_pos (h.trans hk)]
      · have hb : (g == k) = false := beq_eq_false_iff_ne.mpr h
        simp only [List.lookup, hb, if_neg (fun e : g = f => h (e.trans hk.symm))]
    · rw [if_neg hk]
      by_cases h : g = k
      · have hb : (g == k) = true := beq_iff_eq.mpr h
        simp only [List.lookup, hb, if_neg (fun e : g = f => hk (h.symm.trans e))]
      · have hb : (g == k) = false := beq_eq_false_iff_ne.mpr h
        simp only [List.lookup, hb]
        exact ih
theorem keys_putF (f : Str) (v : V) : ∀ fs : List (Str × V), f ∈ (putF f v fs).map (·.1) ∧ ∀ g, g ∈ fs.map (·.1) → g ∈ (putF f v fs).map (·.1)
  | [] => ⟨by simp [putF], fun g h => by simp at h⟩
  | (k, x) :: r => by
    obtain ⟨i1, i2⟩ := keys_putF f v r
    rw [show putF f v ((k, x) :: r) = (if k = f then (k, v) :: r else (k, x) :: putF f v r) from rfl]
    by_cases hk : k = f
    · rw [if_pos hk]
      subst hk
      exact ⟨by simp, fun g h => by simpa using h⟩
    · rw [if_neg hk]
      refine ⟨?_, fun g h => ?_⟩
      · rw [List.map_cons]
        exact List.mem_cons_of_mem _ i1
      · rw [List.map_cons] at h ⊢
        rcases List.mem_cons.mp h with e | e
        · exact List.mem_cons.mpr (.inl e)
        · exact List.mem_cons_of_mem _ (i2 g e)
theorem length_putF (f : Str) (v : V) : ∀ fs : List (Str × V), (putF f v fs).length ≤ fs.length + 1
  | [] => by simp [putF]
  | (k, x) :: r => by
    have ih := length_putF f v r
    rw [show putF f v ((k, x) :: r) = (if k = f then (k, v) :: r else (k, x) :: putF f v r) from rfl]
    by_cases hk : k = f
    · rw [if_pos hk, List.length_cons, List.length_cons]; omega
    · rw [if_neg hk, List.length_cons, List.length_cons]; omega

theorem RelO.some_of {v : V} {o : Option Value} (r : RelO (some v) o) : ∃ u, o = some u ∧ RelV v u := by
  cases o with
  | none => exact (show False from r).elim
  | some u => exact ⟨u, rfl, r⟩
theorem RelO.none_of {o : Option Value} (r : RelO none o) : o = none := by
  cases o with
  | none => rfl
  | some u => exact (show False from r).elim
theorem handed_of {v : V} {u : Value} (r : RelV v u) : PySem.W.handedIn u = true := by
  cases v with
  | non => cases (show u = Value.none from r); rfl
  | bl b => cases (show u = Value.bool b from r); rfl
  | int i => obtain ⟨t, e⟩ := (show ∃ t, u = Value.int i t from r); cases e; rfl
  | str x => obtain ⟨t, e⟩ := (show ∃ t, u = Value.str x t from r); cases e; rfl
  | byt b => obtain ⟨t, e⟩ := (show ∃ t, u = Value.bytes b t from r); cases e; rfl
  | flt b => obtain ⟨t, e⟩ := (show ∃ t, u = Value.float b t from r); cases e; rfl
  | ref a => cases (show u = Value.ref a from r); rfl
  | ty n => cases (show u = Value.type n from r); rfl

section
variable {P : Program} {w : World} {H H' : Hp} {h h' : Heap} {a C dx : Addr} {fs fs' : List (Str × V)}
theorem ins_get (hok : HOk P w H h) (e : H a = some (.ins C dx fs)) : ∃ mA, ObjM h a dx C mA ∧ (∀ f, RelO (fs.lookup f) (mA f)) ∧ PySem.Within mA (fs.map (·.1)) ∧ fs.length ≤ 1000 ∧ H dx = some (.own a) := by
  obtain ⟨d, z, ne, ob, mA, n, r, q⟩ := (show ObjOk P w H h a (.ins C dx fs) from hok a _ e)
  exact ⟨mA, ⟨ob, n, ne⟩, r, q, z, d⟩
end

/-! ### what of the text a class must have -/
structure Cls (K : PySem.W.Frag) (C : Addr) : Prop where
  pg : PySem.W.plainGet K C Str.empty = true
  hd : PySem.W.hasDictIn K C = true
  po : PySem.W.plainOver K C = true
  sa : PySem.W.findIn K (.ref C) "__setattr__" = some (some (.builtin "object.__setattr__"))
theorem Cls.get {K : PySem.W.Frag} {C : Addr} (c : Cls K C) (f : Str) : PySem.W.plainGet K C f = true := c.pg
/-- no class of it has the name -/
def NoAttr (K : PySem.W.Frag) (C : Addr) (f : Str) : Prop := PySem.W.findIn K (.ref C) f = some none
theorem NoAttr.taker {K : PySem.W.Frag} {C : Addr} {f : Str} (n : NoAttr K C f) : PySem.W.takerIn K C f = some none := by
  unfold PySem.W.takerIn
  rw [show PySem.W.findIn K (.ref C) f = some none from n]
  rfl
/-- a constant of the class -/
structure Con (K : PySem.W.Frag) (C : Addr) (f : Str) (v : V) (u : Value) : Prop where
  at_ : PySem.W.findIn K (.ref C) f = some (some u)
  rel : RelV v u
  get : PySem.W.specialIn K u "__get__" = some none
  cp : PySem.W.copiedNames.contains f = false
/-- a method: a plain def of the class or of one above it -/
structure Meth (K : PySem.W.Frag) (C : Addr) (m : Str) (f : Addr) : Prop where
  at_ : PySem.W.findIn K (.ref C) m = some (some (.ref f))
  fn : PySem.W.isFn K (.ref f) = true
  kp : PySem.W.keepIn K (.ref f) = true

section
variable {X : Cx} {pins : List (Addr × Obj)} {σ : St} {H : Hp} {s : Shared} {a C dx : Addr} {fs : List (Str × V)} {f : Str} {v : V} {A : Around} {E : Value → Shared → Prop}

theorem getattr_ok {b : Bool} {Q : Value → Shared → Prop} (I : Inv X pins σ H s) (e : H a = some (.ins C dx fs)) (c : Cls X.K C) (n : NoAttr X.K C f) (l : fs.lookup f = some v)
    (h : ∀ u s', Inv X pins σ H s' → RelV v u → Q u s') : wpAny (model X.prog X.w) A (getAttr (.ref a) f b) Q E s := by
  obtain ⟨mA, O, r, _, _, _⟩ := ins_get I.hok e
  obtain ⟨u, hu, ru⟩ := RelO.some_of (v := v) (o := mA f) (by rw [← l]; exact r f)
  exact get_map I.kIn O (c.get f) c.hd n hu (handed_of ru) (h u _ (I.tok _) ru)

theorem getcon_ok {b : Bool} {u : Value} {Q : Value → Shared → Prop} (I : Inv X pins σ H s) (e : H a = some (.ins C dx fs)) (c : Cls X.K C) (k : Con X.K C f v u) (l : fs.lookup f = none)
    (h : ∀ s', Inv X pins σ H s' → Q u s') : wpAny (model X.prog X.w) A (getAttr (.ref a) f b) Q E s := by
  obtain ⟨mA, O, r, _, _, _⟩ := ins_get I.hok e
  have hn : mA f = none := RelO.none_of (by rw [← l]; exact r f)
  exact get_const I.kIn O (c.get f) c.hd k.at_ k.get k.cp hn (handed_of k.rel) (h _ (I.tok _))

theorem getmeth_ok {m : Str} {g : Addr} {pl : Sem Bool} {Q : Value × List Value → Shared → Prop} (I : Inv X pins σ H s) (e : H a = some (.ins C dx fs)) (c : Cls X.K C) (k : Meth X.K C m g) (l : fs.lookup m = none)
    (h : Q (.ref g, [.ref a]) s) : wpAny (model X.prog X.w) A (getMethod (.ref a) m pl) Q E s := by
  obtain ⟨mA, O, r, _, _, _⟩ := ins_get I.hok e
  have hn : mA m = none := RelO.none_of (by rw [← l]; exact r m)
  exact get_meth I.kIn O (c.get m) k.at_ k.fn hn h

theorem setattr_ok {y : V} {u : Value} {Q : Unit → Shared → Prop} (I : Inv X pins σ H s) (e : H a = some (.ins C dx fs)) (c : Cls X.K C) (n : NoAttr X.K C f) (hl : fs.length < 1000) (ry : RelV y u)
    (h : ∀ s', Inv X pins σ (upd H a (.ins C dx (putF f y fs))) s' → Q () s') : wpAny (model X.prog X.w) A (setAttr (.ref a) f u) Q E s := by
  obtain ⟨mA, O, r, wi, _, ho⟩ := ins_get I.hok e
  have hz : (fs.map (·.1)).length ≤ sizeLine := by rw [List.length_map, sizeLine_eq]; omega
  refine set_map I.kIn O c.sa c.po n.taker c.hd wi hz fun h' O' sb => h _ ?_
  have hd : ∃ o, h'.get? dx = some o := let ⟨o, _, _, e', _⟩ := O'.ns; ⟨o, e'⟩
  refine I.write (x := a) (e := dx) (by rw [e]; exact True.intro) (.inr ho) (fun b q hb z => (sb.2 b hb).trans z) hd ?_
  refine ⟨by rw [upd_ne O.ne]; exact ho, ?_, O.ne, O'.obj, _, O'.ns, fun g => ?_, fun g hg => ?_⟩
  · have := length_putF f y fs; omega
  · show RelO ((putF f y fs).lookup g) (if g = f then some u else mA g)
    rw [lookup_putF]
    by_cases q : g = f
    · rw [if_pos q, if_pos q]; exact ry
    · rw [if_neg q, if_neg q]; exact r g
  · by_cases q : g = f
    · rw [q]; exact (keys_putF f y fs).1
    · refine (keys_putF f y fs).2 g (wi g fun z => hg ?_)
      show (if g = f then some u else mA g) = none
      rw [if_neg q]; exact z

/-- a new instance, tracked, without attributes -/
theorem Inv.made (I : Inv X pins σ H s) : Inv X pins σ (upd (upd H s.heap.objs.size (.own (s.heap.objs.size + 1))) (s.heap.objs.size + 1) (.ins C s.heap.objs.size []))
    { s with heap := (s.heap.push PySem.W.emptyDict).push (PySem.W.instObj C s.heap.objs.size) } := by
  have e1 : (s.heap.push PySem.W.emptyDict).get? s.heap.objs.size = some PySem.W.emptyDict := Heap.get?_push_size s.heap rfl
  have e2 : ((s.heap.push PySem.W.emptyDict).push (PySem.W.instObj C s.heap.objs.size)).get? (s.heap.objs.size + 1) = some (PySem.W.instObj C s.heap.objs.size) := by
    have := Heap.get?_push_size (s.heap.push PySem.W.emptyDict) (o := PySem.W.instObj C s.heap.objs.size) rfl
    rwa [Heap.size_push] at this
  have e3 : (s.heap.push PySem.W.emptyDict).Ns s.heap.objs.size (fun _ => none) := ⟨PySem.W.emptyDict, #[], _, e1, rfl, (fun e he => absurd he (by simp)), fun _ => rfl⟩
  have I1 := I.laid (a := s.heap.objs.size) (o := .own (s.heap.objs.size + 1)) (h' := s.heap.push PySem.W.emptyDict) (t' := s.toks) (fun b u q => Heap.get?_push_of_some _ q) (Nat.le_refl _) ⟨_, e1⟩
  refine I1.laid (a := s.heap.objs.size + 1) (o := .ins C s.heap.objs.size []) (t' := s.toks) (fun b u q => Heap.get?_push_of_some _ q) (Nat.le_of_eq (Heap.size_push _ _)) ?_
  have ne : s.heap.objs.size ≠ s.heap.objs.size + 1 := Nat.ne_of_lt (Nat.lt_succ_self _)
  refine ⟨by rw [upd_ne ne, upd_same], Nat.zero_le _, ne, e2, fun _ => none, (Heap.Ns1.of_empty e3).at fun o q => Heap.get?_push_of_some _ q, fun _ => True.intro, fun y hy => absurd rfl hy⟩

/-- e.f where nothing but the object is asked: through attributeBase (super) and the last hold -/
theorem attr_of {prog : Program} {w : World} {env : Env} {e : Expr} {f : Str} {pos : Pos} {s : Shared} {Q : Value → Shared → Prop} (hb : attributeBase e f env (eval e env) = eval e env)
    (h : wpAny (model prog w) A (eval e env) (fun o s₁ => wpAny (model prog w) A (getAttr o f true) Q E s₁) E s) : wpAny (model prog w) A (eval (.Attribute e f pos) env) Q E s :=
  Attribute_any_ h (by rw [arm_eval_Attribute, hb])
end

/-! ### readings and rules -/
/-- e.f, an attribute of the instance -/
def tFld (K : PySem.W.Frag) (ta : TE) (f : Str) : TE := fun σ H Q => ta σ H fun x H1 => ∃ a C dx fs v, x = .ref a ∧ H1 a = some (.ins C dx fs) ∧ Cls K C ∧ NoAttr K C f ∧ fs.lookup f = some v ∧ Q v H1
/-- e.f, a constant of the class -/
def tCon (K : PySem.W.Frag) (ta : TE) (f : Str) : TE := fun σ H Q => ta σ H fun x H1 => ∃ a C dx fs v u, x = .ref a ∧ H1 a = some (.ins C dx fs) ∧ Cls K C ∧ Con K C f v u ∧ fs.lookup f = none ∧ Q v H1
/-- e.f = value -/
def sFld (K : PySem.W.Frag) (ta tv : TE) (f : Str) : TS := fun D σ H => tv σ H fun y H1 => ta σ H1 fun x H2 => ∃ a C dx fs, x = .ref a ∧ H2 a = some (.ins C dx fs) ∧ Cls K C ∧ NoAttr K C f ∧ fs.length < 1000 ∧
  D.nx σ (upd H2 a (.ins C dx (putF f y fs)))
/-- an augmented operator on two values -/
def InOp (X : Cx) (op : Operator) (rd : V → V → Hp → VK → Prop) : Prop :=
  ∀ (pins : List (Addr × Obj)) (s : Shared) (σ : St) (H : Hp) (x y : V) (u v : Value) (Q : VK), Inv X pins σ H s → RelV x u → RelV y v → rd x y H Q → wpAny (model X.prog X.w) X.A (inplaceOp op u v) (EP X pins σ Q) X.xe s
/-- e.f op= value -/
def sFldAug (K : PySem.W.Frag) (ta tv : TE) (rd : V → V → Hp → VK → Prop) (f : Str) : TS := fun D σ H => ta σ H fun x H1 => ∃ a C dx fs v, x = .ref a ∧ H1 a = some (.ins C dx fs) ∧ Cls K C ∧ NoAttr K C f ∧ fs.lookup f = some v ∧
  tv σ H1 fun y H2 => rd v y H2 fun z H3 => ∃ dx' fs', H3 a = some (.ins C dx' fs') ∧ fs'.length < 1000 ∧ D.nx σ (upd H3 a (.ins C dx' (putF f z fs')))

section
variable {X : Cx} {o e value : Expr} {f : Str} {pos pos' tpos : Pos} {ta tv : TE}
theorem pe_fld (he : PE X e ta) (hb : attributeBase e f X.env (eval e X.env) = eval e X.env) : PE X (.Attribute e f pos) (tFld X.K ta f) := by
  intro pins s σ H Q I h
  refine attr_of hb (thn (he pins s σ H _ I h) fun u s1 ⟨x, H1, I1, rx, a, C, dx, fs, v, ex, ea, c, n, l, q⟩ => ?_)
  subst ex
  obtain rfl : u = Value.ref a := rx
  exact getattr_ok I1 ea c n l fun u' s2 I2 ru => ⟨v, H1, I2, ru, q⟩
theorem pe_con (he : PE X e ta) (hb : attributeBase e f X.env (eval e X.env) = eval e X.env) : PE X (.Attribute e f pos) (tCon X.K ta f) := by
  intro pins s σ H Q I h
  refine attr_of hb (thn (he pins s σ H _ I h) fun u s1 ⟨x, H1, I1, rx, a, C, dx, fs, v, u0, ex, ea, c, k, l, q⟩ => ?_)
  subst ex
  obtain rfl : u = Value.ref a := rx
  exact getcon_ok I1 ea c k l fun s2 I2 => ⟨v, H1, I2, k.rel, q⟩
theorem ps_fld (ha : PE X o ta) (hv : PE X value tv) (hs : swapsWith value (some (.Attribute o f pos')) pos.line X.env = pure false) : PS X (.Assign [.Attribute o f pos'] value pos) (sFld X.K ta tv f) := by
  intro pins s σ H D I h
  refine plainObj_wpAny_Assign_Attribute (thn (hv pins s σ H _ I h) fun u s1 ⟨y, H1, I1, ry, q⟩ => thn (ha pins s1 σ H1 _ I1 q) fun ov s2 ⟨x, H2, I2, rx, a, C, dx, fs, ex, ea, c, n, l, q2⟩ => ?_) hs
  subst ex
  obtain rfl : ov = Value.ref a := rx
  exact setattr_ok I2 ea c n l ry fun s3 I3 => ⟨σ, _, I3, q2⟩
theorem ps_fldaug {op : Operator} {rd : V → V → Hp → VK → Prop} (ha : PE X o ta) (hv : PE X value tv) (hop : InOp X op rd) : PS X (.AugAssign (.Attribute o f tpos) op value pos) (sFldAug X.K ta tv rd f) := by
  intro pins s σ H D I h
  refine wpAny_AugAssign_AttributeAny (thn (ha pins s σ H _ I h) fun ov s1 ⟨x, H1, I1, rx, a, C, dx, fs, v, ex, ea, c, n, l, q⟩ => ?_)
  subst ex
  obtain rfl : ov = Value.ref a := rx
  refine getattr_ok I1 ea c n l fun u s2 I2 ru => thn (hv pins s2 σ H1 _ I2 q) fun w3 s3 ⟨y, H2, I3, ry, q3⟩ => thn (hop pins s3 σ H2 v y u w3 _ I3 ru ry q3) fun w4 s4 ⟨z, H3, I4, rz, dx', fs', ea', l', q4⟩ => ?_
  exact setattr_ok I4 ea' c n l' rz fun s5 I5 => ⟨σ, _, I5, q4⟩
def rAdd : V → V → Hp → VK → Prop := fun x y H Q => ∃ i j, x = .int i ∧ y = .int j ∧ Q (.int (i + j)) H
def rSub : V → V → Hp → VK → Prop := fun x y H Q => ∃ i j, x = .int i ∧ y = .int j ∧ Q (.int (i - j)) H
theorem in_add : InOp X .Add rAdd := by
  rintro pins s σ H x y u v Q I rx ry ⟨i, j, rfl, rfl, q⟩
  obtain ⟨t, rfl⟩ := (show ∃ t, u = Value.int i t from rx)
  obtain ⟨t', rfl⟩ := (show ∃ t', v = Value.int j t' from ry)
  exact PyProof.Rows.iadd_int ⟨.int (i + j), H, I.tok _, ⟨_, rfl⟩, q⟩
theorem in_sub : InOp X .Sub rSub := by
  rintro pins s σ H x y u v Q I rx ry ⟨i, j, rfl, rfl, q⟩
  obtain ⟨t, rfl⟩ := (show ∃ t, u = Value.int i t from rx)
  obtain ⟨t', rfl⟩ := (show ∃ t', v = Value.int j t' from ry)
  exact PyProof.Rows.isub_int ⟨.int (i - j), H, I.tok _, ⟨_, rfl⟩, q⟩

/-- what is between an instance and its method: the tree of a method call -/
theorem methcall_of {pl : Sem Bool} {m : Str} {apos : Pos} {args : List Expr} {pins : List (Addr × Obj)} {s : Shared} {σ : St} {H : Hp} {Q : Value → Shared → Prop} {te : TE} (he : PE X e te) (I : Inv X pins σ H s)
    (h : te σ H fun x H1 => ∃ a C dx fs g, x = .ref a ∧ H1 a = some (.ins C dx fs) ∧ Cls X.K C ∧ Meth X.K C m g ∧ fs.lookup m = none ∧
      ∀ s1, Inv X pins σ H1 s1 → wpAny (model X.prog X.w) X.A (callWith pos (.ref g) [.ref a] (backTo pos (starEach args X.env)) (backToKw pos (keywordEach [] X.env))) Q X.xe s1)
    (ht : eval (.Call (.Attribute e m apos) args [] pos) X.env = (do
      let ov ← eval e X.env
      standAt apos.atName
      let (f, first) ← holding [ov] (getMethod ov m pl)
      callWith pos f first (backTo pos (starEach args X.env)) (backToKw pos (keywordEach [] X.env)))) :
    wpAny (model X.prog X.w) X.A (eval (.Call (.Attribute e m apos) args [] pos) X.env) Q X.xe s := by
  refine PySem.W.methodCall_KW (pl := pl) (thn (he pins s σ H _ I h) fun u s1 ⟨x, H1, I1, rx, a, C, dx, fs, g, ex, ea, c, k, l, q⟩ => ?_) ht
  subst ex
  obtain rfl : u = Value.ref a := rx
  exact getmeth_ok I1 ea c k l (q s1 I1)
end

/-! ### isinstance -/
section
variable {X : Cx} {pins : List (Addr × Obj)} {σ : St} {H : Hp} {s : Shared} {A : Around} {E : Value → Shared → Prop} {Q : Value → Shared → Prop} {c : Value} {b : Bool}
/-- the type of a value, as the fragment's deciders take it; for an instance its class -/
inductive TyOf (K : PySem.W.Frag) (H : Hp) : V → Value → Prop where
  | non : TyOf K H .non (.type "NoneType")
  | bl (x : Bool) : TyOf K H (.bl x) (.type "bool")
  | int (i : Int) : TyOf K H (.int i) (.type "int")
  | str (x : Str) : TyOf K H (.str x) (.type "str")
  | flt (x : UInt64) : TyOf K H (.flt x) (.type "float")
  | lst {a : Addr} {xs : List V} (e : H a = some (.lst xs)) : TyOf K H (.ref a) (.type "list")
  | frz {a : Addr} {o : Obj} {xs : List V} (e : H a = some (.frz o (.lst xs))) : TyOf K H (.ref a) (.type "list")
  | tup {a : Addr} {xs : List V} (e : H a = some (.tup xs)) : TyOf K H (.ref a) (.type "tuple")
  | dK {a : Addr} {kvs : List (Key × V)} (e : H a = some (.dK kvs)) : TyOf K H (.ref a) (.type "dict")
  | dT {a : Addr} {kvs : List (List Key × V)} (e : H a = some (.dT kvs)) : TyOf K H (.ref a) (.type "dict")
  | ins {a C dx : Addr} {fs : List (Str × V)} (e : H a = some (.ins C dx fs)) (cl : Cls K C) (ha : PySem.W.findIn K (.ref C) "__class__" = some (some (.builtin "object.__class__")))
      (hn : PySem.W.specialIn K (.builtin "object.__class__") "__get__" = some (some (.builtin "getset_descriptor.__get__"))) (htk : PySem.W.takesIn K (.builtin "object.__class__") = some true)
      (hm : PySem.W.mroIn K C (.type "object") = some true) : TyOf K H (.ref a) (.ref C)
/-- isinstance(x, c) for one class c, a built-in or an own one: kitOne's answer -/
theorem isinst_ok {x : V} {u t : Value} (I : Inv X pins σ H s) (rx : RelV x u) (ty : TyOf X.K H x t) (e : PySem.W.kitOne X.K t c = some b) (h : ∀ tk, Q (.bool b) { s with toks := tk }) :
    wpAny (model X.prog X.w) A (call (.builtin "isinstance") [u, c]) Q E s := by
  cases ty with
  | non => cases (show u = Value.none from rx); exact PySem.W.kia_one PySem.W.kitx_none I.kIn True.intro e (fun z => nomatch z) h
  | bl y => cases (show u = Value.bool y from rx); exact PySem.W.kia_one PySem.W.kitx_bool I.kIn True.intro e (fun z => nomatch z) h
  | int i => obtain ⟨t, q⟩ := (show ∃ t, u = Value.int i t from rx); cases q; exact PySem.W.kia_one PySem.W.kitx_int I.kIn True.intro e (fun z => nomatch z) h
  | str y => obtain ⟨t, q⟩ := (show ∃ t, u = Value.str y t from rx); cases q; exact PySem.W.kia_one PySem.W.kitx_str I.kIn True.intro e (fun z => nomatch z) h
  | flt y => obtain ⟨t, q⟩ := (show ∃ t, u = Value.float y t from rx); cases q; exact PySem.W.kia_one PySem.W.kitx_float I.kIn True.intro e (fun z => nomatch z) h
  | @lst a xs ea =>
    cases (show u = Value.ref a from rx)
    obtain ⟨_, _, n, _, h1⟩ := (show ObjOk X.prog X.w H s.heap a (.lst xs) from I.hok a _ ea)
    exact PySem.W.kia_one PySem.W.kitx_list I.kIn ⟨_, h1, rfl⟩ e (fun z => nomatch z) h
  | @frz a ob xs ea =>
    cases (show u = Value.ref a from rx)
    obtain ⟨_, _, _, n, _, h1⟩ := (show ObjOk X.prog X.w H s.heap a (.frz ob (.lst xs)) from I.hok a _ ea)
    exact PySem.W.kia_one PySem.W.kitx_list I.kIn ⟨_, h1, rfl⟩ e (fun z => nomatch z) h
  | @tup a xs ea =>
    cases (show u = Value.ref a from rx)
    obtain ⟨_, _, _, p⟩ := (show ObjOk X.prog X.w H s.heap a (.tup xs) from I.hok a _ ea)
    obtain ⟨o, h1, h2, _⟩ := p
    exact PySem.W.kia_one PySem.W.kitx_tuple I.kIn ⟨o, h1, h2⟩ e (fun z => nomatch z) h
  | @dK a kvs ea =>
    cases (show u = Value.ref a from rx)
    obtain ⟨_, _, vs, _, p⟩ := (show ObjOk X.prog X.w H s.heap a (.dK kvs) from I.hok a _ ea)
    obtain ⟨o, es, ep, h1, h2, _⟩ := p
    exact PySem.W.kia_one PySem.W.kitx_dict I.kIn ⟨o, h1, h2.1⟩ e (fun z => nomatch z) h
  | @dT a kvs ea =>
    cases (show u = Value.ref a from rx)
    obtain ⟨_, _, xs, _, o, es, ep, h1, h2, _⟩ := (show ObjOk X.prog X.w H s.heap a (.dT kvs) from I.hok a _ ea)
    exact PySem.W.kia_one PySem.W.kitx_dict I.kIn ⟨o, h1, h2.1⟩ e (fun z => nomatch z) h
  | @ins a C dx fs ea cl ha hn htk hm =>
    cases (show u = Value.ref a from rx)
    obtain ⟨mA, O, _⟩ := ins_get I.hok ea
    obtain ⟨od, J, _⟩ := O.look
    exact PySem.W.kia_one (PySem.W.kitx_own (cl.get _) cl.hd ha hn htk hm) I.kIn J e (fun z => nomatch z) h
end
end L2

namespace L2
open PySem PySem.Spec PyProof.Rows

/-! ### room -/
structure Room (k : Nat) (A : Around) : Prop where
  hd : A.handled = none
  dp : A.depth + 3 * k + 5 < recursionLimit
  un : A.units + 16 * k + 200 < cLine
theorem Room.mono {j k : Nat} {A : Around} (r : Room k A) (h : j ≤ k) : Room j A := ⟨r.hd, by have := r.dp; omega, by have := r.un; omega⟩
theorem Room.deeper {k : Nat} {A : Around} (r : Room (k + 1) A) (env : Env) : Room k (A.deeper env) :=
  ⟨r.hd, by have := r.dp; show A.depth + 1 + 3 * k + 5 < _; omega, by have := r.un; show A.units + 3 + 16 * k + 200 < _; omega⟩
theorem Room.in1 {k : Nat} {A : Around} (r : Room (k + 1) A) : Room k A.in1 :=
  ⟨r.hd, by have := r.dp; show A.depth + 3 * k + 5 < _; omega, by have := r.un; show A.units + 1 + 16 * k + 200 < _; omega⟩
theorem make_depth {A : Around} {C : Addr} {us : List Value} {kw : List (Str × Value)} : (A.under (.builtin "type.__call__" ⟨.ref C :: us, kw⟩)).depth = A.depth + 1 := by
  first | rfl | simp [Around.under, Code.weight, Code.isCreation, Code.isGuard, Code.isCaller, Code.frames, Code.isFrame, guardIds]
theorem make_units {A : Around} {C : Addr} {us : List Value} {kw : List (Str × Value)} : (A.under (.builtin "type.__call__" ⟨.ref C :: us, kw⟩)).units = A.units + 1 := by
  first | rfl | simp [Around.under, Code.cUnits, Code.frames, Code.isFrame]
theorem Room.make {k : Nat} {A : Around} (r : Room (k + 1) A) (C : Addr) (us : List Value) (kw : List (Str × Value)) : Room k (A.under (.builtin "type.__call__" ⟨.ref C :: us, kw⟩)) :=
  ⟨r.hd, by have := r.dp; rw [make_depth]; omega, by have := r.un; rw [make_units]; omega⟩
theorem Room.depth {k : Nat} {A : Around} (r : Room k A) : A.depth < recursionLimit := by have := r.dp; omega
theorem Room.units {k : Nat} {A : Around} (r : Room k A) : A.units + 64 < cLine := by have := r.un; omega
theorem Room.units0 {k : Nat} {A : Around} (r : Room k A) : A.units < cLine := by have := r.un; omega

/-! ### argument lists and displays -/
def tNil : TA := fun _ H Q => Q [] H
def tCons (ta : TE) (tr : TA) : TA := fun σ H Q => ta σ H fun x H1 => tr σ H1 fun xs H2 => Q (x :: xs) H2
section
variable {X : Cx} {e : Expr} {es : List Expr} {te : TE} {t : TA} {pos : Pos}
theorem pa_nil : PA X [] tNil := fun _ _ _ _ H Q I h => Calls.spliced_nil ⟨[], H, I, .nil, h⟩
theorem pa_cons (ha : PE X e te) (hr : PA X es t) (hs : starEach (e :: es) X.env = (false, eval e X.env) :: starEach es X.env := by rfl) : PA X (e :: es) (tCons te t) := by
  intro pos pins s σ H Q I h
  rw [hs]
  show wpAny _ _ (spliced ((false, eval e X.env) :: backTo pos (starEach es X.env))) _ _ s
  refine Calls.spliced_cons (thn (ha pins s σ H _ I h) fun u s1 ⟨x, H1, I1, r1, q1⟩ => ?_)
  exact thn (hr pos pins s1 σ H1 _ I1 q1) fun us s2 ⟨xs, H2, I2, r2, q2⟩ => ⟨x :: xs, H2, I2, .cons r1 r2, q2⟩

/-- a tuple, a list of written items -/
def tTup (t : TA) : TE := fun σ H Q => t σ H fun xs H1 => xs.length ≤ sizeLine ∧ ∀ p, H1 p = none → Q (.ref p) (upd H1 p (.tup xs))
def tLst (t : TA) : TE := fun σ H Q => t σ H fun xs H1 => xs.length ≤ sizeLine ∧ ∀ p, H1 p = none → Q (.ref p) (upd H1 p (.lst xs))
theorem pe_tup {x1} (h : PA X es t) : PE X (.Tuple es x1 pos) (tTup t) := by
  intro pins s σ H Q I hq
  refine wpAny_Tuple_spliced (thn (h pos pins s σ H _ I hq) fun us s1 ⟨xs, H1, I1, r, z, q⟩ => ⟨by rw [← r.length]; exact z, ?_⟩)
  have hf : H1 s1.heap.objs.size = none := I1.hok.fresh (Nat.le_refl _)
  refine ⟨.ref s1.heap.objs.size, upd H1 s1.heap.objs.size (.tup xs), I1.laid (t' := s1.toks) (fun b u e => Heap.get?_push_of_some _ e) (Nat.le_refl _) ?_, rfl, q _ hf⟩
  exact ⟨z, us, r, ⟨_, Heap.get?_push_size _ rfl, rfl, _, rfl⟩⟩
theorem pe_lst (h : PA X es t) : PE X (.List es pos) (tLst t) := by
  intro pins s σ H Q I hq
  refine wpAny_List_spliced (thn (h pos pins s σ H _ I hq) fun us s1 ⟨xs, H1, I1, r, z, q⟩ => ⟨by rw [← r.length]; exact z, ?_⟩)
  have hf : H1 s1.heap.objs.size = none := I1.hok.fresh (Nat.le_refl _)
  refine ⟨.ref s1.heap.objs.size, upd H1 s1.heap.objs.size (.lst xs), I1.laid (t' := s1.toks) (fun b u e => Heap.get?_push_of_some _ e) (Nat.le_refl _) ?_, rfl, q _ hf⟩
  exact ⟨z, us, 0, r, Heap.get?_push_size _ rfl⟩
end

/-! ### what a def promises -/
/-- a def's promise: the bound arguments in the parameters' order, the heap, the wanted end, the wanted exception -/
abbrev Sp := List V → Hp → VK → XK → Prop
/-- how an exception lies behind a call (file 08 gives it): the callers' frames, abstract heap and state ahead of the call, the wish, the exception, the state -/
abbrev CXT := List Env → Hp → Shared → XK → Value → Shared → Prop

/-- the state at a call -/
structure Env0 (P : Program) (w : World) (K : PySem.W.Frag) (mg : Str → Option Value) (base : Heap) (A : Around) (outer : List Env) (s : Shared) (H : Hp) : Prop where
  frames : A.frames = some outer
  mod : Mod K mg base
  bs : ∀ b o, base.get? b = some o → s.heap.get? b = some o ∧ H b = none
  bsz : base.objs.size ≤ s.heap.objs.size
  funs : s.heap.FunFrames base outer
  frf : ∀ b ∈ frs outer, H b = none
  hok : HOk P w H s.heap
  bare : AllBare s.gens
/-- a call's end -/
def CE (outer : List Env) (P : Program) (w : World) (H : Hp) (s : Shared) (Q : VK) (u : Value) (s' : Shared) : Prop :=
  ∃ v H', s'.os = s.os ∧ AllBare s'.gens ∧ Un (frs outer) [] H H' s.heap s'.heap ∧ HOk P w H' s'.heap ∧ RelV v u ∧ Q v H'
def CR (CX : CXT) (outer : List Env) (P : Program) (w : World) (H : Hp) (s : Shared) (Q : VK) (E : XK) (r : Result) (s' : Shared) : Prop :=
  match r with
  | .ok (.ret u) => CE outer P w H s Q u s'
  | .ok _ => False
  | .error e => CX outer H s E e s'
structure FnOk (P : Program) (w : World) (K : PySem.W.Frag) (mg : Str → Option Value) (base : Heap) (CX : CXT) (k : Nat) (f : Addr) (fd : FuncData) (ps : List Str) (sp : Sp) : Prop where
  len : ∀ vs H Q E, sp vs H Q E → vs.length = ps.length
  run : ∀ (A : Around) (outer : List Env) (s : Shared) (H : Hp) (args : Args) (us : List Value) (vs : List V) (Q : VK) (E : XK), Room k A → Env0 P w K mg base A outer s H → BindsTo s fd args (ps.zip us) → Vals vs us → sp vs H Q E →
    codeAny (model P w) A (.call (.ref f) args) (CR CX outer P w H s Q E) s
theorem FnOk.mono {P : Program} {w : World} {K : PySem.W.Frag} {mg : Str → Option Value} {base : Heap} {CX : CXT} {j k : Nat} {f : Addr} {fd : FuncData} {ps : List Str} {sp : Sp} (F : FnOk P w K mg base CX j f fd ps sp) (h : j ≤ k) :
    FnOk P w K mg base CX k f fd ps sp := ⟨F.len, fun A outer s H args us vs Q E hr => F.run A outer s H args us vs Q E (hr.mono h)⟩
/-- a weaker promise -/
theorem FnOk.imp {P : Program} {w : World} {K : PySem.W.Frag} {mg : Str → Option Value} {base : Heap} {CX : CXT} {k : Nat} {f : Addr} {fd : FuncData} {ps : List Str} {sp sp' : Sp} (F : FnOk P w K mg base CX k f fd ps sp)
    (h : ∀ vs H Q E, sp' vs H Q E → sp vs H Q E) : FnOk P w K mg base CX k f fd ps sp' :=
  ⟨fun vs H Q E q => F.len vs H Q E (h _ _ _ _ q), fun A outer s H args us vs Q E hr he hb hv hs => F.run A outer s H args us vs Q E hr he hb hv (h _ _ _ _ hs)⟩

theorem Env0.make {P : Program} {w : World} {K : PySem.W.Frag} {mg : Str → Option Value} {base : Heap} {A : Around} {outer : List Env} {s : Shared} {H : Hp} (e : Env0 P w K mg base A outer s H) (C : Addr) (us : List Value) (kw : List (Str × Value)) :
    Env0 P w K mg base (A.under (.builtin "type.__call__" ⟨.ref C :: us, kw⟩)) outer s H := ⟨by first | exact e.frames | (simpa [Around.under, Code.envs, Code.isFrame, pushEnvs] using e.frames), e.mod, e.bs, e.bsz, e.funs, e.frf, e.hok, e.bare⟩
theorem Env0.in1 {P : Program} {w : World} {K : PySem.W.Frag} {mg : Str → Option Value} {base : Heap} {A : Around} {outer : List Env} {s : Shared} {H : Hp} (e : Env0 P w K mg base A outer s H) :
    Env0 P w K mg base A.in1 outer s H := ⟨e.frames, e.mod, e.bs, e.bsz, e.funs, e.frf, e.hok, e.bare⟩

section
variable {X : Cx} {pins : List (Addr × Obj)} {σ : St} {H : Hp} {s s' : Shared}
/-- from a body: what a callee wants -/
theorem Inv.env0 (I : Inv X pins σ H s) : Env0 X.prog X.w X.K X.mg X.base X.A X.stack s H :=
  ⟨I.ok.frames, I.ok.mod, I.bs, Nat.le_trans I.ok.bsz I.sz, I.stack, I.stkFree, I.hok, I.bare⟩
/-- behind a call -/
theorem Inv.after {Q : VK} {u : Value} (I : Inv X pins σ H s) (h : CE X.stack X.prog X.w H s Q u s') : EP X pins σ Q u s' := by
  obtain ⟨v, H', os, bare, un, hok, r, q⟩ := h
  obtain ⟨hh, g, d, t, os'⟩ := s'
  obtain rfl : os' = s.os := os
  exact ⟨v, H', I.call (h' := hh) (g' := g) (d' := d) (t' := t) (ch := []) un hok bare (fun b z => absurd z (by simp)), r, q⟩
end

/-! ### calls -/
/-- f(..): the written arguments, then the defaults dvs; E: what is wanted of an exception -/
def tCall (sp : Sp) (dvs : List V) (E : XK) (t : TA) : TE := fun σ H Q => t σ H fun vs H1 => sp (vs ++ dvs) H1 Q E
/-- o.m(..) of an instance of the class at C -/
def tMeth (C : Addr) (m : Str) (sp : Sp) (dvs : List V) (E : XK) (ta : TE) (t : TA) : TE := fun σ H Q => ta σ H fun x H1 => ∃ a dx fs, x = .ref a ∧ H1 a = some (.ins C dx fs) ∧ fs.lookup m = none ∧
  t σ H1 fun vs H2 => sp (x :: (vs ++ dvs)) H2 Q E
/-- C(..): a new instance and its dict, then __init__ -/
def tMake (C : Addr) (sp : Sp) (dvs : List V) (E : XK) (t : TA) : TE := fun σ H Q => t σ H fun vs H1 => ∀ x dx, H1 x = none → H1 dx = none → dx ≠ x →
  sp (.ref x :: (vs ++ dvs)) (upd (upd H1 dx (.own x)) x (.ins C dx [])) (fun v H2 => v = .non ∧ Q (.ref x) H2) E

/-- how the parameters are bound: us the positional arguments, kw the keywords' values by name, ds the defaults that fill up -/
def Binds (K : PySem.W.Frag) (fd : FuncData) (ps : List Str) (ds : List Value) : Prop :=
  ∀ (s : Shared) (us : List Value), K.In s.heap → (us ++ ds).length = ps.length → BindsTo s fd ⟨us, []⟩ (ps.zip (us ++ ds))
/-- every parameter is given -/
theorem Binds.all {K : PySem.W.Frag} {fd : FuncData} {ps : List Str} (h : ∀ us : List Value, us.length = ps.length → bindArgs fd ⟨us, []⟩ = pure (ps.zip us)) : Binds K fd ps [] := fun s us _ hl => by
  rw [List.append_nil] at hl ⊢
  exact .of_eq (h us hl)

/-- an exception of a callee reaches what this body wants of exceptions -/
def Passes (CX : CXT) (X : Cx) (E : XK) : Prop := ∀ (pins : List (Addr × Obj)) (σ : St) (H : Hp) (s : Shared) (e : Value) (s' : Shared), Inv X pins σ H s → CX X.stack H s E e s' → X.xe e s'

section
variable {X : Cx} {CX : CXT} {k : Nat} {f C : Addr} {fd : FuncData} {ps : List Str} {sp : Sp} {dvs : List V} {ds : List Value} {E : XK} {x m : Str} {p pos apos : Pos} {e o : Expr} {es : List Expr} {ta : TE} {t : TA}

/-- the callee runs -/
theorem run_fn {pins : List (Addr × Obj)} {σ : St} {H : Hp} {s : Shared} {Q : VK} {us : List Value} {vs : List V} (F : FnOk X.prog X.w X.K X.mg X.base CX k f fd ps sp) (hr : Room k X.A) (hb : Binds X.K fd ps ds) (hd : Vals dvs ds) (hx : Passes CX X E)
    (I : Inv X pins σ H s) (r : Vals vs us) (h : sp (vs ++ dvs) H Q E) : wpAny (model X.prog X.w) X.A (call (.ref f) us) (EP X pins σ Q) X.xe s := by
  have r2 : Vals (vs ++ dvs) (us ++ ds) := r.append hd
  have hl : (us ++ ds).length = ps.length := by rw [← r2.length]; exact F.len _ _ _ _ h
  refine wpAny_call (codeAny_mono (F.run X.A X.stack s H ⟨us, []⟩ (us ++ ds) (vs ++ dvs) Q E hr I.env0 (hb s us I.kIn hl) r2 h) fun r s' hq => ?_)
  cases r with
  | error e => exact hx pins σ H s e s' I hq
  | ok fl =>
    cases fl with
    | ret u => exact I.after hq
    | next => exact False.elim hq
    | brk => exact False.elim hq
    | cont => exact False.elim hq

theorem pe_call (F : FnOk X.prog X.w X.K X.mg X.base CX k f fd ps sp) (hr : Room k X.A) (hg : Gl X x) (hm : X.mg x = some (.ref f)) (hk : PySem.W.keepIn X.K (.ref f) = true) (hb : Binds X.K fd ps ds) (hd : Vals dvs ds) (hx : Passes CX X E)
    (ha : PA X (e :: es) t) (hdb : (x == ("__debug__" : Str)) = false := by decide) (he : starEach (e :: es) X.env = (false, eval e X.env) :: starEach es X.env := by rfl) (hpl : (backTo pos (starEach es X.env)).any (·.1) = false := by rfl) :
    PE X (.Call (.Name x p) (e :: es) [] pos) (tCall sp dvs E t) := by
  intro pins s σ H Q I h
  refine wpAny_Call_Name_kw (ld_glob I hg hm ?_ hdb)
  refine PySem.W.callWith_K (h₀ := X.base) I.ok.mod.kin hk (thn (ha pos pins s σ H _ I h) fun us s1 ⟨vs, H1, I1, r, q⟩ => ⟨I1.kIn, ?_⟩) he hpl
  exact run_fn F hr hb hd hx I1 r q
theorem pe_call0 (F : FnOk X.prog X.w X.K X.mg X.base CX k f fd ps sp) (hr : Room k X.A) (hg : Gl X x) (hm : X.mg x = some (.ref f)) (hk : PySem.W.keepIn X.K (.ref f) = true) (hb : Binds X.K fd ps ds) (hd : Vals dvs ds) (hx : Passes CX X E)
    (hdb : (x == ("__debug__" : Str)) = false := by decide) : PE X (.Call (.Name x p) [] [] pos) (tCall sp dvs E tNil) := by
  intro pins s σ H Q I h
  refine wpAny_Call_Name_kw (ld_glob I hg hm ?_ hdb)
  exact PySem.W.callWith_K0 I.kIn hk (run_fn (us := []) F hr hb hd hx I .nil h)

/-- o.m(e, ..) -/
theorem pe_meth {pl : Sem Bool} (he : PE X o ta) (c : Cls X.K C) (hm : Meth X.K C m f) (F : FnOk X.prog X.w X.K X.mg X.base CX k f fd ps sp) (hr : Room k X.A) (hb : Binds X.K fd ps ds) (hd : Vals dvs ds) (hx : Passes CX X E) (ha : PA X (e :: es) t)
    (hst : starEach (e :: es) X.env = (false, eval e X.env) :: starEach es X.env := by rfl) (hpl : (backTo pos (starEach es X.env)).any (·.1) = false := by rfl)
    (ht : eval (.Call (.Attribute o m apos) (e :: es) [] pos) X.env = (do
      let ov ← eval o X.env
      standAt apos.atName
      let (f, first) ← holding [ov] (getMethod ov m pl)
      callWith pos f first (backTo pos (starEach (e :: es) X.env)) (backToKw pos (keywordEach [] X.env))) := by rfl) :
    PE X (.Call (.Attribute o m apos) (e :: es) [] pos) (tMeth C m sp dvs E ta t) := by
  intro pins s σ H Q I h
  refine PySem.W.methodCall_KW (pl := pl) (thn (he pins s σ H _ I h) fun u s1 ⟨x, H1, I1, rx, a, dx, fs, ex, ea, l, q⟩ => ?_) ht
  subst ex
  obtain rfl : u = Value.ref a := rx
  refine getmeth_ok I1 ea c hm l ?_
  refine PySem.W.callWith_K (first := [.ref a]) (h₀ := X.base) I.ok.mod.kin hm.kp (thn (ha pos pins s1 σ H1 _ I1 q) fun us s2 ⟨vs, H2, I2, r, q2⟩ => ⟨I2.kIn, ?_⟩) hst hpl
  exact run_fn (us := .ref a :: us) (vs := .ref a :: vs) F hr hb hd hx I2 (.cons rfl r) q2
/-- o.m() -/
theorem pe_meth0 {pl : Sem Bool} (he : PE X o ta) (c : Cls X.K C) (hm : Meth X.K C m f) (F : FnOk X.prog X.w X.K X.mg X.base CX k f fd ps sp) (hr : Room k X.A) (hb : Binds X.K fd ps ds) (hd : Vals dvs ds) (hx : Passes CX X E)
    (ht : eval (.Call (.Attribute o m apos) [] [] pos) X.env = (do
      let ov ← eval o X.env
      standAt apos.atName
      let (f, first) ← holding [ov] (getMethod ov m pl)
      callWith pos f first (backTo pos (starEach [] X.env)) (backToKw pos (keywordEach [] X.env))) := by rfl) :
    PE X (.Call (.Attribute o m apos) [] [] pos) (tMeth C m sp dvs E ta tNil) := by
  intro pins s σ H Q I h
  refine PySem.W.methodCall_KW (pl := pl) (thn (he pins s σ H _ I h) fun u s1 ⟨x, H1, I1, rx, a, dx, fs, ex, ea, l, q⟩ => ?_) ht
  subst ex
  obtain rfl : u = Value.ref a := rx
  refine getmeth_ok I1 ea c hm l ?_
  exact PySem.W.callWith_K0 (first := [.ref a]) I1.kIn hm.kp (run_fn (us := [.ref a]) (vs := [.ref a]) F hr hb hd hx I1 (.cons rfl .nil) q)

/-- what a class must have to be made -/
structure Mk (K : PySem.W.Frag) (C f : Addr) : Prop where
  makes : PySem.W.makesIn K C = true
  init : PySem.W.findIn K (.ref C) "__init__" = some (some (.ref f))
  fn : PySem.W.isFn K (.ref f) = true
  kp : PySem.W.keepIn K (.ref C) = true

theorem run_make {pins : List (Addr × Obj)} {σ : St} {H : Hp} {s : Shared} {Q : VK} {us : List Value} {vs : List V} (M : Mk X.K C f) (F : FnOk X.prog X.w X.K X.mg X.base CX k f fd ps sp) (hr : Room (k + 1) X.A) (hb : Binds X.K fd ps ds) (hd : Vals dvs ds)
    (hx : Passes CX X E) (I : Inv X pins σ H s) (r : Vals vs us)
    (h : ∀ x dx, H x = none → H dx = none → dx ≠ x → sp (.ref x :: (vs ++ dvs)) (upd (upd H dx (.own x)) x (.ins C dx [])) (fun v H2 => v = .non ∧ Q (.ref x) H2) E) :
    wpAny (model X.prog X.w) X.A (call (.ref C) us) (EP X pins σ Q) X.xe s := by
  have hq := h (s.heap.objs.size + 1) s.heap.objs.size (I.hok.fresh (Nat.le_succ _)) (I.hok.fresh (Nat.le_refl _)) (Nat.ne_of_lt (Nat.lt_succ_self _))
  have I2 := Inv.made (C := C) I
  have r2 : Vals (V.ref (s.heap.objs.size + 1) :: (vs ++ dvs)) (Value.ref (s.heap.objs.size + 1) :: (us ++ ds)) := .cons rfl (r.append hd)
  have hl : (Value.ref (s.heap.objs.size + 1) :: us ++ ds).length = ps.length := by
    have e := r2.length
    rw [F.len _ _ _ _ hq] at e
    exact e.symm
  refine wpAny_call (make_map (f := f) I.kIn M.makes M.init (beq_iff_eq.mp M.fn) (codeAny_mono (F.run _ X.stack _ _ ⟨Value.ref (s.heap.objs.size + 1) :: us, []⟩ (Value.ref (s.heap.objs.size + 1) :: (us ++ ds)) _ _ E (hr.make C us [])
    (I2.env0.make C us []) (hb _ (Value.ref (s.heap.objs.size + 1) :: us) I2.kIn hl) r2 hq) fun r s' hq' => ?_))
  cases r with
  | error e => exact hx pins σ _ _ e s' I2 hq'
  | ok fl =>
    cases fl with
    | ret u =>
      obtain ⟨v, H', I3, rv, ev, q3⟩ := I2.after hq'
      subst ev
      exact ⟨rv, ⟨V.ref (s.heap.objs.size + 1), H', I3, rfl, q3⟩⟩
    | next => exact False.elim hq'
    | brk => exact False.elim hq'
    | cont => exact False.elim hq'
theorem pe_make (M : Mk X.K C f) (F : FnOk X.prog X.w X.K X.mg X.base CX k f fd ps sp) (hr : Room (k + 1) X.A) (hg : Gl X x) (hm : X.mg x = some (.ref C)) (hb : Binds X.K fd ps ds) (hd : Vals dvs ds) (hx : Passes CX X E)
    (ha : PA X (e :: es) t) (hdb : (x == ("__debug__" : Str)) = false := by decide) (he : starEach (e :: es) X.env = (false, eval e X.env) :: starEach es X.env := by rfl) (hpl : (backTo pos (starEach es X.env)).any (·.1) = false := by rfl) :
    PE X (.Call (.Name x p) (e :: es) [] pos) (tMake C sp dvs E t) := by
  intro pins s σ H Q I h
  refine wpAny_Call_Name_kw (ld_glob I hg hm ?_ hdb)
  refine PySem.W.callWith_K (h₀ := X.base) I.ok.mod.kin M.kp (thn (ha pos pins s σ H _ I h) fun us s1 ⟨vs, H1, I1, r, q⟩ => ⟨I1.kIn, ?_⟩) he hpl
  exact run_make M F hr hb hd hx I1 r q
theorem pe_make0 (M : Mk X.K C f) (F : FnOk X.prog X.w X.K X.mg X.base CX k f fd ps sp) (hr : Room (k + 1) X.A) (hg : Gl X x) (hm : X.mg x = some (.ref C)) (hb : Binds X.K fd ps ds) (hd : Vals dvs ds) (hx : Passes CX X E)
    (hdb : (x == ("__debug__" : Str)) = false := by decide) : PE X (.Call (.Name x p) [] [] pos) (tMake C sp dvs E tNil) := by
  intro pins s σ H Q I h
  refine wpAny_Call_Name_kw (ld_glob I hg hm ?_ hdb)
  exact PySem.W.callWith_K0 I.kIn M.kp (run_make (us := []) M F hr hb hd hx I .nil h)
end

/-! ### keywords -/
/-- the values of the keywords, from the left -/
def PK (X : Cx) (kws : List Keyword) (t : TA) : Prop :=
  ∀ (pos : Pos) (pins : List (Addr × Obj)) (s : Shared) (σ : St) (H : Hp) (Q : List V → Hp → Prop), Inv X pins σ H s → t σ H Q → wpAny (model X.prog X.w) X.A (evalAll ((backToKw pos (keywordEach kws X.env)).map (·.2))) (AP X pins σ Q) X.xe s
section
variable {X : Cx} {CX : CXT} {k : Nat} {f C : Addr} {fd : FuncData} {ps ks : List Str} {sp : Sp} {E : XK} {x m : Str} {p pos apos kpos : Pos} {e o : Expr} {es : List Expr} {kws : List Keyword} {te ta : TE} {t tk : TA} {nm : Option Str}
theorem pk_nil : PK X [] tNil := fun _ _ _ _ H Q I h => wpAny_evalAll_nil ⟨[], H, I, .nil, h⟩
theorem pk_cons (ha : PE X e te) (hr : PK X kws t) : PK X (⟨nm, e, kpos⟩ :: kws) (tCons te t) := by
  intro pos pins s σ H Q I h
  show wpAny _ _ (evalAll ((do let v ← eval e X.env; standAt pos; pure v) :: (backToKw pos (keywordEach kws X.env)).map (·.2))) _ _ s
  refine wpAny_evalAll_cons (wpAny_bind (thn (ha pins s σ H _ I h) fun u s1 ⟨x, H1, I1, r1, q1⟩ => wpAny_bind (wpAny_standAt (wpAny_pure ?_))))
  exact thn (hr pos pins s1 σ H1 _ I1 q1) fun us s2 ⟨xs, H2, I2, r2, q2⟩ => ⟨x :: xs, H2, I2, .cons r1 r2, q2⟩

/-- how a call with keywords binds: g puts the positional values us and the keywords' values ws (names ks) in the parameters' order, defaults among them -/
structure KBinds (K : PySem.W.Frag) (fd : FuncData) (ps ks : List Str) (g : List Value → List Value → List Value) (gV : List V → List V → List V) : Prop where
  to : ∀ (s : Shared) (us ws : List Value), K.In s.heap → (g us ws).length = ps.length → BindsTo s fd ⟨us, ks.zip ws⟩ (ps.zip (g us ws))
  rel : ∀ {vs : List V} {us : List Value} {zs : List V} {ws : List Value}, Vals vs us → Vals zs ws → Vals (gV vs zs) (g us ws)
def tCallK (sp : Sp) (gV : List V → List V → List V) (E : XK) (t tk : TA) : TE := fun σ H Q => t σ H fun vs H1 => tk σ H1 fun zs H2 => sp (gV vs zs) H2 Q E
variable {g : List Value → List Value → List Value} {gV : List V → List V → List V}
theorem run_fnk {pins : List (Addr × Obj)} {σ : St} {H : Hp} {s : Shared} {Q : VK} {us ws : List Value} {vs zs : List V} (F : FnOk X.prog X.w X.K X.mg X.base CX k f fd ps sp) (hr : Room k X.A) (hb : KBinds X.K fd ps ks g gV) (hx : Passes CX X E)
    (I : Inv X pins σ H s) (r : Vals vs us) (rz : Vals zs ws) (h : sp (gV vs zs) H Q E) : wpAny (model X.prog X.w) X.A (call (.ref f) us (ks.zip ws)) (EP X pins σ Q) X.xe s := by
  have r2 := hb.rel r rz
  have hl : (g us ws).length = ps.length := by rw [← r2.length]; exact F.len _ _ _ _ h
  refine wpAny_call (codeAny_mono (F.run X.A X.stack s H ⟨us, ks.zip ws⟩ (g us ws) (gV vs zs) Q E hr I.env0 (hb.to s us ws I.kIn hl) r2 h) fun r s' hq => ?_)
  cases r with
  | error e => exact hx pins σ H s e s' I hq
  | ok fl =>
    cases fl with
    | ret u => exact I.after hq
    | next => exact False.elim hq
    | brk => exact False.elim hq
    | cont => exact False.elim hq
/-- f(e, .., k = v, ..) -/
theorem pe_callK (F : FnOk X.prog X.w X.K X.mg X.base CX k f fd ps sp) (hr : Room k X.A) (hg : Gl X x) (hm : X.mg x = some (.ref f)) (hk : PySem.W.keepIn X.K (.ref f) = true) (hb : KBinds X.K fd ps ks g gV) (hx : Passes CX X E)
    (ha : PA X (e :: es) t) (hkw : PK X kws tk) (hall : (backToKw pos (keywordEach kws X.env)).all (·.1.isSome) = true := by rfl) (hks : (backToKw pos (keywordEach kws X.env)).filterMap (·.1) = ks := by rfl)
    (hdb : (x == ("__debug__" : Str)) = false := by decide) (he : starEach (e :: es) X.env = (false, eval e X.env) :: starEach es X.env := by rfl)
    (hpl : ((backTo pos (starEach (e :: es) X.env)).any (·.1) || (backToKw pos (keywordEach kws X.env)).any (·.1.isNone)) = false := by rfl) :
    PE X (.Call (.Name x p) (e :: es) kws pos) (tCallK sp gV E t tk) := by
  intro pins s σ H Q I h
  refine wpAny_Call_Name_kw (ld_glob I hg hm ?_ hdb)
  refine PySem.W.callWith_KW (h₀ := X.base) I.ok.mod.kin hk hall (thn (ha pos pins s σ H _ I h) fun us s1 ⟨vs, H1, I1, r, q⟩ => ?_) hpl he
  refine thn (hkw pos pins s1 σ H1 _ I1 q) fun ws s2 ⟨zs, H2, I2, rz, q2⟩ => ⟨I2.kIn, ?_⟩
  rw [hks]
  exact run_fnk F hr hb hx I2 r rz q2
end

/-! ### a def's body keeps its promise -/
/-- names: the parameters first -/
structure FnScope (N P : List Str) (sc : Scope) : Prop where
  kind : sc.kind = .function
  co : sc.isCoroutine = false
  gen : sc.isGenerator = false
  nd : N.Nodup
  pre : N.take P.length = P
  par : ∀ x ∈ P, sc.names.lookup x = some .local ∨ sc.names.lookup x = some .cell
  nofree : ∀ y ∈ sc.names, y.2 ≠ .free

theorem bindL_out {kindOf : Str → Option NameKind} {x : Str} : ∀ {binds : List (Str × Value)} {m : Str → Option Value}, (∀ v, (x, v) ∉ binds) → bindL kindOf binds m x = m x
  | [], _, _ => rfl
  | (n, v) :: r, m, h => by
    unfold bindL
    rw [bindL_out fun w hw => h w (List.mem_cons_of_mem _ hw)]
    split
    · have : x ≠ n := by rintro rfl; exact h v List.mem_cons_self
      simp [this]
    · rfl
theorem bindC_out {kindOf : Str → Option NameKind} {x : Str} : ∀ {binds : List (Str × Value)} {m : Str → Option Value}, (∀ v, (x, v) ∉ binds) → bindC kindOf binds m x = m x
  | [], _, _ => rfl
  | (n, v) :: r, m, h => by
    unfold bindC
    rw [bindC_out fun w hw => h w (List.mem_cons_of_mem _ hw)]
    split
    · rfl
    · have : x ≠ n := by rintro rfl; exact h v List.mem_cons_self
      simp [this]
theorem bindL_get {kindOf : Str → Option NameKind} {x : Str} {v : Value} : ∀ {P : List Str} {vs : List Value} {i : Nat} {m : Str → Option Value}, P.Nodup → P[i]? = some x → vs[i]? = some v → kindOf x = some .local →
    bindL kindOf (P.zip vs) m x = some v
  | [], _, _, _, _, h, _, _ => by simp at h
  | _ :: _, [], _, _, _, _, h, _ => by simp at h
  | p :: P, w :: vs, 0, m, nd, h1, h2, hk => by
    simp at h1 h2; subst h1; subst h2
    show bindL kindOf ((p, w) :: P.zip vs) m p = _
    unfold bindL
    rw [bindL_out fun v hv => (List.nodup_cons.mp nd).1 (List.of_mem_zip hv).1, if_pos hk]
    simp
  | p :: P, w :: vs, i + 1, m, nd, h1, h2, hk => by
    show bindL kindOf ((p, w) :: P.zip vs) m x = _
    unfold bindL
    exact bindL_get (i := i) (List.nodup_cons.mp nd).2 (by simpa using h1) (by simpa using h2) hk
theorem bindC_get {kindOf : Str → Option NameKind} {x : Str} {v : Value} : ∀ {P : List Str} {vs : List Value} {i : Nat} {m : Str → Option Value}, P.Nodup → P[i]? = some x → vs[i]? = some v → kindOf x ≠ some .local →
    bindC kindOf (P.zip vs) m x = some v
  | [], _, _, _, _, h, _, _ => by simp at h
  | _ :: _, [], _, _, _, _, h, _ => by simp at h
  | p :: P, w :: vs, 0, m, nd, h1, h2, hk => by
    simp at h1 h2; subst h1; subst h2
    show bindC kindOf ((p, w) :: P.zip vs) m p = _
    unfold bindC
    rw [bindC_out fun v hv => (List.nodup_cons.mp nd).1 (List.of_mem_zip hv).1, if_neg hk]
    simp
  | p :: P, w :: vs, i + 1, m, nd, h1, h2, hk => by
    show bindC kindOf ((p, w) :: P.zip vs) m x = _
    unfold bindC
    exact bindC_get (i := i) (List.nodup_cons.mp nd).2 (by simpa using h1) (by simpa using h2) hk

/-- the names' values at the entry -/
def start (N : List Str) (vs : List V) : St := vs.map some ++ List.replicate (N.length - vs.length) none

/-- the context of a def's body, at its entry; an exception leaves the frame, then lies as CX says -/
def cxOf (CX : CXT) (P : Program) (w : World) (K : PySem.W.Frag) (mg : Str → Option Value) (base : Heap) (N : List Str) (qual : Str) (scope : Scope) (f : Addr) (cd : Value) (A : Around) (outer : List Env) (s : Shared) (H : Hp) (E : XK) : Cx where
  prog := P
  w := w
  K := K
  mg := mg
  base := base
  A := A.deeper (envOfC qual scope s.heap.objs.size f cd)
  N := N
  s₀ := s
  H₀ := H
  env := envOfC qual scope s.heap.objs.size f cd
  outer := outer
  stack := envOfC qual scope s.heap.objs.size f cd :: outer
  ex := []
  calm := true
  fn := fun _ => true
  pn := []
  xe := fun e s' => wpAny (model P w) (A.deeper (envOfC qual scope s.heap.objs.size f cd)) (leaving (envOfC qual scope s.heap.objs.size f cd) e) (fun _ s'' => CX outer H s E e s'') (fun e' s'' => CX outer H s E e' s'') s'

theorem cell_has {sc : Scope} {n : Nat} {x : Str} (h : sc.names.lookup x = some .cell) : ∃ c, (cellsFrom n sc.names []).lookup x = some c := by
  have q := PySem.W.cellsFrom_some sc.names n [] (.inl h)
  exact Option.isSome_iff_exists.mp q

theorem inv_start {CX : CXT} {P : Program} {w : World} {K : PySem.W.Frag} {mg : Str → Option Value} {base : Heap} {N ps : List Str} {qual : Str} {scope : Scope} {f : Addr} {cd : Value} {A : Around} {outer : List Env} {s s1 : Shared} {H : Hp} {E : XK} {us : List Value} {vs : List V}
    (S : FnScope N ps scope) (hd : A.handled = none) (e0 : Env0 P w K mg base A outer s H) (hl : vs.length = ps.length) (r : Vals vs us)
    (x : InCallC s s.heap.objs.size (bindL (envOfC qual scope s.heap.objs.size f cd).kindOf (ps.zip us) fun _ => none) (cellsFrom (s.heap.objs.size + 1) scope.names []) (bindC (envOfC qual scope s.heap.objs.size f cd).kindOf (ps.zip us) fun _ => none) s1) :
    Inv (cxOf CX P w K mg base N qual scope f cd A outer s H E) [] (start N vs) H s1 := by
  have hpl : ps.length ≤ N.length := by have := congrArg List.length S.pre; rw [List.length_take] at this; omega
  obtain ⟨h1, tk, rfl, hk⟩ := x.done
  have noA : ∀ b : Addr, b ∉ (cxOf CX P w K mg base N qual scope f cd A outer s H E).ex := fun b z => absurd (show b ∈ ([] : List Addr) from z) (by simp)
  refine ⟨⟨e0.mod, S.kind, rfl, rfl, Nat.le_refl _, fun y z c h1 h2 => ?_, fun y hy => ?_, fun y c _ h => ?_, fun _ => hd, Around.frames_deeper e0.frames, .inr ⟨rfl, rfl⟩, fun b z => absurd z (noA b), e0.bs, e0.bsz, fun b _ _ => noA b, fun b z => absurd z (noA b), e0.funs, e0.frf⟩,
    rfl, e0.bare, Un.kept hk, ⟨_, x.toInCall.ns, fun i y v h1 h2 h3 => ?_⟩, fun y c h => ⟨_, x.cell y c h⟩, e0.hok.fresh (Nat.le_refl _), fun y c h => ?_, fun p hp => absurd (show p ∈ ([] : List (Addr × Obj)) from hp) (by simp), e0.hok.kept hk, ?_⟩
  · exact name_of_addr x.apart (PySem.mem_of_lookup h1) (PySem.mem_of_lookup h2)
  · have hy : scope.names.lookup y = some .cell ∨ scope.names.lookup y = some .free := hy
    rcases hy with hy | hy
    · exact cell_has hy
    · exact absurd rfl (S.nofree _ (PySem.mem_of_lookup hy))
  · exact Nat.le_of_lt (x.above y c (PySem.mem_of_lookup h))
  · have hi : i < vs.length := by
      unfold start at h2
      by_cases hi : i < vs.length
      · exact hi
      · rw [List.getElem?_append_right (by simpa using hi)] at h2
        rw [List.getElem?_replicate] at h2
        split at h2 <;> cases h2
    have ha : vs[i]? = some v := by
      unfold start at h2
      rw [List.getElem?_append_left (by simpa using hi), List.getElem?_map] at h2
      cases e : vs[i]? with
      | none => rw [e] at h2; cases h2
      | some a => rw [e] at h2; cases h2; rfl
    obtain ⟨u, hu, rv⟩ := r.get ha
    have hp : ps[i]? = some y := by
      rw [← S.pre, List.getElem?_take_of_lt (by omega)]; exact h1
    have ndP : ps.Nodup := by rw [← S.pre]; exact S.nd.sublist (List.take_sublist _ _)
    refine ⟨u, rv, ?_⟩
    rcases S.par y (List.mem_of_getElem? hp) with k | k
    · exact .inl ⟨k, bindL_get ndP hp hu k⟩
    · obtain ⟨c, e⟩ := cell_has (n := s.heap.objs.size + 1) k
      refine .inr ⟨.inl k, c, e, ?_⟩
      have q := x.cell y c e
      rw [bindC_get ndP hp hu (by show scope.names.lookup y ≠ _; rw [k]; decide)] at q
      exact q
  · exact e0.hok.fresh (Nat.le_of_lt (x.above y c (PySem.mem_of_lookup h)))
  · unfold start
    show _ = N.length
    rw [List.length_append, List.length_map, List.length_replicate]
    omega

/-- THE RULE: a def (or a method) of the text, by its body. The body's reading t is chosen for each entry; it is run at the parameters' values -/
theorem fn_of {CX : CXT} {P : Program} {w : World} {K : PySem.W.Frag} {mg : Str → Option Value} {base : Heap} {k : Nat} {f : Addr} {name qual : Str} {params : Arguments} {body : List Stmt} {scope : Scope} {dV kV doc pm cdv ct oc : Value} {an od : Option Addr}
    {osl : Array (Option Value)} {N ps : List Str} {sp : Sp} (lk : K.lookup f = some ⟨oc, od, .func (PySem.W.fnOf name qual params body scope dV kV doc pm an cdv ct), osl⟩) (hcd : PySem.W.codeIn K cdv qual = true) (S : FnScope N ps scope)
    (len : ∀ vs H Q E, sp vs H Q E → vs.length = ps.length)
    (hbody : ∀ (A : Around) (outer : List Env) (s : Shared) (H : Hp) (vs : List V) (Q : VK) (E : XK), Room k (A.deeper (envOfC qual scope s.heap.objs.size f cdv)) → sp vs H Q E →
      ∃ t, PSs (cxOf CX P w K mg base N qual scope f cdv A outer s H E) body t ∧ t { nx := fun _ H' => Q .non H', rt := Q } (start N vs) H) :
    FnOk P w K mg base CX (k + 1) f (PySem.W.fnOf name qual params body scope dV kV doc pm an cdv ct) ps sp := by
  refine ⟨len, fun A outer s H args us vs Q E hr e0 hb r hsp => ?_⟩
  have hl := len _ _ _ _ hsp
  have KX : K.In s.heap := e0.mod.kin.keeps fun b o e => (e0.bs b o e).1
  have lim : s.heap.NoLimit := e0.mod.nolimit.keeps fun b o e => (e0.bs b o e).1
  have hkind : ∀ y ∈ ps.zip us, scope.names.lookup y.1 = some .local ∨ (scope.names.lookup y.1 = some .cell ∧ ((cellsFrom (s.heap.objs.size + 1) scope.names []).lookup y.1).isSome = true) := fun ⟨n, v⟩ hy => by
    rcases S.par n (List.of_mem_zip hy).1 with q | q
    · exact .inl q
    · exact .inr ⟨q, PySem.W.cellsFrom_some _ _ _ (.inl q)⟩
  refine codeAny_call_function hr.depth (KX _ _ lk) rfl S.co S.gen rfl (PySem.W.codeRec_of KX hcd) (hb _ _ _ _ ?_)
  refine wpAny_newFunctionEnv_cells S.kind hkind fun env he s1 x => ?_
  subst he
  refine ⟨lim.keeps x.toInCall.keep, codeAny_func ?_⟩
  obtain ⟨t, ht, hq⟩ := hbody A outer s H vs Q E (hr.deeper _) hsp
  have I : Inv (cxOf CX P w K mg base N qual scope f cdv A outer s H E) [] (start N vs) H s1 := inv_start S hr.hd e0 hl r x
  refine wpAny_mono (ht [] s1 (start N vs) H _ I hq) (fun fl s' hs => ?_) fun e s' hs => hs
  have fin : ∀ {σ' : St} {H' : Hp} {v : V} {u : Value}, Inv (cxOf CX P w K mg base N qual scope f cdv A outer s H E) [] σ' H' s' → RelV v u → Q v H' → CE outer P w H s Q u s' :=
    fun {σ' H' v u} J rv q => ⟨v, H', J.os, J.bare, J.base, J.hok, rv, q⟩
  cases fl with
  | ret u =>
    obtain ⟨v, σ', H', J, rv, q⟩ := hs
    exact fin J rv q
  | next =>
    obtain ⟨σ', H', J, q⟩ := hs
    exact fin (v := V.non) (u := Value.none) J rfl q
  | brk =>
    obtain ⟨_, _, _, q⟩ := hs
    exact False.elim q
  | cont =>
    obtain ⟨_, _, _, q⟩ := hs
    exact False.elim q
end L2

namespace L2
open PySem PySem.Spec PyProof.Rows
section
variable {X : Cx} {x : Str} {p pos : Pos} {e : Expr} {es : List Expr} {t : TA} {id T : String} {r : List V → Hp → VK → Prop}

def tCB (r : List V → Hp → VK → Prop) (t : TA) : TE := fun σ H Q => t σ H fun vs H1 => r vs H1 Q
/-- f(e, ..), f a built-in function -/
theorem pe_callB (hc : CallR X (.builtin id) r) (hg : Gl X x) (hm : X.mg x = none) (hv : bootBuiltins x = some (.builtin id)) (ha : PA X (e :: es) t) (hn : x ≠ "__name__" := by decide) (hdb : (x == ("__debug__" : Str)) = false := by decide)
    (he : starEach (e :: es) X.env = (false, eval e X.env) :: starEach es X.env := by rfl) (hpl : (backTo pos (starEach es X.env)).any (·.1) = false := by rfl) : PE X (.Call (.Name x p) (e :: es) [] pos) (tCB r t) := by
  intro pins s σ H Q I h
  refine wpAny_Call_Name_kw (ld_blt I hg hm hv ?_ hn hdb)
  exact PyProof.Rows.callWith_builtin1 (thn (ha pos pins s σ H _ I h) fun us s1 ⟨vs, H1, I1, r1, q1⟩ => hc pins s1 σ H1 vs us Q I1 r1 q1) he hpl
/-- T(e, ..), T a built-in type -/
theorem pe_callTy (hc : CallR X (.type T) r) (hg : Gl X x) (hm : X.mg x = none) (hv : bootBuiltins x = some (.type T)) (ha : PA X (e :: es) t) (hn : x ≠ "__name__" := by decide) (hdb : (x == ("__debug__" : Str)) = false := by decide)
    (he : starEach (e :: es) X.env = (false, eval e X.env) :: starEach es X.env := by rfl) (hpl : (backTo pos (starEach es X.env)).any (·.1) = false := by rfl) : PE X (.Call (.Name x p) (e :: es) [] pos) (tCB r t) := by
  intro pins s σ H Q I h
  refine wpAny_Call_Name_kw (ld_blt I hg hm hv ?_ hn hdb)
  exact PyProof.Rows.callWith_type1 (thn (ha pos pins s σ H _ I h) fun us s1 ⟨vs, H1, I1, r1, q1⟩ => hc pins s1 σ H1 vs us Q I1 r1 q1) he hpl
/-- T() -/
theorem pe_callTy0 (hc : CallR X (.type T) r) (hg : Gl X x) (hm : X.mg x = none) (hv : bootBuiltins x = some (.type T)) (hn : x ≠ "__name__" := by decide) (hdb : (x == ("__debug__" : Str)) = false := by decide) :
    PE X (.Call (.Name x p) [] [] pos) (tCB r tNil) := by
  intro pins s σ H Q I h
  refine wpAny_Call_Name_kw (ld_blt I hg hm hv ?_ hn hdb)
  exact PyProof.Rows.callWith_type0 (hc pins s σ H [] [] Q I .nil h)
end
end L2

namespace HT
open PySem PyProof.Rows

/-- t < u of tuples of ints -/
def lexLt : List Int → List Int → Bool
  | [], [] => false
  | [], _ :: _ => true
  | _ :: _, [] => false
  | x :: xs, y :: ys => if x = y then lexLt xs ys else decide (x < y)
theorem lexLt_cons (x y : Int) (xs ys : List Int) : lexLt (x :: xs) (y :: ys) = if x = y then lexLt xs ys else decide (x < y) := rfl
theorem lexLt_nil_nil : lexLt [] [] = false := rfl
theorem lexLt_nil_cons (y : Int) (ys : List Int) : lexLt [] (y :: ys) = true := rfl
theorem lexLt_cons_nil (x : Int) (xs : List Int) : lexLt (x :: xs) [] = false := rfl

theorem eqAt_int (A : Around) (s : Shared) (a : Int) (t : Tok) (c : Int) (u : Tok) : ∃ e, SeqAt.EqAt A s (.int a t) (.int c u) e ∧ (e = true ↔ a = c) :=
  ⟨(a == c), SeqAt.EqAt.int_int a t c u, by simp⟩
theorem rcLt_int (A : Around) (s : Shared) (a : Int) (t : Tok) (c : Int) (u : Tok) (prog : Program) (w : World) (E : Value → Shared → Prop) (Q : Value → Shared → Prop) (h : Q (.bool (decide (a < c))) s) :
    wpAny (model prog w) A (richCompare .Lt (.int a t) (.int c u)) Q E s :=
  (PyProof.Rows.lt_int h : wpAny (model prog w) A (compareOp .Lt (.int a t) (.int c u)) Q E s)

section
open PySem.SeqAt
open PySem.AutoSeq1 (wpAny_loadPart')
open PySem.MeetsSeq PySem.MeetsSeq2 PySem.MeetsSeq3

theorem tuple_lt_ints (l b : Addr) (items items2 : Array Value) (n n2 : Nat) (dd dd2 : Option Addr) (sl sl2 : Array (Option Value)) (ns ms : List Int) (hi : IntsAre items.toList ns) (hj : IntsAre items2.toList ms) :
    Meets (Builtin.«tuple.__lt__» ⟨[.ref l, .ref b], []⟩)
      (fun _ R s => s.heap.get? l = some { cls := .type "tuple", dict := dd, data := .seq items n, slots := sl } ∧ s.heap.get? b = some { cls := .type "tuple", dict := dd2, data := .seq items2 n2, slots := sl2 } ∧
        R (.ok (.ret (.bool (lexLt ns ms)))) s) :=
  .of_wp fun prog w A R s h => by
    obtain ⟨hp, g, d, tk, os⟩ := s; obtain ⟨hl, hb, h⟩ := h
    have f2 := AutoSeq1.sub_tuple_tuple
    have z1 : items.size = ns.length := by rw [← hi.length]; simp
    have z2 : items2.size = ms.length := by rw [← hj.length]; simp
    wp_walk using wpAny_loadPart' hl, wpAny_loadPart' hb, wpAny_forIn_list _ (fun rest b s' => b.1 = none ∧ s' = ⟨hp, g, d, tk, os⟩ ∧ ∃ (vs ws : List Value) (ns' ms' : List Int), rest = vs.zip ws ∧
      IntsAre vs ns' ∧ IntsAre ws ms' ∧ ns'.length + items2.size = ms'.length + items.size ∧ R (.ok (.ret (.bool (lexLt ns' ms')))) ⟨hp, g, d, tk, os⟩) _
    case turn =>
      rintro ⟨y, x⟩ rest b s' ⟨hb', rfl, vs, ws, ns', ms', hz, hvi, hwi, hlen, hR⟩
      cases hvi with
      | nil => rw [List.zip_nil_left] at hz; cases hz
      | cons a t hvi' =>
        cases hwi with
        | nil => rw [List.zip_nil_right] at hz; cases hz
        | cons c u hwi' =>
          rw [List.zip_cons_cons] at hz
          injection hz with hyx hrest
          injection hyx with hy hx
          subst hy hx
          rw [lexLt_cons] at hR
          simp only [List.length_cons] at hlen
          obtain ⟨e, he, hiff⟩ := eqAt_int A.in1 ⟨hp, g, d, tk, os⟩ a t c u
          refine wpAny_bind (he prog w _ _ ?_)
          cases e with
          | true =>
            rw [if_pos (hiff.mp rfl)] at hR
            wp_walk
            exact ⟨rfl, rfl, _, _, _, _, hrest, hvi', hwi', by omega, hR⟩
          | false =>
            rw [if_neg (fun q => absurd (hiff.mpr q) Bool.false_ne_true)] at hR
            have hri := rcLt_int A.in1 ⟨hp, g, d, tk, os⟩ a t c u prog w
            wp_walk using hri
            exact ⟨_, rfl, by simpa using hR⟩
    case fin =>
      rintro ⟨b1, b2⟩ s' ⟨hb', rfl, vs, ws, ns', ms', hz, hvi, hwi, hlen, hR⟩
      simp only at hb'
      subst hb'
      have hv : lexLt ns' ms' = decide (items.size < items2.size) := by
        cases hvi with
        | nil =>
          cases hwi with
          | nil =>
            simp only [List.length_nil] at hlen
            rw [lexLt_nil_nil]
            exact (decide_eq_false (by omega)).symm
          | cons c u hw =>
            simp only [List.length_nil, List.length_cons] at hlen
            rw [lexLt_nil_cons]
            exact (decide_eq_true (by omega)).symm
        | cons a t hv =>
          cases hwi with
          | nil =>
            simp only [List.length_nil, List.length_cons] at hlen
            rw [lexLt_cons_nil]
            exact (decide_eq_false (by omega)).symm
          | cons c u hw =>
            rw [List.zip_cons_cons] at hz
            cases hz
      rw [hv] at hR
      wp_walk
      exact ⟨_, rfl, by simpa [Builtin.Tuple.tupleCompareSizes] using hR⟩
    case h =>
      exact ⟨rfl, rfl, items.toList, items2.toList, ns, ms, rfl, hi, hj, by omega, h⟩
end

section
variable {prog : Program} {w : World} {A : Around} {E : Value → Shared → Prop} {s : Shared}

theorem lt_tupInts {l b : Addr} {items items2 : Array Value} {ns ms : List Int} {Q : Value → Shared → Prop} (hl : IsTup s.heap l items) (hb : IsTup s.heap b items2) (hi : IntsAre items.toList ns) (hj : IntsAre items2.toList ms)
    (hu : A.units < cLine) (h : Q (.bool (lexLt ns ms)) s) : wpAny (model prog w) A (compareOp .Lt (.ref l) (.ref b)) Q E s := by
  obtain ⟨⟨cls, dd, data, sl⟩, ho, hc, n, hd⟩ := id hl
  obtain ⟨⟨cls2, dd2, data2, sl2⟩, ho2, hc2, n2, hd2⟩ := id hb
  simp only at hc hd hc2 hd2
  subst hc hd hc2 hd2
  exact richCompare_meets_room (op := .Lt) ⟨_, ho, rfl⟩ ⟨_, ho2, rfl⟩ PySem.F.slot_tuple_lt PySem.F.entry_tuple_lt (PySem.F.args_tuple_lt_2 _ _) (tuple_lt_ints l b items items2 n n2 dd dd2 sl sl2 ns ms hi hj)
    ⟨ho, ho2, show Value.bool (lexLt ns ms) ≠ Value.notImplemented ∧ Q (.bool (lexLt ns ms)) s from ⟨(fun x => nomatch x), h⟩⟩ hu

/-- t + u, t not empty -/
theorem cat_tup {t b : Addr} {vs ws : List Value} {Q : Value → Shared → Prop} (ht : IsTup s.heap t vs.toArray) (hb : IsTup s.heap b ws.toArray) (hv : vs ≠ [])
    (h1 : ws = [] → Q (.ref t) s) (h2 : ws ≠ [] → Q (.ref s.heap.objs.size) { s with heap := s.heap.push { cls := .type "tuple", data := .seq (vs ++ ws).toArray } })
    (hsz : vs.length + ws.length ≤ sizeLine) : wpAny (model prog w) A (binaryOp .Add (.ref t) (.ref b)) Q E s := by
  obtain ⟨⟨cls, dd, data, sl⟩, ho, hc, n, hd⟩ := id ht
  obtain ⟨⟨cls2, dd2, data2, sl2⟩, ho2, hc2, n2, hd2⟩ := id hb
  simp only at hc hd hc2 hd2
  subst hc hd hc2 hd2
  have e : vs.toArray ++ ws.toArray = (vs ++ ws).toArray := by simp
  by_cases hw : ws = []
  · exact concat_meets ⟨_, ho, rfl⟩ ⟨_, ho2, rfl⟩ noFill_tuple_add seq_tuple_add PySem.F.slot_tuple_add PySem.F.entry_tuple_add (PySem.F.args_tuple_add_2 _ _)
      (tuple_addW1 t b vs.toArray ws.toArray n n2 dd dd2 sl sl2 (by simpa using hv) (by simp [hw])) ⟨ho, ho2, h1 hw⟩
  · refine concat_meets ⟨_, ho, rfl⟩ ⟨_, ho2, rfl⟩ noFill_tuple_add seq_tuple_add PySem.F.slot_tuple_add PySem.F.entry_tuple_add (PySem.F.args_tuple_add_2 _ _)
      (tuple_addW2 t b vs.toArray ws.toArray n n2 dd dd2 sl sl2 (by simpa using hv) (by simpa using hw) (by rw [List.size_toArray, List.size_toArray]; exact hsz)) ⟨ho, ho2, ?_⟩
    rw [e]
    exact h2 hw

/-! ### t[a:b], not the whole -/
/-- a slice's bound as a place among n (d where it is left out) -/
def sIx (n d : Nat) : Option Int → Nat
  | none => d
  | some v => if v < 0 then (v + (n : Int)).toNat else min v.toNat n
theorem sIx_none (n d : Nat) : sIx n d none = d := rfl
theorem sIx_nat (n d k : Nat) : sIx n d (some (k : Int)) = min k n := by
  show (if (k : Int) < 0 then ((k : Int) + (n : Int)).toNat else min (k : Int).toNat n) = min k n
  rw [if_neg (by omega), Int.toNat_natCast]
theorem sIx_le (n d : Nat) (hd : d ≤ n) (o : Option Int) : sIx n d o ≤ n := by
  cases o with
  | none => exact hd
  | some v =>
    show (if v < 0 then (v + (n : Int)).toNat else min v.toNat n) ≤ n
    by_cases hv : v < 0
    · rw [if_pos hv]; omega
    · rw [if_neg hv]; exact Nat.min_le_right _ _
theorem clip_eq (v : Int) (n d : Nat) : (if v < 0 then max (v + (n : Int)) 0 else min v (n : Int)) = ((sIx n d (some v) : Nat) : Int) := by
  show (if v < 0 then max (v + (n : Int)) 0 else min v (n : Int)) = (((if v < 0 then (v + (n : Int)).toNat else min v.toNat n) : Nat) : Int)
  by_cases hv : v < 0
  · simp only [if_pos hv]; omega
  · simp only [if_neg hv]; omega
theorem adjust_gen (lo hi : Option Int) (n : Nat) : Builtin.Slice.sliceAdjust lo hi 1 (n : Int) = (((sIx n 0 lo : Nat) : Int), ((sIx n n hi : Nat) : Int)) := by
  have h1 : ¬ ((1 : Int) < 0) := by omega
  unfold Builtin.Slice.sliceAdjust
  simp only [h1, if_false]
  refine Prod.ext ?_ ?_
  · cases lo with
    | none => rfl
    | some v => exact clip_eq v n 0
  · cases hi with
    | none => rfl
    | some v => exact clip_eq v n n
theorem places_gen (i j : Nat) : Builtin.Slice.slicePlaces (i : Int) (j : Int) 1 = j - i := by
  unfold Builtin.Slice.slicePlaces
  have h1 : (1 : Int) > 0 := by omega
  simp only [h1, if_true, Int.ediv_one]
  split <;> omega
theorem slicePart_ {v : Value} {o : Option Int} {Q : Option Int → Shared → Prop} (p : IsPart v o) (h : Q o s) : wpAny (model prog w) A (Builtin.Slice.slicePartIndex v) Q E s := by
  cases p with
  | none => exact slicePart_none h
  | int i t => exact slicePart_int h
theorem sliceApplied_gen {sl : Addr} {vl vu : Value} {lo hi : Option Int} {n : Nat} {Q : Int × Int × Nat → Shared → Prop} (hs : s.heap.IsSliceOf sl vl vu .none) (pl : IsPart vl lo) (pu : IsPart vu hi)
    (h : Q (((sIx n 0 lo : Nat) : Int), 1, sIx n n hi - sIx n 0 lo) s) : wpAny (model prog w) A (Builtin.Slice.sliceApplied (.ref sl) (pure (n : Int))) Q E s := by
  obtain ⟨os, hos, hcs, hds⟩ := id hs
  unfold Builtin.Slice.sliceApplied Builtin.Slice.sliceFields
  refine wpAny_bind (wpAny_bind (wpAny_field hos hds (x := vl) rfl (wpAny_bind (wpAny_field hos hds (x := vu) rfl (wpAny_bind (wpAny_field hos hds (x := .none) rfl (wpAny_pure ?_)))))))
  refine wpAny_bind (slicePart_none ?_)
  show wpAny _ _ (if ((1 : Int) == 0) = true then _ else _) _ _ s
  rw [if_neg (by decide)]
  refine wpAny_bind (slicePart_ pl (wpAny_bind (slicePart_ pu (wpAny_bind (wpAny_pure ?_)))))
  show wpAny _ _ (match Builtin.Slice.sliceAdjust lo hi 1 (n : Int) with | (lo, hi) => pure (lo, (1 : Int), Builtin.Slice.slicePlaces lo hi 1)) _ _ s
  rw [adjust_gen lo hi n]
  show wpAny _ _ (pure (((sIx n 0 lo : Nat) : Int), (1 : Int), Builtin.Slice.slicePlaces ((sIx n 0 lo : Nat) : Int) ((sIx n n hi : Nat) : Int) 1)) _ _ s
  rw [places_gen]
  exact wpAny_pure h
theorem pick_gen (xs : Array Value) (i k : Nat) : ((List.range k).filterMap fun (m : Nat) => xs[((i : Int) + (m : Int) * 1).toNat]?).toArray = ((xs.toList.drop i).take k).toArray := by
  have e : (fun (m : Nat) => xs[((i : Int) + (m : Int) * 1).toNat]?) = fun m => xs[i + m]? := by
    funext m
    have : ((i : Int) + (m : Int) * 1).toNat = i + m := by omega
    rw [this]
  rw [e]
  have := pick_run xs i k
  rw [List.filterMap_map] at this
  have e2 : ((fun x => xs[x]?) ∘ fun x => i + x) = fun m => xs[i + m]? := rfl
  rw [e2] at this
  rw [this]

theorem getItem_tuple_cut {t sl : Addr} {items : Array Value} {vl vu : Value} {lo hi : Option Int} {Q : Value → Shared → Prop} (ht : IsTup s.heap t items) (hs : s.heap.IsSliceOf sl vl vu .none) (pl : IsPart vl lo) (pu : IsPart vu hi)
    (hw : ¬ (sIx items.size 0 lo = 0 ∧ sIx items.size items.size hi = items.size))
    (h : Q (.ref s.heap.objs.size) { s with heap := s.heap.push { cls := .type "tuple", data := .seq ((items.toList.drop (sIx items.size 0 lo)).take (sIx items.size items.size hi - sIx items.size 0 lo)).toArray } })
    (hsz : items.size ≤ sizeLine) : wpAny (model prog w) A (getItem (.ref t) (.ref sl)) Q E s := by
  have htake : sizeOk (.seq ((items.toList.drop (sIx items.size 0 lo)).take (sIx items.size items.size hi - sIx items.size 0 lo)).toArray) := by
    show ((items.toList.drop (sIx items.size 0 lo)).take (sIx items.size items.size hi - sIx items.size 0 lo)).toArray.size ≤ sizeLine
    rw [List.size_toArray, List.length_take, List.length_drop, Array.length_toList]
    omega
  have hj : sIx items.size items.size hi ≤ items.size := sIx_le _ _ (Nat.le_refl _) hi
  obtain ⟨os, hos, hcs, hds⟩ := id hs
  have hTs : s.TypeIs (.ref sl) "slice" := ⟨os, hos, hcs⟩
  unfold getItem
  try with_reducible refine wpAny_holding ?_
  first | refine wpAny_bind (wpAny_pure ?_) | skip
  refine wpAny_bind (wpAny_sequenceKey ht.typeIs (by decide) ?_)
  refine wpAny_bind (wpAny_callSpecial?_slot (name := Str.ofString "__getitem__") ht.typeIs PyProof.Rows.slot_tuple_getitem
    (wpAny_call_entry PyProof.Rows.slot_tuple_getitem ht.typeIs entry_tuple_getitem ?_ (args_tuple_getitem _ _)))
  show wpAny _ _ (Builtin.Tuple.tupleItemsOf (.ref t) >>= _) _ _ s
  refine wpAny_bind (tupleItemsOf_ ht ?_)
  refine wpAny_bind (wpAny_typeOf hTs ?_)
  rw [if_pos (by decide)]
  refine wpAny_bind (sliceApplied_gen hs pl pu ?_)
  have hno : ¬ ((((sIx items.size 0 lo : Nat) : Int) == 0 && (1 : Int) == 1 && (sIx items.size items.size hi - sIx items.size 0 lo) == items.size) = true) := by
    intro q
    rw [Bool.and_eq_true, Bool.and_eq_true] at q
    have q1 : ((sIx items.size 0 lo : Nat) : Int) = 0 := eq_of_beq q.1.1
    have q2 : sIx items.size items.size hi - sIx items.size 0 lo = items.size := eq_of_beq q.2
    exact hw ⟨by omega, by omega⟩
  show wpAny _ _ (if (((sIx items.size 0 lo : Nat) : Int) == 0 && (1 : Int) == 1 && (sIx items.size items.size hi - sIx items.size 0 lo) == items.size) = true then _ else _) _ _ s
  rw [if_neg hno, pick_gen]
  first
    | exact wpAny_bind (m := Builtin.Tuple.tupleExact _) (wpAny_newObj_type (wpAny_pure ⟨_, rfl, wpAny_pure h⟩) htake)
    | exact wpAny_bind (m := Builtin.Tuple.tupleExact _) (wpAny_newObj_type (wpAny_bind (wpAny_pure (wpAny_pure ⟨_, rfl, wpAny_pure h⟩))) htake)
    | exact wpAny_bind (wpAny_bind (m := Builtin.Tuple.tupleExact _) (wpAny_newObj_type (wpAny_pure (wpAny_pure ⟨_, rfl, wpAny_pure h⟩)) htake))
    | exact wpAny_bind (wpAny_bind (m := Builtin.Tuple.tupleExact _) (wpAny_newObj_type (wpAny_pure ⟨_, rfl, wpAny_pure h⟩) htake))
end
end HT

namespace L2
open PySem PySem.Spec PyProof.Rows

/-! ### the parts of a slice -/
abbrev TO := St → Hp → (Option Int → Hp → Prop) → Prop
/-- a slice's part (left out, or an int) -/
def PO (X : Cx) (e : Option Expr) (t : TO) : Prop :=
  ∀ (pins : List (Addr × Obj)) (s : Shared) (σ : St) (H : Hp) (Q : Option Int → Hp → Prop), Inv X pins σ H s → t σ H Q →
    wpAny (model X.prog X.w) X.A (evalPart e X.env) (fun u s' => ∃ o H', Inv X pins σ H' s' ∧ IsPart u o ∧ Q o H') X.xe s
def tNoPart : TO := fun _ H Q => Q none H
def tPart (t : TE) : TO := fun σ H Q => t σ H fun x H1 => ∃ i, x = .int i ∧ Q (some i) H1

theorem intsAre_of {ns : List Int} : ∀ {us : List Value}, Vals (ns.map V.int) us → IntsAre us ns := by
  induction ns with
  | nil => intro us r; rw [List.map_nil] at r; cases r; exact .nil
  | cons n ns ih =>
    intro us r
    rw [List.map_cons] at r
    cases r with
    | cons r1 r2 =>
      obtain ⟨t, e⟩ := r1
      subst e
      exact .cons n t (ih r2)

section
variable {X : Cx} {e : Expr} {te : TE} {lo hi : Option Expr} {tl th : TO} {pos p2 : Pos}

theorem po_none : PO X none tNoPart := by
  intro pins s σ H Q I h
  rw [evalPart_none]
  exact wpAny_pure ⟨none, H, I, .none, h⟩
theorem po_some (h : PE X e te) : PO X (some e) (tPart te) := by
  intro pins s σ H Q I hw
  rw [evalPart_some]
  refine thn (h pins s σ H _ I hw) fun u s1 ⟨x, H1, I1, r1, q1⟩ => ?_
  obtain ⟨i, rfl, q⟩ := q1
  obtain ⟨t, rfl⟩ := r1
  exact ⟨some i, H1, I1, .int i t, q⟩

/-- what a slice of a value is, by values: the slice object stands at sl -/
def SlR (X : Cx) (r : V → Option Int → Option Int → Hp → VK → Prop) : Prop :=
  ∀ (pins : List (Addr × Obj)) (s : Shared) (σ : St) (H : Hp) (x : V) (v vl vu : Value) (lo hi : Option Int) (sl : Addr) (Q : VK), Inv X pins σ H s → RelV x v → s.heap.IsSliceOf sl vl vu .none → IsPart vl lo → IsPart vu hi → r x lo hi H Q →
    ∃ T id, typeLookup (.type T) "__getitem__" = pure (some (.builtin id)) ∧ s.TypeIs v T ∧ wpAny (model X.prog X.w) X.A (getItem v (.ref sl)) (EP X pins σ Q) X.xe s
theorem SlR.or {r r' : V → Option Int → Option Int → Hp → VK → Prop} (h : SlR X r) (h' : SlR X r') : SlR X (fun x lo hi H Q => r x lo hi H Q ∨ r' x lo hi H Q) := by
  intro pins s σ H x v vl vu lo hi sl Q I rx hs pl pu q
  rcases q with q | q
  · exact h pins s σ H x v vl vu lo hi sl Q I rx hs pl pu q
  · exact h' pins s σ H x v vl vu lo hi sl Q I rx hs pl pu q
def tSl (r : V → Option Int → Option Int → Hp → VK → Prop) (te : TE) (tl th : TO) : TE := fun σ H Q => te σ H fun x H1 => tl σ H1 fun l H2 => th σ H2 fun u H3 => r x l u H3 Q
/-- a[lo:hi], any a -/
theorem pe_slice {r : V → Option Int → Option Int → Hp → VK → Prop} (hr : SlR X r) (he : PE X e te) (hl : PO X lo tl) (hu : PO X hi th) : PE X (.Subscript e (.Slice lo hi none p2) pos) (tSl r te tl th) := by
  intro pins s σ H Q I h
  refine Subscript_ (thn (he pins s σ H _ I h) fun v s1 ⟨x, H1, I1, r1, q1⟩ => ?_)
  refine wpAny_Slice (thn (hl pins s1 σ H1 _ I1 q1) fun vl s2 ⟨l, H2, I2, pl, q2⟩ => thn (hu pins s2 σ H2 _ I2 q2) fun vu s3 ⟨u, H3, I3, pu, q3⟩ => ?_)
  rw [evalPart_none]
  refine wpAny_pure ?_
  have I4 : Inv X pins σ H3 { s3 with heap := s3.heap.push { cls := .type "slice", data := .fields #[vl, vu, .none] } } := I3.kept (t' := s3.toks) fun b ob q => Heap.get?_push_of_some _ q
  obtain ⟨T, id, hT, ht, hg⟩ := hr pins { s3 with heap := s3.heap.push { cls := .type "slice", data := .fields #[vl, vu, .none] } } σ H3 x v vl vu l u s3.heap.objs.size Q I4 r1 (Heap.IsSliceOf.new ..) pl pu q3
  show wpAny (model X.prog X.w) X.A (subscriptTail e (.Slice lo hi none p2) v (.ref s3.heap.objs.size)) (EP X pins σ Q) X.xe { s3 with heap := s3.heap.push { cls := .type "slice", data := .fields #[vl, vu, .none] } }
  exact tail_any (ops := [.ref s3.heap.objs.size, v]) ht hT hg (by with_unfolding_all rfl)

/-- the items of xs[lo:hi] -/
def cutV (xs : List V) (lo hi : Option Int) : List V := (xs.drop (HT.sIx xs.length 0 lo)).take (HT.sIx xs.length xs.length hi - HT.sIx xs.length 0 lo)
theorem cutV_length (xs : List V) (lo hi : Option Int) : (cutV xs lo hi).length ≤ xs.length := by
  unfold cutV
  rw [List.length_take, List.length_drop]
  omega
/-- t[lo:hi], not the whole of it (the whole would be t itself) -/
def rSlT (K : PySem.W.Frag) : V → Option Int → Option Int → Hp → VK → Prop := fun x lo hi H Q => ∃ a xs, x = .ref a ∧ SqT K H a xs ∧
  ¬ (HT.sIx xs.length 0 lo = 0 ∧ HT.sIx xs.length xs.length hi = xs.length) ∧ ∀ p, H p = none → Q (.ref p) (upd H p (.tup (cutV xs lo hi)))
theorem sl_tup : SlR X (rSlT X.K) := by
  intro pins s σ H x v vl vu lo hi sl Q I rx hs pl pu h
  obtain ⟨a, xs, rfl, hx, hw, q⟩ := h
  cases rx
  obtain ⟨its, r, ht, hz⟩ := I.tuple hx
  have hlen : its.toArray.size = xs.length := by rw [List.size_toArray]; exact r.length.symm
  refine ⟨"tuple", _, PyProof.Rows.slot_tuple_getitem.lookup, ht.typeIs, ?_⟩
  refine HT.getItem_tuple_cut ht hs pl pu (by rw [hlen]; exact hw) ?_ (by rw [hlen]; exact hz)
  rw [hlen]
  refine ⟨.ref s.heap.objs.size, _, I.laid (t' := s.toks) (o := .tup (cutV xs lo hi)) (fun b ob q => Heap.get?_push_of_some _ q) (Nat.le_refl _) ?_, rfl, q _ (I.hok.fresh (Nat.le_refl _))⟩
  exact ⟨Nat.le_trans (cutV_length xs lo hi) hz, _, (r.drop (HT.sIx xs.length 0 lo)).take (HT.sIx xs.length xs.length hi - HT.sIx xs.length 0 lo), IsTup.new _ _⟩

/-! ### t < u, t + u -/
def rLtT (K : PySem.W.Frag) : R2 := fun x y H Q => ∃ a b ns ms, x = .ref a ∧ y = .ref b ∧ SqT K H a (ns.map V.int) ∧ SqT K H b (ms.map V.int) ∧ Q (.bl (HT.lexLt ns ms)) H
theorem op_ltT (hu : X.A.units < cLine) : OpR X (compareOp .Lt) (rLtT X.K) := by
  intro pins s σ H x y v u Q I rx ry h
  obtain ⟨a, b, ns, ms, rfl, rfl, ha, hb, q⟩ := h
  cases rx
  cases ry
  obtain ⟨its, r1, p1, _⟩ := I.tuple ha
  obtain ⟨its2, r2, p2, _⟩ := I.tuple hb
  have i1 : IntsAre its.toArray.toList ns := intsAre_of r1
  have i2 : IntsAre its2.toArray.toList ms := intsAre_of r2
  exact HT.lt_tupInts p1 p2 i1 i2 hu ⟨.bl (HT.lexLt ns ms), H, I, rfl, q⟩
/-- t + u, t not empty: u empty gives t itself -/
def rCatT (K : PySem.W.Frag) : R2 := fun x y H Q => ∃ a b xs ys, x = .ref a ∧ y = .ref b ∧ SqT K H a xs ∧ SqT K H b ys ∧ xs ≠ [] ∧ xs.length + ys.length ≤ sizeLine ∧
  (ys = [] → Q (.ref a) H) ∧ (ys ≠ [] → ∀ p, H p = none → Q (.ref p) (upd H p (.tup (xs ++ ys))))
theorem Vals.nil_iff {xs : List V} {us : List Value} (r : Vals xs us) : us = [] ↔ xs = [] := by
  cases r with
  | nil => simp
  | cons _ _ => simp
theorem op_catT : OpR X (binaryOp .Add) (rCatT X.K) := by
  intro pins s σ H x y v u Q I rx ry h
  obtain ⟨a, b, xs, ys, rfl, rfl, ha, hb, hx, hz, q1, q2⟩ := h
  cases rx
  cases ry
  obtain ⟨its, r1, p1, _⟩ := I.tuple ha
  obtain ⟨its2, r2, p2, _⟩ := I.tuple hb
  refine HT.cat_tup p1 p2 (fun z => hx (r1.nil_iff.mp z)) (fun z => ⟨.ref a, H, I, rfl, q1 (r2.nil_iff.mp z)⟩) (fun z => ?_) (by rw [← r1.length, ← r2.length]; exact hz)
  refine ⟨.ref s.heap.objs.size, _, I.laid (t' := s.toks) (o := .tup (xs ++ ys)) (fun b ob q => Heap.get?_push_of_some _ q) (Nat.le_refl _) ?_, rfl, q2 (fun w => z (r2.nil_iff.mpr w)) _ (I.hok.fresh (Nat.le_refl _))⟩
  exact ⟨by rw [List.length_append]; exact hz, _, r1.append r2, IsTup.new _ _⟩
/-- tuple(t) -/
theorem call_tupleT : CallR X (.type "tuple") (fun xs H Q => ∃ a ys, xs = [.ref a] ∧ SqT X.K H a ys ∧ Q (.ref a) H) := by
  intro pins s σ H xs us Q I r h
  obtain ⟨a, ys, rfl, ha, q⟩ := h
  obtain ⟨u, rfl, ru⟩ := vals1 r
  cases ru
  obtain ⟨its, _, p1, _⟩ := I.tuple ha
  exact call_tuple_same (items := its.toArray) p1 ⟨.ref a, H, I, rfl, q⟩
end
end L2

namespace L2
open PySem PySem.Spec PyProof.Rows

/-! ### places -/
/-- the place that an index of any sign means -/
def ixN (n : Nat) (i : Int) : Option Nat := if 0 ≤ i then (if i < n then some i.toNat else none) else if -(n : Int) ≤ i then some (i + n).toNat else none
def atI {α : Type} (xs : List α) (i : Int) : Option α := (ixN xs.length i).bind fun j => xs[j]?
theorem ixN_seq {n : Nat} {i : Int} {j : Nat} (h : ixN n i = some j) : seqIndex? i n = some j ∧ j < n ∧ -(n : Int) ≤ i ∧ i < n := by
  unfold ixN at h
  by_cases h0 : 0 ≤ i
  · rw [if_pos h0] at h
    by_cases h1 : i < n
    · rw [if_pos h1] at h
      have e : i.toNat = j := Option.some.inj h
      exact ⟨by rw [seqIndex_of h0 h1, e], by omega, by omega, h1⟩
    · rw [if_neg h1] at h; cases h
  · rw [if_neg h0] at h
    by_cases h1 : -(n : Int) ≤ i
    · rw [if_pos h1] at h
      have e : (i + n).toNat = j := Option.some.inj h
      exact ⟨by rw [seqIndex_neg (by omega) h1, e], by omega, h1, by omega⟩
    · rw [if_neg h1] at h; cases h
theorem atI_get {α : Type} {xs : List α} {i : Int} {v : α} (h : atI xs i = some v) : ∃ j, seqIndex? i xs.length = some j ∧ xs[j]? = some v ∧ j < xs.length ∧ -(xs.length : Int) ≤ i ∧ i < xs.length := by
  unfold atI at h
  cases e : ixN xs.length i with
  | none => rw [e] at h; cases h
  | some j =>
    rw [e] at h
    obtain ⟨h1, h2, h3, h4⟩ := ixN_seq e
    exact ⟨j, h1, h, h2, h3, h4⟩
theorem atI_nat {α : Type} {xs : List α} {j : Nat} {v : α} (h : xs[j]? = some v) : atI xs (j : Int) = some v := by
  have hj : j < xs.length := (List.getElem?_eq_some_iff.mp h).1
  have e : ixN xs.length (j : Int) = some j := by
    unfold ixN
    rw [if_pos (by omega), if_pos (by omega)]; simp
  unfold atI; rw [e]; exact h
theorem atI_last {α : Type} (xs : List α) (v : α) : atI (xs ++ [v]) (-1) = some v := by
  have hl : (xs ++ [v]).length = xs.length + 1 := by simp
  have e : ixN (xs ++ [v]).length (-1) = some xs.length := by
    unfold ixN
    rw [hl, if_neg (by decide), if_pos (by omega)]
    congr 1
    omega
  unfold atI
  rw [e]
  show (xs ++ [v])[xs.length]? = some v
  simp

/-! ### what may be subscripted -/
/-- what stands as an index of a plain subscript -/
def PlainIx (b : Expr) : Prop := ∀ o i, subscripted b false o i = operate [o, i] (getItem o i)
/-- a subscript by values -/
def IxR (X : Cx) (r : R2) : Prop :=
  ∀ (value slice : Expr) (pins : List (Addr × Obj)) (s : Shared) (σ : St) (H : Hp) (x y : V) (v u : Value) (Q : VK), Inv X pins σ H s → RelV x v → RelV y u → r x y H Q →
    subscripted slice false v u = operate [v, u] (getItem v u) → wpAny (model X.prog X.w) X.A (subscriptTail value slice v u) (EP X pins σ Q) X.xe s
/-- a call of a builtin's method by values: the receiver, the arguments -/
def MtR (X : Cx) (id : String) (r : V → List V → Hp → VK → Prop) : Prop :=
  ∀ (pins : List (Addr × Obj)) (s : Shared) (σ : St) (H : Hp) (x : V) (xs : List V) (v : Value) (us : List Value) (Q : VK), Inv X pins σ H s → RelV x v → Vals xs us → r x xs H Q →
    wpAny (model X.prog X.w) X.A (call (.builtin id) (v :: us)) (EP X pins σ Q) X.xe s
section
variable {X : Cx} {a b : Expr} {ta tb : TE} {pos : Pos}
theorem IxR.or {r r' : R2} (h : IxR X r) (h' : IxR X r') : IxR X (fun x y H Q => r x y H Q ∨ r' x y H Q) := by
  intro value slice pins s σ H x y v u Q I rx ry q hs
  rcases q with q | q
  · exact h value slice pins s σ H x y v u Q I rx ry q hs
  · exact h' value slice pins s σ H x y v u Q I rx ry q hs
theorem MtR.or {id : String} {r r' : V → List V → Hp → VK → Prop} (h : MtR X id r) (h' : MtR X id r') : MtR X id (fun x xs H Q => r x xs H Q ∨ r' x xs H Q) := by
  intro pins s σ H x xs v us Q I rx rs q
  rcases q with q | q
  · exact h pins s σ H x xs v us Q I rx rs q
  · exact h' pins s σ H x xs v us Q I rx rs q
/-- a[b] -/
theorem pe_ix {r : R2} (hr : IxR X r) (ha : PE X a ta) (hb : PE X b tb) (hs : PlainIx b) : PE X (.Subscript a b pos) (tOp r ta tb) := by
  intro pins s σ H Q I h
  exact Subscript_ (binT ha hb I h fun v u s2 x y H2 I2 rx ry q => hr a b pins s2 σ H2 x y v u Q I2 rx ry q (hs _ _))

def rIxL (K : PySem.W.Frag) : R2 := fun x y H Q => ∃ p xs i v, x = .ref p ∧ y = .int i ∧ SqL K H p xs ∧ atI xs i = some v ∧ Q v H
def rIxT (K : PySem.W.Frag) : R2 := fun x y H Q => ∃ p xs i v, x = .ref p ∧ y = .int i ∧ SqT K H p xs ∧ atI xs i = some v ∧ Q v H
def rIxS : R2 := fun x y H Q => ∃ z i c, x = .str z ∧ y = .int i ∧ z.length ≤ sizeLine ∧ atI z.cps.toList i = some c ∧ Q (.str ⟨#[c]⟩) H
theorem ix_list : IxR X (rIxL X.K) := by
  intro value slice pins s σ H x y v u Q I rx ry h hs
  obtain ⟨p, xs, i, z, rfl, rfl, hq, he, q⟩ := h
  cases rx
  obtain ⟨t, rfl⟩ := ry
  obtain ⟨its, r, pl, hz⟩ := I.list hq
  obtain ⟨j, h1, h2, h3, h4, h5⟩ := atI_get he
  obtain ⟨w, ew, rw'⟩ := r.get h2
  have hl := r.length
  have hn := line63
  have fin : EP X pins σ Q w s := ⟨z, H, I, rw', q⟩
  by_cases h0 : 0 ≤ i
  · have hj : i.toNat = j := by
      rw [seqIndex_of h0 h5] at h1
      exact Option.some.inj h1
    exact item_listR pl.isList h0 (by omega) (by rw [hj]; simpa using ew) fin hs
  · have hj : (i + (its.toArray.size : Int)).toNat = j := by
      rw [seqIndex_neg (by omega) h4] at h1
      rw [List.size_toArray, ← hl]
      exact Option.some.inj h1
    exact subscriptTail_builtinR (x := w) pl.isList.typeIs slot_list_getitem.lookup
      (wpAny_getItem_list_neg (Q := fun r s' => r = w ∧ EP X pins σ Q r s') pl.isList (by omega) (by rw [List.size_toArray] <;> omega) (by omega) (by rw [hj]; simpa using ew) ⟨rfl, fin⟩) hs
theorem ix_tup : IxR X (rIxT X.K) := by
  intro value slice pins s σ H x y v u Q I rx ry h hs
  obtain ⟨p, xs, i, z, rfl, rfl, hq, he, q⟩ := h
  cases rx
  obtain ⟨t, rfl⟩ := ry
  obtain ⟨its, r, pl, hz⟩ := I.tuple hq
  obtain ⟨j, h1, h2, h3, h4, h5⟩ := atI_get he
  obtain ⟨w, ew, rw'⟩ := r.get h2
  have hl := r.length
  have hn := line63
  have fin : EP X pins σ Q w s := ⟨z, H, I, rw', q⟩
  exact subscriptTail_builtinR (x := w) pl.typeIs slot_tuple_getitem.lookup
    (getItem_tuple (j := j) (Q := fun r s' => r = w ∧ EP X pins σ Q r s') pl (by omega) (by omega) (by rw [List.size_toArray, ← hl]; exact h1) (by simpa using ew) ⟨rfl, fin⟩) hs
theorem ix_str : IxR X rIxS := by
  intro value slice pins s σ H x y v u Q I rx ry h hs
  obtain ⟨z, i, c, rfl, rfl, hz, he, q⟩ := h
  obtain ⟨t, rfl⟩ := rx
  obtain ⟨t', rfl⟩ := ry
  obtain ⟨j, h1, h2, h3, h4, h5⟩ := atI_get he
  have hl : z.cps.toList.length = z.length := by simp [Str.length]
  rw [hl] at h1 h4 h5
  have hn := line63
  exact tail_any (typeIs_str s z t) slot_str_getitem.lookup (getItem_str (c := c) (by
    have e1 : decide (i < -(2 ^ 63 : Int)) = false := decide_eq_false (by omega)
    have e2 : decide (i ≥ 2 ^ 63) = false := decide_eq_false (by omega)
    rw [e1, e2, Bool.or_false]) (by rw [h1]; simpa using h2) ⟨.str ⟨#[c]⟩, H, I.tok _, ⟨_, rfl⟩, q⟩) hs
/-- list, tuple or str -/
def rIx (K : PySem.W.Frag) : R2 := fun x y H Q => rIxL K x y H Q ∨ rIxT K x y H Q ∨ rIxS x y H Q
theorem ix_seq : IxR X (rIx X.K) := ix_list.or (ix_tup.or ix_str)

/-! ### xs[i] = v, any sign -/
/-- the list's object behind a store -/
theorem mapSeq_set (its : List Value) (n j : Nat) (u : Value) : Obj.mapSeq (·.setIfInBounds j u) { cls := .type "list", data := .seq its.toArray n } = { cls := .type "list", data := .seq (its.set j u).toArray n } := by
  simp [Obj.mapSeq]
theorem Inv.lst {pins : List (Addr × Obj)} {σ : St} {H : Hp} {s : Shared} {p : Addr} {xs : List V} (I : Inv X pins σ H s) (h : H p = some (.lst xs)) :
    ∃ (its : List Value) (n : Nat), Vals xs its ∧ s.heap.get? p = some { cls := .type "list", data := .seq its.toArray n } ∧ xs.length ≤ sizeLine := by
  obtain ⟨z, its, n, r, e⟩ := I.hok p _ h
  exact ⟨its, n, r, e, z⟩
/-- the list at p is written by an update of its object -/
theorem Inv.lstUpd {pins : List (Addr × Obj)} {σ : St} {H : Hp} {s : Shared} {p : Addr} {xs ys : List V} {its its' : List Value} {n n' : Nat} {f : Obj → Obj} (I : Inv X pins σ H s) (h : H p = some (.lst xs))
    (ho : s.heap.get? p = some { cls := .type "list", data := .seq its.toArray n }) (hf : f { cls := .type "list", data := .seq its.toArray n } = { cls := .type "list", data := .seq its'.toArray n' }) (r : Vals ys its') (hz : ys.length ≤ sizeLine) (t : Nat) :
    Inv X pins σ (upd H p (.lst ys)) { s with heap := s.heap.update p f, toks := t } := by
  have e : (s.heap.update p f).get? p = some { cls := .type "list", data := .seq its'.toArray n' } := by
    rw [Heap.get?_update_self f ho (by rw [hf] <;> rfl), hf]
  refine I.write (x := p) (e := p) (by rw [h]; trivial) (.inl rfl) (fun b u hb q => (Heap.get?_update_other _ _ (Ne.symm hb)).trans q) ⟨_, e⟩ ?_
  exact ⟨hz, its', n', r, e⟩
def rSetL : V → V → V → Hp → (Hp → Prop) → Prop := fun o i v H Q => ∃ p xs k j, o = .ref p ∧ i = .int k ∧ H p = some (.lst xs) ∧ ixN xs.length k = some j ∧ Q (upd H p (.lst (xs.set j v)))
theorem set_list : PSet X rSetL := by
  intro pins s σ H o i v ov iv u Q I ro ri rv h
  obtain ⟨p, xs, k, j, rfl, rfl, hp, hj, q⟩ := h
  cases ro
  obtain ⟨t, rfl⟩ := ri
  obtain ⟨its, n, r, ho, hz⟩ := I.lst hp
  obtain ⟨h1, h2, h3, h4⟩ := ixN_seq hj
  have hl := r.length
  have hn := line63
  have I' : Inv X pins σ (upd H p (.lst (xs.set j v))) { s with heap := s.heap.update p (Obj.mapSeq (·.setIfInBounds j u)) } :=
    I.lstUpd hp ho (mapSeq_set its n j u) (r.set rv j) (by rw [List.length_set]; exact hz) s.toks
  by_cases h0 : 0 ≤ k
  · have hk : k.toNat = j := by
      rw [seqIndex_of h0 h4] at h1
      exact Option.some.inj h1
    exact PySem.W.ki_setAt ho h0 (by omega) (by rw [List.size_toArray, ← hl]; exact h4) (by rw [hk]; exact ⟨_, I', q⟩)
  · have hk : (k + (its.toArray.size : Int)).toNat = j := by
      rw [seqIndex_neg (by omega) h3] at h1
      rw [List.size_toArray, ← hl]
      exact Option.some.inj h1
    exact PySem.W.ki_setBack ho (by omega) (by rw [List.size_toArray, ← hl]; exact h3) (by omega) (by rw [hk]; exact ⟨_, I', q⟩)

/-! ### slices -/
theorem slice_bounds (lo hi : Option Int) (n : Nat) : (sliceBounds lo hi none n).1 = ((HT.sIx n 0 lo : Nat) : Int) ∧ (sliceBounds lo hi none n).2.1 = ((HT.sIx n n hi : Nat) : Int) ∧ (sliceBounds lo hi none n).2.2 = 1 := by
  refine ⟨?_, ?_, rfl⟩
  · cases lo with
    | none => simp [sliceBounds, HT.sIx]
    | some i =>
      simp only [sliceBounds, HT.sIx, Option.getD_none, show (1 : Int) > 0 by decide, if_true]
      by_cases h : i < 0
      · simp only [h, if_true] <;> omega
      · simp only [h, if_false] <;> omega
  · cases hi with
    | none => simp [sliceBounds, HT.sIx]
    | some i =>
      simp only [sliceBounds, HT.sIx, Option.getD_none, show (1 : Int) > 0 by decide, if_true]
      by_cases h : i < 0
      · simp only [h, if_true] <;> omega
      · simp only [h, if_false] <;> omega
theorem slicePick_cut (its : List Value) (lo hi : Option Int) : slicePick its.toArray lo hi none = ((its.drop (HT.sIx its.length 0 lo)).take (HT.sIx its.length its.length hi - HT.sIx its.length 0 lo)).toArray := by
  obtain ⟨h1, h2, h3⟩ := slice_bounds lo hi its.toArray.size
  unfold slicePick
  rw [h1, h2, h3]
  simp only [sliceRange_one, pick_run, List.size_toArray] <;> rfl
/-- xs[lo:hi] of a list: a new list -/
def rSlL (K : PySem.W.Frag) : V → Option Int → Option Int → Hp → VK → Prop := fun x lo hi H Q => ∃ a xs, x = .ref a ∧ SqL K H a xs ∧ ∀ p, H p = none → Q (.ref p) (upd H p (.lst (cutV xs lo hi)))
theorem sl_list : SlR X (rSlL X.K) := by
  intro pins s σ H x v vl vu lo hi sl Q I rx hs pl pu h
  obtain ⟨a, xs, rfl, hx, q⟩ := h
  cases rx
  obtain ⟨its, r, ht, hz⟩ := I.list hx
  have hlen := r.length
  refine ⟨"list", _, slot_list_getitem.lookup, ht.isList.typeIs, ?_⟩
  refine wpAny_getItem_list_slice ht.isList hs pl pu .none (by simp) ?_ (by rw [List.size_toArray] <;> omega)
  rw [slicePick_cut, ← hlen]
  refine ⟨.ref s.heap.objs.size, _, I.laid (t' := s.toks) (o := .lst (cutV xs lo hi)) (fun b ob q => Heap.get?_push_of_some _ q) (Nat.le_refl _) ?_, rfl, q _ (I.hok.fresh (Nat.le_refl _))⟩
  exact ⟨Nat.le_trans (cutV_length xs lo hi) hz, _, 0, (r.drop (HT.sIx xs.length 0 lo)).take (HT.sIx xs.length xs.length hi - HT.sIx xs.length 0 lo), Heap.get?_push_size _ rfl⟩

/-! ### in, not in: flat items -/
def flatV : V → Bool
  | .non => true
  | .bl _ => true
  | .int _ => true
  | .str _ => true
  | _ => false
/-- == of flat values -/
def eqV : V → V → Bool
  | .non, .non => true
  | .bl a, .bl b => a == b
  | .bl a, .int b => (if a then 1 else 0) == b
  | .int a, .bl b => a == (if b then 1 else 0)
  | .int a, .int b => a == b
  | .str a, .str b => a == b
  | _, _ => false
theorem eqAt_V {A : Around} {s : Shared} {y x : V} {u v : Value} (ry : RelV y u) (rx : RelV x v) (fy : flatV y = true) (fx : flatV x = true) : SeqAt.EqAt A s u v (eqV y x) := by
  cases y with
  | non =>
    cases ry
    cases x with
    | non => cases rx; exact SeqAt.EqAt.same _
    | bl b => cases rx; exact SeqAt.EqAt.none_bool b
    | int b => obtain ⟨t, rfl⟩ := rx; exact SeqAt.EqAt.none_int b t
    | str b => obtain ⟨t, rfl⟩ := rx; exact SeqAt.EqAt.none_str b t
    | _ => exact absurd (show false = true from fx) Bool.false_ne_true
  | bl a =>
    cases ry
    cases x with
    | non => cases rx; exact SeqAt.EqAt.bool_none a
    | bl b => cases rx; exact SeqAt.EqAt.bool_bool a b
    | int b => obtain ⟨t, rfl⟩ := rx; exact SeqAt.EqAt.bool_int a b t
    | str b => obtain ⟨t, rfl⟩ := rx; exact SeqAt.EqAt.bool_str a b t
    | _ => exact absurd (show false = true from fx) Bool.false_ne_true
  | int a =>
    obtain ⟨t', rfl⟩ := ry
    cases x with
    | non => cases rx; exact SeqAt.EqAt.int_none a t'
    | bl b => cases rx; exact SeqAt.EqAt.int_bool a t' b
    | int b => obtain ⟨t, rfl⟩ := rx; exact SeqAt.EqAt.int_int a t' b t
    | str b => obtain ⟨t, rfl⟩ := rx; exact SeqAt.EqAt.int_str a t' b t
    | _ => exact absurd (show false = true from fx) Bool.false_ne_true
  | str a =>
    obtain ⟨t', rfl⟩ := ry
    cases x with
    | non => cases rx; exact SeqAt.EqAt.str_none a t'
    | bl b => cases rx; exact SeqAt.EqAt.str_bool a t' b
    | int b => obtain ⟨t, rfl⟩ := rx; exact SeqAt.EqAt.str_int a t' b t
    | str b => obtain ⟨t, rfl⟩ := rx; exact SeqAt.EqAt.str_str a t' b t
    | _ => exact absurd (show false = true from fx) Bool.false_ne_true
  | _ => exact absurd (show false = true from fy) Bool.false_ne_true
/-- the items' answers, read off the values (a value's own answer does not lean on its token) -/
def eqU (x : V) (u : Value) : Bool := match u with
  | .none => eqV .non x
  | .bool b => eqV (.bl b) x
  | .int i _ => eqV (.int i) x
  | .str z _ => eqV (.str z) x
  | _ => false
theorem eqU_of {x y : V} {u : Value} (r : RelV y u) (f : flatV y = true) : eqU x u = eqV y x := by
  cases y with
  | non => cases r; rfl
  | bl b => cases r; rfl
  | int i => obtain ⟨t, rfl⟩ := r; rfl
  | str z => obtain ⟨t, rfl⟩ := r; rfl
  | _ => exact absurd (show false = true from f) Bool.false_ne_true
theorem any_eqU {x : V} : ∀ {xs : List V} {us : List Value}, Vals xs us → xs.all flatV = true → us.any (eqU x) = xs.any fun y => eqV y x
  | _, _, .nil, _ => rfl
  | y :: xs, u :: us, .cons r t, f => by
    rw [List.all_cons, Bool.and_eq_true] at f
    rw [List.any_cons, List.any_cons, eqU_of r f.1, any_eqU t f.2]
theorem mem_eqAt {A : Around} {s : Shared} {x : V} {v : Value} (rx : RelV x v) (fx : flatV x = true) : ∀ {xs : List V} {us : List Value}, Vals xs us → xs.all flatV = true → ∀ u ∈ us, SeqAt.EqAt A s u v (eqU x u)
  | _, _, .nil, _ => fun u hu => by cases hu
  | y :: xs, u :: us, .cons r t, f => fun u' hu => by
    rw [List.all_cons, Bool.and_eq_true] at f
    rcases List.mem_cons.mp hu with rfl | hu
    · rw [eqU_of r f.1]; exact eqAt_V r rx f.1 fx
    · exact mem_eqAt rx fx t f.2 u' hu
def inV (x : V) (xs : List V) : Bool := xs.any fun y => eqV y x
/-- x in a list or tuple of flat items -/
def rIn (K : PySem.W.Frag) (neg : Bool) : R2 := fun x y H Q => ∃ p xs, y = .ref p ∧ (SqL K H p xs ∨ SqT K H p xs) ∧ flatV x = true ∧ xs.all flatV = true ∧ Q (.bl (if neg then !inV x xs else inV x xs)) H
theorem op_in_seq : OpR X (compareOp .In) (rIn X.K false) := by
  intro pins s σ H x y v u Q I rx ry h
  obtain ⟨p, xs, rfl, hq, fx, fs, q⟩ := h
  cases ry
  rcases hq with hq | hq
  · obtain ⟨its, r, pl, hz⟩ := I.list hq
    refine SeqAt.in_listAt (eqU x) pl.isList (fun w hw => mem_eqAt rx fx r fs w (by simpa using hw)) ⟨.bl _, H, I, rfl, ?_⟩
    rw [show its.toArray.any (eqU x) = its.any (eqU x) by simp, any_eqU r fs]
    exact q
  · obtain ⟨its, r, pl, hz⟩ := I.tuple hq
    refine SeqAt.in_tupleAt (eqU x) pl (fun w hw => mem_eqAt rx fx r fs w (by simpa using hw)) ⟨.bl _, H, I, rfl, ?_⟩
    rw [show its.toArray.any (eqU x) = its.any (eqU x) by simp, any_eqU r fs]
    exact q
theorem op_notIn_seq : OpR X (compareOp .NotIn) (rIn X.K true) := by
  intro pins s σ H x y v u Q I rx ry h
  obtain ⟨p, xs, rfl, hq, fx, fs, q⟩ := h
  cases ry
  rcases hq with hq | hq
  · obtain ⟨its, r, pl, hz⟩ := I.list hq
    refine SeqAt.notIn_listAt (eqU x) pl.isList (fun w hw => mem_eqAt rx fx r fs w (by simpa using hw)) ⟨.bl _, H, I, rfl, ?_⟩
    rw [show its.toArray.any (eqU x) = its.any (eqU x) by simp, any_eqU r fs]
    exact q
  · obtain ⟨its, r, pl, hz⟩ := I.tuple hq
    refine SeqAt.notIn_tupleAt (eqU x) pl (fun w hw => mem_eqAt rx fx r fs w (by simpa using hw)) ⟨.bl _, H, I, rfl, ?_⟩
    rw [show its.toArray.any (eqU x) = its.any (eqU x) by simp, any_eqU r fs]
    exact q
theorem op_notIn_str : OpR X (compareOp .NotIn) (fun x y H Q => ∃ i j, x = .str i ∧ y = .str j ∧ Q (.bl (!(!(Builtin.Str.occurrences j i 0 j.length 1).isEmpty))) H) := by
  intro pins s σ H x y v u Q I rx ry h
  obtain ⟨i, j, rfl, rfl, q⟩ := h
  obtain ⟨t, rfl⟩ := rx
  obtain ⟨t', rfl⟩ := ry
  exact notIn_str ⟨.bl _, H, I, rfl, q⟩

/-! ### len, list(x), tuple(x) of any list or tuple that is read -/
theorem call_len_seq : CallR X (.builtin "len") (fun xs H Q => ∃ p ys, xs = [.ref p] ∧ (SqL X.K H p ys ∨ SqT X.K H p ys) ∧ Q (.int ys.length) H) := by
  intro pins s σ H xs us Q I r h
  obtain ⟨p, ys, rfl, hq, q⟩ := h
  obtain ⟨u, rfl, rx⟩ := vals1 r
  cases rx
  have hn := line63
  rcases hq with hq | hq
  · obtain ⟨its, r', pl, hz⟩ := I.list hq
    have hlen := r'.length
    exact Calls.call_len_list pl.isList (by simp only [List.size_toArray] <;> omega) ⟨.int ys.length, H, I.tok _, ⟨s.toks + 1, by rw [List.size_toArray, hlen]⟩, q⟩
  · obtain ⟨its, r', pl, hz⟩ := I.tuple hq
    have hlen := r'.length
    exact len_tuple pl (by simp only [List.size_toArray] <;> omega) ⟨.int ys.length, H, I.tok _, ⟨s.toks + 1, by rw [List.size_toArray, hlen]⟩, q⟩
theorem call_len_str : CallR X (.builtin "len") (fun xs H Q => ∃ z, xs = [.str z] ∧ z.length ≤ sizeLine ∧ Q (.int z.length) H) := by
  intro pins s σ H xs us Q I r h
  obtain ⟨z, rfl, hz, q⟩ := h
  obtain ⟨u, rfl, t, rfl⟩ := vals1 r
  have hn := line63
  exact len_str (by omega) ⟨.int z.length, H, I.tok _, ⟨_, rfl⟩, q⟩
theorem CallR.or {f : Value} {r r' : List V → Hp → VK → Prop} (h : CallR X f r) (h' : CallR X f r') : CallR X f (fun xs H Q => r xs H Q ∨ r' xs H Q) := by
  intro pins s σ H xs us Q I rs q
  rcases q with q | q
  · exact h pins s σ H xs us Q I rs q
  · exact h' pins s σ H xs us Q I rs q
theorem call_list_of : CallR X (.type "list") (fun xs H Q => ∃ p ys, xs = [.ref p] ∧ (SqL X.K H p ys ∨ SqT X.K H p ys) ∧ ∀ l, H l = none → Q (.ref l) (upd H l (.lst ys))) := by
  intro pins s σ H xs us Q I r h
  obtain ⟨p, ys, rfl, hq, q⟩ := h
  obtain ⟨u, rfl, rx⟩ := vals1 r
  cases rx
  have fin : ∀ (its : List Value), Vals ys its → ys.length ≤ sizeLine → ∀ (h' : Heap) (c' : Nat), (∀ b o', s.heap.get? b = some o' → h'.get? b = some o') →
      h'.get? s.heap.objs.size = some { cls := .type "list", dict := none, data := .seq its.toArray c', slots := #[] } → EP X pins σ Q (.ref s.heap.objs.size) { s with heap := h' } := fun its r' hz h' c' kp e =>
    ⟨.ref s.heap.objs.size, _, I.laid (t' := s.toks) kp (Nat.le_refl _) (show ObjOk X.prog X.w _ h' _ (.lst ys) from ⟨hz, its, c', r', e⟩), rfl, q _ (I.hok.fresh (Nat.le_refl _))⟩
  rcases hq with hq | hq
  · obtain ⟨its, r', pl, hz⟩ := I.list hq
    have hlen := r'.length
    obtain ⟨o, ho, hc, n, hd⟩ := pl.isList
    exact call_list_seq p (.inl rfl) ho hc hd (fun h' c' kp e => fin its r' hz h' c' kp e) (by simp only [List.size_toArray] <;> omega)
  · obtain ⟨its, r', pl, hz⟩ := I.tuple hq
    have hlen := r'.length
    obtain ⟨o, ho, hc, n, hd⟩ := pl
    exact call_list_seq p (.inr rfl) ho hc hd (fun h' c' kp e => fin its r' hz h' c' kp e) (by simp only [List.size_toArray] <;> omega)
theorem call_tuple_of : CallR X (.type "tuple") (fun xs H Q => ∃ p ys, xs = [.ref p] ∧ ((SqL X.K H p ys ∧ ∀ l, H l = none → Q (.ref l) (upd H l (.tup ys))) ∨ (SqT X.K H p ys ∧ Q (.ref p) H))) := by
  intro pins s σ H xs us Q I r h
  obtain ⟨p, ys, rfl, h⟩ := h
  obtain ⟨u, rfl, rx⟩ := vals1 r
  cases rx
  rcases h with ⟨hq, q⟩ | ⟨hq, q⟩
  · obtain ⟨its, r', pl, hz⟩ := I.list hq
    have hlen := r'.length
    refine call_tuple_list pl.isList (fun h' kp => ?_) (by simp only [List.size_toArray] <;> omega)
    have I1 : Inv X pins σ H { s with heap := h' } := I.kept (t' := s.toks) kp
    have I2 : Inv X pins σ (upd H h'.objs.size (.tup ys)) { s with heap := h'.push { cls := .type "tuple", data := .seq its.toArray } } :=
      I1.laid (t' := s.toks) (fun b o e => Heap.get?_push_of_some _ e) (Nat.le_refl _) (show ObjOk X.prog X.w _ _ _ (.tup ys) from ⟨hz, its, r', IsTup.new _ _⟩)
    exact ⟨.ref h'.objs.size, _, I2, rfl, q _ (I1.hok.fresh (Nat.le_refl _))⟩
  · obtain ⟨its, r', pl, hz⟩ := I.tuple hq
    exact call_tuple_same pl ⟨.ref p, H, I, rfl, q⟩

/-! ### the call of a builtin's method: o.m(..) -/
/-- the value is of that builtin type -/
def tyV (K : PySem.W.Frag) (T : String) (x : V) (H : Hp) : Prop := match x with
  | .str _ => T = "str"
  | .int _ => T = "int"
  | .ref p => (T = "list" ∧ ∃ xs, SqL K H p xs) ∨ (T = "tuple" ∧ ∃ o, K.lookup p = some o ∧ o.cls = .type "tuple" ∧ o.dict = none) ∨
      (T = "dict" ∧ ((∃ kvs, H p = some (.dK kvs)) ∨ ∃ kvs, H p = some (.dT kvs))) ∨ (T = "set" ∧ ∃ S n, H p = some (.set S n))
  | _ => False
theorem tyV_is {pins : List (Addr × Obj)} {σ : St} {H : Hp} {s : Shared} {T : String} {x : V} {v : Value} (I : Inv X pins σ H s) (r : RelV x v) (ty : tyV X.K T x H) :
    s.TypeIs v T ∧ ∀ a, v = .ref a → ∃ ob, s.heap.get? a = some ob ∧ ob.dict = none := by
  cases x with
  | str z =>
    obtain ⟨t, rfl⟩ := r
    cases (show T = "str" from ty)
    exact ⟨typeIs_str s z t, fun _ e => nomatch e⟩
  | int i =>
    obtain ⟨t, rfl⟩ := r
    cases (show T = "int" from ty)
    exact ⟨typeIs_int s i t, fun _ e => nomatch e⟩
  | ref p =>
    cases r
    rcases ty with ⟨rfl, xs, hq⟩ | ⟨rfl, o, hk, hc, hd⟩ | ⟨rfl, hk⟩ | ⟨rfl, S, n, hk⟩
    · obtain ⟨its, _, pl, _⟩ := I.list hq
      refine ⟨pl.isList.typeIs, fun a e => ?_⟩
      cases e
      obtain ⟨o, n, e, c, hd, _⟩ := pl
      exact ⟨o, e, hd⟩
    · refine ⟨⟨o, I.kIn p o hk, hc⟩, fun a e => ?_⟩
      cases e
      exact ⟨o, I.kIn _ o hk, hd⟩
    · have z : ∃ o, s.heap.get? p = some o ∧ o.ExactDict := by
        rcases hk with ⟨kvs, hk⟩ | ⟨kvs, hk⟩
        · obtain ⟨_, _, _, _, o, _, _, e, ex, _⟩ := I.hok p _ hk
          exact ⟨o, e, ex⟩
        · obtain ⟨_, _, _, _, o, _, _, e, ex, _⟩ := I.hok p _ hk
          exact ⟨o, e, ex⟩
      obtain ⟨o, e, ex⟩ := z
      refine ⟨⟨o, e, ex.1⟩, fun a e2 => ?_⟩
      cases e2
      exact ⟨o, e, ex.2.1⟩
    · obtain ⟨o, _, _, _, e, ex, _⟩ := I.hok p _ hk
      refine ⟨⟨o, e, ex.1⟩, fun a e2 => ?_⟩
      cases e2
      exact ⟨o, e, ex.2.1⟩
  | _ => exact False.elim ty
def tBM0 (K : PySem.W.Frag) (T : String) (r : V → List V → Hp → VK → Prop) (to : TE) : TE := fun σ H Q => to σ H fun x H1 => tyV K T x H1 ∧ r x [] H1 Q
def tBM (K : PySem.W.Frag) (T : String) (r : V → List V → Hp → VK → Prop) (to : TE) (t : TA) : TE := fun σ H Q => to σ H fun x H1 => tyV K T x H1 ∧ t σ H1 fun xs H2 => r x xs H2 Q
variable {o e : Expr} {es : List Expr} {to : TE} {t : TA} {name : Str} {apos cpos : Pos} {T id : String} {r : V → List V → Hp → VK → Prop}
theorem pe_bm0 (pa : PlainAttrs T) (slot : Slot T name id) (hty : typeOf (.builtin id) = pure (.type "method_descriptor")) (hm : MtR X id r) (ho : PE X o to)
    (hbase : attributeBase o name X.env (eval o X.env) = eval o X.env := by rfl) (hline : (apos.endLine == cpos.line) = true := by rfl) : PE X (.Call (.Attribute o name apos) [] [] cpos) (tBM0 X.K T r to) := by
  intro pins s σ H Q I h
  refine wpAny_Call_method0_late hbase hline (thn (ho pins s σ H _ I h) fun v s1 ⟨x, H1, I1, r1, ty, q1⟩ => ?_)
  obtain ⟨h1, h2⟩ := tyV_is I1 r1 ty
  exact ⟨T, id, pa, slot, hty, h1, h2, Calls.callWith_builtin rfl (PySem.evalArgs_none (hm pins s1 σ H1 x [] v [] Q I1 r1 .nil q1))⟩
theorem pe_bm (pa : PlainAttrs T) (slot : Slot T name id) (hty : typeOf (.builtin id) = pure (.type "method_descriptor")) (hm : MtR X id r) (ho : PE X o to) (ha : PA X (e :: es) t)
    (hbase : attributeBase o name X.env (eval o X.env) = eval o X.env := by rfl)
    (hfew : ((backTo cpos (starEach (e :: es) X.env)).all (fun x => !x.1) && (backToKw cpos (keywordEach [] X.env)).all (fun x => x.1.isSome)
      && decide ((e :: es).length + ([] : List Keyword).length + (if ([] : List Keyword).isEmpty then 0 else 1) < 30)) = true := by rfl)
    (hline : (apos.endLine == cpos.line) = true := by rfl) (hs : starEach (e :: es) X.env = (false, eval e X.env) :: starEach es X.env := by rfl) (hplain : (backTo cpos (starEach es X.env)).any (·.1) = false := by rfl) :
    PE X (.Call (.Attribute o name apos) (e :: es) [] cpos) (tBM X.K T r to t) := by
  intro pins s σ H Q I h
  refine wpAny_Call_method_late hbase hfew hline rfl (thn (ho pins s σ H _ I h) fun v s1 ⟨x, H1, I1, r1, ty, q1⟩ => ?_)
  obtain ⟨h1, h2⟩ := tyV_is I1 r1 ty
  refine ⟨T, id, pa, slot, hty, h1, h2, ?_⟩
  have hA := ha cpos pins s1 σ H1 _ I1 q1
  rw [hs] at hA ⊢
  refine Calls.callWith_builtin (by show (false || (backTo cpos (starEach es X.env)).any (·.1)) = false; rw [hplain] <;> rfl) (Calls.evalArgs_plain ?_)
  exact thn hA fun us s2 ⟨vs, H2, I2, r2, q2⟩ => hm pins s2 σ H2 x vs v us Q I2 r1 r2 q2
/- xs.append(e), list.index on a module's tuple .. are MtR facts of 06m -/
end
end L2

namespace L2
open PySem PySem.Spec PyProof.Rows

def MtM (X : Cx) (id : String) (r : V → List V → Hp → VK → Prop) : Prop :=
  ∀ (pins : List (Addr × Obj)) (s : Shared) (σ : St) (H : Hp) (x : V) (xs : List V) (v : Value) (us : List Value) (Q : VK), Inv X pins σ H s → RelV x v → Vals xs us → r x xs H Q →
    wpAny (model X.prog X.w) X.A (call (.builtin id) (v :: us)) (EP X pins σ Q) X.xe s

/-! ### lists of values -/
theorem Vals.one : ∀ {x : V} {us : List Value}, Vals [x] us → ∃ u, us = [u] ∧ RelV x u
  | _, _, .cons r .nil => ⟨_, rfl, r⟩
theorem Vals.two : ∀ {x y : V} {us : List Value}, Vals [x, y] us → ∃ u v, us = [u, v] ∧ RelV x u ∧ RelV y v
  | _, _, _, .cons r (.cons q .nil) => ⟨_, _, rfl, r, q⟩
theorem Vals.zero : ∀ {us : List Value}, Vals [] us → us = []
  | _, .nil => rfl
theorem Vals.dropLast {xs : List V} {us : List Value} (h : Vals xs us) : Vals xs.dropLast us.dropLast := by
  induction h with
  | nil => exact .nil
  | cons r t ih =>
    cases t with
    | nil => exact .nil
    | cons q t' => exact .cons r ih
theorem Vals.eraseIdx : ∀ {xs : List V} {us : List Value} (i : Nat), Vals xs us → Vals (xs.eraseIdx i) (us.eraseIdx i)
  | _, _, _, .nil => .nil
  | _, _, 0, .cons _ t => t
  | _, _, i + 1, .cons r t => .cons r (Vals.eraseIdx i t)
theorem Vals.reverse {xs : List V} {us : List Value} (h : Vals xs us) : Vals xs.reverse us.reverse := by
  induction h with
  | nil => exact .nil
  | cons r t ih => rw [List.reverse_cons, List.reverse_cons]; exact Vals.append ih (.cons r .nil)
theorem Vals.rep {xs : List V} {us : List Value} (h : Vals xs us) : ∀ k : Nat, Vals (List.replicate k xs).flatten (List.replicate k us).flatten
  | 0 => .nil
  | k + 1 => by
    rw [List.replicate_succ, List.replicate_succ, List.flatten_cons, List.flatten_cons]
    exact Vals.append h (Vals.rep h k)
theorem erase_last {α : Type} (l : List α) : l.eraseIdx (l.length - 1) = l.dropLast := by
  induction l with
  | nil => rfl
  | cons a r ih =>
    cases r with
    | nil => rfl
    | cons b r =>
      have e : (a :: b :: r).length - 1 = ((b :: r).length - 1) + 1 := by
        have h1 : (a :: b :: r).length = r.length + 2 := rfl
        have h2 : (b :: r).length = r.length + 1 := rfl
        omega
      rw [e, List.eraseIdx_cons_succ, ih]
      all_goals rfl
theorem len_erase {α : Type} : ∀ (l : List α) (i : Nat), (l.eraseIdx i).length ≤ l.length
  | [], _ => Nat.le_refl _
  | _ :: _, 0 => Nat.le_succ _
  | _ :: r, i + 1 => Nat.succ_le_succ (len_erase r i)
theorem foldl_rep (its : List Value) : ∀ (k : Nat) (acc : List Value),
    List.foldl (fun x1 x2 => x1 ++ x2) acc.toArray (List.replicate k its.toArray) = (acc ++ (List.replicate k its).flatten).toArray
  | 0, acc => by simp
  | k + 1, acc => by
    have e : acc.toArray ++ its.toArray = (acc ++ its).toArray := by simp
    have e2 : (acc ++ its) ++ (List.replicate k its).flatten = acc ++ (List.replicate (k + 1) its).flatten := by
      rw [List.replicate_succ, List.flatten_cons, List.append_assoc]
    rw [← e2, ← foldl_rep its k (acc ++ its), ← e, List.replicate_succ, List.foldl_cons]

section
variable {X : Cx} {pins : List (Addr × Obj)} {σ : St} {H : Hp} {s : Shared} {l b : Addr} {xs ys zs : List V}

/-! ### the two steps: a tracked list is rewritten, a new list is laid -/
theorem Inv.lset {its its' : List Value} {n : Nat} {f : Array Value → Array Value} {t' : Nat} (I : Inv X pins σ H s) (hH : H l = some (.lst xs))
    (e : s.heap.get? l = some { cls := .type "list", data := .seq its.toArray n }) (hf : f its.toArray = its'.toArray) (hv : Vals ys its') (hz : ys.length ≤ sizeLine) :
    Inv X pins σ (upd H l (.lst ys)) { s with heap := s.heap.update l (Obj.mapSeq f), toks := t' } := by
  have q := PySem.IsL.update e f
  rw [hf] at q
  refine I.write (x := l) (e := l) (by rw [hH]; exact trivial) (.inl rfl) (fun b' u hb hu => (Heap.get?_update_other s.heap (Obj.mapSeq f) (Ne.symm hb)).trans hu) ⟨_, q⟩ ?_
  exact ⟨hz, its', _, hv, q⟩
theorem Inv.lnew {its : List Value} {t' : Nat} (I : Inv X pins σ H s) (hv : Vals ys its) (hz : ys.length ≤ sizeLine) :
    Inv X pins σ (upd H s.heap.objs.size (.lst ys)) { s with heap := s.heap.push { cls := .type "list", data := .seq its.toArray }, toks := t' } :=
  I.laid (fun _ _ q => Heap.get?_push_of_some _ q) (Nat.le_refl _) ⟨hz, its, 0, hv, Heap.get?_push_size _ rfl⟩
theorem Inv.fresh (I : Inv X pins σ H s) : H s.heap.objs.size = none := I.hok.fresh (Nat.le_refl _)
theorem Inv.lstM (I : Inv X pins σ H s) (hH : H l = some (.lst xs)) : xs.length ≤ sizeLine ∧ ∃ (its : List Value) (n : Nat), Vals xs its ∧ xs.length = its.length ∧ s.heap.get? l = some { cls := .type "list", data := .seq its.toArray n } := by
  obtain ⟨z, its, n, r, e⟩ := I.hok l _ hH
  exact ⟨z, its, n, r, r.length, e⟩

theorem notLongL {n : Nat} (h : n ≤ sizeLine) : Builtin.List.listTooLong n = false := by
  unfold Builtin.List.listTooLong
  exact decide_eq_false (by omega)
end

section
variable {X : Cx}

/-! ### methods -/
def rAppend : V → List V → Hp → VK → Prop := fun x vs H Q => ∃ l xs y, x = .ref l ∧ vs = [y] ∧ H l = some (.lst xs) ∧ xs.length < sizeLine ∧ Q .non (upd H l (.lst (xs ++ [y])))
theorem mt_append : MtM X "list.append" rAppend := by
  intro pins s σ H x vs v us Q I rx rv h
  obtain ⟨l, xs, y, rfl, rfl, hH, hz, q⟩ := h
  cases rx
  obtain ⟨u, rfl, ru⟩ := rv.one
  obtain ⟨z, its, n, r, hl, e⟩ := I.lstM hH
  refine call_meets F.slot_list_append ⟨_, e, rfl⟩ F.entry_list_append (F.args_list_append_2 _ _) (PySem.list_append l its.toArray n u (by rw [List.size_toArray]; omega)) ⟨e, ?_⟩
  refine ⟨.non, _, I.lset (its' := its ++ [u]) hH e (by simp) (r.append (.cons ru .nil)) ?_, rfl, q⟩
  rw [List.length_append, List.length_singleton]
  omega

def rExtend : V → List V → Hp → VK → Prop := fun x vs H Q => ∃ l b xs zs, x = .ref l ∧ vs = [.ref b] ∧ H l = some (.lst xs) ∧ H b = some (.lst zs) ∧ xs.length + zs.length ≤ sizeLine ∧ Q .non (upd H l (.lst (xs ++ zs)))
theorem mt_extend : MtM X "list.extend" rExtend := by
  intro pins s σ H x vs v us Q I rx rv h
  obtain ⟨l, b, xs, zs, rfl, rfl, hH, hB, hz, q⟩ := h
  cases rx
  obtain ⟨u, rfl, ru⟩ := rv.one
  cases ru
  obtain ⟨z, its, n, r, hl, e⟩ := I.lstM hH
  obtain ⟨z2, its2, n2, r2, hl2, e2⟩ := I.lstM hB
  have hsz : its.toArray.size + its2.toArray.size ≤ sizeLine := by rw [List.size_toArray, List.size_toArray]; omega
  have hlong : ¬ (!its.toArray.isEmpty && Builtin.List.listTooLong (its.toArray.size + its2.toArray.size)) = true := by
    rw [notLongL hsz, Bool.and_false]
    exact Bool.false_ne_true
  refine call_meets F.slot_list_extend ⟨_, e, rfl⟩ F.entry_list_extend (F.args_list_extend_2 _ _)
    (AutoSeq1.list_extend_list_list_0 l its.toArray n b its2.toArray n2 hlong (by rw [List.size_toArray]; omega) (by omega)) ⟨e, e2, ?_⟩
  refine ⟨.non, _, I.lset (its' := its ++ its2) hH e (by simp) (r.append r2) ?_, rfl, q⟩
  rw [List.length_append]
  omega

def rPop : V → List V → Hp → VK → Prop := fun x vs H Q => ∃ l xs y, x = .ref l ∧ vs = [] ∧ H l = some (.lst xs) ∧ xs[xs.length - 1]? = some y ∧ Q y (upd H l (.lst xs.dropLast))
theorem mt_pop : MtM X "list.pop" rPop := by
  intro pins s σ H x vs v us Q I rx rv h
  obtain ⟨l, xs, y, rfl, rfl, hH, hy, q⟩ := h
  cases rx
  have hus := rv.zero
  subst hus
  obtain ⟨z, its, n, r, hl, e⟩ := I.lstM hH
  obtain ⟨u, hu, ru⟩ := r.get hy
  have hy' : its.toArray[its.toArray.size - 1]? = some u := by
    show its.toArray[its.length - 1]? = some u
    rw [← Array.getElem?_toList, ← hl]
    exact hu
  refine call_meets F.slot_list_pop ⟨_, e, rfl⟩ F.entry_list_pop (F.args_list_pop_1 _) (MeetsSeq.list_pop_last l its.toArray n u hy' (by rw [List.size_toArray]; omega)) ⟨e, ?_⟩
  refine ⟨y, _, I.lset (its' := its.dropLast) hH e ?_ r.dropLast ?_, ru, q⟩
  · show its.toArray.eraseIdxIfInBounds (its.toArray.size - 1) = its.dropLast.toArray
    rw [List.size_toArray, List.eraseIdxIfInBounds_toArray, erase_last]
  · rw [List.length_dropLast]
    omega

def rPopAt : V → List V → Hp → VK → Prop := fun x vs H Q => ∃ l xs i k y, x = .ref l ∧ vs = [.int i] ∧ H l = some (.lst xs) ∧ -(2 ^ 63) ≤ i ∧ i < 2 ^ 63 ∧ seqIndex? i xs.length = some k ∧ xs[k]? = some y ∧ Q y (upd H l (.lst (xs.eraseIdx k)))
theorem mt_popAt : MtM X "list.pop" rPopAt := by
  intro pins s σ H x vs v us Q I rx rv h
  obtain ⟨l, xs, i, k, y, rfl, rfl, hH, h1, h2, hk, hy, q⟩ := h
  cases rx
  obtain ⟨u, rfl, ru⟩ := rv.one
  obtain ⟨t, rfl⟩ := ru
  obtain ⟨z, its, n, r, hl, e⟩ := I.lstM hH
  obtain ⟨w, hw, rw'⟩ := r.get hy
  refine call_meets F.slot_list_pop ⟨_, e, rfl⟩ F.entry_list_pop (F.args_list_pop_2 _ _)
    (MeetsSeq.list_pop_at l its.toArray n i t k w (fitsIndex_both h1 h2) (by rw [List.size_toArray, ← hl]; exact hk) (by rw [← Array.getElem?_toList]; exact hw) (by rw [List.size_toArray]; omega)) ⟨e, ?_⟩
  refine ⟨y, _, I.lset (its' := its.eraseIdx k) hH e ?_ (r.eraseIdx k) ?_, rw', q⟩
  · show its.toArray.eraseIdxIfInBounds k = (its.eraseIdx k).toArray
    rw [List.eraseIdxIfInBounds_toArray]
  · have := len_erase xs k
    omega

def rReverse : V → List V → Hp → VK → Prop := fun x vs H Q => ∃ l xs, x = .ref l ∧ vs = [] ∧ H l = some (.lst xs) ∧ Q .non (upd H l (.lst xs.reverse))
theorem mt_reverse : MtM X "list.reverse" rReverse := by
  intro pins s σ H x vs v us Q I rx rv h
  obtain ⟨l, xs, rfl, rfl, hH, q⟩ := h
  cases rx
  have hus := rv.zero
  subst hus
  obtain ⟨z, its, n, r, hl, e⟩ := I.lstM hH
  refine call_meets F.slot_list_reverse ⟨_, e, rfl⟩ F.entry_list_reverse (F.args_list_reverse_1 _) (AutoSeq1.list_reverse_list_0 l its.toArray n (by rw [List.size_toArray]; omega)) ⟨e, ?_⟩
  refine ⟨.non, _, I.lset (its' := its.reverse) hH e (by simp) r.reverse ?_, rfl, q⟩
  rw [List.length_reverse]
  omega

def rClear : V → List V → Hp → VK → Prop := fun x vs H Q => ∃ l xs, x = .ref l ∧ vs = [] ∧ H l = some (.lst xs) ∧ Q .non (upd H l (.lst []))
theorem mt_clear : MtM X "list.clear" rClear := by
  intro pins s σ H x vs v us Q I rx rv h
  obtain ⟨l, xs, rfl, rfl, hH, q⟩ := h
  cases rx
  have hus := rv.zero
  subst hus
  obtain ⟨z, its, n, r, hl, e⟩ := I.lstM hH
  refine call_meets F.slot_list_clear ⟨_, e, rfl⟩ F.entry_list_clear (F.args_list_clear_1 _) (AutoSeq1.list_clear_list_0 l its.toArray n (by rw [List.size_toArray]; omega)) ⟨e, ?_⟩
  exact ⟨.non, _, I.lset (its' := []) (ys := []) hH e rfl .nil (Nat.zero_le _), rfl, q⟩

/-! ### list + list, list += list, list * int -/
def rCat : R2 := fun x y H Q => ∃ l b xs zs, x = .ref l ∧ y = .ref b ∧ H l = some (.lst xs) ∧ H b = some (.lst zs) ∧ xs.length + zs.length ≤ sizeLine ∧ ∀ p, H p = none → Q (.ref p) (upd H p (.lst (xs ++ zs)))
theorem op_cat : OpR X (binaryOp .Add) rCat := by
  intro pins s σ H x y v u Q I rx ry h
  obtain ⟨l, b, xs, zs, rfl, rfl, hH, hB, hz, q⟩ := h
  cases rx
  cases ry
  obtain ⟨z, its, n, r, hl, e⟩ := I.lstM hH
  obtain ⟨z2, its2, n2, r2, hl2, e2⟩ := I.lstM hB
  refine PySem.P.add_list e e2 ?_ (by rw [List.size_toArray, List.size_toArray]; omega)
  have ea : its.toArray ++ its2.toArray = (its ++ its2).toArray := by simp
  rw [ea]
  exact ⟨.ref _, _, I.lnew (t' := s.toks) (r.append r2) (by rw [List.length_append]; omega), rfl, q _ I.fresh⟩
/-- a list times an int (a negative one is nothing) -/
def rRep : R2 := fun x y H Q => ∃ l k xs, x = .ref l ∧ y = .int k ∧ H l = some (.lst xs) ∧ -(2 ^ 63) ≤ k ∧ k < 2 ^ 63 ∧ xs.length * k.toNat ≤ sizeLine ∧
  ∀ p, H p = none → Q (.ref p) (upd H p (.lst (List.replicate k.toNat xs).flatten))
theorem len_rep {α : Type} (xs : List α) (k : Nat) : (List.replicate k xs).flatten.length = k * xs.length := by
  induction k with
  | zero => simp
  | succ k ih => rw [List.replicate_succ, List.flatten_cons, List.length_append, ih, Nat.succ_mul, Nat.add_comm]
theorem op_rep : OpR X (binaryOp .Mult) rRep := by
  intro pins s σ H x y v u Q I rx ry h
  obtain ⟨l, k, xs, rfl, rfl, hH, h1, h2, hz, q⟩ := h
  cases rx
  obtain ⟨t, rfl⟩ := ry
  obtain ⟨z, its, n, r, hl, e⟩ := I.lstM hH
  have hlen : its.toArray.size * k.toNat ≤ sizeLine := by rw [List.size_toArray, ← hl]; exact hz
  have hcap : ¬ its.toArray.size * k.toNat > (2 ^ 63 - 1) / 8 := by
    have : (sizeLine : Nat) ≤ (2 ^ 63 - 1) / 8 := by decide
    omega
  have hfit : ¬ (!Builtin.List.listFitsIndex k) = true := by
    rw [fitsIndex_both h1 h2]
    exact Bool.false_ne_true
  have hlong : ¬ Builtin.List.listTooLong (its.toArray.size * k.toNat) = true := by
    rw [notLongL hlen]
    exact Bool.false_ne_true
  have hnew : List.foldl (fun x1 x2 => x1 ++ x2) #[] (List.replicate (if its.toArray.isEmpty = true then 0 else k.toNat) its.toArray) = (List.replicate k.toNat its).flatten.toArray := by
    have f0 : ∀ m : Nat, List.foldl (fun x1 x2 => x1 ++ x2) #[] (List.replicate m its.toArray) = (List.replicate m its).flatten.toArray := fun m => by
      have := foldl_rep its m []
      rw [List.nil_append] at this
      exact this
    rw [f0]
    cases its with
    | nil => simp
    | cons a r' => rw [if_neg (by simp)]
  refine wpAny_binaryOp_repeat_ref (T := "list") (U := "int") (by decide) ⟨_, e, rfl⟩ (fun s' => typeIs_int s' k t) noFill_list_mul F.fills_int_mul F.slot_int_rmul repeat_list F.slot_int_index.lookup
    (call_meets F.slot_int_rmul (typeIs_int s k t) F.entry_int_rmul (F.args_int_rmul_2 _ _) (int___rmul___int_list k t l its.toArray n)
      ⟨e, rfl, ⟨_, e, rfl⟩, call_meets F.slot_list_mul ⟨_, e, rfl⟩ F.entry_list_mul (F.args_list_mul_2 _ _) (AutoListH.list___mul___list_int_3 l its.toArray n k t hfit hcap hlong) ⟨e, ?_⟩⟩)
  rw [hnew]
  exact ⟨.ref _, _, I.lnew (t' := s.toks) (r.rep k.toNat) (by rw [len_rep, Nat.mul_comm]; exact hz), rfl, q _ I.fresh⟩

/-! ### del xs[i] -/
theorem del_list {pins : List (Addr × Obj)} {s : Shared} {σ : St} {H : Hp} {l : Addr} {xs : List V} {i : Int} {t : Tok} {k : Nat} {Q : Unit → Shared → Prop} (I : Inv X pins σ H s) (hH : H l = some (.lst xs))
    (h1 : -(2 ^ 63) ≤ i) (h2 : i < 2 ^ 63) (hk : seqIndex? i xs.length = some k) (h : ∀ s', Inv X pins σ (upd H l (.lst (xs.eraseIdx k))) s' → Q () s') :
    wpAny (model X.prog X.w) X.A (delItem (.ref l) (.int i t)) Q X.xe s := by
  obtain ⟨z, its, n, r, hl, e⟩ := I.lstM hH
  refine PySem.P.delItem_list (k := k) e (fitsIndex_both h1 h2) (by rw [List.size_toArray, ← hl]; exact hk) (h _ ?_) (by rw [List.size_toArray]; omega)
  refine I.lset (its' := its.eraseIdx k) (t' := s.toks) hH e ?_ (r.eraseIdx k) ?_
  · show its.toArray.eraseIdxIfInBounds k = (its.eraseIdx k).toArray
    rw [List.eraseIdxIfInBounds_toArray]
  · have := len_erase xs k
    omega
end

/-! ### xs[a:b] = ys -/
section
variable {prog : Program} {w : World} {A : Around} {E : Value → Shared → Prop} {s : Shared}
theorem splice_eq (its its2 : List Value) (a c : Nat) : its.toArray.extract 0 a ++ its2.toArray ++ its.toArray.extract c its.toArray.size = (its.take a ++ its2 ++ its.drop c).toArray := by
  apply Array.toList_inj.mp
  first
    | (simp
       exact List.take_of_length_le (by simp))
    | simp [List.take_of_length_le]
    | simp
theorem bounds_run {a c n : Nat} (hac : a ≤ c) (hc : c ≤ n) : sliceBounds (some (a : Int)) (some (c : Int)) none n = ((a : Int), (c : Int), 1) := by
  simp only [sliceBounds, Option.getD_none]
  have h1 : ¬ ((a : Int) < 0) := by omega
  have h2 : ¬ ((c : Int) < 0) := by omega
  simp only [h1, h2, if_false, show (1 : Int) > 0 by decide, if_true]
  congr 1
  · omega
  · congr 1; omega
set_option maxRecDepth 100000 in
/-- list.__setitem__ with a slice of step one and another list -/
theorem setItem_slice {l b sl : Addr} {items new : Array Value} {n n2 : Nat} {vl vu : Value} {a c : Nat} {Q : Unit → Shared → Prop}
    (e : s.heap.get? l = some { cls := .type "list", data := .seq items n }) (e2 : s.heap.get? b = some { cls := .type "list", data := .seq new n2 }) (hne : l ≠ b)
    (hs : s.heap.IsSliceOf sl vl vu .none) (pl : IsPart vl (some (a : Int))) (pu : IsPart vu (some (c : Int))) (hac : a ≤ c) (hc : c ≤ items.size)
    (hsz : items.size + new.size ≤ sizeLine) (h : Q () { s with heap := s.heap.update l (Obj.mapSeq fun xs => xs.extract 0 a ++ new ++ xs.extract c xs.size) }) :
    wpAny (model prog w) A (setItem (.ref l) (.ref sl) (.ref b)) Q E s := by
  have hl : s.heap.IsList l items := PySem.IsL.isList e
  have hb : s.heap.IsList b new := PySem.IsL.isList e2
  obtain ⟨os, hos, hcs, hds⟩ := id hs
  have hTs : s.TypeIs (.ref sl) "slice" := ⟨os, hos, hcs⟩
  have hstep : ¬ ((rawPart none == rawInt 0) = true) := Bool.false_ne_true
  have hsame : Builtin.List.listSameRef (.ref l) (.ref b) = false := by
    unfold Builtin.List.listSameRef
    exact beq_eq_false_iff_ne.mpr hne
  have hmax : (max (a : Int) (c : Int)).toNat = c := by omega
  have hz' : ((fun xs : Array Value => xs.extract 0 a ++ new ++ xs.extract c xs.size) items).size ≤ sizeLine + 1 := by
    simp only [Array.size_append, Array.size_extract]
    omega
  unfold setItem
  try with_reducible refine wpAny_holding ?_
  first | refine wpAny_bind (wpAny_pure ?_) | skip
  refine wpAny_bind (wpAny_sequenceKey hl.typeIs (by decide) ?_)
  refine wpAny_bind (wpAny_callSpecial?_slot (name := Str.ofString "__setitem__") hl.typeIs slot_list_setitem
    (wpAny_call_entry slot_list_setitem hl.typeIs entry_list_setitem ?_ (args_list_setitem _ _ _)))
  show wpAny _ _ (Builtin.List.listSubscript? (.ref sl) >>= _) _ _ s
  refine wpAny_bind ?_
  unfold Builtin.List.listSubscript?
  refine wpAny_bind (wpAny_specialOf hTs slice_no_index ?_)
  simp only [Option.isNone_none, if_true]
  refine wpAny_pure ?_
  show wpAny _ _ (typeOf (.ref sl) >>= _) _ _ s
  refine wpAny_bind (wpAny_typeOf hTs ?_)
  first
    | rw [if_neg (by decide)]
    | refine PySem.W.KFB.if_not (by decide) ?_
  rw [listSliceParts_eq]
  refine wpAny_bind (wpAny_bind (wpAny_field hos hds (x := .none) rfl (wpAny_bind (wpAny_listPart .none ?_))))
  rw [if_neg hstep]
  refine wpAny_bind (wpAny_field hos hds (x := vl) rfl (wpAny_bind (wpAny_listPart pl ?_)))
  refine wpAny_bind (wpAny_field hos hds (x := vu) rfl (wpAny_bind (wpAny_listPart pu (wpAny_pure ?_))))
  first
    | simp only [hsame, Bool.false_eq_true, if_false]
    | refine PySem.W.KFB.if_not hsame ?_
    | (dsimp only
       rw [if_neg (by rw [hsame]; exact Bool.false_ne_true)])
  refine wpAny_bind (m := Builtin.List.listAllItems (.ref b) "must assign iterable to extended slice") ?_
  unfold Builtin.List.listAllItems
  refine wpAny_bind (wpAny_typeOf hb.typeIs ?_)
  first
    | refine PySem.W.KFB.if_so (by decide) ?_
    | rw [if_pos (by decide)]
    | simp only [beq_self_eq_true, Bool.true_or, if_true]
  unfold Builtin.List.listItems
  refine wpAny_bind (wpAny_seqItems e2 rfl (wpAny_pure ?_))
  refine wpAny_bind (wpAny_bind (wpAny_seqItems e rfl (wpAny_pure ?_)))
  refine wpAny_bind (wpAny_of_eq ((sliceIndices_raw (some (a : Int)) (some (c : Int)) none items.size (by simp)).trans (congrArg (pure : Int × Int × Int → Sem (Int × Int × Int)) (bounds_run hac hc))) ?_)
  show wpAny _ _ (if ((1 : Int) == 1) = true then _ else _) _ _ s
  rw [if_pos (by decide)]
  refine wpAny_bind (wpAny_rule ?_)
  first
    | simp only [notLongL hsz, Bool.false_eq_true, if_false]
    | refine PySem.W.KFB.if_not (notLongL hsz) ?_
  first | refine wpAny_bind (wpAny_pure ?_) | skip
  show wpAny _ _ (updateSeq l (fun xs => xs.extract 0 ((a : Int)).toNat ++ new ++ xs.extract (max (a : Int) (c : Int)).toNat xs.size) >>= _) _ _ s
  rw [hmax, Int.toNat_natCast]
  refine wpAny_bind (wpAny_updateSeq (hz := Nat.le_trans (Nat.le_add_right _ _) hsz) (_hz' := hz') e rfl ?_)
  refine wpAny_bind (wpAny_letGo ?_)
  first
    | exact wpAny_bind (wpAny_pure (wpAny_pure ⟨.none, rfl, wpAny_pure h⟩))
    | exact wpAny_pure ⟨.none, rfl, wpAny_pure h⟩
end

section
variable {X : Cx}
/-- xs[a:c] = ys of another list, at the value level: sl is the slice object that was just made -/
theorem set_slice {pins : List (Addr × Obj)} {s : Shared} {σ : St} {H : Hp} {l b sl : Addr} {xs ys : List V} {a c : Int} {vl vu : Value} {Q : Unit → Shared → Prop} (I : Inv X pins σ H s)
    (hH : H l = some (.lst xs)) (hB : H b = some (.lst ys)) (hne : l ≠ b) (hs : s.heap.IsSliceOf sl vl vu .none) (ra : RelV (.int a) vl) (rc : RelV (.int c) vu) (h0 : 0 ≤ a) (hac : a ≤ c) (hc : c ≤ xs.length)
    (hz : xs.length + ys.length ≤ sizeLine) (h : ∀ s', Inv X pins σ (upd H l (.lst (xs.take a.toNat ++ ys ++ xs.drop c.toNat))) s' → Q () s') :
    wpAny (model X.prog X.w) X.A (setItem (.ref l) (.ref sl) (.ref b)) Q X.xe s := by
  obtain ⟨ta, rfl⟩ := ra
  obtain ⟨tc, rfl⟩ := rc
  obtain ⟨z, its, n, r, hl, e⟩ := I.lstM hH
  obtain ⟨z2, its2, n2, r2, hl2, e2⟩ := I.lstM hB
  obtain ⟨a', rfl⟩ := Int.eq_ofNat_of_zero_le h0
  obtain ⟨c', rfl⟩ := Int.eq_ofNat_of_zero_le (Int.le_trans h0 hac)
  simp only [Int.toNat_natCast] at h
  refine setItem_slice (a := a') (c := c') e e2 hne hs (.int _ _) (.int _ _) (by omega) (by rw [List.size_toArray]; omega) (by rw [List.size_toArray, List.size_toArray]; omega) (h _ ?_)
  refine I.lset (its' := its.take a' ++ its2 ++ its.drop c') (t' := s.toks) hH e ?_ (Vals.append (Vals.append (r.take _) r2) (r.drop _)) ?_
  · exact splice_eq its its2 a' c'
  · rw [List.length_append, List.length_append, List.length_take, List.length_drop]
    omega
end
end L2

namespace Att
open PySem PySem.W PySem.Calls PyProof.Rows

/-! ### the script -/
theorem ints_of_wellAll {P : Params} {h : Heap} : ∀ (ns : List Int) (vs : List Value), WellAll P h vs (ns.map WData.int) → IntsAre vs ns := by
  intro ns
  induction ns with
  | nil =>
    intro vs w
    rw [List.map_nil] at w
    cases w
    exact .nil
  | cons n ns ih =>
    intro vs w
    rw [List.map_cons] at w
    cases w with
    | cons a b =>
      cases a
      exact .cons _ _ (ih _ b)

theorem script_of {l : OpenLaw} {n : Nat} (hn : l.most = some n) {P : Params} {h : Heap} {args : List WData} {vals : List Value}
    (hpre : l.row.toRowW.claim.pre args = true) (hwl : WellAll P h vals args) :
    ∃ a vs ns, vals = [Value.ref a] ∧ args = [WData.list (ns.map WData.int)] ∧ h.get? a = some { cls := .type "list", data := .seq vs.toArray } ∧ IntsAre vs ns ∧ ns.length ≤ n := by
  have hsh : WShape.hasAll [] args [.list .int] = true := (pre_splitW hpre).1
  have hc : l.pre.holds [] { args := args } = true := (pre_splitW hpre).2
  obtain ⟨d, r, rfl, h1, h2⟩ := hasAllW_cons hsh
  obtain rfl := hasAllW_nil h2
  obtain ⟨xs, rfl, h3⟩ := hasW_list h1
  obtain ⟨ns, rfl⟩ := items_int h3
  have hlen : ns.length ≤ n := by
    unfold OpenLaw.pre at hc
    have h4 : (WTm.not (.lt (.lit (.int (n : Int))) (.len (.arg 0)))).holds [] { args := [.list (ns.map .int)] } = true := by
      have h4 := (holds_andW hc).1
      rw [hn] at h4
      exact h4
    have h5 := condW_of h4 (w_not (w_lt w_lit (w_len_list (w_arg rfl))))
    rw [List.length_map] at h5
    refine Nat.le_of_not_lt fun q => ?_
    have q' : (n : Int) < ((ns.length : Nat) : Int) := by omega
    first
      | (rw [decide_eq_true q'] at h5; exact absurd h5 (by decide))
      | (simp at h5; omega)
  cases hwl with
  | cons w1 w2 =>
    cases w2
    cases w1 with
    | list ho hall => exact ⟨_, _, ns, rfl, rfl, ho, ints_of_wellAll ns _ hall, hlen⟩

theorem post_true (l : OpenLaw) (args : List WData) : l.row.toRowW.claim.post args (.bool true) args = true :=
  postW_of (r := l.row.toRowW) (X := (true == true))
    (show WShape.has [] (.bool true) .bool = true by first | rfl | decide | simp [WShape.has, WShape.arms, WShape.armsAll])
    (show (WTm.eq .res (.lit (.bool true))).value [] { args := args, res := some (.bool true), after := args } = some (.bool (true == true)) from w_eq_bool (w_res rfl) w_lit) rfl

/-! ### the attachment: holds_open's last premise (the goal 'hc' behind k_head) from a wpAny of the law's body -/
theorem attach {l : OpenLaw} {n : Nat} {q : Program} {loose : List Str} {XP : (Str → Option Value) → Heap → Prop} {YP : World → Heap → Prop} {d : DefRec} {x : Str}
    (hn : l.most = some n) (hdf : d.params.defaults = [])
    (hbind : ∀ pm cd doc v : Value, bindArgs (docDef d.name d.params d.body d.scope pm cd doc) ⟨[v], []⟩ = pure [(x, v)])
    (hx : d.scope.names.lookup x = some .local ∨ d.scope.names.lookup x = some .cell)
    (hk : d.scope.kind = .function) (hco : d.scope.isCoroutine = false) (hgen : d.scope.isGenerator = false)
    (body : ∀ (w : World) (s₀ s₁ s : Shared) (mg mb : Str → Option Value) (fa : Addr) (o : Obj) (pm cd doc : Value) (a : Addr) (vs : List Value) (ns : List Int),
      Ground q loose [] XP w s₀ mg mb s₁.heap → YP w s₁.heap →
      s₁.heap.get? fa = some o → o.data = .func (docDef d.name d.params d.body d.scope pm cd doc) → s₁.heap.CodeRec cd d.name → mg d.name = some (.ref fa) →
      s₁.heap.get? a = some { cls := .type "list", data := .seq vs.toArray } → IntsAre vs ns → ns.length ≤ n →
      s.gens = #[] → s.os = s₁.os →
      Fr s₁.heap s₁.heap.objs.size s.heap (bindL (envOfC d.name d.scope s₁.heap.objs.size fa cd).kindOf [(x, .ref a)] fun _ => none) →
      Cl s₁.heap.objs.size (cellsFrom (s₁.heap.objs.size + 1) d.scope.names []) s.heap (bindC (envOfC d.name d.scope s₁.heap.objs.size fa cd).kindOf [(x, .ref a)] fun _ => none) →
      wpAny (model l.prog w) (callerA.deeper (envOfC d.name d.scope s₁.heap.objs.size fa cd)) (execs d.body (envOfC d.name d.scope s₁.heap.objs.size fa cd))
        (fun f s' => f = .ret (.bool true) ∧ OldK s₁.heap s'.heap ∧ s'.os = s₁.os ∧ AllBare s'.gens) (fun _ _ => False) s) :
    WalkO q loose XP YP l.row.toRowW d [] (fun f vs => PySem.call f vs) := by
  intro w s₀ s₁ mg mb G Y fa o pm cd doc dV kV ho hd hcd hD hmg hg args vals as hpre hlay hrd hwl hlo
  obtain rfl : dV = .none := Dflts.none hD hdf
  obtain rfl : kV = .none := Dflts.noKw hD
  obtain ⟨a, vs, ns, rfl, rfl, hobj, hints, hlen⟩ := script_of hn hpre hwl
  refine enter_call ?_
  refine call_cells_ret (o := o) (by rw [depth_caller]; decide) ho (fd_plain hd) G.T.nolimit hcd (hbind pm cd doc (.ref a)) (fun y hy => ?_) (fun h₁ tk F X => ?_) hco hgen hk
  · obtain rfl : y = (x, Value.ref a) := List.mem_singleton.mp hy
    rcases hx with e | e
    · exact .inl e
    · exact .inr ⟨e, cellsFrom_some _ _ _ (.inl e)⟩
  · refine wpAny_mono (body w s₀ s₁ { s₁ with heap := h₁, toks := tk } mg mb fa o pm cd doc a vs ns G Y ho (fd_plain hd) hcd hmg hobj hints hlen hg rfl F X) (fun f s' hq => ?_) (fun _ _ hq => hq)
    obtain ⟨rfl, h2, h3, h4⟩ := hq
    exact ⟨.inl ⟨.bool true, .bool true, [], rfl, fun _ => rfl, .bool true, post_true l _, fun _ => ⟨List.Pairwise.nil, fun _ hm => (nomatch hm)⟩⟩, h2, h3, h4⟩

/-- the same from a codeAny of the CALL (for a layer whose function contracts speak of calls) -/
theorem attach_call {l : OpenLaw} {n : Nat} {q : Program} {loose : List Str} {XP : (Str → Option Value) → Heap → Prop} {YP : World → Heap → Prop} {d : DefRec}
    (hn : l.most = some n) (hdf : d.params.defaults = [])
    (call : ∀ (w : World) (s₀ s₁ : Shared) (mg mb : Str → Option Value) (fa : Addr) (o : Obj) (pm cd doc : Value) (a : Addr) (vs : List Value) (ns : List Int),
      Ground q loose [] XP w s₀ mg mb s₁.heap → YP w s₁.heap →
      s₁.heap.get? fa = some o → o.data = .func (docDef d.name d.params d.body d.scope pm cd doc) → s₁.heap.CodeRec cd d.name → mg d.name = some (.ref fa) →
      s₁.heap.get? a = some { cls := .type "list", data := .seq vs.toArray } → IntsAre vs ns → ns.length ≤ n → s₁.gens = #[] →
      codeAny (model l.prog w) callerA (.call (.ref fa) ⟨[.ref a], []⟩) (fun r s' => r = .ok (.ret (.bool true)) ∧ OldK s₁.heap s'.heap ∧ s'.os = s₁.os ∧ AllBare s'.gens) s₁) :
    WalkO q loose XP YP l.row.toRowW d [] (fun f vs => PySem.call f vs) := by
  intro w s₀ s₁ mg mb G Y fa o pm cd doc dV kV ho hd hcd hD hmg hg args vals as hpre hlay hrd hwl hlo
  obtain rfl : dV = .none := Dflts.none hD hdf
  obtain rfl : kV = .none := Dflts.noKw hD
  obtain ⟨a, vs, ns, rfl, rfl, hobj, hints, hlen⟩ := script_of hn hpre hwl
  refine enter_call (codeAny_mono (call w s₀ s₁ mg mb fa o pm cd doc a vs ns G Y ho (fd_plain hd) hcd hmg hobj hints hlen hg) fun r s' hq => ?_)
  obtain ⟨rfl, h2, h3, h4⟩ := hq
  exact ⟨.inl ⟨.bool true, .bool true, [], rfl, fun _ => rfl, .bool true, post_true l _, fun _ => ⟨List.Pairwise.nil, fun _ hm => (nomatch hm)⟩⟩, h2, h3, h4⟩

/-- the same where the top left finished generators (o_head chose holds_openN): nothing may have changed at all and no generator may be left -/
theorem attachN {l : OpenLaw} {n : Nat} {q : Program} {loose : List Str} {XP : (Str → Option Value) → Heap → Prop} {YP : World → Heap → Prop} {d : DefRec} {x : Str}
    (hn : l.most = some n) (hdf : d.params.defaults = [])
    (hbind : ∀ pm cd doc v : Value, bindArgs (docDef d.name d.params d.body d.scope pm cd doc) ⟨[v], []⟩ = pure [(x, v)])
    (hx : d.scope.names.lookup x = some .local ∨ d.scope.names.lookup x = some .cell)
    (hk : d.scope.kind = .function) (hco : d.scope.isCoroutine = false) (hgen : d.scope.isGenerator = false)
    (body : ∀ (w : World) (s₀ s₁ s : Shared) (mg mb : Str → Option Value) (fa : Addr) (o : Obj) (pm cd doc : Value) (a : Addr) (vs : List Value) (ns : List Int),
      Ground q loose [] XP w s₀ mg mb s₁.heap → YP w s₁.heap →
      s₁.heap.get? fa = some o → o.data = .func (docDef d.name d.params d.body d.scope pm cd doc) → s₁.heap.CodeRec cd d.name → mg d.name = some (.ref fa) →
      s₁.heap.get? a = some { cls := .type "list", data := .seq vs.toArray } → IntsAre vs ns → ns.length ≤ n →
      s.gens = #[] → s.os = s₁.os →
      Fr s₁.heap s₁.heap.objs.size s.heap (bindL (envOfC d.name d.scope s₁.heap.objs.size fa cd).kindOf [(x, .ref a)] fun _ => none) →
      Cl s₁.heap.objs.size (cellsFrom (s₁.heap.objs.size + 1) d.scope.names []) s.heap (bindC (envOfC d.name d.scope s₁.heap.objs.size fa cd).kindOf [(x, .ref a)] fun _ => none) →
      wpAny (model l.prog w) (callerA.deeper (envOfC d.name d.scope s₁.heap.objs.size fa cd)) (execs d.body (envOfC d.name d.scope s₁.heap.objs.size fa cd))
        (fun f s' => f = .ret (.bool true) ∧ (∀ b o, s₁.heap.get? b = some o → s'.heap.get? b = some o) ∧ s'.os = s₁.os ∧ s'.gens = #[]) (fun _ _ => False) s) :
    WalkN q loose XP YP l.row.toRowW d [] (fun f vs => PySem.call f vs) := by
  intro w s₀ s₁ mg mb G Y fa o pm cd doc dV kV ho hd hcd hD hmg hg args vals as hpre hlay hrd hwl hlo
  obtain rfl : dV = .none := Dflts.none hD hdf
  obtain rfl : kV = .none := Dflts.noKw hD
  obtain ⟨a, vs, ns, rfl, rfl, hobj, hints, hlen⟩ := script_of hn hpre hwl
  refine enter_callW ?_
  refine call_cells_ret (o := o) (by rw [depth_caller]; decide) ho (fd_plain hd) G.T.nolimit hcd (hbind pm cd doc (.ref a)) (fun y hy => ?_) (fun h₁ tk F X => ?_) hco hgen hk
  · obtain rfl : y = (x, Value.ref a) := List.mem_singleton.mp hy
    rcases hx with e | e
    · exact .inl e
    · exact .inr ⟨e, cellsFrom_some _ _ _ (.inl e)⟩
  · refine wpAny_mono (body w s₀ s₁ { s₁ with heap := h₁, toks := tk } mg mb fa o pm cd doc a vs ns G Y ho (fd_plain hd) hcd hmg hobj hints hlen hg rfl F X) (fun f s' hq => ?_) (fun _ _ hq => hq)
    obtain ⟨rfl, h2, h3, h4⟩ := hq
    exact ⟨.inl ⟨.bool true, .bool true, [], rfl, fun _ => rfl, .bool true, post_true l _, fun _ => ⟨List.Pairwise.nil, fun _ hm => (nomatch hm)⟩⟩, h2, h3, h4⟩

/-! ### rules over ANY heap (no ledger) from facts about the written part K: the library's own take a ledger (News) for what they write -/
section
variable {prog : Program} {w : World} {A : Around} {E : Value → Shared → Prop} {s : Shared} {K : Frag}

/-- a def of the module, or a method (qual 'C.m'), entered: the frame is the next address; cells behind it -/
theorem call_fn {R : Result → Shared → Prop} {name qual : Str} {params : Arguments} {body : List Stmt} {scope : Scope} {dV kV doc pm cdv ct oc : Value} {an od : Option Addr} {osl : Array (Option Value)} {f : Addr} {args : Args} {binds : List (Str × Value)}
    (X : K.In s.heap) (hlim : s.heap.NoLimit) (ho : K.lookup f = some ⟨oc, od, .func (fnOf name qual params body scope dV kV doc pm an cdv ct), osl⟩) (hcd : codeIn K cdv qual = true) (hroom : A.depth < recursionLimit)
    (hbind : BindsTo s (fnOf name qual params body scope dV kV doc pm an cdv ct) args binds)
    (hkind : (binds.all fun y => scope.names.lookup y.1 == some .local || scope.names.lookup y.1 == some .cell) = true)
    (h : ∀ s₁, InCallC s s.heap.objs.size (bindL (envOfC qual scope s.heap.objs.size f cdv).kindOf binds fun _ => none) (cellsFrom (s.heap.objs.size + 1) scope.names [])
        (bindC (envOfC qual scope s.heap.objs.size f cdv).kindOf binds fun _ => none) s₁ →
      wpAny (model prog w) (A.deeper (envOfC qual scope s.heap.objs.size f cdv)) (execs body (envOfC qual scope s.heap.objs.size f cdv))
        (fun fl s' => R (.ok (.ret (match fl with | .ret v => v | _ => .none))) s')
        (fun e s' => wpAny (model prog w) (A.deeper (envOfC qual scope s.heap.objs.size f cdv)) (leaving (envOfC qual scope s.heap.objs.size f cdv) e) (fun _ s'' => R (.error e) s'') (fun e' s'' => R (.error e') s'') s') s₁)
    (hco : scope.isCoroutine = false) (hgen : scope.isGenerator = false) (hk : scope.kind = .function) : codeAny (model prog w) A (.call (.ref f) args) R s := by
  refine codeAny_call_function hroom (X _ _ ho) rfl hco hgen rfl (codeRec_of X hcd) (hbind _ _ _ _ ?_)
  refine wpAny_newFunctionEnv_cells hk (kindsX hkind _) fun env he s₁ x => ?_
  subst he
  exact ⟨hlim.keeps x.toInCall.keep, codeAny_func (h s₁ x)⟩

/-- C(..): dict at size, instance at size + 1, then __init__ -/
theorem make_obj {R : Result → Shared → Prop} {C fI : Addr} {rest : List Value} {kw : List (Str × Value)}
    (X : K.In s.heap) (hm : makesIn K C = true) (hi : findIn K (.ref C) "__init__" = some (some (.ref fI))) (hf : isFn K (.ref fI) = true)
    (h : codeAny (model prog w) (A.under (.builtin "type.__call__" ⟨.ref C :: rest, kw⟩)) (.call (.ref fI) ⟨.ref (s.heap.objs.size + 1) :: rest, kw⟩) (InitBack (s.heap.objs.size + 1) R)
      { s with heap := (s.heap.push emptyDict).push (instObj C s.heap.objs.size) }) : codeAny (model prog w) A (.call (.ref C) ⟨rest, kw⟩) R s := by
  obtain ⟨hh, g, d, t, os⟩ := s
  exact make_core (makes_of X hm) (looks_findIn X hi) (fun self => bind_fn X self (beq_iff_eq.mp hf)) (.inl rfl) h

/-- x.name where the instance's dict holds the name and the class does not -/
theorem get_field {x C : Addr} {ox : Obj} {es : List DictEntry} {n : Nat} {name : Str} {expr : Bool} {v : Value} {Q : Value → Shared → Prop}
    (X : K.In s.heap) (I : PySem.W.InstAt s.heap x ox C (some (dictOf es n))) (hg : plainGet K C name = true) (hh : hasDictIn K C = true) (ha : findIn K (.ref C) name = some none)
    (hl : getL name es = some (some v)) (hv : handedIn v = true) (h : Q v { s with toks := s.toks + 1 }) : wpAny (model prog w) A (getAttr (.ref x) name expr) Q E s :=
  get_value X I (plainGet_of hg).1 (findObj_own hh ha rfl hl) hv h

/-- x.m(..): the method found in the class -/
theorem get_method {x C f : Addr} {ox : Obj} {es : List DictEntry} {n : Nat} {name : Str} {pl : Sem Bool} {Q : Value × List Value → Shared → Prop}
    (X : K.In s.heap) (I : PySem.W.InstAt s.heap x ox C (some (dictOf es n))) (hg : plainGet K C name = true) (hf : findIn K (.ref C) name = some (some (.ref f))) (ht : isFn K (.ref f) = true)
    (hl : getL name es = some none) (h : Q (.ref f, [.ref x]) s) : wpAny (model prog w) A (getMethod (.ref x) name pl) Q E s :=
  method_fn X I (plainGet_of hg).1 (plainGet_of hg).2 hf (beq_iff_eq.mp ht) (by show (lookIn name (dictOf es n)).map _ = _; rw [lookIn_dict, hl]; rfl) h

/-! the whole heap as the ledger: makes every rule that writes through a ledger a rule over any heap -/
def noObjs (h : Heap) : Heap := { h with objs := #[] }
theorem noObjs_get (h : Heap) (b : Addr) : (noObjs h).get? b = none := by
  cases e : (noObjs h).get? b with
  | none => rfl
  | some o => exact absurd (Heap.lt_size e) (Nat.not_lt_zero _)
def ledger (h : Heap) (L d : Addr) : List (Addr × Obj) := (List.range h.objs.size).filterMap fun a => if a = L ∨ a = d then none else (h.get? a).map fun o => (a, o)
theorem mem_ledger {h : Heap} {L d a : Addr} {o : Obj} : (a, o) ∈ ledger h L d ↔ a ≠ L ∧ a ≠ d ∧ h.get? a = some o := by
  unfold ledger
  rw [List.mem_filterMap]
  constructor
  · rintro ⟨b, _, e⟩
    split at e
    · cases e
    · rename_i hb
      obtain ⟨o', ho, e'⟩ := Option.map_eq_some_iff.mp e
      cases e'
      exact ⟨fun q => hb (.inl q), fun q => hb (.inr q), ho⟩
  · rintro ⟨n1, n2, ho⟩
    refine ⟨a, List.mem_range.mpr (Heap.lt_size ho), ?_⟩
    rw [if_neg (show ¬ (a = L ∨ a = d) from fun q => q.elim n1 n2), ho] <;> rfl
theorem news_ledger {h : Heap} {L d : Addr} {od : Obj} (hne : d ≠ L) (ho : h.get? d = some od) : News (noObjs h) L h ([] ++ (d, od) :: ledger h L d) := by
  rintro ⟨a, o⟩ hp
  rcases List.mem_cons.mp hp with e | hp
  · cases e
    exact ⟨ho, hne, noObjs_get _ _⟩
  · obtain ⟨n1, n2, e⟩ := mem_ledger.mp hp
    exact ⟨e, n1, noObjs_get _ _⟩
theorem fr_all {h : Heap} {L : Addr} {m : Str → Option Value} (n : h.Ns L m) : Fr (noObjs h) L h m :=
  ⟨n, fun b o e => (by rw [noObjs_get] at e; cases e), Nat.zero_le _⟩
/-- Upd of the head entry (for append_K, setItem_K ..) -/
theorem upd_ledger {h : Heap} {L d : Addr} {o o' : Obj} : Upd d o o' ((d, o) :: ledger h L d) ((d, o') :: ledger h L d) :=
  .head fun ⟨_, _⟩ hp => (mem_ledger.mp hp).2.1

/-- x.name = v over any heap: L is any namespace of the heap (the frame's, say): its map stays, its object is not told; all else but the dict stays -/
theorem set_field {x C dx L : Addr} {ox : Obj} {m : Str → Option Value} {es es' : List DictEntry} {n n' : Nat} {name : Str} {v : Value} {Q : Unit → Shared → Prop}
    (X : K.In s.heap) (I : PySem.W.InstAt s.heap x ox C (some (dictOf es n))) (hd : ox.dict = some dx) (hL : s.heap.Ns L m) (hne : dx ≠ L)
    (hs : findIn K (.ref C) "__setattr__" = some (some (.builtin "object.__setattr__"))) (hp : plainOver K C = true) (ht : takerIn K C name = some none) (hh : hasDictIn K C = true) (hl : (getL name es).isSome = true)
    (e : (putL name (PyData.keyHash w.params name) (.str name (s.toks + 1)) v es, putN name es n) = (es', n')) (hz : es'.length ≤ 1000)
    (h : ∀ h' : Heap, h'.Ns L m → h'.get? dx = some (dictOf es' n') → (∀ b o, b ≠ dx → b ≠ L → s.heap.get? b = some o → h'.get? b = some o) → Q () { s with heap := h', toks := s.toks + 2 }) :
    wpAny (model prog w) A (setAttr (.ref x) name v) Q E s := by
  obtain ⟨e1, e2⟩ := Prod.mk.inj e
  have hdx : s.heap.get? dx = some (dictOf es n) := by
    have := I.dict
    rw [hd] at this
    exact this
  refine set_plain X I hs (osa_dict (s := { s with toks := s.toks + 1 }) (h₀ := noObjs s.heap) (L := L) (m := m) (od := dictOf es n) (od' := dictOf es' n') (es := es') (n := n') (pre := []) (post := ledger s.heap L dx)
    (fr_all hL) (news_ledger hne hdx) X I hd hp ht hh hl (fun _ q => nomatch q) (fun ⟨_, _⟩ q => (mem_ledger.mp q).2.1) (by rw [putName_dict, e1, e2]) rfl hz fun h' F' N' => ?_)
  exact h h' F'.ns (N'.get (List.Mem.head _)) fun b o n1 n2 ho => N'.get (List.Mem.tail _ (mem_ledger.mpr ⟨n2, n1, ho⟩))
end
end Att

namespace L2
open PySem PySem.Spec PyProof.Rows

theorem vals_ints : ∀ {vs : List Value} {ns : List Int}, IntsAre vs ns → Vals (ns.map V.int) vs
  | _, _, .nil => .nil
  | _, _, .cons n t h => .cons ⟨t, rfl⟩ (vals_ints h)

/-- nothing is tracked but the script, known to the object (or it is an object of the module) -/
def Only (H : Hp) : Prop := ∀ b, H b = none ∨ ∃ o xs, H b = some (.frz o (.lst xs))

/-- THE HEAD: the law's promise, at the heap behind the top. F, the promise of the law's def, may use that base is part of the heap (so K.In base, base.Ns mainGlobals mg stand in Mod) -/
theorem law_call {P : Program} {w : World} {K : PySem.W.Frag} {mg mb : Str → Option Value} {CX : CXT} {k : Nat} {fa a : Addr} {fd : FuncData} {x : Str} {sp : Sp} {s₁ : Shared} {vs : List Value} {ns : List Int}
    (KX : K.In s₁.heap) (hns : s₁.heap.Ns mainGlobals mg) (hb : s₁.heap.Ns builtinsNs mb) (hbb : ∀ x : Str, x ≠ "__name__" → mb x = bootBuiltins x) (hlim : s₁.heap.NoLimit) (hg : s₁.gens = #[])
    (ha : s₁.heap.get? a = some { cls := .type "list", data := .seq vs.toArray }) (hi : IntsAre vs ns) (hl : ns.length ≤ sizeLine) (hr : Room k callerA)
    (F : ∀ base : Heap, K.In base → base.Ns mainGlobals mg → FnOk P w K mg base CX k fa fd [x] sp) (hbind : ∀ (s : Shared) (u : Value), BindsTo s fd ⟨[u], []⟩ [(x, u)])
    (hsp : ∀ H : Hp, Only H → SqL K H a (ns.map V.int) → sp [.ref a] H (fun v _ => v = .bl true) fun _ _ _ => False)
    (hCX : ∀ H e s', CX [] H s₁ (fun _ _ _ => False) e s' → False) :
    codeAny (model P w) callerA (.call (.ref fa) ⟨[.ref a], []⟩) (fun r s' => r = .ok (.ret (.bool true)) ∧ OldK s₁.heap s'.heap ∧ s'.os = s₁.os ∧ AllBare s'.gens) s₁ := by
  have rv := vals_ints hi
  have lenV := hi.length
  -- from an abstract heap in which nothing but the script may be tracked
  have core : ∀ H : Hp, Only H → SqL K H a (ns.map V.int) → HOk P w H s₁.heap → (∀ b, H b ≠ none → b = a) → (H a ≠ none → K.lookup a = none) →
      codeAny (model P w) callerA (.call (.ref fa) ⟨[.ref a], []⟩) (fun r s' => r = .ok (.ret (.bool true)) ∧ OldK s₁.heap s'.heap ∧ s'.os = s₁.os ∧ AllBare s'.gens) s₁ := by
    intro H hO hS hok hA hK
    have base_of : ∀ {b : Addr} {o : Obj}, s₁.heap.get? b = some o → H b = none → (hidT s₁.heap H).get? b = some o := fun e n => hidT_get e n
    have noA : ∀ {b : Addr} {o : Obj} {es : Array DictEntry} {ep : Nat}, s₁.heap.get? b = some o → o.data = .dict es ep → H b = none := fun {b o es ep} e d => by
      cases q : H b with
      | none => rfl
      | some u =>
        have e' : b = a := hA b (by rw [q]; simp)
        subst e'
        rw [ha] at e; cases e
        have d' : Data.seq vs.toArray _ = Data.dict es ep := d
        cases d'
    have nsK : ∀ {b : Addr} {m : Str → Option Value}, s₁.heap.Ns b m → (hidT s₁.heap H).Ns b m := fun {b m} ⟨o, es, ep, e, d, r⟩ => ⟨o, es, ep, base_of e (noA e d), d, r⟩
    have hKb : K.In (hidT s₁.heap H) := fun b o e => base_of (KX b o e) (by
      cases q : H b with
      | none => rfl
      | some u =>
        have e' : b = a := hA b (by rw [q]; simp)
        subst e'
        rw [hK (by rw [q]; simp)] at e; cases e)
    have hM : Mod K mg (hidT s₁.heap H) := ⟨hKb, nsK hns, ⟨mb, nsK hb, hbb⟩, let ⟨mc, h1, h2⟩ := hlim; ⟨mc, nsK h1, h2⟩⟩
    have e0 : Env0 P w K mg (hidT s₁.heap H) callerA [] s₁ H := ⟨rfl, hM, fun b o e => of_hidT e, Nat.le_of_eq (hidT_size _ _), trivial, fun b hb => absurd (show b ∈ ([] : List Addr) from hb) (by simp), hok, .of_eq hg⟩
    refine codeAny_mono ((F _ hKb (nsK hns)).run callerA [] s₁ H ⟨[.ref a], []⟩ [.ref a] [.ref a] _ _ hr e0 (hbind s₁ (.ref a)) (.cons rfl .nil) (hsp H hO hS)) fun r s' h => ?_
    cases r with
    | error e => exact (hCX H e s' h).elim
    | ok fl =>
      cases fl with
      | next => exact False.elim h
      | brk => exact False.elim h
      | cont => exact False.elim h
      | ret u =>
        obtain ⟨v, H', os, bare, un, hok', r', q⟩ := h
        have q' : v = .bl true := q
        subst q'
        obtain rfl : u = Value.bool true := r'
        refine ⟨rfl, OldK.of_keep fun b o e => ?_, os, bare⟩
        cases q : H b with
        | none => exact un.keep b o e q (by intro z; exact absurd (show b ∈ ([] : List Addr) from z) (by simp)) (by simp)
        | some u =>
          rcases hO b with z | ⟨ob, xs, z⟩
          · rw [q] at z; cases z
          · have z2 := un.frzs b ob _ z
            obtain ⟨e1, _⟩ := hok b _ z
            obtain ⟨e2, _⟩ := hok' b _ z2
            rw [e] at e1; cases e1
            exact e2
  cases hk : K.lookup a with
  | some o =>
    -- the script is one of the module's own objects
    have e := KX a o hk
    rw [ha] at e
    cases e
    refine core (fun _ => none) (fun _ => .inl rfl) (.inr ⟨_, vs.toArray, _, hk, rfl, rfl, rfl, by rw [List.size_toArray, lenV]; exact hl, by simpa using rv⟩) (fun b u z => by have z' : (none : Option HO) = some u := z; cases z') (fun b z => absurd rfl z) fun z => absurd rfl z
  | none =>
    refine core (fun b => if b = a then some (.frz { cls := .type "list", data := .seq vs.toArray } (.lst (ns.map V.int))) else none) (fun b => ?_) (.inl (.inr ⟨{ cls := .type "list", data := .seq vs.toArray }, if_pos rfl⟩)) (fun b u z => ?_) (fun b z => ?_) fun _ => hk
    · by_cases hb : b = a
      · exact .inr ⟨_, _, if_pos hb⟩
      · exact .inl (if_neg hb)
    · by_cases hb : b = a
      · have z' := (if_pos hb).symm.trans z
        cases z'
        subst hb
        exact ⟨ha, by rw [List.length_map]; exact hl, vs, _, rv, ha⟩
      · have z' := (if_neg hb).symm.trans z
        cases z'
    · by_cases hb : b = a
      · exact hb
      · exact absurd (if_neg hb) z
end L2

namespace L2
open PySem PySem.Spec PyProof.Rows

abbrev KOf {K : PySem.W.Frag} {h : Heap} (_ : K.In h) : PySem.W.Frag := K

/-- the goal that k_head leaves (case hc), from the law's promise. F gives the function object fd (K's own) once, then the promise over every base -/
theorem walk_of {l : PySem.W.OpenLaw} {n k : Nat} {q : Program} {loose : List Str} {XP : (Str → Option Value) → Heap → Prop} {YP : World → Heap → Prop} {d : DefRec} {K : Params → PySem.W.Frag} {CX : World → CXT} {sp : World → Sp} {x : Str}
    (hn : l.most = some n) (hn2 : n ≤ sizeLine) (hdf : d.params.defaults = []) (hr : Room k callerA)
    (hY : ∀ (w : World) (h : Heap), YP w h → (K w.params).In h)
    (F : ∀ (w : World) (mg : Str → Option Value) (fa : Addr) (h : Heap), (K w.params).In h → h.Ns mainGlobals mg → mg d.name = some (.ref fa) →
      ∃ fd : FuncData, (∀ (s : Shared) (u : Value), BindsTo s fd ⟨[u], []⟩ [(x, u)]) ∧
        ∀ base : Heap, (K w.params).In base → base.Ns mainGlobals mg → FnOk l.prog w (K w.params) mg base (CX w) k fa fd [x] (sp w))
    (hsp : ∀ (w : World) (H : Hp) (a : Addr) (ns : List Int), ns.length ≤ n → Only H → SqL (K w.params) H a (ns.map V.int) → sp w [.ref a] H (fun v _ => v = .bl true) fun _ _ _ => False)
    (hCX : ∀ (w : World) (H : Hp) (s : Shared) (e : Value) (s' : Shared), CX w [] H s (fun _ _ _ => False) e s' → False) :
    PySem.W.WalkO q loose XP YP l.row.toRowW d [] (fun f vs => PySem.call f vs) := by
  refine Att.attach_call hn hdf fun w s₀ s₁ mg mb fa o pm cd doc a vs ns G Y ho hd hcd hmg hobj hints hlen hg => ?_
  have KX := hY w _ Y
  obtain ⟨fd, hb, hF⟩ := F w mg fa _ KX G.T.g hmg
  exact law_call KX G.T.g G.T.b G.T.builtins G.T.nolimit hg hobj hints (Nat.le_trans hlen hn2) hr hF hb (fun H hO hS => hsp w H a ns hlen hO hS) fun H e s' => hCX w H s₁ e s'
/-- the same where the promise hangs on the written part alone: (sp := My.sp_law), no hole under a binder -/
theorem walk_ofK {l : PySem.W.OpenLaw} {n k : Nat} {q : Program} {loose : List Str} {XP : (Str → Option Value) → Heap → Prop} {YP : World → Heap → Prop} {d : DefRec} {K : Params → PySem.W.Frag} {CX : CXT} {sp : PySem.W.Frag → Sp} {x : Str}
    (hn : l.most = some n) (hn2 : n ≤ sizeLine) (hdf : d.params.defaults = []) (hr : Room k callerA)
    (hY : ∀ (w : World) (h : Heap), YP w h → (K w.params).In h)
    (F : ∀ (w : World) (mg : Str → Option Value) (fa : Addr) (h : Heap), (K w.params).In h → h.Ns mainGlobals mg → mg d.name = some (.ref fa) →
      ∃ fd : FuncData, (∀ (s : Shared) (u : Value), BindsTo s fd ⟨[u], []⟩ [(x, u)]) ∧
        ∀ base : Heap, (K w.params).In base → base.Ns mainGlobals mg → FnOk l.prog w (K w.params) mg base CX k fa fd [x] (sp (K w.params)))
    (hsp : ∀ (K : PySem.W.Frag) (H : Hp) (a : Addr) (ns : List Int), ns.length ≤ n → Only H → SqL K H a (ns.map V.int) → sp K [.ref a] H (fun v _ => v = .bl true) fun _ _ _ => False)
    (hCX : ∀ (H : Hp) (s : Shared) (e : Value) (s' : Shared), CX [] H s (fun _ _ _ => False) e s' → False) :
    PySem.W.WalkO q loose XP YP l.row.toRowW d [] (fun f vs => PySem.call f vs) :=
  walk_of (K := K) (CX := fun _ => CX) (sp := fun w => sp (K w.params)) hn hn2 hdf hr hY F (fun w H a ns h1 h2 h3 => hsp (K w.params) H a ns h1 h2 h3) fun _ H s e s' => hCX H s e s'
end L2

/- THE LAST THEOREM (shape; LID, My.* are yours):
   My.Adr: a structure of the addresses that your layer names (classes, functions); My.Txt K t: a structure (Prop) of the equations over K;
   My.txt_mk : {K} {implicit addresses ..} (e1 : nsIn K mainGlobals "law" = some (some (.ref f))) (e2 : K.lookup f = some ⟨oc, od, .func (fnOf "law" "law" params body scope dV kV doc pm an cdv ct), sl⟩) (e3 : codeIn K cdv "law" = true) .. : ∃ t, My.Txt K t

set_option maxRecDepth 100000 in
set_option maxHeartbeats 0 in
theorem PySem.Challenge.cw_LID_holds : PySem.Challenge.rw_LID.Holds := by
  w_on; o_law; k_head; (case hw => w_witness2)
  k_fill
  refine L2.walk_of (l := PySem.Challenge.rw_LID) (n := 63) (k := 40) (x := "script") (CX := fun w => ..) (sp := fun _ => My.sp_law) rfl (by decide) rfl ⟨rfl, by decide, by decide⟩ (fun w h Y => PySem.W.kIn_of Y) ?F ?S ?C
  case F =>
    intro w mg fa h KX G hmg
    have T : ∃ t, My.Txt (L2.KOf KX) t := by
      dsimp only [L2.KOf]                          -- K must stand as «<heap const> w.params» for k_is
      refine' My.txt_mk ?e1 ?e2 ?e3 ..
      (case e1 => PySem.W.k_is)                    -- in the order: a name -> its address -> its object -> its parts
      (case e2 => PySem.W.k_is)
      ..
    obtain ⟨t, T⟩ := T
    have e0 := hmg.symm.trans (PySem.W.mg_of KX G T.law)
    cases e0                                       -- fa is the law's own address
    exact ⟨_, fun s u => .of_eq rfl, fun base kb nb => My.law_fn T kb nb⟩     -- if «.of_eq rfl» comes too early: refine' ⟨_, ?b, fun base kb nb => My.law_fn T kb nb⟩; exact fun s u => .of_eq rfl
  case S => exact fun w H a ns hl hO hS => ..
  case C => exact ..
(the tactic k_is has no namespace: write k_is) -/

/-! SHORT WORDS over the layer: a def of the text, its body, what a loop and a test want. -/
namespace L2
open PySem PySem.Spec PyProof.Rows

/-! ### the text by places -/
/-- the j-th statement of a class's body -/
def inClass (s : Stmt) (j : Nat) : Stmt := match s with
  | .ClassDef _ _ _ body _ _ _ _ _ _ _ => body.getD j (.Pass ⟨0, 0, 0, 0⟩)
  | _ => .Pass ⟨0, 0, 0, 0⟩
def defArgs (s : Stmt) : Arguments := match s with
  | .FunctionDef _ a _ _ _ _ _ _ _ _ => a
  | _ => { posonlyargs := [], args := [], vararg := none, kwonlyargs := [], kw_defaults := [], kwarg := none, defaults := [] }
def defBody (s : Stmt) : List Stmt := match s with
  | .FunctionDef _ _ b _ _ _ _ _ _ _ => b
  | _ => []
def defScope (s : Stmt) : Scope := match s with
  | .FunctionDef _ _ _ _ _ _ sc _ _ _ => sc
  | _ => { kind := .function, names := [], isGenerator := false, isCoroutine := false }

/-! ### no exception leaves a def -/
abbrev CX0 : CXT := fun _ _ _ _ _ _ => False
abbrev E0 : XK := fun _ _ _ => False
theorem pass0 {X : Cx} : Passes CX0 X E0 := fun _ _ _ _ _ _ _ h => h.elim

/-! ### a def (or method) of the text as it stands behind the top -/
structure Fun (K : PySem.W.Frag) (x qual : Str) (st : Stmt) (f : Addr) (fd : FuncData) : Prop where
  ex : ∃ (oc : Value) (od : Option Addr) (kV doc pm : Value) (an : Option Addr) (cdv ct : Value) (osl : Array (Option Value)),
    fd = PySem.W.fnOf x qual (defArgs st) (defBody st) (defScope st) .none kV doc pm an cdv ct ∧ K.lookup f = some ⟨oc, od, .func fd, osl⟩ ∧ PySem.W.codeIn K cdv qual = true
  kp : PySem.W.keepIn K (.ref f) = true
section
variable {P : Program} {w : World} {K : PySem.W.Frag} {mg : Str → Option Value} {base : Heap}
/-- THE RULE for a def: its body as a term of rules, and the reading of that term -/
theorem Fun.ok {x qual : Str} {st : Stmt} {f : Addr} {fd : FuncData} {N ps : List Str} {k : Nat} {sp : Sp} (F : Fun K x qual st f fd) (S : FnScope N ps (defScope st)) (len : ∀ vs H Q E, sp vs H Q E → vs.length = ps.length)
    (hbody : ∀ (cdv : Value) (A : Around) (outer : List Env) (s : Shared) (H : Hp) (vs : List V) (Q : VK) (E : XK), Room k (A.deeper (envOfC qual (defScope st) s.heap.objs.size f cdv)) → sp vs H Q E →
      ∃ t, PSs (cxOf CX0 P w K mg base N qual (defScope st) f cdv A outer s H E).nox (defBody st) t ∧ t { nx := fun _ H' => Q .non H', rt := Q } (start N vs) H) : FnOk P w K mg base CX0 (k + 1) f fd ps sp := by
  obtain ⟨oc, od, kV, doc, pm, an, cdv, ct, osl, rfl, lk, hcd⟩ := F.ex
  refine fn_of lk hcd S len fun A outer s H vs Q E hr hsp => ?_
  obtain ⟨t, h, q⟩ := hbody cdv A outer s H vs Q E hr hsp
  exact ⟨t, h.nox, q⟩
/-- how its arguments bind (no defaults): h is «fun _ _ _ _ _ _ us hl => match us, hl with | [_, _], _ => rfl», one _ a parameter -/
theorem Fun.binds {x qual : Str} {st : Stmt} {f : Addr} {fd : FuncData} {ps : List Str} (F : Fun K x qual st f fd)
    (h : ∀ (kV doc pm : Value) (an : Option Addr) (cdv ct : Value) (us : List Value), us.length = ps.length → bindArgs (PySem.W.fnOf x qual (defArgs st) (defBody st) (defScope st) .none kV doc pm an cdv ct) ⟨us, []⟩ = pure (ps.zip us)) : Binds K fd ps [] := by
  obtain ⟨oc, od, kV, doc, pm, an, cdv, ct, osl, rfl, lk, hcd⟩ := F.ex
  exact .all (h kV doc pm an cdv ct)
theorem fun_mk {x qual : Str} {st : Stmt} {f : Addr} {oc : Value} {od an : Option Addr} {osl : Array (Option Value)} {kV doc pm cdv ct : Value} (l : K.lookup f = some ⟨oc, od, .func (PySem.W.fnOf x qual (defArgs st) (defBody st) (defScope st) .none kV doc pm an cdv ct), osl⟩)
    (c : PySem.W.codeIn K cdv qual = true) (k : PySem.W.keepIn K (.ref f) = true) : Fun K x qual st f (PySem.W.fnOf x qual (defArgs st) (defBody st) (defScope st) .none kV doc pm an cdv ct) := ⟨⟨oc, od, kV, doc, pm, an, cdv, ct, osl, rfl, l, c⟩, k⟩
end
theorem hu_of {A : Around} {k : Nat} (hr : Room k A) : A.units + 1 < cLine := Nat.lt_of_le_of_lt (Nat.add_le_add_left (by decide : 1 ≤ 64) _) hr.units
theorem small1000 {n : Nat} (h : n ≤ 1000) : n < sizeLine := Nat.lt_of_le_of_lt h (by decide)

/-! ### expressions in short: the name that stands in the i-th slot -/
section
variable {X : Cx}
theorem pv (i : Nat) {x : Str} {pos : Pos} (hN : X.N[i]? = some x := by rfl) (hv : Vis X.env.scope x := by first | exact Or.inl rfl | exact Or.inr (Or.inl rfl) | exact Or.inr (Or.inr rfl)) (hd : (x == ("__debug__" : Str)) = false := by decide)
    (hcd : (x == ("__classdict__" : Str)) = false := by decide) : PE X (.Name x pos) (tVar i) := pe_var hN hv hd hcd
end

/-! ### tests -/
theorem iteF {A B : Prop} (h : B) : if false = true then A else B := by
  rw [if_neg Bool.false_ne_true]
  exact h
theorem iteT {A B : Prop} (h : A) : if true = true then A else B := by
  rw [if_pos rfl]
  exact h
theorem ite2 {c A B : Prop} [Decidable c] (h1 : c → A) (h2 : ¬ c → B) : if c then A else B := by
  by_cases h : c
  · rw [if_pos h]
    exact h1 h
  · rw [if_neg h]
    exact h2 h
theorem iteNS {c A B : Prop} [Decidable c] (hc : c) (h : B) : if (!decide c) = true then A else B := by
  rw [decide_eq_true hc]
  exact iteF h

/-! ### heaps -/
/-- all that was tracked is as it was -/
def Same (H H' : Hp) : Prop := ∀ b o, H b = some o → H' b = some o
theorem Same.refl (H : Hp) : Same H H := fun _ _ h => h
theorem Same.trans {H H1 H2 : Hp} (a : Same H H1) (b : Same H1 H2) : Same H H2 := fun c o h => b c o (a c o h)
theorem Same.free {H H' : Hp} (e : Same H H') {l : Addr} (h : H' l = Option.none) : H l = Option.none := by
  cases q : H l with
  | none => rfl
  | some o =>
    rw [e l o q] at h
    cases h
theorem Same.seq {K : PySem.W.Frag} {H H' : Hp} {a : Addr} {xs : List V} (e : Same H H') (h : SqL K H a xs) : SqL K H' a xs := by
  rcases h with (h | ⟨o, h⟩) | h
  · exact .inl (.inl (e _ _ h))
  · exact .inl (.inr ⟨o, e _ _ h⟩)
  · exact .inr h

end L2
namespace L2
open PySem PySem.Spec PyProof.Rows

/-! ### lists of pairs as tables -/
section
variable {κ : Type} [DecidableEq κ]
def valV (kvs : List (κ × V)) (k : κ) : Option V := (kvs.find? fun kv => decide (kv.1 = k)).map (·.2)
/-- in its place, or at the end -/
def putK (kvs : List (κ × V)) (k : κ) (v : V) : List (κ × V) :=
  if (kvs.any fun kv => decide (kv.1 = k)) = true then kvs.map (fun kv => if kv.1 = k then (kv.1, v) else kv) else kvs ++ [(k, v)]
def dropK (kvs : List (κ × V)) (k : κ) : List (κ × V) := kvs.filter fun kv => decide (kv.1 ≠ k)

theorem valV_nil {k : κ} : valV ([] : List (κ × V)) k = none := rfl
theorem valV_pos {p : κ × V} {r : List (κ × V)} {k : κ} (e : p.1 = k) : valV (p :: r) k = some p.2 := by simp [valV, List.find?_cons, e]
theorem valV_neg {p : κ × V} {r : List (κ × V)} {k : κ} (e : ¬ p.1 = k) : valV (p :: r) k = valV r k := by simp [valV, List.find?_cons, e]
theorem valV_any (k : κ) : ∀ kvs : List (κ × V), (kvs.any fun kv => decide (kv.1 = k)) = (valV kvs k).isSome
  | [] => rfl
  | p :: r => by
    rw [List.any_cons]
    by_cases e : p.1 = k
    · simp only [valV_pos e, decide_eq_true e, Bool.true_or, Option.isSome_some]
    · rw [valV_neg e, decide_eq_false e, Bool.false_or]; exact valV_any k r
theorem valV_map (k j : κ) (y : V) : ∀ kvs : List (κ × V), valV (kvs.map fun kv => if kv.1 = k then (kv.1, y) else kv) j = (valV kvs j).map fun x => if j = k then y else x
  | [] => rfl
  | p :: r => by
    have ih := valV_map k j y r
    rw [List.map_cons]
    by_cases h : p.1 = k
    · rw [if_pos h]
      by_cases e : p.1 = j
      · rw [valV_pos (p := (p.1, y)) e, valV_pos e, Option.map_some, if_pos (e.symm.trans h)]
      · rw [valV_neg (p := (p.1, y)) e, valV_neg e, ih]
    · rw [if_neg h]
      by_cases e : p.1 = j
      · rw [valV_pos (p := p) e, valV_pos e, Option.map_some, if_neg (fun z => h (e.trans z))]
      · rw [valV_neg (p := p) e, valV_neg e, ih]
theorem valV_snoc (k j : κ) (y : V) : ∀ kvs : List (κ × V), valV kvs k = none → valV (kvs ++ [(k, y)]) j = if j = k then some y else valV kvs j
  | [], _ => by
    by_cases e : k = j
    · rw [if_pos e.symm]; exact valV_pos (p := (k, y)) e
    · rw [if_neg (fun z => e z.symm)]; exact valV_neg (p := (k, y)) e
  | p :: r, hn => by
    rw [List.cons_append]
    have hk : ¬ p.1 = k := fun z => by rw [valV_pos z] at hn; cases hn
    rw [valV_neg hk] at hn
    have ih := valV_snoc k j y r hn
    by_cases e : p.1 = j
    · rw [valV_pos e, valV_pos e, if_neg (fun z => hk (e.trans z))]
    · rw [valV_neg e, valV_neg e, ih]
theorem valV_put (kvs : List (κ × V)) (k j : κ) (y : V) : valV (putK kvs k y) j = if j = k then some y else valV kvs j := by
  unfold putK
  by_cases a : (kvs.any fun kv => decide (kv.1 = k)) = true
  · rw [if_pos a, valV_map]
    rw [valV_any] at a
    by_cases e : j = k
    · obtain ⟨x, hx⟩ := Option.isSome_iff_exists.mp a
      rw [if_pos e, e, hx, Option.map_some, if_pos rfl]
    · rw [if_neg e]
      cases valV kvs j with
      | none => rfl
      | some x => rw [Option.map_some, if_neg e]
  · rw [if_neg a]
    refine valV_snoc k j y kvs ?_
    rw [valV_any] at a
    cases q : valV kvs k with
    | none => rfl
    | some x => rw [q] at a; exact (a rfl).elim
theorem length_putK (kvs : List (κ × V)) (k : κ) (v : V) : (putK kvs k v).length ≤ kvs.length + 1 := by
  unfold putK
  split
  · rw [List.length_map]; omega
  · rw [List.length_append, List.length_cons, List.length_nil]; omega
theorem putK_new {kvs : List (κ × V)} {k : κ} (v : V) (h : valV kvs k = none) : putK kvs k v = kvs ++ [(k, v)] := by
  unfold putK
  rw [valV_any, h]
  exact if_neg (by decide)

theorem RelO.isSome_eq {o : Option V} {u : Option Value} (r : RelO o u) : o.isSome = u.isSome := by
  cases o with
  | none => cases u with
    | none => rfl
    | some _ => exact (show False from r).elim
  | some _ => cases u with
    | none => exact (show False from r).elim
    | some _ => rfl
theorem RelO.getD {o : Option V} {u : Option Value} {d : V} {d' : Value} (r : RelO o u) (rd : RelV d d') : RelV (o.getD d) (u.getD d') := by
  cases o with
  | none => cases u with
    | none => exact rd
    | some _ => exact (show False from r).elim
  | some _ => cases u with
    | none => exact (show False from r).elim
    | some _ => exact r

/-- raw tables of the same keys -/
theorem KV.val {kvs : List (κ × V)} {vs : List (κ × Value)} (r : KV kvs vs) (k : κ) : RelO (valV kvs k) (valueAt vs k) := by
  unfold KV at r
  induction r with
  | nil => exact True.intro
  | @cons p q ps qs h t ih =>
    obtain ⟨h1, h2⟩ := h
    by_cases e : p.1 = k
    · have e' : q.1 = k := h1.symm.trans e
      have b : valueAt (q :: qs) k = some q.2 := by simp [valueAt, List.find?_cons, e']
      rw [valV_pos e, b]; exact h2
    · have e' : ¬ q.1 = k := fun z => e (h1.trans z)
      have b : valueAt (q :: qs) k = valueAt qs k := by simp [valueAt, List.find?_cons, e']
      rw [valV_neg e, b]; exact ih
theorem KV.any {kvs : List (κ × V)} {vs : List (κ × Value)} (r : KV kvs vs) (k : κ) : (kvs.any fun kv => decide (kv.1 = k)) = vs.any fun kv => decide (kv.1 = k) := by
  unfold KV at r
  induction r with
  | nil => rfl
  | cons h t ih => rw [List.any_cons, List.any_cons, ih, h.1]
theorem KV.repl {kvs : List (κ × V)} {vs : List (κ × Value)} (r : KV kvs vs) (k : κ) {y : V} {u : Value} (ry : RelV y u) :
    KV (kvs.map fun kv => if kv.1 = k then (kv.1, y) else kv) (vs.map fun kv => if kv.1 = k then (kv.1, u) else kv) := by
  unfold KV at r ⊢
  induction r with
  | nil => exact .nil
  | @cons p q ps qs h t ih =>
    rw [List.map_cons, List.map_cons]
    refine .cons ?_ ih
    obtain ⟨h1, h2⟩ := h
    by_cases e : p.1 = k
    · rw [if_pos e, if_pos (h1.symm.trans e)]; exact ⟨h1, ry⟩
    · rw [if_neg e, if_neg (fun z => e (h1.trans z))]; exact ⟨h1, h2⟩
theorem KV.put {kvs : List (κ × V)} {vs : List (κ × Value)} (r : KV kvs vs) (k : κ) {y : V} {u : Value} (ry : RelV y u) : KV (putK kvs k y) (stored vs k u) := by
  unfold putK stored
  rw [r.any k]
  by_cases e : (vs.any fun kv => decide (kv.1 = k)) = true
  · rw [if_pos e, if_pos e]; exact r.repl k ry
  · rw [if_neg e, if_neg e]; exact Paired.snoc r ⟨rfl, ry⟩
theorem KV.drop {kvs : List (κ × V)} {vs : List (κ × Value)} (r : KV kvs vs) (k : κ) : KV (dropK kvs k) (without vs k) := by
  unfold KV at r ⊢
  unfold dropK without
  induction r with
  | nil => exact .nil
  | @cons p q ps qs h t ih =>
    obtain ⟨h1, h2⟩ := h
    rw [List.filter_cons, List.filter_cons]
    by_cases e : p.1 = k
    · have a : ¬ decide (p.1 ≠ k) = true := by simp [e]
      have b : ¬ decide (q.1 ≠ k) = true := by simp [h1.symm.trans e]
      rw [if_neg a, if_neg b]; exact ih
    · have e' : ¬ q.1 = k := fun z => e (h1.trans z)
      have a : decide (p.1 ≠ k) = true := by simp [e]
      have b : decide (q.1 ≠ k) = true := by simp [e']
      rw [if_pos a, if_pos b]; exact .cons ⟨h1, h2⟩ ih
theorem KV.keys {kvs : List (κ × V)} {vs : List (κ × Value)} (r : KV kvs vs) : kvs.map (·.1) = vs.map (·.1) := by
  unfold KV at r
  induction r with
  | nil => rfl
  | cons h t ih => rw [List.map_cons, List.map_cons, ih, h.1]
theorem KV.length {kvs : List (κ × V)} {vs : List (κ × Value)} (r : KV kvs vs) : kvs.length = vs.length := Paired.length r
theorem dropK_le (kvs : List (κ × V)) (k : κ) : (dropK kvs k).length ≤ kvs.length := List.length_filter_le _ _
end


/-! ### a tracked dict, its keys ints and texts or tuples of these -/
theorem kV_is {P : Program} {w : World} {k : Key} {u : Value} (r : RelV (kV k) u) : (mixKind P w).is k u = true := by
  cases k with
  | inl i => obtain ⟨t, e⟩ := (show ∃ t, u = Value.int i t from r); subst e; exact mixKind_int P w i t
  | inr x => obtain ⟨t, e⟩ := (show ∃ t, u = Value.str x t from r); subst e; exact mixKind_str P w x t
theorem kV_inj {a b : Key} (e : kV a = kV b) : a = b := by
  cases a with
  | inl i => cases b with
    | inl j => have e' : V.int i = V.int j := e; injection e' with e'; rw [e']
    | inr y => exact nomatch (show V.int i = V.str y from e)
  | inr x => cases b with
    | inl j => exact nomatch (show V.str x = V.int j from e)
    | inr y => have e' : V.str x = V.str y := e; injection e' with e'; rw [e']
theorem kVs_inj : ∀ {a b : List Key}, a.map kV = b.map kV → a = b
  | [], [], _ => rfl
  | [], _ :: _, e => by simp at e
  | _ :: _, [], e => by simp at e
  | x :: xs, y :: ys, e => by
    rw [List.map_cons, List.map_cons] at e
    injection e with e1 e2
    rw [kV_inj e1, kVs_inj e2]
theorem items_are {P : Program} {w : World} : ∀ {ks : List Key} {us : List Value}, Vals (ks.map kV) us → ItemsAre (mixKind P w) ks us
  | [], _, r => by rw [List.map_nil] at r; cases r; exact .nil
  | k :: ks, _, r => by
    rw [List.map_cons] at r
    cases r with
    | cons h t => exact .cons (kV_is h) (items_are t)

/-- raw entries of a dict with tuple keys -/
abbrev KT (H : Hp) : List (List Key × V) → List (List Key × Addr × Value) → Prop := Paired fun p q => p.1 = q.1 ∧ H q.2.1 = some (.tup (p.1.map kV)) ∧ RelV p.2 q.2.2
theorem KT.val {H : Hp} {kvs : List (List Key × V)} {xs : List (List Key × Addr × Value)} (r : KT H kvs xs) (k : List Key) : RelO (valV kvs k) ((atKey xs k).map (·.2)) := by
  induction r with
  | nil => exact True.intro
  | @cons p q ps qs h t ih =>
    obtain ⟨h1, _, h2⟩ := h
    by_cases e : p.1 = k
    · have e' : q.1 = k := h1.symm.trans e
      have b : atKey (q :: qs) k = some q.2 := by simp [atKey, List.find?_cons, e']
      rw [valV_pos e, b]; exact h2
    · have e' : ¬ q.1 = k := fun z => e (h1.trans z)
      have b : atKey (q :: qs) k = atKey qs k := by simp [atKey, List.find?_cons, e']
      rw [valV_neg e, b]; exact ih
theorem KT.repl {H : Hp} {kvs : List (List Key × V)} {xs : List (List Key × Addr × Value)} (r : KT H kvs xs) (k : List Key) {y : V} {u : Value} (ry : RelV y u) :
    KT H (kvs.map fun kv => if kv.1 = k then (kv.1, y) else kv) (xs.map (putAt k u)) := by
  induction r with
  | nil => exact .nil
  | @cons p q ps qs h t ih =>
    rw [List.map_cons, List.map_cons]
    refine .cons ?_ ih
    obtain ⟨h1, h2, h3⟩ := h
    unfold putAt
    by_cases e : p.1 = k
    · rw [if_pos e, if_pos (h1.symm.trans e)]; exact ⟨h1, h2, ry⟩
    · rw [if_neg e, if_neg (fun z => e (h1.trans z))]; exact ⟨h1, h2, h3⟩
theorem KT.put {H : Hp} {kvs : List (List Key × V)} {xs : List (List Key × Addr × Value)} (r : KT H kvs xs) (k : List Key) {b : Addr} {y : V} {u : Value} (hb : H b = some (.tup (k.map kV))) (ry : RelV y u) :
    KT H (putK kvs k y) (storedH xs k b u) := by
  have e : (kvs.any fun kv => decide (kv.1 = k)) = (atKey xs k).isSome := by
    rw [valV_any, (r.val k).isSome_eq, Option.isSome_map]
  unfold putK storedH
  rw [e]
  by_cases q : (atKey xs k).isSome = true
  · rw [if_pos q, if_pos q]; exact r.repl k ry
  · rw [if_neg q, if_neg q]; exact Paired.snoc r ⟨rfl, hb, ry⟩
theorem KT.keeps {H H' : Hp} {kvs : List (List Key × V)} {xs : List (List Key × Addr × Value)} (r : KT H kvs xs) (ht : ∀ b ys, H b = some (.tup ys) → H' b = some (.tup ys)) : KT H' kvs xs :=
  Paired.mapP r fun _ _ z => ⟨z.1, ht _ _ z.2.1, z.2.2⟩

section
variable {P : Program} {w : World} {H : Hp} {h : Heap} {a : Addr}
theorem rd_of {u : HO} (ok : HOk P w H h) (e : Rd H a u) : ObjOk P w H h a u := e.ok ok
theorem dk_rd {kvs : List (Key × V)} (ok : HOk P w H h) (e : Rd H a (.dK kvs)) : kvs.length ≤ sizeLine ∧ (a == sysModules) = false ∧ ∃ vs, KV kvs vs ∧ h.DictOf (mixKind P w) a vs :=
  show ObjOk P w H h a (.dK kvs) from rd_of ok e
theorem dk_of {kvs : List (Key × V)} (ok : HOk P w H h) (e : H a = some (.dK kvs)) : kvs.length ≤ sizeLine ∧ (a == sysModules) = false ∧ ∃ vs, KV kvs vs ∧ h.DictOf (mixKind P w) a vs := dk_rd ok (.inl e)
/-- a tracked tuple of ints and texts is a key -/
theorem key_of {ks : List Key} (ok : HOk P w H h) (e : H a = some (.tup (ks.map kV))) : (tupleKind (mixKind P w)).is h ks a := by
  obtain ⟨_, its, r, o, h1, h2, n, h3⟩ := (show ObjOk P w H h a (.tup (ks.map kV)) from ok a _ e)
  exact ⟨o, its.toArray, n, h1, h2, h3, by simpa using items_are r⟩
theorem dt_rd {kvs : List (List Key × V)} (ok : HOk P w H h) (e : Rd H a (.dT kvs)) : kvs.length ≤ sizeLine ∧ (a == sysModules) = false ∧
    ∃ xs, KT H kvs xs ∧ h.DictOfH (tupleKind (mixKind P w)) a xs := by
  obtain ⟨z, y, xs, r, o, es, ep, h1, h2, h3, h4, h5⟩ := (show ObjOk P w H h a (.dT kvs) from rd_of ok e)
  refine ⟨z, y, xs, r, o, es, ep, h1, h2, h3, h4, fun x hx => ?_, h5⟩
  have all : ∀ {l : List (List Key × V)} {m : List (List Key × Addr × Value)}, KT H l m → ∀ x ∈ m, (tupleKind (mixKind P w)).is h x.1 x.2.1 := by
    intro l m q
    induction q with
    | nil => intro x hx; exact nomatch hx
    | @cons p q ps qs hq t ih =>
      intro x hx
      rcases List.mem_cons.mp hx with e | hx
      · subst e
        exact key_of ok (by rw [← hq.1]; exact hq.2.1)
      · exact ih x hx
  exact all r x hx
theorem dt_of {kvs : List (List Key × V)} (ok : HOk P w H h) (e : H a = some (.dT kvs)) : kvs.length ≤ sizeLine ∧ (a == sysModules) = false ∧
    ∃ xs, KT H kvs xs ∧ h.DictOfH (tupleKind (mixKind P w)) a xs := dt_rd ok (.inl e)
end

/-- what the dict at a holds at the key y -/
def DGet (H : Hp) (a : Addr) (y : V) (r : Option V) : Prop :=
  (∃ kvs k, Rd H a (.dK kvs) ∧ y = kV k ∧ r = valV kvs k) ∨ ∃ kvs k b, Rd H a (.dT kvs) ∧ y = .ref b ∧ H b = some (.tup (k.map kV)) ∧ r = valV kvs k
/-- the heap behind a[y] = v -/
def DPut (H : Hp) (a : Addr) (y v : V) (H' : Hp) : Prop :=
  (∃ kvs k, H a = some (.dK kvs) ∧ y = kV k ∧ kvs.length < sizeLine ∧ H' = upd H a (.dK (putK kvs k v))) ∨
  ∃ kvs k b, H a = some (.dT kvs) ∧ y = .ref b ∧ H b = some (.tup (k.map kV)) ∧ kvs.length < sizeLine ∧ H' = upd H a (.dT (putK kvs k v))
theorem DGet.k {H : Hp} {a : Addr} {kvs : List (Key × V)} {k : Key} (e : H a = some (.dK kvs)) : DGet H a (kV k) (valV kvs k) := .inl ⟨kvs, k, .inl e, rfl, rfl⟩
theorem DGet.t {H : Hp} {a b : Addr} {kvs : List (List Key × V)} {k : List Key} (e : H a = some (.dT kvs)) (eb : H b = some (.tup (k.map kV))) : DGet H a (.ref b) (valV kvs k) := .inr ⟨kvs, k, b, .inl e, rfl, eb, rfl⟩
theorem DPut.k {H : Hp} {a : Addr} {kvs : List (Key × V)} {k : Key} {v : V} (e : H a = some (.dK kvs)) (hl : kvs.length < sizeLine) : DPut H a (kV k) v (upd H a (.dK (putK kvs k v))) := .inl ⟨kvs, k, e, rfl, hl, rfl⟩
theorem DPut.t {H : Hp} {a b : Addr} {kvs : List (List Key × V)} {k : List Key} {v : V} (e : H a = some (.dT kvs)) (eb : H b = some (.tup (k.map kV))) (hl : kvs.length < sizeLine) :
    DPut H a (.ref b) v (upd H a (.dT (putK kvs k v))) := .inr ⟨kvs, k, b, e, rfl, eb, hl, rfl⟩


section
variable {X : Cx} {pins : List (Addr × Obj)} {σ : St} {H : Hp} {s : Shared} {a : Addr} {y v : V} {u r : Value} {o : Option V} {A : Around} {E : Value → Shared → Prop}

theorem Inv.big (I : Inv X pins σ H s) : sysModules < s.heap.objs.size := by
  have h : mainGlobals < s.heap.objs.size := (I.mod.glob.keeps I.bk).lt
  exact Nat.lt_trans (by decide) h

/-- d[y], there -/
theorem d_getItem {Q : Value → Shared → Prop} (hu : A.units + 1 < cLine) (I : Inv X pins σ H s) (g : DGet H a y (some v)) (ry : RelV y u) (h : ∀ w' s', Inv X pins σ H s' → RelV v w' → Q w' s') :
    wpAny (model X.prog X.w) A (getItem (.ref a) u) Q E s := by
  rcases g with ⟨kvs, k, e, ey, l⟩ | ⟨kvs, k, b, e, ey, eb, l⟩
  · subst ey
    obtain ⟨z, hd, vs, rel, dd⟩ := dk_rd I.hok e
    obtain ⟨w', hw, rw'⟩ := RelO.some_of (v := v) (o := valueAt vs k) (by rw [l]; exact rel.val k)
    exact wpAny_getItem_of (kV_is ry) dd.mapOf hw (h w' _ (I.tok _) rw')
  · subst ey
    cases (show u = Value.ref b from ry)
    obtain ⟨z, hd, xs, rel, dd⟩ := dt_rd I.hok e
    obtain ⟨w', hw, rw'⟩ := RelO.some_of (v := v) (o := (atKey xs k).map (·.2)) (by rw [l]; exact rel.val k)
    obtain ⟨p, hp, hp2⟩ := Option.map_eq_some_iff.mp hw
    refine wpAny_getItem_heap (tupleKind_room_in1 hu) (key_of I.hok eb) dd hp ?_
    rw [hp2]
    exact h w' _ (I.tok _) rw'
/-- y in d -/
theorem d_in {Q : Value → Shared → Prop} (hu : A.units + 1 < cLine) (I : Inv X pins σ H s) (g : DGet H a y o) (ry : RelV y u) (h : ∀ s', Inv X pins σ H s' → Q (.bool o.isSome) s') :
    wpAny (model X.prog X.w) A (compareOp .In u (.ref a)) Q E s := by
  rcases g with ⟨kvs, k, e, ey, l⟩ | ⟨kvs, k, b, e, ey, eb, l⟩
  · subst ey
    obtain ⟨z, hd, vs, rel, dd⟩ := dk_rd I.hok e
    refine wpAny_in_of (kV_is ry) hd dd.mapOf ?_
    rw [← (rel.val k).isSome_eq, ← l]
    exact h _ (I.tok _)
  · subst ey
    cases (show u = Value.ref b from ry)
    obtain ⟨z, hd, xs, rel, dd⟩ := dt_rd I.hok e
    refine wpAny_in_heap (tupleKind_room_in1 hu) (key_of I.hok eb) hd dd ?_
    have q := (rel.val k).isSome_eq
    rw [Option.isSome_map] at q
    rw [← q, ← l]
    exact h _ (I.tok _)
theorem d_notIn {Q : Value → Shared → Prop} (hu : A.units + 1 < cLine) (I : Inv X pins σ H s) (g : DGet H a y o) (ry : RelV y u) (h : ∀ s', Inv X pins σ H s' → Q (.bool (!o.isSome)) s') :
    wpAny (model X.prog X.w) A (compareOp .NotIn u (.ref a)) Q E s := by
  rcases g with ⟨kvs, k, e, ey, l⟩ | ⟨kvs, k, b, e, ey, eb, l⟩
  · subst ey
    obtain ⟨z, hd, vs, rel, dd⟩ := dk_rd I.hok e
    refine wpAny_notIn_of (kV_is ry) hd dd.mapOf ?_
    rw [← (rel.val k).isSome_eq, ← l]
    exact h _ (I.tok _)
  · subst ey
    cases (show u = Value.ref b from ry)
    obtain ⟨z, hd, xs, rel, dd⟩ := dt_rd I.hok e
    refine wpAny_notIn_heap (tupleKind_room_in1 hu) (key_of I.hok eb) hd dd ?_
    have q := (rel.val k).isSome_eq
    rw [Option.isSome_map] at q
    rw [← q, ← l]
    exact h _ (I.tok _)
/-- a dict's object is replaced -/
theorem d_write {h' : Heap} {t' : Nat} {ob : HO} (I : Inv X pins σ H s) (mu : Mut (H a)) (hs : Heap.SameBut a s.heap h') (he : ∃ q, h'.get? a = some q) (new : ObjOk X.prog X.w (upd H a ob) h' a ob) :
    Inv X pins σ (upd H a ob) { s with heap := h', toks := t' } :=
  I.write (x := a) (e := a) mu (.inl rfl) (fun b q hb z => (hs.2 b hb).trans z) he new
theorem dk_new {P : Program} {w : World} {H' : Hp} {h' : Heap} {kvs : List (Key × V)} {vs : List (Key × Value)} (z : kvs.length ≤ sizeLine) (hd : (a == sysModules) = false) (rel : KV kvs vs) (dd : h'.DictOf (mixKind P w) a vs) :
    ObjOk P w H' h' a (.dK kvs) := ⟨z, hd, vs, rel, dd⟩
/-- d[y] = v -/
theorem d_setItem {H' : Hp} {Q : Unit → Shared → Prop} (hu : A.units + 1 < cLine) (I : Inv X pins σ H s) (g : DPut H a y v H') (ry : RelV y u) (rv : RelV v r) (h : ∀ s', Inv X pins σ H' s' → Q () s') :
    wpAny (model X.prog X.w) A (setItem (.ref a) u r) Q E s := by
  rcases g with ⟨kvs, k, e, ey, l, eH⟩ | ⟨kvs, k, b, e, ey, eb, l, eH⟩
  · subst ey eH
    obtain ⟨z, hd, vs, rel, dd⟩ := dk_of I.hok e
    have hz : vs.length ≤ sizeLine := by rw [← rel.length]; exact z
    have hl : (putK kvs k v).length ≤ sizeLine := by have := length_putK kvs k v; omega
    refine wpAny_setItem_pairs (hsz := hz) (kV_is ry) dd fun h' dd' hs => h _ ?_
    have he : ∃ q, h'.get? a = some q := let ⟨q, _, _, hq, _⟩ := dd'; ⟨q, hq⟩
    exact d_write I (by rw [e]; exact True.intro) hs he (dk_new hl hd (rel.put k rv) dd')
  · subst ey eH
    cases (show u = Value.ref b from ry)
    obtain ⟨z, hd, xs, rel, dd⟩ := dt_of I.hok e
    have hz : xs.length ≤ sizeLine := by rw [← Paired.length rel]; exact z
    have hl : (putK kvs k v).length ≤ sizeLine := by have := length_putK kvs k v; omega
    refine wpAny_setItem_heap (hsz := hz) (tupleKind_room_in1 hu) (key_of I.hok eb) dd fun h' dd' hs => h _ ?_
    obtain ⟨q, es, ep, hq, h2, h3, h4, _, h5⟩ := dd'
    refine d_write I (by rw [e]; exact True.intro) hs ⟨q, hq⟩ ⟨hl, hd, _, (rel.put k eb rv).keeps fun c ys ec => ?_, q, es, ep, hq, h2, h3, h4, h5⟩
    rw [upd_ne (ne_of ec e (fun z => nomatch z))]
    exact ec
end

section
variable {X : Cx} {pins : List (Addr × Obj)} {σ : St} {H : Hp} {s : Shared} {a : Addr} {kvs : List (Key × V)} {k : Key} {u : Value} {A : Around} {E : Value → Shared → Prop}
/-- del d[k] -/
theorem d_delItem {Q : Unit → Shared → Prop} (I : Inv X pins σ H s) (e : H a = some (.dK kvs)) (ry : RelV (kV k) u) (l : (valV kvs k).isSome = true) (h : ∀ s', Inv X pins σ (upd H a (.dK (dropK kvs k))) s' → Q () s') :
    wpAny (model X.prog X.w) A (delItem (.ref a) u) Q E s := by
  obtain ⟨z, hd, vs, rel, dd⟩ := dk_of I.hok e
  refine wpAny_delItem_slot dd.typeIs (by decide) PySem.F.slot_dict_delitem
    (call_meetsIn PySem.F.slot_dict_delitem dd.typeIs PySem.F.entry_dict_delitem (PySem.F.args_dict_delitem_2 _ _) (meets_dict_delitem_pairs (mixKind X.prog X.w) a (kV_is ry)) ⟨vs, dd, by rw [← rel.length]; exact z, by rw [← (rel.val k).isSome_eq]; exact l, fun h' dd' hs => h _ ?_⟩)
  have he : ∃ q, h'.get? a = some q := let ⟨q, _, _, hq, _⟩ := dd'; ⟨q, hq⟩
  exact d_write I (by rw [e]; exact True.intro) hs he (dk_new (Nat.le_trans (dropK_le kvs k) z) hd (rel.drop k) dd')
/-- d.pop(k[, x]), there -/
theorem d_pop {v : V} {more : List Value} {Q : Value → Shared → Prop} (I : Inv X pins σ H s) (e : H a = some (.dK kvs)) (ry : RelV (kV k) u) (l : valV kvs k = some v) (hm : more = [] ∨ ∃ x, more = [x])
    (h : ∀ w' s', Inv X pins σ (upd H a (.dK (dropK kvs k))) s' → RelV v w' → Q w' s') : wpAny (model X.prog X.w) A (call (.builtin "dict.pop") (.ref a :: u :: more)) Q E s := by
  obtain ⟨z, hd, vs, rel, dd⟩ := dk_of I.hok e
  obtain ⟨w', hw, rw'⟩ := RelO.some_of (v := v) (o := valueAt vs k) (by rw [← l]; exact rel.val k)
  have hp : (keyPart u).isSome = true := by
    cases k with
    | inl i => obtain ⟨t, q⟩ := (show ∃ t, u = Value.int i t from ry); subst q; rfl
    | inr x => obtain ⟨t, q⟩ := (show ∃ t, u = Value.str x t from ry); subst q; rfl
  have ha : argsOk "dict.pop" ⟨.ref a :: u :: more, []⟩ := by
    rcases hm with q | ⟨x, q⟩
    · subst q; exact PySem.F.args_dict_pop_2 _ _
    · subst q; exact PySem.F.args_dict_pop_3 _ _ _
  refine call_meetsIn PySem.F.slot_dict_pop dd.typeIs PySem.F.entry_dict_pop ha (meets_dict_pop_there (mixKind X.prog X.w) a (kV_is ry) more hm hp)
    ⟨vs, w', dd, by rw [← rel.length]; exact z, hw, fun h' dd' hs => h w' _ ?_ rw'⟩
  have he : ∃ q, h'.get? a = some q := let ⟨q, _, _, hq, _⟩ := dd'; ⟨q, hq⟩
  exact d_write I (by rw [e]; exact True.intro) hs he (dk_new (Nat.le_trans (dropK_le kvs k) z) hd (rel.drop k) dd')
/-- d.pop(k, x), not there -/
theorem d_popD {r : Value} {Q : Value → Shared → Prop} (I : Inv X pins σ H s) (e : H a = some (.dK kvs)) (ry : RelV (kV k) u) (l : valV kvs k = none) (h : ∀ s', Inv X pins σ H s' → Q r s') :
    wpAny (model X.prog X.w) A (call (.builtin "dict.pop") [.ref a, u, r]) Q E s := by
  obtain ⟨z, hd, vs, rel, dd⟩ := dk_of I.hok e
  have hn : valueAt vs k = none := RelO.none_of (by rw [← l]; exact rel.val k)
  have hp : (keyPart u).isSome = true := by
    cases k with
    | inl i => obtain ⟨t, q⟩ := (show ∃ t, u = Value.int i t from ry); subst q; rfl
    | inr x => obtain ⟨t, q⟩ := (show ∃ t, u = Value.str x t from ry); subst q; rfl
  exact call_meetsIn PySem.F.slot_dict_pop dd.typeIs PySem.F.entry_dict_pop (PySem.F.args_dict_pop_3 _ _ _) (meets_dict_pop_default (mixKind X.prog X.w) a (kV_is ry) hd hp r) ⟨vs, dd, hn, h _ (I.tok _)⟩
/-- d.clear() -/
theorem d_clear {Q : Value → Shared → Prop} (I : Inv X pins σ H s) (e : H a = some (.dK kvs)) (h : ∀ s', Inv X pins σ (upd H a (.dK [])) s' → Q .none s') : wpAny (model X.prog X.w) A (call (.builtin "dict.clear") [.ref a]) Q E s := by
  obtain ⟨z, hd, vs, rel, dd⟩ := dk_of I.hok e
  refine call_meetsIn PySem.F.slot_dict_clear dd.typeIs PySem.F.entry_dict_clear (PySem.F.args_dict_clear_1 _) (meets_dict_clear (mixKind X.prog X.w) a) ⟨vs, dd, by rw [← rel.length]; exact z, fun h' dd' hs => h _ ?_⟩
  have he : ∃ q, h'.get? a = some q := let ⟨q, _, _, hq, _⟩ := dd'; ⟨q, hq⟩
  exact d_write (t' := s.toks) I (by rw [e]; exact True.intro) hs he (dk_new (Nat.zero_le _) hd .nil dd')
/-- len(d) -/
theorem d_len {Q : Value → Shared → Prop} (I : Inv X pins σ H s) (e : Rd H a (.dK kvs)) (h : ∀ t s', Inv X pins σ H s' → Q (.int kvs.length t) s') : wpAny (model X.prog X.w) A (call (.builtin "len") [.ref a]) Q E s := by
  obtain ⟨z, hd, vs, rel, dd⟩ := dk_rd I.hok e
  refine call_len_dict hd dd (by rw [← rel.length]; rw [sizeLine_eq] at z; omega) ?_
  rw [← rel.length]
  exact h _ _ (I.tok _)
/-- if d -/
theorem d_truth {Q : Bool → Shared → Prop} (I : Inv X pins σ H s) (e : Rd H a (.dK kvs)) (h : ∀ s', Inv X pins σ H s' → Q (!kvs.isEmpty) s') : wpAny (model X.prog X.w) A (truthy (.ref a)) Q E s := by
  obtain ⟨z, hd, vs, rel, dd⟩ := dk_rd I.hok e
  refine wpAny_truthy_dict hd dd (by rw [← rel.length]; rw [sizeLine_eq] at z; omega) ?_
  have q : kvs.isEmpty = vs.isEmpty := by cases rel <;> rfl
  rw [← q]
  exact h _ (I.tok _)
end


/-! ### readings and rules -/
/-- the element of a subscription, not a slice -/
def NoSl (i : Expr) : Prop := ∀ ov iv, subscripted i false ov iv = operate [ov, iv] (getItem ov iv)
theorem subD_of {prog : Program} {w : World} {A : Around} {E : Value → Shared → Prop} {s : Shared} {env : Env} {value slice : Expr} {pos : Pos} {T id : String} {Q : Value → Shared → Prop}
    (hl : typeLookup (.type T) "__getitem__" = pure (some (.builtin id))) (hs : NoSl slice)
    (h : wpAny (model prog w) A (eval value env) (fun o s₁ => wpAny (model prog w) A (eval slice env) (fun i s₂ => s₂.TypeIs o T ∧ wpAny (model prog w) A (getItem o i) Q E s₂) E s₁) E s) :
    wpAny (model prog w) A (eval (.Subscript value slice pos) env) Q E s := by
  refine Subscript_ (wpAny_mono h (fun o s₁ h₁ => wpAny_mono h₁ (fun i s₂ h₂ => ?_) fun _ _ x => x) fun _ _ x => x)
  obtain ⟨hT, h₂⟩ := h₂
  unfold subscriptTail
  refine wpAny_bind ?_
  rw [getitemInPython_of_ne hT.not_modules]
  refine wpAny_bind (wpAny_specialOf hT hl ?_)
  have fin : wpAny (model prog w) A (subscripted slice false o i) (fun r s₃ => wpAny (model prog w) A (letTemporaryGo value o r >>= fun _ => pure r) Q E s₃) E s₂ := by
    rw [hs o i]
    exact wpAny_operating (wpAny_mono h₂ (fun r s₃ h₃ => wpAny_bind (wpAny_letTemporaryGo (wpAny_pure h₃))) fun _ _ x => x)
  first
    | exact wpAny_pure (wpAny_bind fin)
    | exact wpAny_bind (wpAny_pure (wpAny_bind fin))
    | exact wpAny_bind fin

theorem dict_typeIs {X : Cx} {pins : List (Addr × Obj)} {σ : St} {H : Hp} {s : Shared} {a : Addr} {y : V} {o : Option V} (I : Inv X pins σ H s) (g : DGet H a y o) : s.TypeIs (.ref a) "dict" := by
  rcases g with ⟨kvs, k, e, _, _⟩ | ⟨kvs, k, b, e, _, _, _⟩
  · obtain ⟨_, _, vs, _, dd⟩ := dk_rd I.hok e
    exact dd.typeIs
  · obtain ⟨_, _, xs, _, dd⟩ := dt_rd I.hok e
    exact dd.typeIs
theorem dict_noDict {X : Cx} {pins : List (Addr × Obj)} {σ : St} {H : Hp} {s : Shared} {a : Addr} {y : V} {o : Option V} (I : Inv X pins σ H s) (g : DGet H a y o) :
    ∀ b, Value.ref a = .ref b → ∃ ob, s.heap.get? b = some ob ∧ ob.dict = none := fun b q => by
  cases q
  rcases g with ⟨kvs, k, e, _, _⟩ | ⟨kvs, k, b, e, _, _, _⟩
  · obtain ⟨_, _, vs, _, ob, _, _, h1, h2, _⟩ := dk_rd I.hok e
    exact ⟨ob, h1, h2.2.1⟩
  · obtain ⟨_, _, xs, _, ob, _, _, h1, h2, _⟩ := dt_rd I.hok e
    exact ⟨ob, h1, h2.2.1⟩

/-- d[y] -/
def tDGet (td ty : TE) : TE := fun σ H Q => td σ H fun x H1 => ty σ H1 fun y H2 => ∃ a v, x = .ref a ∧ DGet H2 a y (some v) ∧ Q v H2
/-- y in d, y not in d -/
def tDIn (ty td : TE) : TE := fun σ H Q => ty σ H fun y H1 => td σ H1 fun x H2 => ∃ a o, x = .ref a ∧ DGet H2 a y o ∧ Q (.bl o.isSome) H2
def tDNotIn (ty td : TE) : TE := fun σ H Q => ty σ H fun y H1 => td σ H1 fun x H2 => ∃ a o, x = .ref a ∧ DGet H2 a y o ∧ Q (.bl (!o.isSome)) H2
/-- d[y] = v -/
def sDPut (td ty tv : TE) : TS := fun D σ H => tv σ H fun v H1 => td σ H1 fun x H2 => ty σ H2 fun y H3 => ∃ a H4, x = .ref a ∧ DPut H3 a y v H4 ∧ D.nx σ H4
/-- d[y] op= v -/
def sDAug (td ty tv : TE) (rd : V → V → Hp → VK → Prop) : TS := fun D σ H => td σ H fun x H1 => ty σ H1 fun y H2 => ∃ a v, x = .ref a ∧ DGet H2 a y (some v) ∧
  tv σ H2 fun y2 H3 => rd v y2 H3 fun z H4 => ∃ H5, DPut H4 a y z H5 ∧ D.nx σ H5
/-- del d[y] -/
def sDDel (td ty : TE) : TS := fun D σ H => td σ H fun x H1 => ty σ H1 fun y H2 => ∃ a kvs k, x = .ref a ∧ H2 a = some (.dK kvs) ∧ y = kV k ∧ (valV kvs k).isSome = true ∧ D.nx σ (upd H2 a (.dK (dropK kvs k)))

section
variable {X : Cx} {o i e value : Expr} {pos pos' tpos : Pos} {td ty tv : TE}
theorem pe_dget (hu : X.A.units + 1 < cLine) (ho : PE X o td) (hi : PE X i ty) (hs : NoSl i) : PE X (.Subscript o i pos) (tDGet td ty) := by
  intro pins s σ H Q I h
  refine subD_of PySem.F.slot_dict_getitem.lookup hs (thn (ho pins s σ H _ I h) fun u s1 ⟨x, H1, I1, rx, q1⟩ => thn (hi pins s1 σ H1 _ I1 q1) fun iv s2 ⟨y, H2, I2, ry, a, v, ex, g, q2⟩ => ?_)
  subst ex
  obtain rfl : u = Value.ref a := rx
  exact ⟨dict_typeIs I2 g, d_getItem hu I2 g ry fun w' s3 I3 rw' => ⟨v, H2, I3, rw', q2⟩⟩
theorem pc_din (hu : X.A.units + 1 < cLine) (hi : PE X i ty) (ho : PE X o td) : PC X .In i o (tDIn ty td) := by
  intro pins s σ H Q I h
  refine thn (hi pins s σ H _ I h) fun iv s1 ⟨y, H1, I1, ry, q1⟩ => thn (ho pins s1 σ H1 _ I1 q1) fun u s2 ⟨x, H2, I2, rx, a, ov, ex, g, q2⟩ => ?_
  subst ex
  obtain rfl : u = Value.ref a := rx
  exact d_in hu I2 g ry fun s3 I3 => ⟨.bl ov.isSome, H2, I3, rfl, q2⟩
theorem pc_dnotin (hu : X.A.units + 1 < cLine) (hi : PE X i ty) (ho : PE X o td) : PC X .NotIn i o (tDNotIn ty td) := by
  intro pins s σ H Q I h
  refine thn (hi pins s σ H _ I h) fun iv s1 ⟨y, H1, I1, ry, q1⟩ => thn (ho pins s1 σ H1 _ I1 q1) fun u s2 ⟨x, H2, I2, rx, a, ov, ex, g, q2⟩ => ?_
  subst ex
  obtain rfl : u = Value.ref a := rx
  exact d_notIn hu I2 g ry fun s3 I3 => ⟨.bl (!ov.isSome), H2, I3, rfl, q2⟩
theorem ps_dput (hu : X.A.units + 1 < cLine) (ho : PE X o td) (hi : PE X i ty) (hv : PE X value tv) (hs : swapsWith value (some (.Subscript o i pos')) pos.line X.env = pure false) :
    PS X (.Assign [.Subscript o i pos'] value pos) (sDPut td ty tv) := by
  intro pins s σ H D I h
  refine wpAny_Assign_Subscript (thn (hv pins s σ H _ I h) fun r s1 ⟨v, H1, I1, rv, q1⟩ => thn (ho pins s1 σ H1 _ I1 q1) fun u s2 ⟨x, H2, I2, rx, q2⟩ => thn (hi pins s2 σ H2 _ I2 q2) fun iv s3 ⟨y, H3, I3, ry, a, H4, ex, g, q3⟩ => ?_) hs
  subst ex
  obtain rfl : u = Value.ref a := rx
  exact d_setItem hu I3 g ry rv fun s4 I4 => ⟨σ, H4, I4, q3⟩
theorem ps_daug {op : Operator} {rd : V → V → Hp → VK → Prop} (hu : X.A.units + 1 < cLine) (ho : PE X o td) (hi : PE X i ty) (hv : PE X value tv) (hop : InOp X op rd)
    (ha : ∀ ov iv new, augStore i ov iv new = (do holding [new, ov, iv] (setItem ov iv new); release [new, ov, iv] []; pure .next)) : PS X (.AugAssign (.Subscript o i tpos) op value pos) (sDAug td ty tv rd) := by
  intro pins s σ H D I h
  refine wpAny_AugAssign_SubscriptAny (thn (ho pins s σ H _ I h) fun u s1 ⟨x, H1, I1, rx, q1⟩ => thn (hi pins s1 σ H1 _ I1 q1) fun iv s2 ⟨y, H2, I2, ry, a, v, ex, g, q2⟩ => ?_) ha
  subst ex
  obtain rfl : u = Value.ref a := rx
  refine d_getItem hu I2 g ry fun w' s3 I3 rw' => thn (hv pins s3 σ H2 _ I3 q2) fun w2 s4 ⟨y2, H3, I4, ry2, q3⟩ => thn (hop pins s4 σ H3 v y2 w' w2 _ I4 rw' ry2 q3) fun w3 s5 ⟨z, H4, I5, rz, H5, g5, q4⟩ => ?_
  exact d_setItem hu I5 g5 ry rz fun s6 I6 => ⟨σ, H5, I6, q4⟩
theorem ps_ddel (ho : PE X o td) (hi : PE X i ty) : PS X (.Delete [.Subscript o i tpos] pos) (sDDel td ty) := by
  intro pins s σ H D I h
  refine wpAny_Delete (wpAny_deleteEach_cons (wpAny_delete_Subscript (thn (ho pins s σ H _ I h) fun u s1 ⟨x, H1, I1, rx, q1⟩ => thn (hi pins s1 σ H1 _ I1 q1) fun iv s2 ⟨y, H2, I2, ry, a, kvs, k, ex, e, ey, l, q2⟩ => ?_)))
  subst ex ey
  obtain rfl : u = Value.ref a := rx
  exact d_delItem I2 e ry l fun s3 I3 => wpAny_deleteEach_nil ⟨σ, _, I3, q2⟩
end


/-! ### displays -/
theorem dk_empty {P : Program} {w : World} {H : Hp} (h : Heap) (hb : sysModules < h.objs.size) : ObjOk P w H (h.push { cls := .type "dict", data := .dict #[] }) h.objs.size (.dK []) :=
  ⟨Nat.zero_le _, beq_eq_false_iff_ne.mpr (Ne.symm (Nat.ne_of_lt hb)), [], .nil, Heap.DictOf.new h⟩
theorem dt_empty {P : Program} {w : World} {H : Hp} (h : Heap) (hb : sysModules < h.objs.size) : ObjOk P w H (h.push { cls := .type "dict", data := .dict #[] }) h.objs.size (.dT []) :=
  ⟨Nat.zero_le _, beq_eq_false_iff_ne.mpr (Ne.symm (Nat.ne_of_lt hb)), [], .nil, _, #[], 0, Heap.get?_push_size _ rfl, ⟨rfl, rfl, rfl⟩, rfl, rfl, List.nodup_nil⟩
/-- {}, to be a dict of the kind that is wanted -/
def tDNewK : TE := fun _ H Q => ∀ p, H p = none → Q (.ref p) (upd H p (.dK []))
def tDNewT : TE := fun _ H Q => ∀ p, H p = none → Q (.ref p) (upd H p (.dT []))
section
variable {X : Cx} {pos : Pos}
theorem pe_dnewK : PE X (.Dict [] [] pos) tDNewK := fun pins s σ H Q I h =>
  wpAny_Dict_empty ⟨.ref s.heap.objs.size, _, I.laid (a := s.heap.objs.size) (o := .dK []) (t' := s.toks) (fun _ _ q => Heap.get?_push_of_some _ q) (Nat.le_refl _) (dk_empty s.heap I.big), rfl, h _ (I.hok.fresh (Nat.le_refl _))⟩
theorem pe_dnewT : PE X (.Dict [] [] pos) tDNewT := fun pins s σ H Q I h =>
  wpAny_Dict_empty ⟨.ref s.heap.objs.size, _, I.laid (a := s.heap.objs.size) (o := .dT []) (t' := s.toks) (fun _ _ q => Heap.get?_push_of_some _ q) (Nat.le_refl _) (dt_empty s.heap I.big), rfl, h _ (I.hok.fresh (Nat.le_refl _))⟩
end

/-- the pairs of a display, from the left -/
def tPairs : List (TE × TE) → St → Hp → (List (V × V) → Hp → Prop) → Prop
  | [], _, H, Q => Q [] H
  | (tk, tv) :: r, σ, H, Q => tk σ H fun x H1 => tv σ H1 fun y H2 => tPairs r σ H2 fun ps H3 => Q ((x, y) :: ps) H3
abbrev VV : List (V × V) → List (Value × Value) → Prop := Paired fun p q => RelV p.1 q.1 ∧ RelV p.2 q.2
def PPs (X : Cx) (pos : Pos) (keys : List (Option Expr)) (values : List Expr) (trs : List (TE × TE)) : Prop :=
  ∀ (pins : List (Addr × Obj)) (s : Shared) (σ : St) (H : Hp) (Q : List (V × V) → Hp → Prop), Inv X pins σ H s → tPairs trs σ H Q →
    wpAny (model X.prog X.w) X.A (evalPairs (pairTrees keys values X.env pos)) (fun vs s' => ∃ ps H', Inv X pins σ H' s' ∧ VV ps vs ∧ Q ps H') X.xe s
theorem pps_nil {X : Cx} {pos : Pos} : PPs X pos [] [] [] := fun pins s σ H Q I h => pairTrees_nil_walk ⟨[], H, I, .nil, h⟩
theorem pps_cons {X : Cx} {pos : Pos} {k v : Expr} {ks : List (Option Expr)} {vs : List Expr} {tk tv : TE} {trs : List (TE × TE)} (hk : PE X k tk) (hv : PE X v tv) (hr : PPs X pos ks vs trs) :
    PPs X pos (some k :: ks) (v :: vs) ((tk, tv) :: trs) := fun pins s σ H Q I h =>
  pairTrees_cons_walk (thn (hk pins s σ H _ I h) fun u s1 ⟨x, H1, I1, rx, q1⟩ => thn (hv pins s1 σ H1 _ I1 q1) fun w2 s2 ⟨y, H2, I2, ry, q2⟩ =>
    thn (hr pins s2 σ H2 _ I2 q2) fun ws s3 ⟨ps, H3, I3, rel, q3⟩ => ⟨(x, y) :: ps, H3, I3, .cons ⟨rx, ry⟩ rel, q3⟩)

def mergeK (kvs more : List (Key × V)) : List (Key × V) := more.foldl (fun acc kv => putK acc kv.1 kv.2) kvs
theorem KV.merge : ∀ {more : List (Key × V)} {rs : List (Key × Value)} {kvs : List (Key × V)} {vs : List (Key × Value)}, KV more rs → KV kvs vs → KV (mergeK kvs more) (merged vs rs) := by
  intro more rs kvs vs r
  unfold KV at r
  induction r generalizing kvs vs with
  | nil => intro q; exact q
  | @cons p q ps qs h t ih =>
    intro r0
    have e : KV (putK kvs p.1 p.2) (stored vs q.1 q.2) := by
      have := r0.put p.1 h.2
      rw [← h.1]; exact this
    exact ih e
theorem length_mergeK : ∀ (more kvs : List (Key × V)), (mergeK kvs more).length ≤ kvs.length + more.length
  | [], kvs => by show kvs.length ≤ kvs.length + 0; omega
  | p :: r, kvs => by
    have h1 := length_mergeK r (putK kvs p.1 p.2)
    have h2 := length_putK kvs p.1 p.2
    show (mergeK (putK kvs p.1 p.2) r).length ≤ _
    rw [List.length_cons]; omega
theorem carries_of {P : Program} {w : World} : ∀ {kvs : List (Key × V)} {ws : List (Value × Value)}, VV (kvs.map fun kv => (kV kv.1, kv.2)) ws → ∃ rs, Carries (mixKind P w) ws rs ∧ KV kvs rs
  | [], _, r => by rw [List.map_nil] at r; cases r; exact ⟨[], True.intro, .nil⟩
  | p :: kvs, _, r => by
    rw [List.map_cons] at r
    cases r with
    | @cons a b as bs h t =>
      obtain ⟨rs, c, q⟩ := carries_of (P := P) (w := w) t
      obtain ⟨b1, b2⟩ := b
      exact ⟨(p.1, b2) :: rs, ⟨kV_is h.1, rfl, c⟩, .cons ⟨rfl, h.2⟩ q⟩
/-- {k: v, ..} with keys ints and texts; the new dict stands empty while the pairs are made -/
def tDisp (trs : List (TE × TE)) : TE := fun σ H Q => ∀ p, H p = none → tPairs trs σ (upd H p (.dK [])) fun ps H2 => H2 p = some (.dK []) ∧ ∃ kvs : List (Key × V), ps = kvs.map (fun kv => (kV kv.1, kv.2)) ∧ kvs.length ≤ 15 ∧ Q (.ref p) (upd H2 p (.dK (mergeK [] kvs)))
theorem pe_disp {X : Cx} {pos : Pos} {keys : List (Option Expr)} {values : List Expr} {trs : List (TE × TE)} (h : PPs X pos keys values trs) (hall : keys.all (·.isSome) = true) (hl : keys.length = values.length) (h0 : keys ≠ [])
    (h15 : keys.length ≤ 15) : PE X (.Dict keys values pos) (tDisp trs) := by
  intro pins s σ H Q I q
  have hn := I.hok.fresh (Nat.le_refl s.heap.objs.size)
  have I1 := I.laid (a := s.heap.objs.size) (o := .dK []) (h' := s.heap.push { cls := .type "dict", data := .dict #[] }) (t' := s.toks) (fun _ _ q => Heap.get?_push_of_some _ q) (Nat.le_refl _) (dk_empty s.heap I.big)
  refine wpAny_Dict_walk (knd := mixKind X.prog X.w) hall hl h0 h15 (thn (h pins _ σ _ _ I1 (q _ hn)) fun ws s2 ⟨ps, H2, I2, rel, e, kvs, ep, lk, q2⟩ => ?_)
  subst ep
  obtain ⟨rs, c, rk⟩ := carries_of (P := X.prog) (w := X.w) rel
  obtain ⟨z, hd, vs0, r0, dd⟩ := dk_of I2.hok e
  cases r0
  refine ⟨rs, c, dd, fun h' dd' hs => ⟨.ref s.heap.objs.size, _, ?_, rfl, q2⟩⟩
  have hz : (mergeK [] kvs).length ≤ sizeLine := by
    have h1 := length_mergeK kvs []
    rw [List.length_nil] at h1
    rw [sizeLine_eq]; omega
  have he : ∃ q, h'.get? s.heap.objs.size = some q := let ⟨q, _, _, hq, _⟩ := dd'; ⟨q, hq⟩
  exact d_write I2 (by rw [e]; exact True.intro) hs he (dk_new hz hd (rk.merge .nil) dd')


/-! ### methods -/
/-- a method call o.m(e) of a built-in, with one argument: what must be seen of the text -/
structure M1 (X : Cx) (o : Expr) (m : Str) (apos : Pos) (e : Expr) (cpos : Pos) : Prop where
  base : attributeBase o m X.env (eval o X.env) = eval o X.env
  few : ((backTo cpos (starEach [e] X.env)).all (fun x => !x.1) && (backToKw cpos (keywordEach [] X.env)).all (fun x => x.1.isSome)
    && decide (([e] : List Expr).length + ([] : List Keyword).length + (if ([] : List Keyword).isEmpty then 0 else 1) < 30)) = true
  line : (apos.endLine == cpos.line) = true
  trees : backTo cpos (starEach [e] X.env) = [(false, eval e X.env)]
structure M2 (X : Cx) (o : Expr) (m : Str) (apos : Pos) (e f : Expr) (cpos : Pos) : Prop where
  base : attributeBase o m X.env (eval o X.env) = eval o X.env
  few : ((backTo cpos (starEach [e, f] X.env)).all (fun x => !x.1) && (backToKw cpos (keywordEach [] X.env)).all (fun x => x.1.isSome)
    && decide (([e, f] : List Expr).length + ([] : List Keyword).length + (if ([] : List Keyword).isEmpty then 0 else 1) < 30)) = true
  line : (apos.endLine == cpos.line) = true
  trees : backTo cpos (starEach [e, f] X.env) = [(false, eval e X.env), (false, eval f X.env)]

/-- a is a dict, whatever its keys -/
def IsD (H : Hp) (a : Addr) : Prop := (∃ kvs, Rd H a (.dK kvs)) ∨ ∃ kvs, Rd H a (.dT kvs)
theorem isD_at {X : Cx} {pins : List (Addr × Obj)} {σ : St} {H : Hp} {s : Shared} {a : Addr} (I : Inv X pins σ H s) (d : IsD H a) :
    s.TypeIs (.ref a) "dict" ∧ (∀ b, Value.ref a = .ref b → ∃ ob, s.heap.get? b = some ob ∧ ob.dict = none) ∧ (a == sysModules) = false := by
  rcases d with ⟨kvs, e⟩ | ⟨kvs, e⟩
  · obtain ⟨_, hd, vs, _, dd⟩ := dk_rd I.hok e
    refine ⟨dd.typeIs, fun b q => ?_, hd⟩
    cases q
    obtain ⟨ob, _, _, h1, h2, _⟩ := dd
    exact ⟨ob, h1, h2.2.1⟩
  · obtain ⟨_, hd, xs, _, dd⟩ := dt_rd I.hok e
    refine ⟨dd.typeIs, fun b q => ?_, hd⟩
    cases q
    obtain ⟨ob, _, _, h1, h2, _⟩ := dd
    exact ⟨ob, h1, h2.2.1⟩

section
variable {X : Cx} {pins : List (Addr × Obj)} {σ : St} {H : Hp} {s : Shared} {a : Addr} {y d : V} {u r : Value} {o : Option V} {A : Around} {E : Value → Shared → Prop}
/-- d.get(y) -/
theorem d_get1 {Q : Value → Shared → Prop} (hu : A.units + 1 < cLine) (I : Inv X pins σ H s) (g : DGet H a y o) (ry : RelV y u) (h : ∀ w' s', Inv X pins σ H s' → RelV (o.getD .non) w' → Q w' s') :
    wpAny (model X.prog X.w) A (call (.builtin "dict.get") [.ref a, u]) Q E s := by
  rcases g with ⟨kvs, k, e, ey, l⟩ | ⟨kvs, k, b, e, ey, eb, l⟩
  · subst ey
    obtain ⟨z, hd, vs, rel, dd⟩ := dk_rd I.hok e
    refine call_meetsIn PySem.F.slot_dict_get dd.typeIs PySem.F.entry_dict_get (PySem.F.args_dict_get_2 _ _) (meets_dict_get (mixKind X.prog X.w) a (kV_is ry) hd) ⟨_, dd.mapOf, h _ _ (I.tok _) ?_⟩
    rw [l]
    exact (rel.val k).getD rfl
  · subst ey
    cases (show u = Value.ref b from ry)
    obtain ⟨z, hd, xs, rel, dd⟩ := dt_rd I.hok e
    refine call_meetsIn PySem.F.slot_dict_get dd.typeIs PySem.F.entry_dict_get (PySem.F.args_dict_get_2 _ _) (meetsH_dict_get (tupleKind (mixKind X.prog X.w)) a b hd) ⟨tupleKind_room_in1 hu, k, xs, key_of I.hok eb, dd, h _ _ (I.tok _) ?_⟩
    rw [l]
    exact (rel.val k).getD rfl
/-- d.get(y, x) -/
theorem d_get2 {Q : Value → Shared → Prop} (hu : A.units + 1 < cLine) (I : Inv X pins σ H s) (g : DGet H a y o) (ry : RelV y u) (rd : RelV d r) (h : ∀ w' s', Inv X pins σ H s' → RelV (o.getD d) w' → Q w' s') :
    wpAny (model X.prog X.w) A (call (.builtin "dict.get") [.ref a, u, r]) Q E s := by
  rcases g with ⟨kvs, k, e, ey, l⟩ | ⟨kvs, k, b, e, ey, eb, l⟩
  · subst ey
    obtain ⟨z, hd, vs, rel, dd⟩ := dk_rd I.hok e
    refine call_meetsIn PySem.F.slot_dict_get dd.typeIs PySem.F.entry_dict_get (PySem.F.args_dict_get_3 _ _ _) (meets_dict_get_default (mixKind X.prog X.w) a (kV_is ry) hd r) ⟨_, dd.mapOf, h _ _ (I.tok _) ?_⟩
    rw [l]
    exact (rel.val k).getD rd
  · subst ey
    cases (show u = Value.ref b from ry)
    obtain ⟨z, hd, xs, rel, dd⟩ := dt_rd I.hok e
    refine call_meetsIn PySem.F.slot_dict_get dd.typeIs PySem.F.entry_dict_get (PySem.F.args_dict_get_3 _ _ _) (meetsH_dict_get_default (tupleKind (mixKind X.prog X.w)) a b hd r) ⟨tupleKind_room_in1 hu, k, xs, key_of I.hok eb, dd, h _ _ (I.tok _) ?_⟩
    rw [l]
    exact (rel.val k).getD rd
end

def tDGet1 (td ty : TE) : TE := fun σ H Q => td σ H fun x H1 => ∃ a, x = .ref a ∧ IsD H1 a ∧ ty σ H1 fun y H2 => ∃ o, DGet H2 a y o ∧ Q (o.getD .non) H2
def tDGet2 (td ty tx : TE) : TE := fun σ H Q => td σ H fun x H1 => ∃ a, x = .ref a ∧ IsD H1 a ∧ ty σ H1 fun y H2 => tx σ H2 fun z H3 => ∃ o, DGet H3 a y o ∧ Q (o.getD z) H3
/-- d.pop(k): there; d.pop(k, x): there or not -/
def tDPop1 (td ty : TE) : TE := fun σ H Q => td σ H fun x H1 => ∃ a, x = .ref a ∧ IsD H1 a ∧ ty σ H1 fun y H2 => ∃ kvs k v, H2 a = some (.dK kvs) ∧ y = kV k ∧ valV kvs k = some v ∧ Q v (upd H2 a (.dK (dropK kvs k)))
def tDPop2 (td ty tx : TE) : TE := fun σ H Q => td σ H fun x H1 => ∃ a, x = .ref a ∧ IsD H1 a ∧ ty σ H1 fun y H2 => tx σ H2 fun z H3 => ∃ kvs k, H3 a = some (.dK kvs) ∧ y = kV k ∧
  (∀ v, valV kvs k = some v → Q v (upd H3 a (.dK (dropK kvs k)))) ∧ (valV kvs k = none → Q z H3)
section
variable {X : Cx} {o e f : Expr} {apos cpos : Pos} {td ty tx : TE}
theorem pe_dget1 (hu : X.A.units + 1 < cLine) (ho : PE X o td) (he : PE X e ty) (m : M1 X o "get" apos e cpos) : PE X (.Call (.Attribute o "get" apos) [e] [] cpos) (tDGet1 td ty) := by
  intro pins s σ H Q I h
  refine wpAny_Call_method m.base m.few m.line PySem.F.plainAttrs_dict PySem.F.slot_dict_get PySem.F.type_dict_get (thn (ho pins s σ H _ I h) fun u s1 ⟨x, H1, I1, rx, a, ex, d, q1⟩ => ?_)
  subst ex
  obtain rfl : u = Value.ref a := rx
  obtain ⟨t1, t2, _⟩ := isD_at I1 d
  refine ⟨t1, t2, ?_⟩
  rw [m.trees]
  refine Calls.callWith_builtin rfl (Calls.evalArgs_plain (Calls.spliced_cons (thn (he pins s1 σ H1 _ I1 q1) fun iv s2 ⟨y, H2, I2, ry, ov, g, q2⟩ => Calls.spliced_nil ?_)))
  exact d_get1 hu I2 g ry fun w' s3 I3 rw' => ⟨_, H2, I3, rw', q2⟩
theorem pe_dget2 (hu : X.A.units + 1 < cLine) (ho : PE X o td) (he : PE X e ty) (hf : PE X f tx) (m : M2 X o "get" apos e f cpos) : PE X (.Call (.Attribute o "get" apos) [e, f] [] cpos) (tDGet2 td ty tx) := by
  intro pins s σ H Q I h
  refine wpAny_Call_method m.base m.few m.line PySem.F.plainAttrs_dict PySem.F.slot_dict_get PySem.F.type_dict_get (thn (ho pins s σ H _ I h) fun u s1 ⟨x, H1, I1, rx, a, ex, d, q1⟩ => ?_)
  subst ex
  obtain rfl : u = Value.ref a := rx
  obtain ⟨t1, t2, _⟩ := isD_at I1 d
  refine ⟨t1, t2, ?_⟩
  rw [m.trees]
  refine Calls.callWith_builtin rfl (Calls.evalArgs_plain (Calls.spliced_cons (thn (he pins s1 σ H1 _ I1 q1) fun iv s2 ⟨y, H2, I2, ry, q2⟩ =>
    Calls.spliced_cons (thn (hf pins s2 σ H2 _ I2 q2) fun fv s3 ⟨z, H3, I3, rz, ov, g, q3⟩ => Calls.spliced_nil ?_))))
  exact d_get2 hu I3 g ry rz fun w' s4 I4 rw' => ⟨_, H3, I4, rw', q3⟩
theorem pe_dpop1 (ho : PE X o td) (he : PE X e ty) (m : M1 X o "pop" apos e cpos) : PE X (.Call (.Attribute o "pop" apos) [e] [] cpos) (tDPop1 td ty) := by
  intro pins s σ H Q I h
  refine wpAny_Call_method m.base m.few m.line PySem.F.plainAttrs_dict PySem.F.slot_dict_pop PySem.F.type_dict_pop (thn (ho pins s σ H _ I h) fun u s1 ⟨x, H1, I1, rx, a, ex, d, q1⟩ => ?_)
  subst ex
  obtain rfl : u = Value.ref a := rx
  obtain ⟨t1, t2, _⟩ := isD_at I1 d
  refine ⟨t1, t2, ?_⟩
  rw [m.trees]
  refine Calls.callWith_builtin rfl (Calls.evalArgs_plain (Calls.spliced_cons (thn (he pins s1 σ H1 _ I1 q1) fun iv s2 ⟨y, H2, I2, ry, kvs, k, v, ea, ey, l, q2⟩ => Calls.spliced_nil ?_)))
  subst ey
  exact d_pop I2 ea ry l (.inl rfl) fun w' s3 I3 rw' => ⟨v, _, I3, rw', q2⟩
theorem pe_dpop2 (ho : PE X o td) (he : PE X e ty) (hf : PE X f tx) (m : M2 X o "pop" apos e f cpos) : PE X (.Call (.Attribute o "pop" apos) [e, f] [] cpos) (tDPop2 td ty tx) := by
  intro pins s σ H Q I h
  refine wpAny_Call_method m.base m.few m.line PySem.F.plainAttrs_dict PySem.F.slot_dict_pop PySem.F.type_dict_pop (thn (ho pins s σ H _ I h) fun u s1 ⟨x, H1, I1, rx, a, ex, d, q1⟩ => ?_)
  subst ex
  obtain rfl : u = Value.ref a := rx
  obtain ⟨t1, t2, _⟩ := isD_at I1 d
  refine ⟨t1, t2, ?_⟩
  rw [m.trees]
  refine Calls.callWith_builtin rfl (Calls.evalArgs_plain (Calls.spliced_cons (thn (he pins s1 σ H1 _ I1 q1) fun iv s2 ⟨y, H2, I2, ry, q2⟩ =>
    Calls.spliced_cons (thn (hf pins s2 σ H2 _ I2 q2) fun fv s3 ⟨z, H3, I3, rz, kvs, k, ea, ey, q3, q4⟩ => Calls.spliced_nil ?_))))
  subst ey
  cases l : valV kvs k with
  | some v => exact d_pop I3 ea ry l (.inr ⟨fv, rfl⟩) fun w' s4 I4 rw' => ⟨v, _, I4, rw', q3 v l⟩
  | none => exact d_popD I3 ea ry l fun s4 I4 => ⟨z, H3, I4, rz, q4 l⟩
end

/-! ### dict(d): a copy -/
section
variable {X : Cx} {pins : List (Addr × Obj)} {σ : St} {H : Hp} {s : Shared} {a : Addr} {kvs : List (Key × V)} {A : Around} {E : Value → Shared → Prop}
theorem d_copyOf {Q : Value → Shared → Prop} (I : Inv X pins σ H s) (e : Rd H a (.dK kvs)) (h : ∀ p s', H p = none → Inv X pins σ (upd H p (.dK kvs)) s' → Q (.ref p) s') : wpAny (model X.prog X.w) A (call (.type "dict") [.ref a]) Q E s := by
  obtain ⟨z, hd, vs, rel, dd⟩ := dk_rd I.hok e
  refine kt_call_dict hd dd (by rw [← rel.length]; exact z) fun h' dd' hs => ?_
  refine h _ _ (I.hok.fresh (Nat.le_refl _)) (I.laid (a := s.heap.objs.size) (o := .dK kvs) (t' := s.toks) (fun b q hq => ?_) (Nat.le_refl _) (dk_new z (beq_eq_false_iff_ne.mpr (Ne.symm (Nat.ne_of_lt I.big))) rel dd'))
  exact (hs.2 b (Nat.ne_of_lt (Heap.lt_size hq))).trans (Heap.get?_push_of_some _ hq)
end


section
variable {X : Cx} {pins : List (Addr × Obj)} {σ : St} {H : Hp} {s : Shared} {a : Addr} {y : V} {u : Value} {A : Around} {E : Value → Shared → Prop}
/-- d[y], not there: a KeyError -/
theorem d_missing {Q : Value → Shared → Prop} (hu : A.units + 1 < cLine) (hh : A.handled = none) (I : Inv X pins σ H s) (g : DGet H a y none) (ry : RelV y u)
    (h : ∀ h' e t', Heap.NewExc s.heap h' e "KeyError" → E (.ref e) { s with heap := h', toks := t' }) : wpAny (model X.prog X.w) A (getItem (.ref a) u) Q E s := by
  rcases g with ⟨kvs, k, e, ey, l⟩ | ⟨kvs, k, b, e, ey, eb, l⟩
  · subst ey
    obtain ⟨z, hd, vs, rel, dd⟩ := dk_rd I.hok e
    have hn : valueAt vs k = none := RelO.none_of (by rw [l]; exact rel.val k)
    exact wpAny_getItem_missing_of (kV_is ry) hd hh dd.mapOf hn fun h' ex ne => h h' ex _ ne
  · subst ey
    cases (show u = Value.ref b from ry)
    obtain ⟨z, hd, xs, rel, dd⟩ := dt_rd I.hok e
    have hn : (atKey xs k).map (·.2) = none := RelO.none_of (by rw [l]; exact rel.val k)
    exact wpAny_getItem_missing_heap (tupleKind_room_in1 hu) (key_of I.hok eb) hd hh dd (Option.map_eq_none_iff.mp hn) fun h' ex ne => h h' ex _ ne
end
end L2

set_option maxRecDepth 100000
/-! zip over two or three lists or tuples -/
namespace LZ
open PySem
structure Src where
  it : Addr
  a : Addr
  tup : Bool
def Src.At (c : Src) (h : Heap) (i : Nat) : Prop := if c.tup = true then h.IsTupleIter c.it c.a i else h.IsListIter c.it c.a i
def Sq (tup : Bool) (a : Addr) (h : Heap) (xs : Array Value) : Prop := if tup = true then h.IsTuple a xs else h.IsList a xs
def iterCls (tup : Bool) : String := if tup = true then "tuple_iterator" else "list_iterator"
theorem Src.At.obj {c : Src} {h : Heap} {i : Nat} (x : c.At h i) : ∃ o, h.get? c.it = some o ∧ o.cls = .type (iterCls c.tup) ∧ o.data = .fields #[.ref c.a, .int i 0] := by
  unfold Src.At at x
  unfold iterCls
  split at x
  · obtain ⟨o, e, q, d⟩ := x; rename_i ht; rw [if_pos ht]; exact ⟨o, e, q, d⟩
  · obtain ⟨o, e, q, d⟩ := x; rename_i ht; rw [if_neg ht]; exact ⟨o, e, q, d⟩
theorem Src.At.mk {c : Src} {h : Heap} {i : Nat} {o : Obj} (e : h.get? c.it = some o) (q : o.cls = .type (iterCls c.tup)) (d : o.data = .fields #[.ref c.a, .int i 0]) : c.At h i := by
  unfold iterCls at q
  unfold Src.At
  split
  · rename_i ht; rw [if_pos ht] at q; exact ⟨o, e, q, d⟩
  · rename_i ht; rw [if_neg ht] at q; exact ⟨o, e, q, d⟩
theorem Src.At.keep {c : Src} {h h' : Heap} {i : Nat} (x : c.At h i) (k : ∀ o, h.get? c.it = some o → h'.get? c.it = some o) : c.At h' i :=
  let ⟨_, e, q, d⟩ := x.obj; .mk (k _ e) q d
theorem Sq.keep {tup : Bool} {a : Addr} {h h' : Heap} {xs : Array Value} (x : Sq tup a h xs) (k : ∀ o, h.get? a = some o → h'.get? a = some o) : Sq tup a h' xs := by
  unfold Sq at x ⊢
  split
  · rename_i ht; rw [if_pos ht] at x
    obtain ⟨o, e, r⟩ := x
    exact ⟨o, k o e, r⟩
  · rename_i ht; rw [if_neg ht] at x
    obtain ⟨o, e, r⟩ := x
    exact ⟨o, k o e, r⟩
section
variable {prog : Program} {w : World} {A : Around} {E : Value → Shared → Prop} {s : Shared}
theorem nextOf_tuple_item {it l : Addr} {i : Nat} {items : Array Value} {x : Value} {Q : Value → Shared → Prop} (hit : s.heap.IsTupleIter it l i)
    (hl : s.heap.IsTuple l items) (hx : items[i]? = some x)
    (hQ : ∀ h', h'.IsTupleIter it l (i + 1) → Heap.SameBut it s.heap h' → Q x { s with heap := h' }) :
    wpAny (model prog w) A (Builtin.SmallTypes.nextOf (.ref it)) Q E s := by
  obtain ⟨o, ho, hc, hd⟩ := id hit
  obtain ⟨ol, hol, _, nl, hdl⟩ := hl
  unfold Builtin.SmallTypes.nextOf
  refine wpAny_bind (wpAny_callSpecial?_slot (name := Str.ofString "__next__") hit.typeIs F.slot_tuple_iterator_next
    (wpAny_call_entry F.slot_tuple_iterator_next hit.typeIs F.entry_tuple_iterator_next ?_ (F.args_tuple_iterator_next_1 _)))
  show wpAny _ _ (field (.ref it) 0 >>= _) _ _ s
  refine wpAny_bind (wpAny_field ho hd (x := .ref l) rfl ?_)
  show wpAny _ _ (if (Value.ref l == Value.none) = true then _ else _) _ _ s
  rw [if_neg (show ¬ ((Value.ref l == Value.none) = true) from Bool.false_ne_true)]
  show wpAny _ _ (field (.ref it) 1 >>= _) _ _ s
  refine wpAny_bind (wpAny_field ho hd (x := .int i 0) rfl ?_)
  show wpAny _ _ (seqItems? (.ref l) >>= _) _ _ s
  refine wpAny_bind (wpAny_seqItems hol hdl ?_)
  simp only [Int.toNat_natCast, hx]
  refine wpAny_bind (wpAny_setField ho hd (by simp) (wpAny_pure ⟨x, rfl, wpAny_pure (hQ _ ?_ (Heap.SameBut.update ..))⟩))
  exact ⟨_, Heap.get?_update_self _ ho (Obj.isFreed_of_fields (Obj.data_mapFields hd _)), (Obj.cls_mapFields ..).trans hc, by
    rw [Obj.data_mapFields hd]; simp [rawInt]⟩
theorem nextOf_tuple_end {it l : Addr} {i : Nat} {items : Array Value} {Q : Value → Shared → Prop} (hh : A.handled = none)
    (hit : s.heap.IsTupleIter it l i) (hl : s.heap.IsTuple l items) (hx : items[i]? = none)
    (hE : ∀ h' e, Heap.ExtBut it s.heap h' → (∃ o, h'.get? e = some o ∧ o.cls = .type "StopIteration") → E (.ref e) { s with heap := h' }) :
    wpAny (model prog w) A (Builtin.SmallTypes.nextOf (.ref it)) Q E s := by
  obtain ⟨o, ho, hc, hd⟩ := id hit
  obtain ⟨ol, hol, _, nl, hdl⟩ := hl
  unfold Builtin.SmallTypes.nextOf
  refine wpAny_bind (wpAny_callSpecial?_slot (name := Str.ofString "__next__") hit.typeIs F.slot_tuple_iterator_next
    (wpAny_call_entry F.slot_tuple_iterator_next hit.typeIs F.entry_tuple_iterator_next ?_ (F.args_tuple_iterator_next_1 _)))
  show wpAny _ _ (field (.ref it) 0 >>= _) _ _ s
  refine wpAny_bind (wpAny_field ho hd (x := .ref l) rfl ?_)
  show wpAny _ _ (if (Value.ref l == Value.none) = true then _ else _) _ _ s
  rw [if_neg (show ¬ ((Value.ref l == Value.none) = true) from Bool.false_ne_true)]
  show wpAny _ _ (field (.ref it) 1 >>= _) _ _ s
  refine wpAny_bind (wpAny_field ho hd (x := .int i 0) rfl ?_)
  show wpAny _ _ (seqItems? (.ref l) >>= _) _ _ s
  refine wpAny_bind (wpAny_seqItems hol hdl ?_)
  simp only [Int.toNat_natCast, hx]
  refine wpAny_bind (wpAny_rule (wpAny_bind (wpAny_setField ho hd (by simp) ?_)))
  show wpAny _ _ (newExc (.type "StopIteration") [] >>= _) _ _ _
  refine wpAny_bind ?_
  simp only [newExc, newTuple]
  refine wpAny_bind (wpAny_newObj_type ?_ (by size_fits))
  refine wpAny_bind (m := firstArgMember _ _) (wpAny_of_eq (a := Value.none) (by first | rfl | (simp only [firstArgMember]; rfl)) ?_)
  refine wpAny_newObj_type ?_ (by size_fits)
  simp only [raiseNew]
  refine wpAny_bind (wpAny_handled ?_)
  first | rw [show A.in1.handled = none from hh] | rw [hh]
  refine wpAny_bind (wpAny_pure (wpAny_throw ?_))
  exact hE _ _ (((Heap.SameBut.update ..).extBut.push _).push _) ⟨_, Heap.get?_push_size _ rfl, rfl⟩
theorem nextOf_item {c : Src} {i : Nat} {items : Array Value} {x : Value} {Q : Value → Shared → Prop} (hit : c.At s.heap i) (hl : Sq c.tup c.a s.heap items) (hx : items[i]? = some x)
    (hQ : ∀ h', c.At h' (i + 1) → Heap.SameBut c.it s.heap h' → Q x { s with heap := h' }) : wpAny (model prog w) A (Builtin.SmallTypes.nextOf (.ref c.it)) Q E s := by
  unfold Src.At at hit
  unfold Sq at hl
  split at hit
  · rename_i ht
    rw [if_pos ht] at hl
    exact nextOf_tuple_item hit hl hx fun h' q sb => hQ h' (by unfold Src.At; rw [if_pos ht]; exact q) sb
  · rename_i ht
    rw [if_neg ht] at hl
    exact wpAny_nextOf_list_item hit hl hx fun h' q sb => hQ h' (by unfold Src.At; rw [if_neg ht]; exact q) sb
theorem nextOf_end {c : Src} {i : Nat} {items : Array Value} {Q : Value → Shared → Prop} (hh : A.handled = none) (hit : c.At s.heap i) (hl : Sq c.tup c.a s.heap items) (hx : items[i]? = none)
    (hE : ∀ h' e, Heap.ExtBut c.it s.heap h' → (∃ o, h'.get? e = some o ∧ o.cls = .type "StopIteration") → E (.ref e) { s with heap := h' }) : wpAny (model prog w) A (Builtin.SmallTypes.nextOf (.ref c.it)) Q E s := by
  unfold Src.At at hit
  unfold Sq at hl
  split at hit
  · rename_i ht
    rw [if_pos ht] at hl
    exact nextOf_tuple_end hh hit hl hx hE
  · rename_i ht
    rw [if_neg ht] at hl
    exact wpAny_nextOf_list_end hh hit hl hx hE
end
/-- the tuple that the zip keeps its last items in -/
def TOAt (h : Heap) (T : Addr) (ys : List Value) : Prop := ∃ n, h.get? T = some { cls := .type "tuple", data := .seq ys.toArray n }
def TIAt (h : Heap) (T : Addr) (cs : List Src) : Prop := ∃ n, h.get? T = some { cls := .type "tuple", data := .seq (cs.map fun c => Value.ref c.it).toArray n }
structure Apart (z TI TO : Addr) (cs : List Src) : Prop where
  TIz : TI ≠ z
  TOz : TO ≠ z
  TITO : TI ≠ TO
  zi : ∀ c ∈ cs, c.it ≠ z
  TIi : ∀ c ∈ cs, c.it ≠ TI
  TOi : ∀ c ∈ cs, c.it ≠ TO
  nd : (cs.map Src.it).Nodup
  az : ∀ c ∈ cs, c.a ≠ z
  aTO : ∀ c ∈ cs, c.a ≠ TO
  ai : ∀ c ∈ cs, ∀ d ∈ cs, c.a ≠ d.it
/-- all is kept but the zip's own -/
def Kept (z TO : Addr) (cs : List Src) (h h' : Heap) : Prop := ∀ b o, b ≠ z → b ≠ TO → (∀ c ∈ cs, b ≠ c.it) → h.get? b = some o → h'.get? b = some o
section
variable {prog : Program} {w : World} {A : Around} {E : Value → Shared → Prop} {s : Shared}
theorem updateSeq_set {T : Addr} {ys : List Value} {x : Value} {k : Nat} {Q : Unit → Shared → Prop} (hT : TOAt s.heap T ys) (hz : ys.length ≤ sizeLine)
    (h : ∀ h', TOAt h' T (ys.set k x) → Heap.SameBut T s.heap h' → Q () { s with heap := h' }) : wpAny (model prog w) A (updateSeq T (·.setIfInBounds k x)) Q E s := by
  obtain ⟨n, e⟩ := hT
  refine wpAny_updateSeq e rfl (h _ ?_ (Heap.SameBut.update ..)) (hz := by simpa using hz) (_hz' := by simp; omega)
  obtain ⟨n', hd⟩ := Obj.data_mapSeq (o := { cls := .type "tuple", data := .seq ys.toArray n }) rfl (·.setIfInBounds k x)
  refine ⟨n, ?_⟩
  rw [Heap.get?_update_self _ e rfl]
  simp [Obj.mapSeq]
theorem take_set_drop {α : Type} (xs ys : List α) (k : Nat) (x : α) (hk : xs.length = k) (hy : k < ys.length) : (xs ++ ys.drop k).set k x = (xs ++ [x]) ++ ys.drop (k + 1) := by
  subst hk
  rw [List.set_append_right _ _ (Nat.le_refl _), Nat.sub_self, List.append_assoc]
  congr 1
  rw [List.drop_eq_getElem_cons hy]
  rfl

/-- what has been drawn so far -/
structure Mid (z TI TO : Addr) (ps : List (Src × Value)) (i : Nat) (ys : List Value) (h0 : Heap) (k : Nat) (h : Heap) : Prop where
  le : k ≤ ps.length
  zz : IsZip h z TI TO .ellipsis
  to : TOAt h TO (((ps.take k).map (·.2)) ++ ys.drop k)
  done : ∀ p ∈ ps.take k, p.1.At h (i + 1)
  todo : ∀ p ∈ ps.drop k, p.1.At h i
  kept : Kept z TO (ps.map (·.1)) h0 h
  sz : h.objs.size = h0.objs.size
theorem next_item {z TI TO : Addr} {ps : List (Src × Value)} {i : Nat} {ys : List Value} {Q : Value → Shared → Prop} (D : Apart z TI TO (ps.map (·.1))) (hne : ps ≠ []) (hsz : ps.length ≤ 1000)
    (hz : IsZip s.heap z TI TO .none) (hTI : TIAt s.heap TI (ps.map (·.1))) (hTO : TOAt s.heap TO ys) (hy : ys.length = ps.length)
    (hat : ∀ p ∈ ps, p.1.At s.heap i) (hsq : ∀ p ∈ ps, ∃ items, Sq p.1.tup p.1.a s.heap items ∧ items[i]? = some p.2)
    (hQ : ∀ h', IsZip h' z TI TO (rawInt s.heap.objs.size) → TOAt h' TO (ps.map (·.2)) → (∀ p ∈ ps, p.1.At h' (i + 1)) → h'.get? s.heap.objs.size = some { cls := .type "tuple", data := .seq (ps.map (·.2)).toArray } →
      h'.objs.size = s.heap.objs.size + 1 → Kept z TO (ps.map (·.1)) s.heap h' → Q (.ref s.heap.objs.size) { s with heap := h' }) :
    wpAny (model prog w) A (Builtin.«zip.__next__» ⟨[.ref z], []⟩) (fun fin s' => ∃ v, fin = .done (.ret v) ∧ Q v s') E s := by
  have line : 1000 ≤ sizeLine := by rw [sizeLine_eq]; decide
  obtain ⟨nTI, hTI⟩ := hTI
  show wpAny _ _ (field (.ref z) 2 >>= _) _ _ _
  refine wpAny_bind (wpAny_field hz rfl (x := .bool false) rfl ?_)
  show wpAny _ _ (field (.ref z) 3 >>= _) _ _ _
  refine wpAny_bind (wpAny_field hz rfl (x := .ref TI) rfl ?_)
  refine wpAny_bind (wpAny_seqItems hTI rfl ?_)
  have hemp : ((ps.map (·.1)).map fun c => Value.ref c.it).toArray.isEmpty = false := by
    cases ps with
    | nil => exact absurd rfl hne
    | cons a r => simp
  simp only [hemp, Bool.false_eq_true, if_false]
  refine wpAny_bind ?_
  unfold Builtin.SmallTypes.ownedTupleIsFree
  refine wpAny_bind (wpAny_field hz rfl (x := .none) rfl (wpAny_pure ?_))
  simp only [if_true]
  refine wpAny_bind (wpAny_rule ?_)
  refine wpAny_bind (wpAny_field hz rfl (x := .ref TO) rfl ?_)
  refine wpAny_bind (wpAny_setField_rec hz (by simp) fun h₁ hz₁ hs₁ => ?_)
  replace hz₁ : IsZip h₁ z TI TO .ellipsis := hz₁
  have mem1 : ∀ p ∈ ps, p.1 ∈ ps.map (·.1) := fun p hp => List.mem_map.mpr ⟨p, hp, rfl⟩
  have mid0 : Mid z TI TO ps i ys s.heap 0 h₁ := by
    refine ⟨Nat.zero_le _, hz₁, ?_, fun p hp => by simp at hp, fun p hp => ?_, fun b o hb _ _ e => hs₁.extBut b o hb e, hs₁.1⟩
    · obtain ⟨n, e⟩ := hTO
      exact ⟨n, by simpa using hs₁.extBut _ _ D.TOz e⟩
    · have hp' : p ∈ ps := by simpa using hp
      exact (hat p hp').keep fun o e => hs₁.extBut _ _ (D.zi _ (mem1 p hp')) e
  refine wpAny_bind (wpAny_forIn_list _ (fun rest b s' => b.1 = none ∧ ∃ k h', s' = { s with heap := h' } ∧ rest = ((ps.drop k).map fun p => Value.ref p.1.it).zipIdx k ∧ Mid z TI TO ps i ys s.heap k h') _ ?_ ?_ _ _ ⟨rfl, 0, h₁, rfl, ?_, mid0⟩)
  · rintro x rest b s' ⟨_, k, h', rfl, hr, M⟩
    by_cases hk : k < ps.length
    · rw [List.drop_eq_getElem_cons hk, List.map_cons, List.zipIdx_cons] at hr
      injection hr with hx hrest
      subst hx
      have hp : ps[k] ∈ ps := List.getElem_mem hk
      obtain ⟨items, sq, it⟩ := hsq _ hp
      have at0 : ps[k].1.At h' i := M.todo _ (by rw [List.drop_eq_getElem_cons hk]; exact List.mem_cons_self ..)
      have sq0 : Sq ps[k].1.tup ps[k].1.a h' items := sq.keep fun o e => M.kept _ o (D.az _ (mem1 _ hp)) (D.aTO _ (mem1 _ hp)) (fun c hc => D.ai _ (mem1 _ hp) c hc) e
      refine wpAny_bind (wpAny_onRaise ?_)
      show wpAny _ _ (Builtin.SmallTypes.nextOf (.ref ps[k].1.it) >>= _) _ _ _
      refine wpAny_bind (nextOf_item (s := { s with heap := h' }) at0 sq0 it fun h₂ at2 hs₂ => wpAny_pure ?_)
      replace hs₂ : Heap.SameBut ps[k].1.it h' h₂ := hs₂
      have toi : TO ≠ ps[k].1.it := Ne.symm (D.TOi _ (mem1 _ hp))
      have zi : z ≠ ps[k].1.it := Ne.symm (D.zi _ (mem1 _ hp))
      obtain ⟨nT, eT⟩ := M.to
      have eT2 := hs₂.extBut _ _ toi eT
      have hlen : ((ps.take k).map (·.2) ++ ys.drop k).length = ps.length := by simp; omega
      refine wpAny_bind (wpAny_seqItems eT2 rfl ?_)
      refine wpAny_bind (updateSeq_set (s := { s with heap := h₂ }) ⟨nT, eT2⟩ (by rw [hlen]; omega) fun h₃ to3 hs₃ => ?_)
      replace hs₃ : Heap.SameBut TO h₂ h₃ := hs₃
      refine wpAny_bind (wpAny_letGo (wpAny_pure ⟨rfl, k + 1, h₃, rfl, hrest, ?_⟩))
      have up : ∀ b o, b ≠ ps[k].1.it → b ≠ TO → h'.get? b = some o → h₃.get? b = some o := fun b o b1 b2 e => hs₃.extBut b o b2 (hs₂.extBut b o b1 e)
      have nd : ∀ j (hj : j < ps.length), j ≠ k → ps[j].1.it ≠ ps[k].1.it := fun j hj hjk e => by
        have h2 := D.nd
        rw [List.map_map] at h2
        have := (List.getElem_inj (i := j) (j := k) (h₀ := by simpa using hj) (h₁ := by simpa using hk) h2).mp (by simpa using e)
        exact hjk this
      refine ⟨hk, up _ _ zi (Ne.symm D.TOz) M.zz, ?_, fun p hp' => ?_, fun p hp' => ?_, fun b o b1 b2 b3 e => up b o (b3 _ (mem1 _ hp)) b2 (M.kept b o b1 b2 b3 e), by rw [hs₃.1, hs₂.1, M.sz]⟩
      · have e2 : ((ps.take k).map (·.2) ++ ys.drop k).set k ps[k].2 = (ps.take (k + 1)).map (·.2) ++ ys.drop (k + 1) := by
          rw [take_set_drop _ _ k _ (by simp; omega) (by omega), List.take_succ_eq_append_getElem hk, List.map_append, List.map_cons, List.map_nil]
        rw [← e2]
        exact to3
      · rw [List.take_succ_eq_append_getElem hk] at hp'
        rcases List.mem_append.mp hp' with q | q
        · obtain ⟨j, hj, rfl⟩ := List.mem_take_iff_getElem.mp q
          have hjl : j < ps.length := by omega
          exact (M.done _ q).keep fun o e => up _ o (nd j hjl (by omega)) (D.TOi _ (mem1 _ (List.getElem_mem hjl))) e
        · rw [List.mem_singleton.mp q]
          exact at2.keep fun o e => hs₃.extBut _ o (Ne.symm toi) e
      · obtain ⟨j, hj, rfl⟩ := List.mem_drop_iff_getElem.mp hp'
        have hjl : k + 1 + j < ps.length := by omega
        refine (M.todo _ (List.mem_drop_iff_getElem.mpr ⟨j + 1, by omega, by congr 1; omega⟩)).keep fun o e => up _ o (nd _ hjl (by omega)) (D.TOi _ (mem1 _ (List.getElem_mem hjl))) e
    · rw [List.drop_eq_nil_of_le (by omega)] at hr
      simp at hr
  · rintro b s' ⟨hb, k, h', rfl, hr, M⟩
    have hk : k = ps.length := by
      have := congrArg List.length hr
      simp at this
      have := M.le
      omega
    subst hk
    rw [hb]
    obtain ⟨nT, eT⟩ := M.to
    rw [List.take_of_length_le (Nat.le_refl _), List.drop_eq_nil_of_le (by omega), List.append_nil] at eT
    refine wpAny_bind (wpAny_seqItems eT rfl ?_)
    refine wpAny_bind (wpAny_newTuple ?_)
    show wpAny _ _ (Builtin.SmallTypes.ownedTupleHandOut (.ref z) (.ref h'.objs.size) >>= _) _ _ _
    refine wpAny_bind ?_
    unfold Builtin.SmallTypes.ownedTupleHandOut
    have hz₆ : IsZip (h'.push { cls := .type "tuple", data := .seq (ps.map (·.2)).toArray }) z TI TO .ellipsis := Heap.get?_push_of_some _ M.zz
    refine wpAny_bind (wpAny_setField_rec hz₆ (by simp) fun h₇ hz₇ hs₇ => ?_)
    replace hz₇ : IsZip h₇ z TI TO (rawInt h'.objs.size) := hz₇
    refine wpAny_setField_rec hz₇ (by simp) fun h₈ hz₈ hs₈ => ?_
    replace hz₈ : IsZip h₈ z TI TO (rawInt h'.objs.size) := hz₈
    have up : ∀ c o, c ≠ z → h'.get? c = some o → h₈.get? c = some o := fun c o c1 e => hs₈.extBut _ _ c1 (hs₇.extBut _ _ c1 (Heap.get?_push_of_some _ e))
    have hzlt : z < h'.objs.size := Heap.lt_size M.zz
    have hT₈ : h₈.get? h'.objs.size = some { cls := .type "tuple", data := .seq (ps.map (·.2)).toArray } := hs₈.extBut _ _ (Nat.ne_of_gt hzlt) (hs₇.extBut _ _ (Nat.ne_of_gt hzlt) (Heap.get?_push_size _ rfl))
    have hz8 : h₈.objs.size = h'.objs.size + 1 := by rw [hs₈.1, hs₇.1, Heap.size_push]
    rw [M.sz] at hz₈ hT₈ hz8
    refine wpAny_pure ⟨_, rfl, ?_⟩
    show Q (.ref h'.objs.size) _
    rw [M.sz]
    refine hQ h₈ hz₈ ⟨nT, up _ _ D.TOz eT⟩ (fun p hp => ?_) hT₈ hz8 fun b o b1 b2 b3 e => up b o b1 (M.kept b o b1 b2 b3 e)
    exact (M.done p (by rw [List.take_of_length_le (Nat.le_refl _)]; exact hp)).keep fun o e => up _ o (D.zi _ (mem1 p hp)) e
  · rw [List.drop_zero, List.map_map]
    rfl
theorem next_end {z TI TO : Addr} {ps : List (Src × Value)} {c : Src} {cs : List Src} {i : Nat} {ys : List Value} {items : Array Value} {Q : Fin → Shared → Prop} (hh : A.handled = none)
    (D : Apart z TI TO (ps.map (·.1) ++ c :: cs)) (hsz : (ps.map (·.1) ++ c :: cs).length ≤ 1000)
    (hz : IsZip s.heap z TI TO .none) (hTI : TIAt s.heap TI (ps.map (·.1) ++ c :: cs)) (hTO : TOAt s.heap TO ys) (hy : ys.length = (ps.map (·.1) ++ c :: cs).length)
    (hat : ∀ p ∈ ps, p.1.At s.heap i) (hatc : c.At s.heap i) (hsq : ∀ p ∈ ps, ∃ items, Sq p.1.tup p.1.a s.heap items ∧ items[i]? = some p.2) (hsqc : Sq c.tup c.a s.heap items) (hend : items[i]? = none)
    (hE : ∀ h' e, Kept z TO (ps.map (·.1) ++ c :: cs) s.heap h' → (∃ o, h'.get? e = some o ∧ o.cls = .type "StopIteration") → E (.ref e) { s with heap := h' }) :
    wpAny (model prog w) A (Builtin.«zip.__next__» ⟨[.ref z], []⟩) Q E s := by
  have line : 1000 ≤ sizeLine := by rw [sizeLine_eq]; decide
  have hsz' : ps.length + (cs.length + 1) ≤ 1000 := by simpa using hsz
  have hy' : ys.length = ps.length + (cs.length + 1) := by simpa using hy
  obtain ⟨nTI, hTI⟩ := hTI
  show wpAny _ _ (field (.ref z) 2 >>= _) _ _ _
  refine wpAny_bind (wpAny_field hz rfl (x := .bool false) rfl ?_)
  show wpAny _ _ (field (.ref z) 3 >>= _) _ _ _
  refine wpAny_bind (wpAny_field hz rfl (x := .ref TI) rfl ?_)
  refine wpAny_bind (wpAny_seqItems hTI rfl ?_)
  have hemp : ((ps.map (·.1) ++ c :: cs).map fun c => Value.ref c.it).toArray.isEmpty = false := by simp
  simp only [hemp, Bool.false_eq_true, if_false]
  refine wpAny_bind ?_
  unfold Builtin.SmallTypes.ownedTupleIsFree
  refine wpAny_bind (wpAny_field hz rfl (x := .none) rfl (wpAny_pure ?_))
  simp only [if_true]
  refine wpAny_bind (wpAny_rule ?_)
  refine wpAny_bind (wpAny_field hz rfl (x := .ref TO) rfl ?_)
  refine wpAny_bind (wpAny_setField_rec hz (by simp) fun h₁ hz₁ hs₁ => ?_)
  replace hz₁ : IsZip h₁ z TI TO .ellipsis := hz₁
  have mem1 : ∀ p ∈ ps, p.1 ∈ ps.map (·.1) ++ c :: cs := fun p hp => List.mem_append_left _ (List.mem_map.mpr ⟨p, hp, rfl⟩)
  have memc : c ∈ ps.map (·.1) ++ c :: cs := List.mem_append_right _ (List.mem_cons_self ..)
  refine wpAny_bind (wpAny_forIn_list _ (fun rest b s' => ∃ k h', s' = { s with heap := h' } ∧ k ≤ ps.length ∧ rest = ((ps.map (·.1) ++ c :: cs).drop k |>.map fun c => Value.ref c.it).zipIdx k ∧ IsZip h' z TI TO .ellipsis ∧
      (∃ zs, zs.length = ys.length ∧ TOAt h' TO zs) ∧ (∀ p ∈ ps.drop k, p.1.At h' i) ∧ c.At h' i ∧ Kept z TO (ps.map (·.1) ++ c :: cs) s.heap h') _ ?_ ?_ _ _ ⟨0, h₁, rfl, Nat.zero_le _, by rw [List.drop_zero], hz₁, ?_, ?_, ?_, ?_⟩)
  · rintro x rest b s' ⟨k, h', rfl, hk, hr, zz, ⟨zs, hzs, to⟩, todo, atc, kept⟩
    have one : ∀ (d : Src) (items : Array Value), d ∈ ps.map (·.1) ++ c :: cs → Sq d.tup d.a s.heap items → Sq d.tup d.a h' items := fun d items hd sq => sq.keep fun o e => kept _ o (D.az _ hd) (D.aTO _ hd) (fun c hc => D.ai _ hd c hc) e
    by_cases hlt : k < ps.length
    · have hl : k < (ps.map (·.1) ++ c :: cs).length := by simp; omega
      have hget : (ps.map (·.1) ++ c :: cs)[k] = ps[k].1 := by rw [List.getElem_append_left (by simpa using hlt), List.getElem_map]
      rw [List.drop_eq_getElem_cons hl, List.map_cons, List.zipIdx_cons, hget] at hr
      injection hr with hx hrest
      subst hx
      have hp : ps[k] ∈ ps := List.getElem_mem hlt
      obtain ⟨its, sq, it⟩ := hsq _ hp
      have at0 : ps[k].1.At h' i := todo _ (by rw [List.drop_eq_getElem_cons hlt]; exact List.mem_cons_self ..)
      refine wpAny_bind (wpAny_onRaise ?_)
      show wpAny _ _ (Builtin.SmallTypes.nextOf (.ref ps[k].1.it) >>= _) _ _ _
      refine wpAny_bind (nextOf_item (s := { s with heap := h' }) at0 (one _ _ (mem1 _ hp) sq) it fun h₂ at2 hs₂ => wpAny_pure ?_)
      replace hs₂ : Heap.SameBut ps[k].1.it h' h₂ := hs₂
      have toi : TO ≠ ps[k].1.it := Ne.symm (D.TOi _ (mem1 _ hp))
      have zi : z ≠ ps[k].1.it := Ne.symm (D.zi _ (mem1 _ hp))
      obtain ⟨nT, eT⟩ := to
      have eT2 := hs₂.extBut _ _ toi eT
      refine wpAny_bind (wpAny_seqItems eT2 rfl ?_)
      refine wpAny_bind (updateSeq_set (s := { s with heap := h₂ }) ⟨nT, eT2⟩ (by omega) fun h₃ to3 hs₃ => ?_)
      replace hs₃ : Heap.SameBut TO h₂ h₃ := hs₃
      have up : ∀ b o, b ≠ ps[k].1.it → b ≠ TO → h'.get? b = some o → h₃.get? b = some o := fun b o b1 b2 e => hs₃.extBut b o b2 (hs₂.extBut b o b1 e)
      have ndl : ∀ j (hj : j < (ps.map (·.1) ++ c :: cs).length), j ≠ k → (ps.map (·.1) ++ c :: cs)[j].it ≠ ps[k].1.it := fun j hj hjk e => by
        have := (List.getElem_inj (i := j) (j := k) (h₀ := by simpa using hj) (h₁ := by simpa using hl) D.nd).mp (by rw [List.getElem_map, List.getElem_map, hget]; exact e)
        exact hjk this
      refine wpAny_bind (wpAny_letGo (wpAny_pure ⟨k + 1, h₃, rfl, hlt, hrest, up _ _ zi (Ne.symm D.TOz) zz, ⟨_, by simpa using hzs, to3⟩, fun p hp' => ?_, ?_, fun b o b1 b2 b3 e => up b o (b3 _ (mem1 _ hp)) b2 (kept b o b1 b2 b3 e)⟩))
      · obtain ⟨j, hj, rfl⟩ := List.mem_drop_iff_getElem.mp hp'
        have hjl : k + 1 + j < ps.length := by omega
        have n1 := ndl (k + 1 + j) (by simp; omega) (by omega)
        rw [List.getElem_append_left (by simpa using hjl), List.getElem_map] at n1
        exact (todo _ (List.mem_drop_iff_getElem.mpr ⟨j + 1, by omega, by congr 1; omega⟩)).keep fun o e => up _ o n1 (D.TOi _ (mem1 _ (List.getElem_mem hjl))) e
      · have n1 := ndl ps.length (by simp) (by omega)
        have hc : (ps.map (·.1) ++ c :: cs)[ps.length]'(by simp) = c := by
          rw [List.getElem_append_right (by simp)]
          simp
        rw [hc] at n1
        exact atc.keep fun o e => up _ o n1 (D.TOi _ memc) e
    · have hk' : k = ps.length := by omega
      subst hk'
      have hdr : (ps.map (·.1) ++ c :: cs).drop ps.length = c :: cs := by rw [List.drop_append_of_le_length (by simp), List.drop_eq_nil_of_le (by simp), List.nil_append]
      rw [hdr, List.map_cons, List.zipIdx_cons] at hr
      injection hr with hx hrest
      subst hx
      refine wpAny_bind (wpAny_onRaise ?_)
      show wpAny _ _ (Builtin.SmallTypes.nextOf (.ref c.it) >>= _) _ _ _
      refine wpAny_bind (nextOf_end (s := { s with heap := h' }) hh atc (one _ _ memc hsqc) hend fun h₂ e hs₂ he => ?_)
      replace hs₂ : Heap.ExtBut c.it h' h₂ := hs₂
      obtain ⟨oe, hoe, hce⟩ := he
      have hz₂ : IsZip h₂ z TI TO .ellipsis := hs₂ _ _ (Ne.symm (D.zi _ memc)) zz
      have hez : e ≠ z := fun x => by subst x; rw [hz₂] at hoe; cases hoe; simp at hce
      refine wpAny_setField_rec hz₂ (by simp) fun h₃ _ hs₃ => hE h₃ e (fun b o b1 b2 b3 x => hs₃.extBut _ _ b1 (hs₂ _ _ (b3 _ memc) (kept b o b1 b2 b3 x))) ⟨oe, hs₃.extBut _ _ hez hoe, hce⟩
  · rintro b s' ⟨k, h', rfl, hk, hr, _⟩
    have := congrArg List.length hr
    simp at this
    omega
  · obtain ⟨n, e⟩ := hTO
    exact ⟨ys, rfl, n, hs₁.extBut _ _ D.TOz e⟩
  · intro p hp
    have hp' : p ∈ ps := by simpa using hp
    exact (hat p hp').keep fun o e => hs₁.extBut _ _ (D.zi _ (mem1 p hp')) e
  · exact hatc.keep fun o e => hs₁.extBut _ _ (D.zi _ memc) e
  · exact fun b o hb _ _ e => hs₁.extBut b o hb e
theorem pyNext_item {z TI TO : Addr} {ps : List (Src × Value)} {i : Nat} {ys : List Value} {Q : Option Value → Shared → Prop} (D : Apart z TI TO (ps.map (·.1))) (hne : ps ≠ []) (hsz : ps.length ≤ 1000)
    (hz : IsZip s.heap z TI TO .none) (hTI : TIAt s.heap TI (ps.map (·.1))) (hTO : TOAt s.heap TO ys) (hy : ys.length = ps.length)
    (hat : ∀ p ∈ ps, p.1.At s.heap i) (hsq : ∀ p ∈ ps, ∃ items, Sq p.1.tup p.1.a s.heap items ∧ items[i]? = some p.2)
    (hQ : ∀ h', IsZip h' z TI TO (rawInt s.heap.objs.size) → TOAt h' TO (ps.map (·.2)) → (∀ p ∈ ps, p.1.At h' (i + 1)) → h'.get? s.heap.objs.size = some { cls := .type "tuple", data := .seq (ps.map (·.2)).toArray } →
      h'.objs.size = s.heap.objs.size + 1 → Kept z TO (ps.map (·.1)) s.heap h' → Q (some (.ref s.heap.objs.size)) { s with heap := h' }) :
    wpAny (model prog w) A (pyNext (.ref z)) Q E s := by
  have hT : s.TypeIs (.ref z) "zip" := ⟨_, hz, rfl⟩
  unfold pyNext
  refine wpAny_bind (wpAny_attempt (wpAny_callSpecial?_slot (name := Str.ofString "__next__") hT F.slot_zip_next (wpAny_call_entry F.slot_zip_next hT F.entry_zip_next ?_ (F.args_zip_next_1 _))))
  exact next_item D hne hsz hz hTI hTO hy hat hsq fun h' a1 a2 a3 a4 a5 a6 => wpAny_pure (hQ h' a1 a2 a3 a4 a5 a6)
theorem pyNext_end {z TI TO : Addr} {ps : List (Src × Value)} {c : Src} {cs : List Src} {i : Nat} {ys : List Value} {items : Array Value} {Q : Option Value → Shared → Prop} (hh : A.handled = none)
    (D : Apart z TI TO (ps.map (·.1) ++ c :: cs)) (hsz : (ps.map (·.1) ++ c :: cs).length ≤ 1000)
    (hz : IsZip s.heap z TI TO .none) (hTI : TIAt s.heap TI (ps.map (·.1) ++ c :: cs)) (hTO : TOAt s.heap TO ys) (hy : ys.length = (ps.map (·.1) ++ c :: cs).length)
    (hat : ∀ p ∈ ps, p.1.At s.heap i) (hatc : c.At s.heap i) (hsq : ∀ p ∈ ps, ∃ items, Sq p.1.tup p.1.a s.heap items ∧ items[i]? = some p.2) (hsqc : Sq c.tup c.a s.heap items) (hend : items[i]? = none)
    (hQ : ∀ h', Kept z TO (ps.map (·.1) ++ c :: cs) s.heap h' → Q none { s with heap := h' }) : wpAny (model prog w) A (pyNext (.ref z)) Q E s := by
  have hT : s.TypeIs (.ref z) "zip" := ⟨_, hz, rfl⟩
  unfold pyNext
  refine wpAny_bind (wpAny_attempt (wpAny_callSpecial?_slot (name := Str.ofString "__next__") hT F.slot_zip_next (wpAny_call_entry F.slot_zip_next hT F.entry_zip_next ?_ (F.args_zip_next_1 _))))
  refine next_end hh D hsz hz hTI hTO hy hat hatc hsq hsqc hend fun h' e hk he => ?_
  obtain ⟨o, ho, hc⟩ := he
  refine wpAny_bind (wpAny_isInstance (T := "StopIteration") (b := true) ⟨o, ho, hc⟩ isSubtype_stop ?_)
  exact wpAny_pure (hQ _ hk)
theorem pyIter_src {tup : Bool} {a : Addr} {xs : Array Value} {Q : Value → Shared → Prop} (hl : Sq tup a s.heap xs)
    (hQ : Q (.ref s.heap.objs.size) { s with heap := s.heap.push { cls := .type (iterCls tup), data := .fields #[.ref a, .int 0 0] } }) : wpAny (model prog w) A (pyIter (.ref a)) Q E s := by
  unfold Sq at hl
  unfold iterCls at hQ
  split at hl
  · rename_i ht
    rw [if_pos ht] at hQ
    exact wpAny_pyIter_tuple hl hQ
  · rename_i ht
    rw [if_neg ht] at hQ
    exact wpAny_pyIter_list hl hQ
theorem letGo_zip {elts : List Expr} {x1 : Nat} {pos : Pos} {z TI TO T : Addr} {Q : Unit → Shared → Prop} (hz : IsZip s.heap z TI TO (rawInt T))
    (hQ : ∀ h', IsZip h' z TI TO .none → Heap.SameBut z s.heap h' → Q () { s with heap := h' }) : wpAny (model prog w) A (letOwnedTupleGo (.Tuple elts x1 pos) (.ref z) (.ref T)) Q E s :=
  wpAny_letOwnedTupleGo_zip hz hQ
end
/-! ### zip(..) -/
abbrev itObj (tup : Bool) (a : Addr) : Obj := { cls := .type (iterCls tup), data := .fields #[.ref a, .int 0 0] }
abbrev tupObj (vs : List Value) : Obj := { cls := .type "tuple", data := .seq vs.toArray }
abbrev zipObj (TI TO : Addr) : Obj := { cls := .type "zip", data := .fields #[.none, .bool false, .bool false, .ref TI, .ref TO] }
theorem typeCall3 (a b c : Value) : checkTypeCall "zip" ⟨[a, b, c], []⟩ = pure () := by kernel_rfl
theorem newCall3 (a b c : Value) : checkBuiltinCall "zip.__new__" ⟨[.type "zip", a, b, c], []⟩ = pure () := by kernel_rfl
theorem argsInit4 (a b c d : Value) : argsOk "object.__init__" ⟨[a, b, c, d], []⟩ := by
  unfold argsOk; rw [signature?_of (id := "object.__init__") (n := ['_', '_', 't', 'i', 'n', 'i', '_', '_']) (o := ['t', 'c', 'e', 'j', 'b', 'o']) (by kernel_rfl) F.owner_object]; kernel_rfl
abbrev z2 (h : Heap) (t1 t2 : Bool) (a1 a2 : Addr) : Heap :=
  ((((h.push (itObj t1 a1)).push (itObj t2 a2)).push (tupObj [.ref h.objs.size, .ref (h.push (itObj t1 a1)).objs.size])).push (tupObj [.none, .none]))
abbrev z3 (h : Heap) (t1 t2 t3 : Bool) (a1 a2 a3 : Addr) : Heap :=
  (((((h.push (itObj t1 a1)).push (itObj t2 a2)).push (itObj t3 a3)).push (tupObj [.ref h.objs.size, .ref (h.push (itObj t1 a1)).objs.size, .ref ((h.push (itObj t1 a1)).push (itObj t2 a2)).objs.size])).push (tupObj [.none, .none, .none]))
theorem Sq.push {tup : Bool} {a : Addr} {h : Heap} {xs : Array Value} (x : Sq tup a h xs) (o : Obj) : Sq tup a (h.push o) xs := x.keep fun _ e => Heap.get?_push_of_some _ e
theorem new2 (t1 t2 : Bool) (a1 a2 : Addr) (xs ys : Array Value) :
    Meets (Builtin.«zip.__new__» ⟨[.type "zip", .ref a1, .ref a2], []⟩) (fun _ R s => Sq t1 a1 s.heap xs ∧ Sq t2 a2 s.heap ys ∧
      R (.ok (.ret (.ref (z2 s.heap t1 t2 a1 a2).objs.size))) { s with heap := (z2 s.heap t1 t2 a1 a2).push (zipObj ((s.heap.push (itObj t1 a1)).push (itObj t2 a2)).objs.size (((s.heap.push (itObj t1 a1)).push (itObj t2 a2)).push (tupObj [.ref s.heap.objs.size, .ref (s.heap.push (itObj t1 a1)).objs.size])).objs.size) }) :=
  .of_wp fun prog w A R s h => by
    obtain ⟨hp, g, d, tk, os⟩ := s; obtain ⟨hl1, hl2, h⟩ := h
    have hsub := sub_zip
    have hL1 : Sq t1 a1 (Shared.heap ⟨hp, g, d, tk, os⟩) xs := hl1
    have hL2 : Sq t2 a2 (Shared.heap ⟨hp.push (itObj t1 a1), g, d, tk, os⟩) ys := hl2.push _
    wp_walk using pyIter_src hL1, pyIter_src hL2
    exact ⟨_, rfl, h⟩
theorem new3 (t1 t2 t3 : Bool) (a1 a2 a3 : Addr) (xs ys zs : Array Value) :
    Meets (Builtin.«zip.__new__» ⟨[.type "zip", .ref a1, .ref a2, .ref a3], []⟩) (fun _ R s => Sq t1 a1 s.heap xs ∧ Sq t2 a2 s.heap ys ∧ Sq t3 a3 s.heap zs ∧
      R (.ok (.ret (.ref (z3 s.heap t1 t2 t3 a1 a2 a3).objs.size))) { s with heap := (z3 s.heap t1 t2 t3 a1 a2 a3).push (zipObj (((s.heap.push (itObj t1 a1)).push (itObj t2 a2)).push (itObj t3 a3)).objs.size ((((s.heap.push (itObj t1 a1)).push (itObj t2 a2)).push (itObj t3 a3)).push (tupObj [.ref s.heap.objs.size, .ref (s.heap.push (itObj t1 a1)).objs.size, .ref ((s.heap.push (itObj t1 a1)).push (itObj t2 a2)).objs.size])).objs.size) }) :=
  .of_wp fun prog w A R s h => by
    obtain ⟨hp, g, d, tk, os⟩ := s; obtain ⟨hl1, hl2, hl3, h⟩ := h
    have hsub := sub_zip
    have hL1 : Sq t1 a1 (Shared.heap ⟨hp, g, d, tk, os⟩) xs := hl1
    have hL2 : Sq t2 a2 (Shared.heap ⟨hp.push (itObj t1 a1), g, d, tk, os⟩) ys := hl2.push _
    have hL3 : Sq t3 a3 (Shared.heap ⟨(hp.push (itObj t1 a1)).push (itObj t2 a2), g, d, tk, os⟩) zs := (hl3.push _).push _
    wp_walk using pyIter_src hL1, pyIter_src hL2, pyIter_src hL3
    exact ⟨_, rfl, h⟩
section
variable {prog : Program} {w : World} {A : Around} {E : Value → Shared → Prop} {s : Shared}
theorem neN {a b : Nat} (h : a < b ∨ b < a) : @Ne Addr a b := fun e => by
  have e' : a = b := e
  omega
/-- what a new zip is: its own objects lie from n on -/
structure New (h h' : Heap) (cs : List Src) (z TI TO : Addr) : Prop where
  zz : IsZip h' z TI TO .none
  ti : TIAt h' TI cs
  to : ∃ ys : List Value, ys.length = cs.length ∧ TOAt h' TO ys
  at0 : ∀ c ∈ cs, c.At h' 0
  fresh : h.objs.size ≤ z ∧ h.objs.size ≤ TI ∧ h.objs.size ≤ TO ∧ ∀ c ∈ cs, h.objs.size ≤ c.it
  apart : (∀ c ∈ cs, c.a < h.objs.size) → Apart z TI TO cs
  keep : ∀ b o, h.get? b = some o → h'.get? b = some o
theorem call_zip2 {t1 t2 : Bool} {a1 a2 : Addr} {xs ys : Array Value} {Q : Value → Shared → Prop} (hl1 : Sq t1 a1 s.heap xs) (hl2 : Sq t2 a2 s.heap ys)
    (h : ∀ h' z TI TO i1 i2, New s.heap h' [⟨i1, a1, t1⟩, ⟨i2, a2, t2⟩] z TI TO → Q (.ref z) { s with heap := h' }) : wpAny (model prog w) A (call (.type "zip") [.ref a1, .ref a2]) Q E s := by
  refine callType_new F.called_zip (by decide) (F.typeCall_zip_2 _ _) (F.newCall_zip_2 _ _) (fun obj => F.args_object_init_3 obj _ _) F.entry_zip_new (new2 t1 t2 a1 a2 xs ys) ⟨hl1, hl2, ?_⟩
  have s1 : (s.heap.push (itObj t1 a1)).objs.size = s.heap.objs.size + 1 := Heap.size_push ..
  have s2 : ((s.heap.push (itObj t1 a1)).push (itObj t2 a2)).objs.size = s.heap.objs.size + 2 := by rw [Heap.size_push, s1]
  have s3 : (((s.heap.push (itObj t1 a1)).push (itObj t2 a2)).push (tupObj [.ref s.heap.objs.size, .ref (s.heap.push (itObj t1 a1)).objs.size])).objs.size = s.heap.objs.size + 3 := by rw [Heap.size_push, s2]
  have s4 : (z2 s.heap t1 t2 a1 a2).objs.size = s.heap.objs.size + 4 := by rw [Heap.size_push, s3]
  have up : ∀ {o : Obj} {h0 : Heap} {b : Addr} {o' : Obj}, h0.get? b = some o' → (h0.push o).get? b = some o' := fun e => Heap.get?_push_of_some _ e
  refine ⟨⟨_, Heap.get?_push_size _ rfl, rfl⟩, h _ _ _ _ s.heap.objs.size (s.heap.push (itObj t1 a1)).objs.size ⟨Heap.get?_push_size _ rfl, ⟨0, up (up (Heap.get?_push_size _ rfl))⟩, ⟨[.none, .none], rfl, 0, up (Heap.get?_push_size _ rfl)⟩, ?_, ?_, ?_, ?_⟩⟩
  · intro c hc
    rcases List.mem_cons.mp hc with rfl | hc
    · exact .mk (up (up (up (up (Heap.get?_push_size _ rfl))))) rfl rfl
    · rw [List.mem_singleton.mp hc]
      exact .mk (up (up (up (Heap.get?_push_size _ rfl)))) rfl rfl
  · rw [s4, s3, s2, s1]
    refine ⟨by omega, by omega, by omega, fun c hc => ?_⟩
    rcases List.mem_cons.mp hc with rfl | hc
    · exact Nat.le_refl _
    · rw [List.mem_singleton.mp hc]
      exact Nat.le_succ _
  · intro ha
    have h1 : @LT.lt Nat instLTNat a1 s.heap.objs.size := ha _ (List.mem_cons_self ..)
    have h2 : @LT.lt Nat instLTNat a2 s.heap.objs.size := ha _ (List.mem_cons_of_mem _ (List.mem_cons_self ..))
    rw [s4, s3, s2, s1]
    have two : ∀ {P : Src → Prop}, P ⟨s.heap.objs.size, a1, t1⟩ → P ⟨s.heap.objs.size + 1, a2, t2⟩ → ∀ c ∈ ([⟨s.heap.objs.size, a1, t1⟩, ⟨s.heap.objs.size + 1, a2, t2⟩] : List Src), P c := fun p q c hc => by
      rcases List.mem_cons.mp hc with rfl | hc
      · exact p
      · rw [List.mem_singleton.mp hc]; exact q
    refine ⟨neN (by omega), neN (by omega), neN (by omega), two ?_ ?_, two ?_ ?_, two ?_ ?_, ?nd, two ?_ ?_, two ?_ ?_, two (two ?_ ?_) (two ?_ ?_)⟩
    case nd => simp
    all_goals (dsimp only; exact neN (by omega))
  · exact fun b o e => up (up (up (up (up e))))
theorem call_zip3 {t1 t2 t3 : Bool} {a1 a2 a3 : Addr} {xs ys zs : Array Value} {Q : Value → Shared → Prop} (hl1 : Sq t1 a1 s.heap xs) (hl2 : Sq t2 a2 s.heap ys) (hl3 : Sq t3 a3 s.heap zs)
    (h : ∀ h' z TI TO i1 i2 i3, New s.heap h' [⟨i1, a1, t1⟩, ⟨i2, a2, t2⟩, ⟨i3, a3, t3⟩] z TI TO → Q (.ref z) { s with heap := h' }) : wpAny (model prog w) A (call (.type "zip") [.ref a1, .ref a2, .ref a3]) Q E s := by
  refine callType_new F.called_zip (by decide) (typeCall3 _ _ _) (newCall3 _ _ _) (fun obj => argsInit4 obj _ _ _) F.entry_zip_new (new3 t1 t2 t3 a1 a2 a3 xs ys zs) ⟨hl1, hl2, hl3, ?_⟩
  have s1 : (s.heap.push (itObj t1 a1)).objs.size = s.heap.objs.size + 1 := Heap.size_push ..
  have s2 : ((s.heap.push (itObj t1 a1)).push (itObj t2 a2)).objs.size = s.heap.objs.size + 2 := by rw [Heap.size_push, s1]
  have s3 : (((s.heap.push (itObj t1 a1)).push (itObj t2 a2)).push (itObj t3 a3)).objs.size = s.heap.objs.size + 3 := by rw [Heap.size_push, s2]
  have s4 : ((((s.heap.push (itObj t1 a1)).push (itObj t2 a2)).push (itObj t3 a3)).push (tupObj [.ref s.heap.objs.size, .ref (s.heap.push (itObj t1 a1)).objs.size, .ref ((s.heap.push (itObj t1 a1)).push (itObj t2 a2)).objs.size])).objs.size = s.heap.objs.size + 4 := by rw [Heap.size_push, s3]
  have s5 : (z3 s.heap t1 t2 t3 a1 a2 a3).objs.size = s.heap.objs.size + 5 := by rw [Heap.size_push, s4]
  have up : ∀ {o : Obj} {h0 : Heap} {b : Addr} {o' : Obj}, h0.get? b = some o' → (h0.push o).get? b = some o' := fun e => Heap.get?_push_of_some _ e
  refine ⟨⟨_, Heap.get?_push_size _ rfl, rfl⟩, h _ _ _ _ s.heap.objs.size (s.heap.push (itObj t1 a1)).objs.size ((s.heap.push (itObj t1 a1)).push (itObj t2 a2)).objs.size
    ⟨Heap.get?_push_size _ rfl, ⟨0, up (up (Heap.get?_push_size _ rfl))⟩, ⟨[.none, .none, .none], rfl, 0, up (Heap.get?_push_size _ rfl)⟩, ?_, ?_, ?_, ?_⟩⟩
  · intro c hc
    rcases List.mem_cons.mp hc with rfl | hc
    · exact .mk (up (up (up (up (up (Heap.get?_push_size _ rfl)))))) rfl rfl
    · rcases List.mem_cons.mp hc with rfl | hc
      · exact .mk (up (up (up (up (Heap.get?_push_size _ rfl))))) rfl rfl
      · rw [List.mem_singleton.mp hc]
        exact .mk (up (up (up (Heap.get?_push_size _ rfl)))) rfl rfl
  · rw [s5, s4, s3, s2, s1]
    refine ⟨by omega, by omega, by omega, fun c hc => ?_⟩
    rcases List.mem_cons.mp hc with rfl | hc
    · exact Nat.le_refl _
    · rcases List.mem_cons.mp hc with rfl | hc
      · exact Nat.le_succ _
      · rw [List.mem_singleton.mp hc]
        exact Nat.le_add_right _ _
  · intro ha
    have h1 : @LT.lt Nat instLTNat a1 s.heap.objs.size := ha _ (List.mem_cons_self ..)
    have h2 : @LT.lt Nat instLTNat a2 s.heap.objs.size := ha _ (List.mem_cons_of_mem _ (List.mem_cons_self ..))
    have h3 : @LT.lt Nat instLTNat a3 s.heap.objs.size := ha _ (List.mem_cons_of_mem _ (List.mem_cons_of_mem _ (List.mem_cons_self ..)))
    rw [s5, s4, s3, s2, s1]
    have three : ∀ {P : Src → Prop}, P ⟨s.heap.objs.size, a1, t1⟩ → P ⟨s.heap.objs.size + 1, a2, t2⟩ → P ⟨s.heap.objs.size + 2, a3, t3⟩ →
        ∀ c ∈ ([⟨s.heap.objs.size, a1, t1⟩, ⟨s.heap.objs.size + 1, a2, t2⟩, ⟨s.heap.objs.size + 2, a3, t3⟩] : List Src), P c := fun p q r c hc => by
      rcases List.mem_cons.mp hc with rfl | hc
      · exact p
      · rcases List.mem_cons.mp hc with rfl | hc
        · exact q
        · rw [List.mem_singleton.mp hc]; exact r
    refine ⟨neN (by omega), neN (by omega), neN (by omega), three ?_ ?_ ?_, three ?_ ?_ ?_, three ?_ ?_ ?_, ?nd, three ?_ ?_ ?_, three ?_ ?_ ?_, three (three ?_ ?_ ?_) (three ?_ ?_ ?_) (three ?_ ?_ ?_)⟩
    case nd => simp
    all_goals (dsimp only; exact neN (by omega))
  · exact fun b o e => up (up (up (up (up (up e)))))
end
end LZ

set_option linter.all false
set_option maxRecDepth 100000
/-! comprehensions over the hand layer -/
namespace L2
open PySem PySem.Spec PyProof.Rows

theorem closure_go (env : Env) : ∀ (names : List (Str × NameKind)) (acc : List (Str × Addr)), (∀ y ∈ names, y.2 = .free → ∃ c, env.cells.lookup y.1 = some c) →
    ∃ cl, (forIn names acc fun (x : Str × NameKind) (cs : List (Str × Addr)) => if (x.2 == NameKind.free) = true then (cellOf env x.1 >>= fun a => pure (ForInStep.yield ((x.1, a) :: cs))) else (pure (ForInStep.yield cs) : Sem (ForInStep (List (Str × Addr))))) = pure cl ∧
      (∀ x c, cl.lookup x = some c → env.cells.lookup x = some c ∨ acc.lookup x = some c) ∧ (∀ y ∈ names, y.2 = .free → ∃ c, cl.lookup y.1 = some c) ∧ (∀ x c, acc.lookup x = some c → ∃ c', cl.lookup x = some c')
  | [], acc, _ => ⟨acc, by rw [List.forIn_nil], fun x c h => .inr h, fun y hy => absurd hy (by simp), fun x c h => ⟨c, h⟩⟩
  | (n, k) :: r, acc, hf => by
    rw [List.forIn_cons]
    by_cases hk : k = .free
    · subst hk
      obtain ⟨c, hc⟩ := hf (n, .free) (List.mem_cons_self ..) rfl
      obtain ⟨cl, e, h1, h2, h3⟩ := closure_go env r ((n, c) :: acc) fun y hy => hf y (List.mem_cons_of_mem _ hy)
      have self : ∃ c', cl.lookup n = some c' := h3 n c (by simp [List.lookup])
      refine ⟨cl, ?_, fun x d hd => ?_, fun y hy hy2 => ?_, fun x d hd => ?_⟩
      · rw [← e]
        show (if (NameKind.free == NameKind.free) = true then _ else _) >>= _ = _
        have hcell : cellOf env n = pure c := by unfold cellOf; rw [show env.cells.lookup n = some c from hc]
        rw [if_pos (show (NameKind.free == NameKind.free) = true from by decide)]
        show (cellOf env n >>= _) >>= _ = _
        rw [hcell]
        rfl
      · rcases h1 x d hd with q | q
        · exact .inl q
        · rw [List.lookup_cons] at q
          by_cases hx : x = n
          · subst hx
            rw [show (x == x) = true from by simp] at q
            cases q
            exact .inl hc
          · rw [show (x == n) = false from by simpa using hx] at q
            exact .inr q
      · rcases List.mem_cons.mp hy with rfl | hy
        · exact self
        · exact h2 y hy hy2
      · by_cases hx : x = n
        · subst hx; exact self
        · exact h3 x d (by rw [List.lookup_cons, show (x == n) = false from by simpa using hx]; exact hd)
    · obtain ⟨cl, e, h1, h2, h3⟩ := closure_go env r acc fun y hy => hf y (List.mem_cons_of_mem _ hy)
      refine ⟨cl, ?_, h1, fun y hy hy2 => ?_, h3⟩
      · rw [← e]
        show (if (k == NameKind.free) = true then _ else _) >>= _ = _
        rw [if_neg (show ¬ ((k == NameKind.free) = true) from by simpa using hk)]
        rfl
      · rcases List.mem_cons.mp hy with rfl | hy
        · exact absurd hy2 hk
        · exact h2 y hy hy2
theorem closure_of {scope : Scope} {env : Env} (hf : ∀ y ∈ scope.names, y.2 = .free → ∃ c, env.cells.lookup y.1 = some c) :
    ∃ cl, closureFor scope env = pure cl ∧ (∀ x c, cl.lookup x = some c → env.cells.lookup x = some c) ∧ (∀ y ∈ scope.names, y.2 = .free → ∃ c, cl.lookup y.1 = some c) := by
  obtain ⟨cl, e, h1, h2, _⟩ := closure_go env scope.names [] hf
  refine ⟨cl, ?_, fun x c h => (h1 x c h).elim id fun q => by simp at q, h2⟩
  unfold closureFor
  show (forIn scope.names ([] : List (Str × Addr)) _) >>= _ = _
  rw [show (forIn scope.names ([] : List (Str × Addr)) _ : Sem (List (Str × Addr))) = pure cl from e]
  rfl

/-- a comprehension's block: its own names first (own of them), then the free ones, which stand in the slots fr of the frame -/
structure CompScope (fsc : Scope) (N N' : List Str) (own : Nat) (fr : List Nat) (scope : Scope) : Prop where
  kind : scope.kind = .function
  nocell : ∀ y ∈ scope.names, y.2 ≠ .cell
  names : ∀ y ∈ scope.names, y.2 = .local → scope.names.lookup y.1 = some .local
  frees : ∀ y ∈ scope.names, y.2 = .free → fsc.names.lookup y.1 = some .cell ∨ fsc.names.lookup y.1 = some .free
  len : N'.length = own + fr.length
  slots : ∀ p ∈ (N'.drop own).zip fr, scope.names.lookup p.1 = some .free ∧ N[p.2]? = some p.1
theorem CompScope.slot {fsc : Scope} {N N' : List Str} {own : Nat} {fr : List Nat} {scope : Scope} (S : CompScope fsc N N' own fr scope) (j : Nat) (x : Str) (h : N'[own + j]? = some x) : scope.names.lookup x = some .free ∧ ∃ i, fr[j]? = some i ∧ N[i]? = some x := by
  have hl := S.len
  have hj : own + j < N'.length := (List.getElem?_eq_some_iff.mp h).1
  have hjf : j < fr.length := by omega
  have hz : ((N'.drop own).zip fr)[j]? = some (x, fr[j]) := by
    rw [List.getElem?_zip_eq_some]
    exact ⟨by rw [List.getElem?_drop]; exact h, by simp [hjf]⟩
  obtain ⟨a, b⟩ := S.slots _ (List.mem_of_getElem? hz)
  exact ⟨a, fr[j], by simp [hjf], b⟩
/-- the block's names at its start -/
def compSt (own : Nat) (fr : List Nat) (σ : St) : St := List.replicate own none ++ fr.map fun i => (σ[i]?).join
/-- the context of a comprehension's block -/
def cxComp (X : Cx) (scope : Scope) (N' : List Str) (cl : List (Str × Addr)) (C : Addr) (s₀ : Shared) (H₀ : Hp) (ex : List Addr) : Cx :=
  { X with N := N', s₀ := s₀, H₀ := H₀, env := compEnvC scope cl C X.env, outer := X.stack, ex := ex, fn := fun _ => false, xe := fun _ _ => False }

theorem compLoop_any {prog : Program} {w : World} {A : Around} {R : Result → Shared → Prop} {s : Shared} {elt target iter : Expr} {scope : Scope} {pos : Pos} {it acc : Value} {env : Env} (I : Nat → Shared → Prop)
    (turn : ∀ n s, I n s → wpAny (model prog w) A (pyNext it) (fun r s₁ => match r with
      | none => R (.ok .next) s₁
      | some v => wpAny (model prog w) A (letOwnedTupleGo target it v) (fun _ s₁' => wpAny (model prog w) A (assign target env v) (fun _ s₂ => wpAny (model prog w) A (eval elt env) (fun x s₃ =>
          wpAny (model prog w) A (call (.builtin "list.append") [acc, x]) (fun _ s₄ => ∃ m, m < n ∧ I m s₄) (fun _ _ => False) s₃) (fun _ _ => False) s₂) (fun _ _ => False) s₁') (fun _ _ => False) s₁) (fun _ _ => False) s)
    (n : Nat) (h : I n s) : codeAny (model prog w) A (.compLoop (.ListComp elt [⟨target, iter, [], 0⟩] scope pos) 0 it acc env) R s := by
  have no : ∀ {E : Value → Shared → Prop} (e : Value) (s : Shared), False → E e s := fun _ _ z => z.elim
  refine codeAny_loop rfl I (fun n s hI => ?_) n h
  show wpAny _ _ ((compTurn (.ListComp elt [⟨target, iter, [], 0⟩] scope pos) 0 it acc env).onRaise (fun x => do noteFrame x env; theTreesLotGoes x)) _ _ s
  refine wpAny_noted ?_
  rw [compTurn_list1]
  refine wpAny_bind (wpAny_standAt (wpAny_bind (wpAny_mono (turn n s hI) (fun r s₁ h₁ => ?_) no)))
  cases r with
  | none => exact wpAny_pure h₁
  | some v =>
    refine wpAny_bind (wpAny_mono h₁ (fun _ s₁' h₁' => ?_) no)
    refine wpAny_bind (wpAny_mono h₁' (fun _ s₂ h₂ => wpAny_bind (wpAny_bind (wpAny_mono h₂ (fun x s₃ h₃ => wpAny_bind (wpAny_mono h₃ (fun _ s₄ h₄ => wpAny_pure (wpAny_pure ⟨rfl, h₄⟩)) no)) no))) no)

/-- the reading of a comprehension: W the invariant by the turn, a measure, the block's names and the heap -/
def tComp (wi : TI) (st : St → St) (g : TG) (te : TE) : TE := fun σ H Q => wi σ H fun J H1 => ∀ acc, H1 acc = none → ∃ W : Nat → Nat → St → Hp → Prop, (∃ m, W 0 m (st σ) (upd H1 acc (.lst []))) ∧
  ∀ i m σ H, W i m σ H → (J.stop i H ∧ Q (.ref acc) H) ∨ (J.go i H ∧ ∃ N : V → St → Hp → Prop, (∀ y σ' H', N y σ' H' → ∃ ys, H' acc = some (.lst ys) ∧ ys.length < sizeLine ∧ ∃ m', m' < m ∧ W (i + 1) m' σ' (upd H' acc (.lst (ys ++ [y])))) ∧ ∀ x H', J.yld i H x H' → g x σ H' fun σ2 H2 => te σ2 H2 fun y H3 => N y σ2 H3)

section
variable {X : Cx} {elt target iter : Expr} {scope : Scope} {pos : Pos} {N' : List Str} {own : Nat} {fr : List Nat} {wi : TI} {g : TG} {te : TE} {cl : List (Str × Addr)} {pins : List (Addr × Obj)} {σ : St} {H : Hp} {s : Shared}

theorem lookup_map_kind (f : Str → NameKind → NameKind) : ∀ (names : List (Str × NameKind)) (x : Str), (names.map fun y => (y.1, f y.1 y.2)).lookup x = (names.lookup x).map (f x)
  | [], _ => rfl
  | (n, k) :: r, x => by
    rw [List.map_cons, List.lookup_cons, List.lookup_cons, lookup_map_kind f r x]
    by_cases hx : x = n
    · subst hx; simp
    · rw [show (x == n) = false from by simpa using hx]
theorem relabel_lookup (scope : Scope) (env : Env) (x : Str) : (relabel scope env).names.lookup x = (scope.names.lookup x).map fun k => if (k == .free && env.scope.kind == .function && env.kindOf x == some .cell) = true then NameKind.cell else k := by
  have e : (relabel scope env).names = scope.names.map fun y => (y.1, if (y.2 == .free && env.scope.kind == .function && env.kindOf y.1 == some .cell) = true then NameKind.cell else y.2) := by
    unfold relabel
    refine List.map_congr_left fun y _ => ?_
    obtain ⟨n, k⟩ := y
    show (if _ then _ else _) = _
    by_cases hc : (k == .free && env.scope.kind == .function && env.kindOf n == some .cell) = true
    · rw [if_pos hc]
      show (n, NameKind.cell) = (n, if (k == .free && env.scope.kind == .function && env.kindOf n == some .cell) = true then NameKind.cell else k)
      rw [if_pos hc]
    · rw [if_neg hc]
      show (n, k) = (n, if (k == .free && env.scope.kind == .function && env.kindOf n == some .cell) = true then NameKind.cell else k)
      rw [if_neg hc]
  rw [e]
  exact lookup_map_kind (fun n k => if (k == .free && env.scope.kind == .function && env.kindOf n == some .cell) = true then NameKind.cell else k) scope.names x
theorem kind_free {C : Addr} {x : Str} (h : scope.names.lookup x = some .free) : (compEnvC scope cl C X.env).kindOf x = some .cell ∨ (compEnvC scope cl C X.env).kindOf x = some .free := by
  show (relabel scope X.env).names.lookup x = some .cell ∨ (relabel scope X.env).names.lookup x = some .free
  rw [relabel_lookup, h, Option.map_some]
  split
  · exact .inl rfl
  · exact .inr rfl
theorem free_kind {C : Addr} {x : Str} (S : CompScope X.env.scope X.N N' own fr scope) (h : (compEnvC scope cl C X.env).kindOf x = some .cell ∨ (compEnvC scope cl C X.env).kindOf x = some .free) : scope.names.lookup x = some .free := by
  have h' : (relabel scope X.env).names.lookup x = some .cell ∨ (relabel scope X.env).names.lookup x = some .free := h
  rw [relabel_lookup] at h'
  cases q : scope.names.lookup x with
  | none => rw [q] at h'; rcases h' with z | z <;> cases z
  | some k =>
    rw [q, Option.map_some] at h'
    have hk : k ≠ .cell := S.nocell (x, k) (PySem.mem_of_lookup q)
    by_cases hf : k = .free
    · rw [hf]
    · rw [if_neg (by simp [hf])] at h'
      rcases h' with z | z
      · exact absurd (Option.some.inj z) hk
      · exact absurd (Option.some.inj z) hf

/-- the block's context is well -/
theorem comp_ok {C : Addr} {fp : List Addr} (S : CompScope X.env.scope X.N N' own fr scope) (h1 : ∀ x c, cl.lookup x = some c → X.env.cells.lookup x = some c) (h2 : ∀ y ∈ scope.names, y.2 = .free → ∃ c, cl.lookup y.1 = some c)
    (I : Inv X pins σ H s) (hC : s.heap.objs.size ≤ C) (hf : ∀ b ∈ fp, FpOk X pins H b) (hlt : ∀ b ∈ fp, b < s.heap.objs.size) : (cxComp X scope N' cl C s H fp).Ok where
  mod := I.ok.mod
  kind := S.kind
  glob := I.ok.glob
  blt := I.ok.blt
  above := hC
  inj := fun x y c a b => I.ok.inj x y c (h1 x c a) (h1 y c b)
  has := fun x hx => h2 (x, .free) (PySem.mem_of_lookup (free_kind S hx)) rfl
  cab := fun x c h => absurd h (by show ¬ (false = true); decide)
  hd := I.ok.hd
  frames := I.ok.frames
  stk := .inl rfl
  exf := fun b hb => ⟨fun e => by
      have h3 := hlt b hb
      have e' : b = C := e
      subst e'
      exact absurd (Nat.lt_of_lt_of_le h3 hC) (Nat.lt_irrefl _), fun x c h => (hf b hb).2.2.2.2.1 x c (h1 x c h)⟩
  bs := I.bs
  bsz := Nat.le_trans I.ok.bsz I.sz
  noex := fun b o e hb => by
    obtain ⟨_, _, _, h3, _⟩ := hf b hb
    rcases h3 with z | z
    · exact I.ok.noex b o e z
    · exact absurd (Nat.lt_of_lt_of_le (Heap.lt_size e) (Nat.le_trans I.ok.bsz z)) (Nat.lt_irrefl _)
  exfs := fun b hb hz => by
    obtain ⟨_, h3, h4, _⟩ := hf b hb
    exact (List.mem_cons.mp (I.stkSub b hz)).elim h3 h4
  funs := I.stack
  frf := I.stkFree

theorem comp_look {C : Addr} {h' : Heap} {m' : Str → Option Value} (S : CompScope X.env.scope X.N N' own fr scope) (h1 : ∀ x c, cl.lookup x = some c → X.env.cells.lookup x = some c) (h2 : ∀ y ∈ scope.names, y.2 = .free → ∃ c, cl.lookup y.1 = some c)
    (I : Inv X pins σ H s) (kc : ∀ x c v, X.env.cells.lookup x = some c → s.heap.IsCell c v → h'.IsCell c v) :
    ∀ (i : Nat) (x : Str) (v : V), N'[i]? = some x → (compSt own fr σ)[i]? = some (some v) → ∃ u, RelV v u ∧ Look (compEnvC scope cl C X.env) h' m' x u := by
  intro i x v e1 e2
  unfold compSt at e2
  by_cases hi : i < own
  · rw [List.getElem?_append_left (by simpa using hi), List.getElem?_replicate, if_pos hi] at e2
    cases e2
  · rw [List.getElem?_append_right (by simpa using hi), List.length_replicate, List.getElem?_map] at e2
    obtain ⟨j, rfl⟩ : ∃ j, i = own + j := ⟨i - own, by omega⟩
    rw [Nat.add_sub_cancel_left] at e2
    obtain ⟨hfx, k, hk, hN⟩ := S.slot j x e1
    rw [hk, Option.map_some] at e2
    have e3 : σ[k]? = some (some v) := by
      cases q : σ[k]? with
      | none => rw [q] at e2; cases e2
      | some w => rw [q] at e2; simpa using e2
    have hkind := S.frees (x, .free) (PySem.mem_of_lookup hfx) rfl
    obtain ⟨m, hn, hl⟩ := I.loc
    obtain ⟨u, r, l⟩ := hl k x v hN e3 (hkind.elim (fun z => .inr (.inl z)) fun z => .inr (.inr z))
    refine ⟨u, r, .inr ⟨kind_free hfx, ?_⟩⟩
    obtain ⟨c, hc⟩ := h2 (x, .free) (PySem.mem_of_lookup hfx) rfl
    have hc' := h1 x c hc
    rcases l with ⟨q, _⟩ | ⟨_, c', hc2, z⟩
    · have q' : X.env.scope.names.lookup x = some .local := q
      rcases hkind with z | z
      · have z' : X.env.scope.names.lookup x = some .cell := z
        rw [q'] at z'; cases z'
      · have z' : X.env.scope.names.lookup x = some .free := z
        rw [q'] at z'; cases z'
    · rw [hc'] at hc2
      cases hc2
      exact ⟨c, hc, kc x c _ hc' z⟩

theorem comp_core {J : It} {fp : List Addr} {it : Addr} {tn : Nat → Heap → Prop} {H1 : Hp} {s2 : Shared} {Q' : V → Hp → Prop} {E : Value → Shared → Prop} {RR : Value → Addr → Result → Shared → Prop}
    (S : CompScope X.env.scope X.N N' own fr scope) (h1 : ∀ x c, cl.lookup x = some c → X.env.cells.lookup x = some c) (h2 : ∀ y ∈ scope.names, y.2 = .free → ∃ c, cl.lookup y.1 = some c) (hc : X.calm = true)
    (hg : ∀ C s₀ H₀ ex, PG (cxComp X scope N' cl C s₀ H₀ ex) target g) (he : ∀ C s₀ H₀ ex, PE (cxComp X scope N' cl C s₀ H₀ ex) elt te)
    (I2 : Inv X pins σ H1 s2) (T : Turn X.prog X.w X.K target J fp it tn) (st : tn 0 s2.heap) (f2 : ∀ b ∈ fp, FpOk X pins H1 b)
    (h : ∀ acc, H1 acc = none → ∃ W : Nat → Nat → St → Hp → Prop, (∃ m, W 0 m (compSt own fr σ) (upd H1 acc (.lst []))) ∧
      ∀ i m σ H, W i m σ H → (J.stop i H ∧ Q' (.ref acc) H) ∨ (J.go i H ∧ ∃ N : V → St → Hp → Prop, (∀ y σ' H', N y σ' H' → ∃ ys, H' acc = some (.lst ys) ∧ ys.length < sizeLine ∧ ∃ m', m' < m ∧ W (i + 1) m' σ' (upd H' acc (.lst (ys ++ [y])))) ∧ ∀ x H', J.yld i H x H' → g x σ H' fun σ2 H2 => te σ2 H2 fun y H3 => N y σ2 H3))
    (hRR : ∀ acc C H' s' m, Inv X pins σ H' s' → s'.heap.Ns C m → FpOk X pins H' C → Q' (.ref acc) H' → RR (.ref acc) C (.ok .next) s') :
    wpAny (model X.prog X.w) X.A (newList []) (fun acc s₃ => wpAny (model X.prog X.w) X.A (newFunctionEnv scope X.env.globals cl [] X.env.qual none .none (some X.env)) (fun cenv s₄ =>
      codeAny (model X.prog X.w) X.A (.compStart (.ListComp elt [⟨target, iter, [], 0⟩] scope pos) 0 (.ref it) acc { cenv with scope := relabel scope X.env }) (RR acc cenv.locals) s₄) E s₃) E s2 := by
  refine wpAny_newObj_type (wpAny_newFunctionEnv S.nocell (by intro y hy; simp at hy) (fun h₁ hns₁ hsb₁ => ?_) S.kind)
  dsimp only at hns₁ hsb₁ ⊢
  generalize hH2 : s2.heap.push { cls := .type "list", dict := none, data := .seq ([] : List Value).toArray } = H2 at hns₁ hsb₁ ⊢
  have hC : H2.objs.size = s2.heap.objs.size + 1 := by rw [← hH2, Heap.size_push]
  have hCs : s2.heap.objs.size ≤ H2.objs.size := by rw [hC]; exact Nat.le_succ _
  have hDC : s2.heap.objs.size ≠ H2.objs.size := by rw [hC]; exact Nat.ne_of_lt (Nat.lt_succ_self _)
  have below : ∀ b, b < s2.heap.objs.size → b ≠ H2.objs.size := fun b hb => by rw [hC]; exact Nat.ne_of_lt (Nat.lt_succ_of_lt hb)
  have old : ∀ b o, s2.heap.get? b = some o → h₁.get? b = some o := fun b o e => hsb₁.extBut b o (below b (Heap.lt_size e)) (Heap.get?_push_of_some _ (hH2 ▸ Heap.get?_push_of_some _ e))
  have hacc : h₁.get? s2.heap.objs.size = some { cls := .type "list", dict := none, data := .seq ([] : List Value).toArray } := hsb₁.extBut _ _ hDC (Heap.get?_push_of_some _ (hH2 ▸ Heap.get?_push_size _ rfl))
  have fpl : ∀ b ∈ fp, b < s2.heap.objs.size := fun b hb => let ⟨_, e, _⟩ := T.obj 0 _ st b hb; Heap.lt_size e
  have hn0 : H1 s2.heap.objs.size = none := I2.hok.fresh (Nat.le_refl _)
  have hnC : H1 H2.objs.size = none := I2.hok.fresh hCs
  obtain ⟨W, ⟨m0, w0⟩, turn⟩ := h s2.heap.objs.size hn0
  have okX := comp_ok (C := H2.objs.size) (fp := fp) S h1 h2 I2 hCs f2 fpl
  have I3 : Inv (cxComp X scope N' cl H2.objs.size s2 H1 fp) pins (compSt own fr σ) (upd H1 s2.heap.objs.size (.lst [])) { s2 with heap := h₁, toks := s2.toks + ([] : List (Str × Value)).length } := by
    refine ⟨okX, rfl, I2.bare, Un.laid old (Nat.le_refl _) hn0, ⟨_, hns₁, fun i x v e1 e2 _ => comp_look S h1 h2 I2 (fun x c v _ z => ?_) i x v e1 e2⟩, fun x c e => ?_, ?_, fun x c e => ?_, fun p hp => ?_, I2.hok.laid old (Nat.le_refl _) ?_, ?_⟩
    · obtain ⟨o, eo, d⟩ := z
      exact ⟨o, old c o eo, d⟩
    · obtain ⟨v, o, eo, d⟩ := I2.cell x c (h1 x c e)
      exact ⟨v, o, old c o eo, d⟩
    · show upd H1 s2.heap.objs.size (.lst []) H2.objs.size = none
      rw [upd_ne (Ne.symm hDC)]
      exact hnC
    · obtain ⟨v, o, eo, d⟩ := I2.cell x c (h1 x c e)
      rw [upd_ne (Nat.ne_of_lt (Heap.lt_size eo))]
      exact I2.freeC x c (h1 x c e)
    · obtain ⟨p1, p2, p3, p4, p5⟩ := I2.pin p hp
      refine ⟨old _ _ p1, ?_, below _ (Heap.lt_size p1), fun z => (List.mem_cons.mp (I2.stkSub _ z)).elim p3 p4, p5⟩
      rw [upd_ne (Nat.ne_of_lt (Heap.lt_size p1))]
      exact p2
    · exact ⟨Nat.zero_le _, [], _, .nil, hacc⟩
    · show (compSt own fr σ).length = N'.length
      rw [S.len]
      simp [compSt]
  have stat : ∀ {H' : Hp}, (∀ b ∈ fp, H' b = none) → ∀ b ∈ fp, FpOk (cxComp X scope N' cl H2.objs.size s2 H1 fp) pins H' b := fun hn b hb => by
    obtain ⟨_, g1, g2, g3, g4, g5⟩ := f2 b hb
    exact ⟨hn b hb, below b (fpl b hb), fun z => (List.mem_cons.mp (I2.stkSub _ z)).elim g1 g2, .inl hb, fun x c e => g4 x c (h1 x c e), g5⟩
  have fp0 : ∀ b ∈ fp, upd H1 s2.heap.objs.size (.lst []) b = none := fun b hb => by
    rw [upd_ne (Nat.ne_of_lt (fpl b hb))]
    exact (f2 b hb).1
  have st0 : tn 0 h₁ := T.keep _ _ _ st fun b _ o e => old b o e
  -- from the block back to the frame
  have back : ∀ {σ' : St} {H' : Hp} {s' : Shared}, Inv (cxComp X scope N' cl H2.objs.size s2 H1 fp) pins σ' H' s' → Inv X pins σ H' s' := fun {σ' H' s'} J =>
    I2.call' (ch := fp) J.os J.base J.hok J.bare fun b hb => by
      obtain ⟨_, g1, _, g3, g4, g5⟩ := f2 b hb
      exact ⟨g3, g1, g4, g5⟩
  have loop : ∀ s₃ : Shared, s₃ = { s2 with heap := h₁, toks := s2.toks + ([] : List (Str × Value)).length } →
      codeAny (model X.prog X.w) X.A (.compLoop (.ListComp elt [⟨target, iter, [], 0⟩] scope pos) 0 (.ref it) (.ref s2.heap.objs.size) (compEnvC scope cl H2.objs.size X.env)) (RR (.ref s2.heap.objs.size) H2.objs.size) s₃ := by
    rintro s₃ rfl
    refine compLoop_any (fun n s' => ∃ i σ' H', Inv (cxComp X scope N' cl H2.objs.size s2 H1 fp) pins σ' H' s' ∧ tn i s'.heap ∧ (∀ b ∈ fp, H' b = none) ∧ W i n σ' H') ?_ m0 ⟨0, _, _, I3, st0, fp0, w0⟩
    rintro n s3 ⟨i, σ3, H3, J3, st3, fr3, w3⟩
    rcases turn i n σ3 H3 w3 with ⟨stop, qn⟩ | ⟨go, N, hN, step⟩
    · refine thn (T.done (cxComp X scope N' cl H2.objs.size s2 H1 fp) rfl rfl rfl hc i pins s3 σ3 H3 _ J3 (stat fr3) st3 stop) fun r s4 ⟨hr, J4⟩ => ?_
      subst hr
      obtain ⟨m, hm, _⟩ := J4.loc
      exact hRR _ _ H3 s4 m (back J4) hm (I2.fpOk hCs J4.free) qn
    · refine thn (T.item (cxComp X scope N' cl H2.objs.size s2 H1 fp) rfl rfl rfl hc i pins s3 σ3 H3 _ J3 (stat fr3) st3 go) fun r s4 ⟨u, hr, h4⟩ => ?_
      subst hr
      refine thn h4 fun _ s5 ⟨x, H5, J5, r5, y5, st5, fr5⟩ => ?_
      have J5' := J5.pinned (stat fr5) (T.obj _ _ st5)
      refine thn (hg _ _ _ _ _ s5 σ3 H5 x u _ J5' r5 (step x H5 y5)) fun _ s6 ⟨σ6, H6, J6, q6⟩ => ?_
      refine thn (he _ _ _ _ _ s6 σ6 H6 _ J6 q6) fun v s7 ⟨y, H7, J7, r7, n7⟩ => ?_
      obtain ⟨ys, a7, l7, m', hm, w7⟩ := hN y σ6 H7 n7
      refine thn (mt_append (X := cxComp X scope N' cl H2.objs.size s2 H1 fp) _ s7 σ6 H7 (.ref s2.heap.objs.size) [y] (.ref s2.heap.objs.size) [v] (fun z H8 => z = .non ∧ H8 = upd H7 s2.heap.objs.size (.lst (ys ++ [y]))) J7 rfl (.cons r7 .nil) ⟨_, ys, y, rfl, rfl, a7, l7, rfl, rfl⟩) fun z s8 ⟨z8, H8, J8, _, _, e8⟩ => ?_
      subst e8
      refine ⟨m', hm, i + 1, σ6, _, J8.unpinned, T.keep _ _ _ st5 fun b hb o e => (J8.pin (b, o) (List.mem_append_right _ (List.mem_append_right _ (mem_pinsAt hb e)))).1, fun b hb => ?_, w7⟩
      obtain ⟨o, e, d⟩ := T.obj _ _ st5 b hb
      exact (J8.pin (b, o) (List.mem_append_right _ (List.mem_append_right _ (mem_pinsAt hb e)))).2.1
  exact codeAny_compStart_list (loop _ rfl) (T.self _ 0 _ _ _ st0 (loop _ rfl))
end

section
variable {X : Cx} {elt target iter : Expr} {scope : Scope} {pos : Pos} {N' : List Str} {own : Nat} {fr : List Nat} {wi : TI} {g : TG} {te : TE}
/-- [elt for target in iter] -/
theorem pe_comp {fsc : Scope} {N : List Str} (S0 : CompScope fsc N N' own fr scope) (hc : X.calm = true) (hi : PI X target iter wi) (hg : ∀ cl C s₀ H₀ ex, PG (cxComp X scope N' cl C s₀ H₀ ex) target g) (he : ∀ cl C s₀ H₀ ex, PE (cxComp X scope N' cl C s₀ H₀ ex) elt te)
    (hs : ∀ x, foldedSetIterable iter X.env x = pure x := by intro _; rfl) (hfs : X.env.scope = fsc := by rfl) (hNN : X.N = N := by rfl) : PE X (.ListComp elt [⟨target, iter, [], 0⟩] scope pos) (tComp wi (compSt own fr) g te) := by
  have S : CompScope X.env.scope X.N N' own fr scope := by rw [hfs, hNN]; exact S0
  intro pins s σ H Q I h
  obtain ⟨cl, hcl, h1, h2⟩ := closure_of (scope := scope) (env := X.env) fun y hy hf => I.ok.has y.1 (S.frees y hy hf)
  rw [eval_ListComp]
  refine wpAny_comprehension_free (use := none) rfl hs hcl S.kind S.names (thn (hi pins s σ H _ I h) fun v s1 q1 => thn q1 fun itv s2 q2 => ?_)
  obtain ⟨it, fp, tn, J, H2, e, I2, T, st2, f2, hr⟩ := q2
  subst e
  refine comp_core (Q' := Q) (RR := fun acc C => compPost (model X.prog X.w) X.A X.xe none (EP X pins σ Q) acc C) S h1 h2 hc (hg cl) (he cl) I2 T st2 f2 hr fun acc C H' s' m J' hm fo q => ?_
  refine ⟨m, hm, fun h' sb => ?_⟩
  obtain ⟨f0, g1, g2, g3, g4, g5⟩ := fo
  exact ⟨.ref acc, H', J'.turned (t' := s'.toks) (fun b o hb e => sb.extBut b o hb e) f0 g1 g3 g4 g5, rfl, q⟩
/-- y = [elt for target in iter], the two stores exchanged -/
theorem ps_comp {fsc : Scope} {N : List Str} {i : Nat} {y : Str} {py spos : Pos} (S0 : CompScope fsc N N' own fr scope) (hc : X.calm = true) (hi : PI X target iter wi) (hg : ∀ cl C s₀ H₀ ex, PG (cxComp X scope N' cl C s₀ H₀ ex) target g) (he : ∀ cl C s₀ H₀ ex, PE (cxComp X scope N' cl C s₀ H₀ ex) elt te)
    (hN : X.N.Nodup) (hy : X.N[i]? = some y) (hl : X.env.scope.names.lookup y = some .local)
    (hsw : swapsWith (.ListComp elt [⟨target, iter, [], 0⟩] scope pos) (some (.Name y py)) spos.line X.env = pure true := by rfl)
    (hs : ∀ x, foldedSetIterable iter X.env x = pure x := by intro _; rfl) (hfs : X.env.scope = fsc := by rfl) (hNN : X.N = N := by rfl) : PS X (.Assign [.Name y py] (.ListComp elt [⟨target, iter, [], 0⟩] scope pos) spos) (tAsg (tComp wi (compSt own fr) g te) (gName i)) := by
  have S : CompScope X.env.scope X.N N' own fr scope := by rw [hfs, hNN]; exact S0
  intro pins s σ H D I h
  obtain ⟨cl, hcl, h1, h2⟩ := closure_of (scope := scope) (env := X.env) fun y hy hf => I.ok.has y.1 (S.frees y hy hf)
  rw [exec_Assign_Name_used _ _ _ _ hsw]
  refine wpAny_bind (wpAny_standAt (wpAny_bind ?_))
  show wpAny _ _ (do let _ ← comprehension (.ListComp elt [⟨target, iter, [], 0⟩] scope pos) scope X.env _ (newList []) false (eval iter X.env) (some (assign (.Name y py) X.env))) _ _ s
  refine wpAny_bind (wpAny_mono (wpAny_comprehension_free (use := some (assign (.Name y py) X.env)) (Q := fun _ s' => SP X pins D .next s') rfl hs hcl S.kind S.names
    (thn (hi pins s σ H _ I h) fun v s1 q1 => thn q1 fun itv s2 q2 => ?_)) (fun _ s' hq => wpAny_pure (wpAny_pure hq)) fun _ _ e => e)
  obtain ⟨it, fp, tn, J, H2, e, I2, T, st2, f2, hr⟩ := q2
  subst e
  refine comp_core (Q' := fun x H1 => gName i x σ H1 D.nx) (RR := fun acc C => compPost (model X.prog X.w) X.A X.xe (some (assign (.Name y py) X.env)) (fun _ s' => SP X pins D .next s') acc C) S h1 h2 hc (hg cl) (he cl) I2 T st2 f2 hr fun acc C H' s' m J' hm fo q => ?_
  show wpAny _ _ (assign (.Name y py) X.env (.ref acc)) _ _ _
  obtain ⟨f0, g1, g2, g3, g4, g5⟩ := fo
  refine wpAny_assign_Name (store_ok2 J' hN hy (.inl hl) (v := .ref acc) rfl (fun s'' J'' sb => ?_) (.inr hl))
  obtain ⟨a, sb, ha⟩ := sb
  have hCa : C ≠ a := by
    rcases ha with z | z
    · rw [z]; exact g1
    · exact Ne.symm (g4 _ _ z)
  refine ⟨m, hm.sameBut sb hCa, fun h' sb' => ?_⟩
  exact ⟨_, H', J''.turned (t' := s''.toks) (fun b o hb e => sb'.extBut b o hb e) f0 g1 g3 g4 g5, q⟩
end
/-- the usual form: n turns; Pv by the turn, the items so far, the block's names, the heap -/
theorem comp_by {J : It} {acc : Addr} {g : TG} {te : TE} {σ0 : St} {H1 : Hp} {Q : Hp → Prop} (n : Nat) (hn : n ≤ sizeLine) (Pv : Nat → List V → St → Hp → Prop) (h0 : Pv 0 [] σ0 (upd H1 acc (.lst [])))
    (ha : ∀ i ys σ H, Pv i ys σ H → ys.length = i) (hgo : ∀ i ys σ H, i < n → Pv i ys σ H → J.go i H) (hstop : ∀ ys σ H, Pv n ys σ H → J.stop n H)
    (hs : ∀ i ys σ H x H', i < n → Pv i ys σ H → J.yld i H x H' → g x σ H' fun σ2 H2 => te σ2 H2 fun y H3 => H3 acc = some (.lst ys) ∧ Pv (i + 1) (ys ++ [y]) σ2 (upd H3 acc (.lst (ys ++ [y]))))
    (hd : ∀ ys σ H, Pv n ys σ H → Q H) :
    ∃ W : Nat → Nat → St → Hp → Prop, (∃ m, W 0 m σ0 (upd H1 acc (.lst []))) ∧ ∀ i m σ H, W i m σ H → (J.stop i H ∧ Q H) ∨
      (J.go i H ∧ ∃ N : V → St → Hp → Prop, (∀ y σ' H', N y σ' H' → ∃ ys, H' acc = some (.lst ys) ∧ ys.length < sizeLine ∧ ∃ m', m' < m ∧ W (i + 1) m' σ' (upd H' acc (.lst (ys ++ [y])))) ∧
        ∀ x H', J.yld i H x H' → g x σ H' fun σ2 H2 => te σ2 H2 fun y H3 => N y σ2 H3) := by
  refine ⟨fun i m σ H => m = n - i ∧ i ≤ n ∧ ∃ ys, Pv i ys σ H, ⟨n, rfl, Nat.zero_le _, [], h0⟩, ?_⟩
  rintro i m σ H ⟨rfl, hi, ys, p⟩
  by_cases hlt : i < n
  · refine .inr ⟨hgo i ys σ H hlt p, fun y σ2 H3 => H3 acc = some (.lst ys) ∧ Pv (i + 1) (ys ++ [y]) σ2 (upd H3 acc (.lst (ys ++ [y]))), fun y σ' H' ⟨e, q⟩ => ⟨ys, e, ?_, n - (i + 1), by omega, rfl, hlt, _, q⟩, fun x H' y => hs i ys σ H x H' hlt p y⟩
    rw [ha i ys σ H p]
    omega
  · have e : i = n := by omega
    subst e
    exact .inl ⟨hstop ys σ H p, hd ys σ H p⟩
end L2

set_option linter.all false
set_option maxRecDepth 100000
/-! zip and enumerate over the hand layer -/
namespace L2
open PySem PySem.Spec PyProof.Rows
section
variable {X : Cx} {pins : List (Addr × Obj)} {σ : St} {H : Hp} {s : Shared} {h' : Heap}
/-- several untracked records of ours have turned, and a new object is tracked -/
theorem Inv.turnedLay {t' : Nat} {ch : List Addr} {T : Addr} {o : HO} (I : Inv X pins σ H s) (k : ∀ b ob, b ∉ ch → s.heap.get? b = some ob → h'.get? b = some ob) (hch : ∀ b ∈ ch, FpOk X pins H b)
    (hT : s.heap.objs.size ≤ T) (new : ObjOk X.prog X.w (upd H T o) h' T o) : Inv X pins σ (upd H T o) { s with heap := h', toks := t' } := by
  have hn : H T = none := I.hok.fresh hT
  have nit : ∀ b u, H b = some u → b ∉ ch := fun b u e z => by rw [(hch b z).1] at e; cases e
  refine I.step (g' := s.gens) (d' := s.drawn) (ch := ch) (fun b hb => ?_) (fun b ob _ _ hc e _ => k b ob hc e) (fun b ob _ _ hc e _ => ⟨ob.slots, k b ob hc e⟩) (fun b ob hc e n => ?_)
    (fun b ob hc e => ⟨ob, k b ob hc e⟩) (fun b xs e => by rw [upd_ne (ne_of_none e hn)]; exact e) (fun b ob u e => by rw [upd_ne (ne_of_none e hn)]; exact e) (fun b ps e => ⟨#[], by rw [upd_ne (ne_of_none e hn), e]; simp⟩) (fun m hm => ?_) (fun b u e => ?_) I.bare
  · obtain ⟨_, g1, _, g3, g4, g5⟩ := hch b hb
    exact ⟨g3, g1, g4, g5⟩
  · rw [upd_ne (Nat.ne_of_lt (Nat.lt_of_lt_of_le (Heap.lt_size e) hT))]
    exact n
  · obtain ⟨ob, es, ep, ho, r⟩ := hm
    exact ⟨ob, es, ep, k _ ob (fun z => (hch _ z).2.1 rfl) ho, r⟩
  · by_cases hb : b = T
    · subst hb
      rw [upd_same] at e
      cases e
      exact new
    · rw [upd_ne hb] at e
      refine (I.hok b u e).stay (fun c v hc q => k c v ?_ q) (fun c q => by rw [upd_ne (ne_of_none q hn)]; exact q) fun c xs q => by rw [upd_ne (ne_of_none q hn)]; exact q
      rcases hc with z | z
      · rw [z]; exact nit b u e
      · exact nit c _ z
theorem Inv.turnedMany {t' : Nat} {ch : List Addr} (I : Inv X pins σ H s) (k : ∀ b ob, b ∉ ch → s.heap.get? b = some ob → h'.get? b = some ob) (hch : ∀ b ∈ ch, FpOk X pins H b) : Inv X pins σ H { s with heap := h', toks := t' } := by
  have nit : ∀ b u, H b = some u → b ∉ ch := fun b u e z => by rw [(hch b z).1] at e; cases e
  refine I.step (g' := s.gens) (d' := s.drawn) (ch := ch) (fun b hb => ?_) (fun b ob _ _ hc e _ => k b ob hc e) (fun b ob _ _ hc e _ => ⟨ob.slots, k b ob hc e⟩) (fun b ob hc e n => n)
    (fun b ob hc e => ⟨ob, k b ob hc e⟩) (fun b xs e => e) (fun b ob u e => e) (fun b ps e => ⟨#[], by rw [e]; simp⟩) (fun m hm => ?_) (fun b u e => ?_) I.bare
  · obtain ⟨_, g1, _, g3, g4, g5⟩ := hch b hb
    exact ⟨g3, g1, g4, g5⟩
  · obtain ⟨ob, es, ep, ho, r⟩ := hm
    exact ⟨ob, es, ep, k _ ob (fun z => (hch _ z).2.1 rfl) ho, r⟩
  · refine (I.hok b u e).stay (fun c v hc q => k c v ?_ q) (fun _ q => q) fun _ _ q => q
    rcases hc with z | z
    · rw [z]; exact nit b u e
    · exact nit c _ z
end

/-! ### zip -/
/-- a list (false) or a tuple (true) that is read -/
def SqB (K : PySem.W.Frag) (H : Hp) (c : Addr × Bool) (xs : List V) : Prop := if c.2 = true then SqT K H c.1 xs else SqL K H c.1 xs
theorem SqB.l {K : PySem.W.Frag} {H : Hp} {a : Addr} {xs : List V} (h : SqL K H a xs) : SqB K H (a, false) xs := by unfold SqB; rw [if_neg (show ¬ ((false : Bool) = true) from Bool.false_ne_true)]; exact h
theorem SqB.t {K : PySem.W.Frag} {H : Hp} {a : Addr} {xs : List V} (h : SqT K H a xs) : SqB K H (a, true) xs := by unfold SqB; rw [if_pos rfl]; exact h
theorem Inv.sqB {X : Cx} {pins : List (Addr × Obj)} {σ : St} {H : Hp} {s : Shared} {c : Addr × Bool} {xs : List V} (I : Inv X pins σ H s) (h : SqB X.K H c xs) : ∃ its : List Value, Vals xs its ∧ LZ.Sq c.2 c.1 s.heap its.toArray ∧ c.1 < s.heap.objs.size := by
  unfold SqB at h
  unfold LZ.Sq
  split at h
  · rename_i ht
    obtain ⟨its, r, p, _⟩ := I.tuple h
    exact ⟨its, r, by rw [if_pos ht]; exact p, p.lt⟩
  · rename_i ht
    obtain ⟨its, r, p, _⟩ := I.list h
    refine ⟨its, r, by rw [if_neg ht]; exact p.isList, ?_⟩
    obtain ⟨o, n, e, _⟩ := p
    exact Heap.lt_size e
/-- the sources with their lists and the items at hand -/
abbrev ZRow := List ((Addr × Bool) × List V × V)
def ZOk (K : PySem.W.Frag) (H : Hp) (i : Nat) (ps : ZRow) : Prop := ∀ p ∈ ps, SqB K H p.1 p.2.1 ∧ p.2.1[i]? = some p.2.2
def Itz (K : PySem.W.Frag) (cs : List (Addr × Bool)) : It :=
  ⟨fun i H => ∃ ps : ZRow, ps.map (·.1) = cs ∧ ZOk K H i ps,
   fun i H x H' => ∃ T vs, x = .ref T ∧ H T = none ∧ H' = upd H T (.tup vs) ∧ ∀ ps : ZRow, ps.map (·.1) = cs → ZOk K H i ps → vs = ps.map (·.2.2),
   fun i H => ∃ (ps : ZRow) (c : Addr × Bool) (xs : List V) (rest : List (Addr × Bool)), cs = ps.map (·.1) ++ c :: rest ∧ ZOk K H i ps ∧ SqB K H c xs ∧ xs.length ≤ i⟩
/-- the zip's state at turn i -/
structure ZSt (z TI TO : Addr) (srcs : List LZ.Src) (i : Nat) (h : Heap) : Prop where
  zz : IsZip h z TI TO .none
  ti : LZ.TIAt h TI srcs
  to : ∃ ys : List Value, ys.length = srcs.length ∧ LZ.TOAt h TO ys
  at' : ∀ c ∈ srcs, c.At h i
def zFp (z TI TO : Addr) (srcs : List LZ.Src) : List Addr := z :: TI :: TO :: srcs.map LZ.Src.it
theorem zrow {X : Cx} {pins : List (Addr × Obj)} {σ : St} {H : Hp} {s : Shared} {i : Nat} (I : Inv X pins σ H s) : ∀ (srcs : List LZ.Src) (ps : ZRow), srcs.map (fun c => (c.a, c.tup)) = ps.map (·.1) → ZOk X.K H i ps →
    ∃ pv : List (LZ.Src × Value), pv.map (·.1) = srcs ∧ Vals (ps.map (·.2.2)) (pv.map (·.2)) ∧ ∀ q ∈ pv, ∃ items, LZ.Sq q.1.tup q.1.a s.heap items ∧ items[i]? = some q.2
  | [], [], _, _ => ⟨[], rfl, .nil, fun q hq => absurd hq (by simp)⟩
  | [], _ :: _, h, _ => by simp at h
  | _ :: _, [], h, _ => by simp at h
  | c :: srcs, p :: ps, h, hz => by
    simp only [List.map_cons, List.cons.injEq] at h
    obtain ⟨pv, e1, e2, e3⟩ := zrow I srcs ps h.2 fun q hq => hz q (List.mem_cons_of_mem _ hq)
    obtain ⟨h1, h2⟩ := hz p (List.mem_cons_self ..)
    obtain ⟨its, r, sq, _⟩ := I.sqB h1
    obtain ⟨u, hu, ru⟩ := r.get h2
    rw [← h.1] at sq
    refine ⟨(c, u) :: pv, by rw [List.map_cons, e1], ?_, fun q hq => ?_⟩
    · rw [List.map_cons, List.map_cons]
      exact .cons ru e2
    · rcases List.mem_cons.mp hq with rfl | hq
      · exact ⟨its.toArray, sq, by simpa using hu⟩
      · exact e3 q hq
theorem turn_zip {P : Program} {w : World} {K : PySem.W.Frag} {es : List Expr} {k : Nat} {pos : Pos} {z TI TO : Addr} {srcs : List LZ.Src} (D : LZ.Apart z TI TO srcs) (hne : srcs ≠ []) (hsz : srcs.length ≤ 1000) :
    Turn P w K (.Tuple es k pos) (Itz K (srcs.map fun c => (c.a, c.tup))) (zFp z TI TO srcs) z (ZSt z TI TO srcs) where
  mem := List.mem_cons_self ..
  obj := fun i h st b hb => by
    rcases List.mem_cons.mp hb with rfl | hb
    · exact ⟨_, st.zz, fun v q => by cases q⟩
    · rcases List.mem_cons.mp hb with rfl | hb
      · obtain ⟨n, e⟩ := st.ti
        exact ⟨_, e, fun v q => by cases q⟩
      · rcases List.mem_cons.mp hb with rfl | hb
        · obtain ⟨ys, _, n, e⟩ := st.to
          exact ⟨_, e, fun v q => by cases q⟩
        · obtain ⟨c, hc, rfl⟩ := List.mem_map.mp hb
          obtain ⟨o, e, _, d⟩ := (st.at' c hc).obj
          exact ⟨o, e, fun v q => by rw [d] at q; cases q⟩
  keep := fun i h h' st kk => by
    refine ⟨kk z (List.mem_cons_self ..) _ st.zz, ?_, ?_, fun c hc => (st.at' c hc).keep fun o e => kk _ (List.mem_cons_of_mem _ (List.mem_cons_of_mem _ (List.mem_cons_of_mem _ (List.mem_map.mpr ⟨c, hc, rfl⟩)))) o e⟩
    · obtain ⟨n, e⟩ := st.ti
      exact ⟨n, kk TI (List.mem_cons_of_mem _ (List.mem_cons_self ..)) _ e⟩
    · obtain ⟨ys, l, n, e⟩ := st.to
      exact ⟨ys, l, n, kk TO (List.mem_cons_of_mem _ (List.mem_cons_of_mem _ (List.mem_cons_self ..))) _ e⟩
  item := by
    intro X hP hw hK hc i pins s σ H E I hf st hg
    subst hP hw hK
    obtain ⟨ps, hps, hok⟩ := hg
    obtain ⟨pv, e1, e2, e3⟩ := zrow I srcs ps hps.symm hok
    subst e1
    obtain ⟨ys, hy, to⟩ := st.to
    rw [List.length_map] at hy hsz
    refine LZ.pyNext_item D (fun z => hne (by rw [z]; rfl)) hsz st.zz st.ti to hy (fun p hp => st.at' _ (List.mem_map.mpr ⟨p, hp, rfl⟩)) e3 fun h' a1 a2 a3 a4 a5 a6 => ?_
    refine ⟨_, rfl, ?_⟩
    have I1 : Inv X pins σ (upd H s.heap.objs.size (.tup (ps.map (·.2.2)))) { s with heap := h' } := by
      refine I.turnedLay (t' := s.toks) (ch := zFp z TI TO (pv.map (·.1))) (fun b ob hb e => a6 b ob ?_ ?_ ?_ e) hf (Nat.le_refl _) ?_
      · rintro rfl; exact hb (List.mem_cons_self ..)
      · rintro rfl; exact hb (List.mem_cons_of_mem _ (List.mem_cons_of_mem _ (List.mem_cons_self ..)))
      · rintro c hc rfl; exact hb (List.mem_cons_of_mem _ (List.mem_cons_of_mem _ (List.mem_cons_of_mem _ (List.mem_map.mpr ⟨c, hc, rfl⟩))))
      · refine ⟨?_, _, e2, ⟨_, a4, rfl, _, rfl⟩⟩
        have e4 := e2.length
        rw [List.length_map, List.length_map] at e4
        rw [List.length_map, e4]
        exact Nat.le_trans hsz (by rw [sizeLine_eq]; decide)
    have lt : ∀ b ∈ zFp z TI TO (pv.map (·.1)), b ≠ s.heap.objs.size := fun b hb e => by
      obtain ⟨o, eo, _⟩ : ∃ o, s.heap.get? b = some o ∧ ∀ v, o.data ≠ .cell v := by
        rcases List.mem_cons.mp hb with rfl | hb
        · exact ⟨_, st.zz, fun v q => by cases q⟩
        · rcases List.mem_cons.mp hb with rfl | hb
          · obtain ⟨n, e⟩ := st.ti
            exact ⟨_, e, fun v q => by cases q⟩
          · rcases List.mem_cons.mp hb with rfl | hb
            · obtain ⟨n, e⟩ := to
              exact ⟨_, e, fun v q => by cases q⟩
            · obtain ⟨c, hc, rfl⟩ := List.mem_map.mp hb
              obtain ⟨o, e, _, d⟩ := (st.at' c hc).obj
              exact ⟨o, e, fun v q => by rw [d] at q; cases q⟩
      exact absurd (Heap.lt_size eo) (by rw [e]; exact Nat.lt_irrefl _)
    have fr1 : ∀ b ∈ zFp z TI TO (pv.map (·.1)), upd H s.heap.objs.size (.tup (ps.map (·.2.2))) b = none := fun b hb => by rw [upd_ne (lt b hb)]; exact (hf b hb).1
    refine LZ.letGo_zip (s := { s with heap := h' }) a1 fun h₂ z2 sb => ?_
    replace sb : Heap.SameBut z h' h₂ := sb
    have I2 : Inv X pins σ (upd H s.heap.objs.size (.tup (ps.map (·.2.2)))) { s with heap := h₂ } := by
      obtain ⟨_, g1, g2, g3, g4, g5⟩ := hf z (List.mem_cons_self ..)
      exact I1.turned (t' := s.toks) (fun b o hb e => sb.extBut b o hb e) (fr1 z (List.mem_cons_self ..)) g1 g3 g4 g5
    refine ⟨.ref s.heap.objs.size, _, I2, rfl, ⟨_, _, rfl, I.hok.fresh (Nat.le_refl _), rfl, fun ps' hp' ho' => ?_⟩, ⟨z2, ?_, ?_, fun c hc => ?_⟩, fr1⟩
    · -- the items are what the lists hold
      have key : ∀ (l1 l2 : ZRow), l1.map (·.1) = l2.map (·.1) → ZOk X.K H i l1 → ZOk X.K H i l2 → l1.map (·.2.2) = l2.map (·.2.2) := by
        intro l1
        induction l1 with
        | nil => intro l2 h _ _; cases l2 with
          | nil => rfl
          | cons a r => simp at h
        | cons a r ih => intro l2 h o1 o2; cases l2 with
          | nil => simp at h
          | cons b r2 =>
            simp only [List.map_cons, List.cons.injEq] at h ⊢
            obtain ⟨s1, q1⟩ := o1 a (List.mem_cons_self ..)
            obtain ⟨s2, q2⟩ := o2 b (List.mem_cons_self ..)
            rw [h.1] at s1
            have same : a.2.1 = b.2.1 := by
              unfold SqB at s1 s2
              split at s1
              · rename_i ht
                rw [if_pos ht] at s2
                exact I.tuple_inj s1 s2
              · rename_i ht
                rw [if_neg ht] at s2
                exact I.list_inj s1 s2
            rw [same, q2] at q1
            exact ⟨(Option.some.inj q1).symm, ih r2 h.2 (fun p hp => o1 p (List.mem_cons_of_mem _ hp)) fun p hp => o2 p (List.mem_cons_of_mem _ hp)⟩
      exact key ps ps' (hps.trans hp'.symm) hok ho'
    · obtain ⟨n, e⟩ := st.ti
      refine ⟨n, sb.extBut _ _ D.TIz (a6 _ _ D.TIz D.TITO (fun c hc => Ne.symm (D.TIi c hc)) e)⟩
    · obtain ⟨n, e⟩ := a2
      exact ⟨_, by simp, n, sb.extBut _ _ D.TOz e⟩
    · obtain ⟨p, hp, rfl⟩ := List.mem_map.mp hc
      exact (a3 p hp).keep fun o e => sb.extBut _ _ (D.zi _ (List.mem_map.mpr ⟨p, hp, rfl⟩)) e
  done := by
    intro X hP hw hK hc i pins s σ H E I hf st hg
    subst hP hw hK
    obtain ⟨ps, c, xs, rest, hcs, hok, hq, hl⟩ := hg
    obtain ⟨s1, s2, es, e1, e2⟩ : ∃ s1 s2, srcs = s1 ++ s2 ∧ s1.map (fun c => (c.a, c.tup)) = ps.map (·.1) ∧ s2.map (fun c => (c.a, c.tup)) = c :: rest := by
      obtain ⟨s1, s2, h1, h2, h3⟩ := List.map_eq_append_iff.mp hcs
      exact ⟨s1, s2, h1, h2, h3⟩
    subst es
    obtain ⟨d, s3, e3, e4, e5⟩ := List.map_eq_cons_iff.mp e2
    subst e3
    obtain ⟨pv, f1, f2, f3⟩ := zrow I s1 ps e1 hok
    subst f1
    obtain ⟨its, rv, sq, _⟩ := I.sqB hq
    rw [← e4] at sq
    obtain ⟨ys, hy, to⟩ := st.to
    have hlen := rv.length
    refine LZ.pyNext_end (I.ok.hd hc) D hsz st.zz st.ti to hy (fun p hp => st.at' _ (List.mem_append_left _ (List.mem_map.mpr ⟨p, hp, rfl⟩))) (st.at' _ (List.mem_append_right _ (List.mem_cons_self ..))) f3 sq (by simp; omega) fun h' kk => ⟨rfl, ?_⟩
    refine I.turnedMany (t' := s.toks) (ch := zFp z TI TO (pv.map (·.1) ++ d :: s3)) (fun b ob hb e => kk b ob ?_ ?_ ?_ e) hf
    · rintro rfl; exact hb (List.mem_cons_self ..)
    · rintro rfl; exact hb (List.mem_cons_of_mem _ (List.mem_cons_of_mem _ (List.mem_cons_self ..)))
    · rintro c hc rfl; exact hb (List.mem_cons_of_mem _ (List.mem_cons_of_mem _ (List.mem_cons_of_mem _ (List.mem_map.mpr ⟨c, hc, rfl⟩))))
  self := fun _ _ _ _ _ st h => wpAny_pyIter_zip st.zz h
def iZip (K : PySem.W.Frag) (n : Nat) (ta : TA) : TI := fun σ H R => ta σ H fun vs H1 => ∃ cs : List (Addr × Bool), cs.length = n ∧ vs = cs.map (fun c => V.ref c.1) ∧ (∀ c ∈ cs, ∃ xs, SqB K H1 c xs) ∧ R (Itz K cs) H1
section
variable {X : Cx} {es : List Expr} {k : Nat} {tpos : Pos}
theorem zip_pie {pins : List (Addr × Obj)} {σ : St} {H : Hp} {s : Shared} {R : It → Hp → Prop} {E : Value → Shared → Prop} {h' : Heap} {srcs : List LZ.Src} {z TI TO : Addr} (I : Inv X pins σ H s) (N : LZ.New s.heap h' srcs z TI TO) (hne : srcs ≠ []) (hsz : srcs.length ≤ 1000)
    (hlt : ∀ c ∈ srcs, c.a < s.heap.objs.size) (q : R (Itz X.K (srcs.map fun c => (c.a, c.tup))) H) : wpAny (model X.prog X.w) X.A (pyIter (.ref z)) (PIE X pins σ (.Tuple es k tpos) R) E { s with heap := h' } := by
  refine wpAny_pyIter_zip N.zz ?_
  have D := N.apart hlt
  refine ⟨z, zFp z TI TO srcs, _, _, H, rfl, I.kept (t' := s.toks) N.keep, turn_zip D hne hsz, ⟨N.zz, N.ti, N.to, N.at0⟩, fun b hb => ?_, q⟩
  obtain ⟨f1, f2, f3, f4⟩ := N.fresh
  have hb' : s.heap.objs.size ≤ b := by
    rcases List.mem_cons.mp hb with rfl | hb
    · exact f1
    · rcases List.mem_cons.mp hb with rfl | hb
      · exact f2
      · rcases List.mem_cons.mp hb with rfl | hb
        · exact f3
        · obtain ⟨c, hc, rfl⟩ := List.mem_map.mp hb
          exact f4 c hc
  exact I.fpOk hb' (I.hok.fresh hb')
theorem pi_zip2 {a b : Expr} {ta : TA} {p pos : Pos} (hg : Gl X "zip") (hm : X.mg "zip" = none) (ha : PA X [a, b] ta) (hs : starEach [a, b] X.env = [(false, eval a X.env), (false, eval b X.env)] := by rfl) (hs2 : starEach [b] X.env = [(false, eval b X.env)] := by rfl) :
    PI X (.Tuple es k tpos) (.Call (.Name "zip" p) [a, b] [] pos) (iZip X.K 2 ta) := by
  intro pins s σ H R I h
  refine Call_ (ld_blt I hg hm boot_zip (PyProof.Rows.callWith_type1 (thn (ha pos pins s σ H _ I h) fun us s1 ⟨vs, H1, I1, r1, q1⟩ => ?_) (by rw [hs, hs2]) (by rw [hs2]; rfl)))
  obtain ⟨cs, hl, e, hsq, q⟩ := q1
  obtain ⟨c1, c2, rfl⟩ : ∃ c1 c2, cs = [c1, c2] := by
    match cs, hl with
    | [c1, c2], _ => exact ⟨c1, c2, rfl⟩
  subst e
  obtain ⟨u1, u2, rfl, r1, r2⟩ := Vals.two r1
  cases r1
  cases r2
  obtain ⟨xs1, s1'⟩ := hsq c1 (List.mem_cons_self ..)
  obtain ⟨xs2, s2'⟩ := hsq c2 (List.mem_cons_of_mem _ (List.mem_cons_self ..))
  obtain ⟨i1, _, q1, l1⟩ := I1.sqB s1'
  obtain ⟨i2, _, q2, l2⟩ := I1.sqB s2'
  refine LZ.call_zip2 q1 q2 fun h' z TI TO j1 j2 N => zip_pie I1 N (by simp) (by simp) (fun c hc => ?_) q
  rcases List.mem_cons.mp hc with rfl | hc
  · exact l1
  · rw [List.mem_singleton.mp hc]; exact l2
theorem Vals.three : ∀ {x y z : V} {us : List Value}, Vals [x, y, z] us → ∃ u v t, us = [u, v, t] ∧ RelV x u ∧ RelV y v ∧ RelV z t
  | _, _, _, _, .cons r (.cons q (.cons p .nil)) => ⟨_, _, _, rfl, r, q, p⟩
theorem pi_zip3 {a b c : Expr} {ta : TA} {p pos : Pos} (hg : Gl X "zip") (hm : X.mg "zip" = none) (ha : PA X [a, b, c] ta) (hs : starEach [a, b, c] X.env = [(false, eval a X.env), (false, eval b X.env), (false, eval c X.env)] := by rfl)
    (hs2 : starEach [b, c] X.env = [(false, eval b X.env), (false, eval c X.env)] := by rfl) :
    PI X (.Tuple es k tpos) (.Call (.Name "zip" p) [a, b, c] [] pos) (iZip X.K 3 ta) := by
  intro pins s σ H R I h
  refine Call_ (ld_blt I hg hm boot_zip (PyProof.Rows.callWith_type1 (thn (ha pos pins s σ H _ I h) fun us s1 ⟨vs, H1, I1, r1, q1⟩ => ?_) (by rw [hs, hs2]) (by rw [hs2]; rfl)))
  obtain ⟨cs, hl, e, hsq, q⟩ := q1
  obtain ⟨c1, c2, c3, rfl⟩ : ∃ c1 c2 c3, cs = [c1, c2, c3] := by
    match cs, hl with
    | [c1, c2, c3], _ => exact ⟨c1, c2, c3, rfl⟩
  subst e
  obtain ⟨u1, u2, u3, rfl, r1, r2, r3⟩ := Vals.three r1
  cases r1
  cases r2
  cases r3
  obtain ⟨xs1, s1'⟩ := hsq c1 (List.mem_cons_self ..)
  obtain ⟨xs2, s2'⟩ := hsq c2 (List.mem_cons_of_mem _ (List.mem_cons_self ..))
  obtain ⟨xs3, s3'⟩ := hsq c3 (List.mem_cons_of_mem _ (List.mem_cons_of_mem _ (List.mem_cons_self ..)))
  obtain ⟨i1, _, q1, l1⟩ := I1.sqB s1'
  obtain ⟨i2, _, q2, l2⟩ := I1.sqB s2'
  obtain ⟨i3, _, q3, l3⟩ := I1.sqB s3'
  refine LZ.call_zip3 q1 q2 q3 fun h' z TI TO j1 j2 j3 N => zip_pie I1 N (by simp) (by simp) (fun c hc => ?_) q
  rcases List.mem_cons.mp hc with rfl | hc
  · exact l1
  · rcases List.mem_cons.mp hc with rfl | hc
    · exact l2
    · rw [List.mem_singleton.mp hc]; exact l3
end
/-! ### enumerate of a list -/
def Ite (K : PySem.W.Frag) (a : Addr) : It :=
  ⟨fun i H => ∃ xs x, SqL K H a xs ∧ xs[i]? = some x, fun i H x H' => ∃ T v, x = .ref T ∧ H T = none ∧ H' = upd H T (.tup [.int i, v]) ∧ ∀ xs, SqL K H a xs → xs[i]? = some v, fun i H => ∃ xs, SqL K H a xs ∧ xs.length ≤ i⟩
theorem turn_enum {P : Program} {w : World} {K : PySem.W.Frag} {es : List Expr} {k : Nat} {pos : Pos} {e it a : Addr} (hei : e ≠ it) :
    Turn P w K (.Tuple es k pos) (Ite K a) [e, it] e (fun i h => (∃ old, IsEnum h e it i old) ∧ h.IsListIter it a i) where
  mem := List.mem_cons_self ..
  obj := fun i h st b hb => by
    obtain ⟨⟨old, he⟩, o, ho, _, hd⟩ := st
    rcases List.mem_cons.mp hb with rfl | hb
    · exact ⟨_, he, fun v q => by cases q⟩
    · rw [List.mem_singleton.mp hb]
      exact ⟨o, ho, fun v q => by rw [hd] at q; cases q⟩
  keep := fun i h h' st kk => by
    obtain ⟨⟨old, he⟩, li⟩ := st
    exact ⟨⟨old, kk e (List.mem_cons_self ..) _ he⟩, li.at fun o x => kk it (List.mem_cons_of_mem _ (List.mem_cons_self ..)) o x⟩
  item := by
    intro X hP hw hK hc i pins s σ H E I hf st hg
    subst hP hw hK
    obtain ⟨⟨old, he⟩, li⟩ := st
    obtain ⟨xs, x, hq, hx⟩ := hg
    obtain ⟨its, rv, p, hz⟩ := I.list hq
    obtain ⟨u, hu, ru⟩ := rv.get hx
    have hlen := rv.length
    have hix : i < xs.length := (List.getElem?_eq_some_iff.mp hx).1
    have hai : a ≠ it := by
      rintro rfl
      obtain ⟨o, n, e1, c1, _⟩ := p
      obtain ⟨o2, e2, c2, _⟩ := li
      rw [e1] at e2
      cases e2
      rw [c1] at c2
      exact absurd (Value.type.inj c2) (by decide)
    have hae : a ≠ e := by
      rintro rfl
      obtain ⟨o, n, e1, c1, _⟩ := p
      have he' : s.heap.get? a = some _ := he
      rw [e1] at he'
      have e3 := Option.some.inj he'
      rw [e3] at c1
      exact absurd (Value.type.inj c1) (by decide)
    have D := Draws.list (prog := X.prog) (w := X.w) (A := X.A.in1) (I.ok.hd hc) it a hai its.toArray
    refine wpAny_pyNext_enum_itemD D he ⟨li, p.isList⟩ (by simp; omega) hei (by simp [hei, Ne.symm hae]) fun y h' tk hP ho hs' hT hsz hk => ?_
    refine ⟨_, rfl, ?_⟩
    have hy : y = u := by
      have hP' : its.toArray[i]? = some y := hP
      rw [List.getElem?_toArray, hu] at hP'
      exact (Option.some.inj hP').symm
    subst hy
    have I1 : Inv X pins σ (upd H s.heap.objs.size (.tup [.int i, x])) { s with heap := h', toks := tk + 1 } := by
      refine I.turnedLay (ch := [e, it]) (fun b ob hb z => hk b ob ?_ ?_ z) hf (Nat.le_refl _) ⟨by show 2 ≤ sizeLine; rw [sizeLine_eq]; decide, [.int i tk, y], .cons ⟨tk, rfl⟩ (.cons ru .nil), ⟨_, hT, rfl, _, rfl⟩⟩
      · rintro rfl; exact hb (List.mem_cons_self ..)
      · rintro rfl; exact hb (List.mem_cons_of_mem _ (List.mem_cons_self ..))
    have lte : e < s.heap.objs.size := Heap.lt_size he
    have lti : it < s.heap.objs.size := by obtain ⟨o, q, _⟩ := li; exact Heap.lt_size q
    have fr1 : ∀ b ∈ [e, it], upd H s.heap.objs.size (.tup [.int i, x]) b = none := fun b hb => by
      have hb' : b ≠ s.heap.objs.size := by
        rcases List.mem_cons.mp hb with rfl | hb
        · exact Nat.ne_of_lt lte
        · rw [List.mem_singleton.mp hb]; exact Nat.ne_of_lt lti
      rw [upd_ne hb']
      exact (hf b hb).1
    refine wpAny_letOwnedTupleGo_enum ho fun h₂ he₂ sb => ?_
    replace sb : Heap.SameBut e h' h₂ := sb
    obtain ⟨_, g1, g2, g3, g4, g5⟩ := hf e (List.mem_cons_self ..)
    refine ⟨.ref s.heap.objs.size, _, I1.turned (fun b o hb q => sb.extBut b o hb q) (fr1 e (List.mem_cons_self ..)) g1 g3 g4 g5, rfl, ⟨_, _, rfl, I.hok.fresh (Nat.le_refl _), rfl, fun ys hy => ?_⟩, ⟨⟨y, by simpa using he₂⟩, hs'.1.at fun o q => sb.extBut _ o (Ne.symm hei) q⟩, fr1⟩
    rw [I.list_inj hy hq]
    exact hx
  done := by
    intro X hP hw hK hc i pins s σ H E I hf st hg
    subst hP hw hK
    obtain ⟨⟨old, he⟩, li⟩ := st
    obtain ⟨xs, hq, hx⟩ := hg
    obtain ⟨its, rv, p, hz⟩ := I.list hq
    have hlen := rv.length
    refine wpAny_pyNext_enum_end (I.ok.hd hc) he li p.isList (by simp; omega) fun h' hk => ⟨rfl, ?_⟩
    obtain ⟨g0, g1, g2, g3, g4, g5⟩ := hf it (List.mem_cons_of_mem _ (List.mem_cons_self ..))
    exact I.turned (t' := s.toks) (fun b o hb q => hk b o hb q) g0 g1 g3 g4 g5
  self := fun _ _ _ _ _ st h => by
    obtain ⟨⟨old, he⟩, _⟩ := st
    exact wpAny_pyIter_enum he h
def iEnum (K : PySem.W.Frag) (ta : TA) : TI := fun σ H R => ta σ H fun vs H1 => ∃ a, vs = [.ref a] ∧ (∃ xs, SqL K H1 a xs) ∧ R (Ite K a) H1
theorem pi_enum {X : Cx} {es : List Expr} {k : Nat} {tpos : Pos} {a : Expr} {ta : TA} {p pos : Pos} (hg : Gl X "enumerate") (hm : X.mg "enumerate" = none) (ha : PA X [a] ta) (hs : starEach [a] X.env = [(false, eval a X.env)] := by rfl) :
    PI X (.Tuple es k tpos) (.Call (.Name "enumerate" p) [a] [] pos) (iEnum X.K ta) := by
  intro pins s σ H R I h
  refine Call_ (ld_blt I hg hm boot_enumerate (PyProof.Rows.callWith_type1 (thn (ha pos pins s σ H _ I h) fun us s1 ⟨vs, H1, I1, r1, q1⟩ => ?_) hs rfl))
  obtain ⟨b, e, ⟨xs, hq⟩, q⟩ := q1
  subst e
  obtain ⟨u, rfl, r⟩ := Vals.one r1
  cases r
  obtain ⟨its, rv, pl, hz⟩ := I1.list hq
  refine call_enumerate_list pl.isList fun h' he li hsz kk => ?_
  refine wpAny_pyIter_enum he ?_
  refine ⟨s1.heap.objs.size + 1, [s1.heap.objs.size + 1, s1.heap.objs.size], _, _, H1, rfl, I1.kept (t' := s1.toks) kk, turn_enum (Nat.succ_ne_self _), ⟨⟨_, he⟩, li⟩, fun c hc => ?_, q⟩
  have hc' : s1.heap.objs.size ≤ c := by
    rcases List.mem_cons.mp hc with rfl | hc
    · exact Nat.le_succ _
    · rw [List.mem_singleton.mp hc]; exact Nat.le_refl _
  exact I1.fpOk hc' (I1.hok.fresh hc')
end L2

set_option linter.all false
set_option maxRecDepth 100000
/-! more rules over the hand layer: any, all, max of a list, index, extend by a tuple, == of lists, isinstance, f-strings -/
namespace L2
open PySem PySem.Spec PyProof.Rows
theorem Paired.getR {α β : Type} {F : α → β → Prop} : ∀ {l₁ : List α} {l₂ : List β}, Paired F l₁ l₂ → ∀ {i : Nat} {b : β}, l₂[i]? = some b → ∃ a, l₁[i]? = some a ∧ F a b
  | _, _, .nil, i, b, h => by simp at h
  | _, _, .cons r t, 0, b, h => by
    simp at h
    subst h
    exact ⟨_, rfl, r⟩
  | _, _, .cons r t, i + 1, b, h => by
    obtain ⟨a, e, q⟩ := Paired.getR t (i := i) (b := b) (by simpa using h)
    exact ⟨a, by simpa using e, q⟩
section
variable {X : Cx}
theorem range_any (bs : List Bool) : (List.range bs.length).any (fun i => bs[i]?.getD false) = bs.any id := by
  rw [Bool.eq_iff_iff, List.any_eq_true, List.any_eq_true]
  constructor
  · rintro ⟨i, hi, h⟩
    have hl := List.mem_range.mp hi
    exact ⟨bs[i], List.getElem_mem hl, by simpa [hl] using h⟩
  · rintro ⟨b, hb, h⟩
    obtain ⟨i, hi, rfl⟩ := List.mem_iff_getElem.mp hb
    exact ⟨i, List.mem_range.mpr hi, by simpa [hi] using h⟩
theorem range_all (bs : List Bool) : (List.range bs.length).all (fun i => bs[i]?.getD false) = bs.all id := by
  rw [Bool.eq_iff_iff, List.all_eq_true, List.all_eq_true]
  constructor
  · intro h b hb
    obtain ⟨i, hi, rfl⟩ := List.mem_iff_getElem.mp hb
    simpa [hi] using h i (List.mem_range.mpr hi)
  · intro h i hi
    have hl := List.mem_range.mp hi
    simpa [hl] using h bs[i] (List.getElem_mem hl)
theorem truth_bools {P : Program} {w : World} {A : Around} {bs : List Bool} {its : List Value} (r : Vals (bs.map V.bl) its) : TruthOf P w A (fun i v => its.toArray[i]? = some v) (fun i => bs[i]?.getD false) := by
  intro i v s Q E hP hQ
  have hP' : its[i]? = some v := by simpa using hP
  obtain ⟨x, e, rx⟩ := Paired.getR r hP'
  rw [List.getElem?_map] at e
  cases q : bs[i]? with
  | none => rw [q] at e; cases e
  | some b =>
    rw [q] at e
    dsimp only at hQ
    rw [q] at hQ
    have e' : V.bl b = x := Option.some.inj e
    subst e'
    cases rx
    exact wpAny_truthy_bool hQ
/-- any(xs), all(xs) of a list of bools -/
theorem call_anyB (hc : X.calm = true) : CallR X (.builtin "any") (fun xs H Q => ∃ (p : Addr) (bs : List Bool), xs = [.ref p] ∧ SqL X.K H p (bs.map V.bl) ∧ Q (.bl (bs.any id)) H) := by
  intro pins s σ H xs us Q I r h
  obtain ⟨p, bs, rfl, hq, q⟩ := h
  obtain ⟨u, rfl, rx⟩ := vals1 r
  cases rx
  obtain ⟨its, rv, pl, hz⟩ := I.list hq
  have hl := rv.length
  rw [List.length_map] at hl
  have hlt : p < s.heap.objs.size := by obtain ⟨o, n, e, _⟩ := pl; exact Heap.lt_size e
  refine call_any_walk (wpAny_pyIter_list pl.isList ?_)
  refine ⟨_, _, _, _, _, _, fun i => bs[i]?.getD false, rfl, Walks.list (A := X.A.in1) (I.ok.hd hc) _ p (Nat.ne_of_lt hlt) its.toArray, ⟨⟨_, Heap.get?_push_size _ rfl, rfl, rfl⟩, pl.isList.push _⟩, truth_bools rv, fun h' tk kk => ?_⟩
  have e : its.toArray.size = bs.length := by simp [hl]
  rw [e, range_any]
  refine ⟨.bl (bs.any id), H, I.kept fun b o eb => kk b o (fun z => ?_) (Heap.get?_push_of_some _ eb), rfl, q⟩
  rw [List.mem_singleton.mp z] at eb
  exact absurd (Heap.lt_size eb) (Nat.lt_irrefl _)
theorem call_allB (hc : X.calm = true) : CallR X (.builtin "all") (fun xs H Q => ∃ (p : Addr) (bs : List Bool), xs = [.ref p] ∧ SqL X.K H p (bs.map V.bl) ∧ Q (.bl (bs.all id)) H) := by
  intro pins s σ H xs us Q I r h
  obtain ⟨p, bs, rfl, hq, q⟩ := h
  obtain ⟨u, rfl, rx⟩ := vals1 r
  cases rx
  obtain ⟨its, rv, pl, hz⟩ := I.list hq
  have hl := rv.length
  rw [List.length_map] at hl
  have hlt : p < s.heap.objs.size := by obtain ⟨o, n, e, _⟩ := pl; exact Heap.lt_size e
  refine call_all_walk (wpAny_pyIter_list pl.isList ?_)
  refine ⟨_, _, _, _, _, _, fun i => bs[i]?.getD false, rfl, Walks.list (A := X.A.in1) (I.ok.hd hc) _ p (Nat.ne_of_lt hlt) its.toArray, ⟨⟨_, Heap.get?_push_size _ rfl, rfl, rfl⟩, pl.isList.push _⟩, truth_bools rv, fun h' tk kk => ?_⟩
  have e : its.toArray.size = bs.length := by simp [hl]
  rw [e, range_all]
  refine ⟨.bl (bs.all id), H, I.kept fun b o eb => kk b o (fun z => ?_) (Heap.get?_push_of_some _ eb), rfl, q⟩
  rw [List.mem_singleton.mp z] at eb
  exact absurd (Heap.lt_size eb) (Nat.lt_irrefl _)
/-- max(xs) of a list of ints that is not empty -/
theorem call_maxL (hc : X.calm = true) : CallR X (.builtin "max") (fun xs H Q => ∃ (p : Addr) (ns : List Int), xs = [.ref p] ∧ SqL X.K H p (ns.map V.int) ∧ ns ≠ [] ∧ ∀ M, M ∈ ns → (∀ a ∈ ns, a ≤ M) → Q (.int M) H) := by
  intro pins s σ H xs us Q I r h
  obtain ⟨p, ns, rfl, hq, hne, q⟩ := h
  obtain ⟨u, rfl, rx⟩ := vals1 r
  cases rx
  obtain ⟨its, rv, pl, hz⟩ := I.list hq
  have hi : IntsAre its ns := intsAre_of rv
  obtain ⟨zs, e⟩ := hi.allInts.items
  have hns : ns = zs.toList.map (·.1) := by rw [← hi.numsOf, ← nums_intItems, ← e]
  have hpos : 0 < ns.length := List.length_pos_iff.mpr hne
  have hsz : 0 < zs.size := by rw [hns, List.length_map, Array.length_toList] at hpos; exact hpos
  have hl := pl.isList
  rw [e] at hl
  refine max_intList (I.ok.hd hc) hl hsz fun v h' tk hv hk => ?_
  obtain ⟨t, rfl⟩ := intItems_at hv
  obtain ⟨b1, b2⟩ := argBest_gt (numAt zs) (zs.size - 1)
  refine ⟨.int _, H, I.kept hk, ⟨t, rfl⟩, q _ ?_ fun a ha => ?_⟩
  · rw [hns, numAt_eq]; exact getD_mem (by rw [List.length_map, Array.length_toList]; omega)
  · rw [hns] at ha
    obtain ⟨j, hj, rfl⟩ := mem_getD ha
    rw [List.length_map, Array.length_toList] at hj
    rw [← numAt_eq]; exact b2 j (by omega)
/-- xs.index(k), k among the ints -/
theorem mt_index : MtM X "list.index" (fun x vs H Q => ∃ (l : Addr) (ns : List Int) (k : Int), x = .ref l ∧ vs = [.int k] ∧ H l = some (.lst (ns.map V.int)) ∧ k ∈ ns ∧ ns.length ≤ 1000 ∧ Q (.int (ns.idxOf k : Nat)) H) := by
  intro pins s σ H x vs v us Q I rx rv h
  obtain ⟨l, ns, k, rfl, rfl, hH, hk, hl, q⟩ := h
  cases rx
  obtain ⟨u, rfl, ⟨t, rfl⟩⟩ := rv.one
  obtain ⟨its, r, pl, hz⟩ := I.list (SqL.of (K := X.K) hH)
  have hi : IntsAre its ns := intsAre_of r
  obtain ⟨⟨cls, dd, data, sl⟩, ho, hcl, n, hd⟩ := id pl.isList
  simp only at hcl hd
  subst hcl hd
  have hlen := hi.length
  have hj : ns.idxOf k < ns.length := List.idxOf_lt_length_iff.mpr hk
  refine call_meets PySem.F.slot_list_index ⟨_, ho, rfl⟩ PySem.F.entry_list_index (PySem.F.args_list_index_2 _ _)
    (PySem.SeqAt.list_indexAt l its.toArray n dd sl (.int k t) (isInt k) (ns.idxOf k) (by simpa [hlen] using hj) (by omega) ?_ ?_) ⟨ho, fun y hy => (eq_isInt k t hi y (by simpa using hy)).at _ _, ⟨.int _, H, I.tok _, ⟨_, rfl⟩, q⟩⟩
  · show isInt k its[ns.idxOf k] = true
    rw [isInt_at k hi _ (by omega) hj]
    simpa using List.getElem_idxOf hj
  · intro j hjs hlt
    show isInt k its[j] = false
    rw [isInt_at k hi j (by simpa using hjs) (by omega)]
    exact ne_of_lt_idxOf hlt _
/-- == and != of two lists: of other lengths, or of ints -/
def rEqL (K : PySem.W.Frag) (neg : Bool) : R2 := fun x y H Q => ∃ a b xs ys, x = .ref a ∧ y = .ref b ∧ SqL K H a xs ∧ SqL K H b ys ∧
  ((xs.length ≠ ys.length ∧ Q (.bl neg) H) ∨ ∃ ns ms : List Int, xs = ns.map V.int ∧ ys = ms.map V.int ∧ Q (.bl (neg != decide (ns = ms))) H)
theorem eq_ints_all {ns ms : List Int} (h : ns.length = ms.length) : (List.range ns.length).all (fun j => ns[j]?.getD 0 == ms[j]?.getD 0) = decide (ns = ms) := by
  rw [Bool.eq_iff_iff, List.all_eq_true, decide_eq_true_iff]
  constructor
  · intro q
    refine List.ext_getElem h fun i h1 h2 => ?_
    have := q i (List.mem_range.mpr h1)
    simpa [h1, h2] using this
  · rintro rfl i hi
    simp
theorem ints_eqAt {A : Around} {s : Shared} {ns ms : List Int} {us vs : List Value} (r : Vals (ns.map V.int) us) (q : Vals (ms.map V.int) vs) :
    ∀ j (h1 : j < us.toArray.size) (h2 : j < vs.toArray.size), SeqAt.EqAt A s us.toArray[j] vs.toArray[j] (ns[j]?.getD 0 == ms[j]?.getD 0) := by
  intro j h1 h2
  have h1' : j < us.length := by simpa using h1
  have h2' : j < vs.length := by simpa using h2
  obtain ⟨x, e, rx⟩ := Paired.getR r (i := j) (b := us[j]) (by simp [h1'])
  obtain ⟨y, e', ry⟩ := Paired.getR q (i := j) (b := vs[j]) (by simp [h2'])
  rw [List.getElem?_map] at e e'
  cases a : ns[j]? with
  | none => rw [a] at e; cases e
  | some n =>
    cases b : ms[j]? with
    | none => rw [b] at e'; cases e'
    | some m =>
      rw [a] at e
      rw [b] at e'
      have e1 : V.int n = x := Option.some.inj e
      have e2 : V.int m = y := Option.some.inj e'
      subst e1 e2
      obtain ⟨t, et⟩ := rx
      obtain ⟨t', et'⟩ := ry
      show SeqAt.EqAt A s us[j] vs[j] (n == m)
      rw [et, et']
      exact SeqAt.EqAt.int_int n t m t'
theorem op_eqL (hu : X.A.units < cLine) : OpR X (compareOp .Eq) (rEqL X.K false) := by
  intro pins s σ H x y v u Q I rx ry h
  obtain ⟨a, b, xs, ys, rfl, rfl, ha, hb, h⟩ := h
  cases rx
  cases ry
  obtain ⟨i1, r1, p1, _⟩ := I.list ha
  obtain ⟨i2, r2, p2, _⟩ := I.list hb
  have l1 := r1.length
  have l2 := r2.length
  rcases h with ⟨hl, q⟩ | ⟨ns, ms, rfl, rfl, q⟩
  · exact SeqAt.eq_list_lengthsAt p1.isList p2.isList (by simp; omega) hu ⟨.bl false, H, I, rfl, q⟩
  · rw [List.length_map] at l1 l2
    by_cases hl : ns.length = ms.length
    · refine SeqAt.eq_listAt p1.isList p2.isList (by simp; omega) hu (ints_eqAt r1 r2) ⟨_, H, I, ?_, q⟩
      show Value.bool _ = Value.bool _
      rw [Bool.false_bne, ← eq_ints_all hl]
      congr 2
      simp [l1]
    · refine SeqAt.eq_list_lengthsAt p1.isList p2.isList (by simp; omega) hu ⟨_, H, I, ?_, q⟩
      show Value.bool _ = Value.bool _
      rw [Bool.false_bne, decide_eq_false (fun e => hl (by rw [e]))]
theorem op_neL (hu : X.A.units < cLine) : OpR X (compareOp .NotEq) (rEqL X.K true) := by
  intro pins s σ H x y v u Q I rx ry h
  obtain ⟨a, b, xs, ys, rfl, rfl, ha, hb, h⟩ := h
  cases rx
  cases ry
  obtain ⟨i1, r1, p1, _⟩ := I.list ha
  obtain ⟨i2, r2, p2, _⟩ := I.list hb
  have l1 := r1.length
  have l2 := r2.length
  rcases h with ⟨hl, q⟩ | ⟨ns, ms, rfl, rfl, q⟩
  · exact SeqAt.RcNeAt.lists_lengths p1.isList p2.isList (by simp; omega) hu _ _ _ _ ⟨.bl true, H, I, rfl, q⟩
  · rw [List.length_map] at l1 l2
    by_cases hl : ns.length = ms.length
    · refine SeqAt.RcNeAt.lists p1.isList p2.isList (by simp; omega) hu (ints_eqAt r1 r2) _ _ _ _ ⟨_, H, I, ?_, q⟩
      show Value.bool _ = Value.bool _
      rw [Bool.true_bne, ← eq_ints_all hl]
      congr 3
      simp [l1]
    · refine SeqAt.RcNeAt.lists_lengths p1.isList p2.isList (by simp; omega) hu _ _ _ _ ⟨_, H, I, ?_, q⟩
      show Value.bool _ = Value.bool _
      rw [Bool.true_bne, decide_eq_false (fun e => hl (by rw [e])), Bool.not_false]
/-- xs.extend(t), t a tuple -/
theorem ext_tup (l : Addr) (items : Array Value) (n : Nat) (b : Addr) (items2 : Array Value) (n2 : Nat) (dd : Option Addr) (sl : Array (Option Value)) (hs0 : ¬(!items.isEmpty && Builtin.List.listTooLong (items.size + items2.size)) = true) (hs1 : items.size ≤ sizeLine) (hs2 : items.size + items2.size ≤ sizeLine + 1) :
    Meets (Builtin.«list.extend» ⟨[.ref l, .ref b], []⟩) (fun _ R s => s.heap.get? l = some { cls := .type "list", dict := none, data := .seq items n, slots := #[] } ∧ s.heap.get? b = some { cls := .type "tuple", dict := dd, data := .seq items2 n2, slots := sl } ∧
      R (.ok (.ret Value.none)) { s with heap := s.heap.update l (Obj.mapSeq fun x => x ++ items2), toks := s.toks }) :=
  .of_wp fun prog w A R s h => by
    obtain ⟨hp, g, d, tk, os⟩ := s
    obtain ⟨hl, hb, h⟩ := h
    have f1 := AutoSeq1.idx_int
    have f2 := AutoSeq1.sub_tuple_tuple
    have f3 := AutoSeq1.sub_list_list
    have f4 := AutoSeq1.sub_tuple_list
    have f5 := AutoSeq1.sub_list_tuple
    have hz' : (items ++ items2).size ≤ sizeLine + 1 := by rw [Array.size_append]; exact hs2
    wp_walk using (wpAny_updateSeq hl rfl (hz := hs1) (_hz' := hz')), AutoSeq1.wpAny_loadPart' hl, AutoSeq1.wpAny_loadPart' hb
    exact ⟨_, rfl, h⟩
def rExtT (K : PySem.W.Frag) : V → List V → Hp → VK → Prop := fun x vs H Q => ∃ l b xs zs, x = .ref l ∧ vs = [.ref b] ∧ H l = some (.lst xs) ∧ SqT K H b zs ∧ xs.length + zs.length ≤ sizeLine ∧ Q .non (upd H l (.lst (xs ++ zs)))
theorem mt_extT : MtM X "list.extend" (rExtT X.K) := by
  intro pins s σ H x vs v us Q I rx rv h
  obtain ⟨l, b, xs, zs, rfl, rfl, hH, hB, hz, q⟩ := h
  cases rx
  obtain ⟨u, rfl, ru⟩ := rv.one
  cases ru
  obtain ⟨z, its, n, r, hl, e⟩ := I.lstM hH
  obtain ⟨its2, r2, pt, z2⟩ := I.tuple hB
  obtain ⟨⟨c2, dd, dt, sl⟩, e2, hc2, n2, hd2⟩ := pt
  simp only at hc2 hd2
  subst hc2 hd2
  have hl2 := r2.length
  have hsz : its.toArray.size + its2.toArray.size ≤ sizeLine := by rw [List.size_toArray, List.size_toArray]; omega
  have hlong : ¬ (!its.toArray.isEmpty && Builtin.List.listTooLong (its.toArray.size + its2.toArray.size)) = true := by
    rw [notLongL hsz, Bool.and_false]
    exact Bool.false_ne_true
  refine call_meets F.slot_list_extend ⟨_, e, rfl⟩ F.entry_list_extend (F.args_list_extend_2 _ _) (ext_tup l its.toArray n b its2.toArray n2 dd sl hlong (by rw [List.size_toArray]; omega) (by omega)) ⟨e, e2, ?_⟩
  refine ⟨.non, _, I.lset (its' := its ++ its2) hH e (by simp) (r.append r2) ?_, rfl, q⟩
  rw [List.length_append]
  omega
theorem MtM.or {id : String} {r r' : V → List V → Hp → VK → Prop} (h : MtM X id r) (h' : MtM X id r') : MtM X id (fun x xs H Q => r x xs H Q ∨ r' x xs H Q) := by
  intro pins s σ H x xs v us Q I rx rs q
  rcases q with q | q
  · exact h pins s σ H x xs v us Q I rx rs q
  · exact h' pins s σ H x xs v us Q I rx rs q
/-- isinstance(x, c), c a built-in class, an own one, or a tuple of built-in ones -/
theorem call_isi : CallR X (.builtin "isinstance") (fun xs H Q => ∃ (x c : V) (t : Value) (b : Bool), xs = [x, c] ∧ TyOf X.K H x t ∧ ((∃ T, c = .ty T ∧ PySem.W.kitOne X.K t (.type T) = some b) ∨ ∃ C, c = .ref C ∧ PySem.W.kitOne X.K t (.ref C) = some b) ∧ Q (.bl b) H) := by
  intro pins s σ H xs us Q I r h
  obtain ⟨x, c, t, b, rfl, ty, hc, q⟩ := h
  obtain ⟨u, v, rfl, rx, rc⟩ := vals2 r
  rcases hc with ⟨T, rfl, e⟩ | ⟨C, rfl, e⟩
  · cases rc
    exact isinst_ok I rx ty e fun tk => ⟨.bl b, H, I.tok tk, rfl, q⟩
  · cases rc
    exact isinst_ok I rx ty e fun tk => ⟨.bl b, H, I.tok tk, rfl, q⟩
theorem isinst_tup {pins : List (Addr × Obj)} {σ : St} {H : Hp} {s : Shared} {x : V} {u t : Value} {b : Bool} {Q : Value → Shared → Prop} {tp : Addr} {dd : Option Addr} {its : List Value} {n : Nat} {sl : Array (Option Value)} (I : Inv X pins σ H s) (rx : RelV x u) (ty : TyOf X.K H x t)
    (htp : s.heap.get? tp = some ⟨.type "tuple", dd, .seq its.toArray n, sl⟩) (e : PySem.W.kitAny X.K t its = some b) (h : ∀ tk, Q (.bool b) { s with toks := tk }) : wpAny (model X.prog X.w) X.A (call (.builtin "isinstance") [u, .ref tp]) Q X.xe s := by
  cases ty with
  | non => cases (show u = Value.none from rx); exact PySem.W.kia_tup PySem.W.kitx_none I.kIn True.intro htp e (fun z => nomatch z) h
  | bl y => cases (show u = Value.bool y from rx); exact PySem.W.kia_tup PySem.W.kitx_bool I.kIn True.intro htp e (fun z => nomatch z) h
  | int i => obtain ⟨t, q⟩ := (show ∃ t, u = Value.int i t from rx); cases q; exact PySem.W.kia_tup PySem.W.kitx_int I.kIn True.intro htp e (fun z => nomatch z) h
  | str y => obtain ⟨t, q⟩ := (show ∃ t, u = Value.str y t from rx); cases q; exact PySem.W.kia_tup PySem.W.kitx_str I.kIn True.intro htp e (fun z => nomatch z) h
  | flt y => obtain ⟨t, q⟩ := (show ∃ t, u = Value.float y t from rx); cases q; exact PySem.W.kia_tup PySem.W.kitx_float I.kIn True.intro htp e (fun z => nomatch z) h
  | @lst a xs ea =>
    cases (show u = Value.ref a from rx)
    obtain ⟨_, _, n, _, h1⟩ := (show ObjOk X.prog X.w H s.heap a (.lst xs) from I.hok a _ ea)
    exact PySem.W.kia_tup PySem.W.kitx_list I.kIn ⟨_, h1, rfl⟩ htp e (fun z => nomatch z) h
  | @frz a ob xs ea =>
    cases (show u = Value.ref a from rx)
    obtain ⟨_, _, _, n, _, h1⟩ := (show ObjOk X.prog X.w H s.heap a (.frz ob (.lst xs)) from I.hok a _ ea)
    exact PySem.W.kia_tup PySem.W.kitx_list I.kIn ⟨_, h1, rfl⟩ htp e (fun z => nomatch z) h
  | @tup a xs ea =>
    cases (show u = Value.ref a from rx)
    obtain ⟨_, _, _, p⟩ := (show ObjOk X.prog X.w H s.heap a (.tup xs) from I.hok a _ ea)
    obtain ⟨o, h1, h2, _⟩ := p
    exact PySem.W.kia_tup PySem.W.kitx_tuple I.kIn ⟨o, h1, h2⟩ htp e (fun z => nomatch z) h
  | @dK a kvs ea =>
    cases (show u = Value.ref a from rx)
    obtain ⟨_, _, vs, _, p⟩ := (show ObjOk X.prog X.w H s.heap a (.dK kvs) from I.hok a _ ea)
    obtain ⟨o, es, ep, h1, h2, _⟩ := p
    exact PySem.W.kia_tup PySem.W.kitx_dict I.kIn ⟨o, h1, h2.1⟩ htp e (fun z => nomatch z) h
  | @dT a kvs ea =>
    cases (show u = Value.ref a from rx)
    obtain ⟨_, _, xs, _, o, es, ep, h1, h2, _⟩ := (show ObjOk X.prog X.w H s.heap a (.dT kvs) from I.hok a _ ea)
    exact PySem.W.kia_tup PySem.W.kitx_dict I.kIn ⟨o, h1, h2.1⟩ htp e (fun z => nomatch z) h
  | @ins a C dx fs ea cl ha hn htk hm =>
    cases (show u = Value.ref a from rx)
    obtain ⟨mA, O, _⟩ := ins_get I.hok ea
    obtain ⟨od, J, _⟩ := O.look
    exact PySem.W.kia_tup (PySem.W.kitx_own (cl.get _) cl.hd ha hn htk hm) I.kIn J htp e (fun z => nomatch z) h
theorem vals_types : ∀ {Ts : List String} {us : List Value}, Vals (Ts.map V.ty) us → us = Ts.map Value.type
  | [], _, .nil => rfl
  | T :: Ts, _, .cons r t => by
    rw [List.map_cons, vals_types t]
    cases r
    rfl
theorem call_isiT : CallR X (.builtin "isinstance") (fun xs H Q => ∃ (x : V) (tp : Addr) (Ts : List String) (t : Value) (b : Bool), xs = [x, .ref tp] ∧ TyOf X.K H x t ∧ H tp = some (.tup (Ts.map V.ty)) ∧ PySem.W.kitAny X.K t (Ts.map Value.type) = some b ∧ Q (.bl b) H) := by
  intro pins s σ H xs us Q I r h
  obtain ⟨x, tp, Ts, t, b, rfl, ty, hT, e, q⟩ := h
  obtain ⟨u, v, rfl, rx, rc⟩ := vals2 r
  cases rc
  obtain ⟨its, r2, pt, z2⟩ := I.tuple (SqT.of (K := X.K) hT)
  obtain ⟨⟨c2, dd, dt, sl⟩, e2, hc2, n2, hd2⟩ := pt
  simp only at hc2 hd2
  subst hc2 hd2
  have e3 := vals_types r2
  subst e3
  exact isinst_tup I rx ty e2 e fun tk => ⟨.bl b, H, I.tok tk, rfl, q⟩
end
end L2

set_option linter.all false
set_option maxRecDepth 100000
namespace L2
open PySem PySem.Spec PyProof.Rows
section
variable {X : Cx}
/-- f'..{x}..', x a small int: some text -/
def tFs (te : TE) : TE := fun σ H Q => te σ H fun x H1 => ∃ i : Int, x = .int i ∧ i.natAbs < 10 ^ 20 ∧ ∀ z : Str, Q (.str z) H1
theorem pe_fstr {e : Expr} {te : TE} {a b : Str} {ka kb : Nat} {pa pb pf pos : Pos} (he : PE X e te) (ha : a.length ≤ 1000) (hb : b.length ≤ 1000) :
    PE X (.JoinedStr [.Constant (.str a) ka pa, .FormattedValue e (-1) none pf, .Constant (.str b) kb pb] pos) (tFs te) := by
  intro pins s σ H Q I h
  have la : (Str.empty ++ a).length = a.length := by rw [strLen_append]; exact Nat.zero_add _
  refine wpAny_JoinedStr ?_
  show wpAny _ _ (eval (.Constant (.str a) ka pa) X.env) _ _ s
  refine Calls.Constant_str ⟨a, _, rfl, by rw [la, sizeLine_eq]; omega, ?_⟩
  show wpAny _ _ (eval (.FormattedValue e (-1) none pf) X.env) _ _ _
  refine wpAny_FormattedValue_plain (thn (he pins _ σ H _ (I.tok _) h) fun v s1 ⟨x, H1, I1, r1, i, ex, hi, q⟩ => ?_)
  subst ex
  obtain ⟨t, rfl⟩ := r1
  have hlog : i.natAbs.log2 < 1920 := by
    by_cases h0 : i.natAbs = 0
    · rw [h0]; decide
    · rw [Nat.log2_lt h0]
      exact Nat.lt_of_lt_of_le hi (Nat.le_trans (Nat.pow_le_pow_left (by decide : 10 ≤ 2 ^ 4) 20) (by rw [← Nat.pow_mul]; exact Nat.pow_le_pow_right (by decide) (by decide)))
  have hd := int_text_length_le10 (k := 20) (by decide) hi
  have hd' : (Str.ofString (toString i)).length ≤ 21 := by rw [PySem.ofString_length]; exact hd
  refine wpAny_formatField_int hlog ⟨_, _, rfl, by rw [strLen_append, la, sizeLine_eq]; omega, ?_⟩
  show wpAny _ _ (eval (.Constant (.str b) kb pb) X.env) _ _ _
  refine Calls.Constant_str ⟨b, _, rfl, by rw [strLen_append, strLen_append, la, sizeLine_eq]; omega, ?_⟩
  refine ⟨by rw [strLen_append, strLen_append, la, sizeLine_eq]; omega, ?_⟩
  exact ⟨.str _, H1, (((I1.tok _).tok _).tok _), ⟨_, rfl⟩, q _⟩
end
end L2

set_option linter.all false
set_option maxRecDepth 100000
/-! errors of own classes, raised and caught, over the hand layer -/
namespace L2
open PySem PySem.Spec PyProof.Rows

section
variable {P : Program} {w : World} {H : Hp} {h : Heap} {a : Addr} {o : HO}
theorem ObjOk.there (x : ObjOk P w H h a o) : ∃ ob, h.get? a = some ob := by
  cases o with
  | lst xs => obtain ⟨_, _, _, _, e⟩ := x; exact ⟨_, e⟩
  | tup xs => obtain ⟨_, _, _, o, e, _⟩ := x; exact ⟨_, e⟩
  | dK kvs => obtain ⟨_, _, _, _, o, _, _, e, _⟩ := x; exact ⟨_, e⟩
  | dT kvs => obtain ⟨_, _, _, _, o, _, _, e, _⟩ := x; exact ⟨_, e⟩
  | set S n => obtain ⟨o, _, _, _, e, _⟩ := x; exact ⟨_, e⟩
  | ins C dx fs => obtain ⟨_, _, _, e, _⟩ := x; exact ⟨_, e⟩
  | own y => obtain ⟨_, e⟩ := x; exact ⟨_, e⟩
  | xd fs => obtain ⟨_, ⟨_, _, _, e, _⟩, _⟩ := x; exact ⟨_, e⟩
  | rng lo hi => obtain ⟨_, _, _, e⟩ := x; exact ⟨_, e⟩
  | frz ob u => obtain ⟨e, _⟩ := x; exact ⟨_, e⟩
  | tbl ps => exact ⟨_, (show h.get? a = some _ from x)⟩
  | met f y => exact ⟨_, (show h.get? a = some _ from x)⟩
  | ext φ => obtain ⟨_, ⟨_, e⟩, _⟩ := x; exact ⟨_, e⟩
theorem HOk.there (x : HOk P w H h) (e : H a ≠ none) : ∃ ob, h.get? a = some ob := by
  cases q : H a with
  | none => exact absurd q e
  | some u => exact (x a u q).there
end

/-- an error of an own class at C flies: it lies at ea; B: all that the frames' slots and the error's own records don't touch -/
structure Flies (P : Program) (w : World) (outer : List Env) (H : Hp) (s : Shared) (ea C : Addr) (a0 : Value) (B : Heap) (H' : Hp) (s' : Shared) : Prop where
  os : s'.os = s.os
  bare : AllBare s'.gens
  un : Un (frs outer) [] H H' s.heap s'.heap
  hok : HOk P w H' s'.heap
  fl : Heap.FlyingW B outer ea (.ref C) a0 s'.heap
  trk : ∀ b, H' b ≠ none → ∃ o, B.get? b = some o
  old : ∀ b o, s.heap.get? b = some o → b ∉ frs outer → ∃ o', B.get? b = some o'
def CXo (P : Program) (w : World) : CXT := fun outer H s E e s' => ∃ (ea C : Addr) (a0 : Value) (B : Heap) (H' : Hp), e = .ref ea ∧ Flies P w outer H s ea C a0 B H' s' ∧ E (.ref C) none H'
theorem CXo.no {P : Program} {w : World} {outer : List Env} {H : Hp} {s s' : Shared} {e : Value} (h : CXo P w outer H s (fun _ _ _ => False) e s') : False := by
  obtain ⟨_, _, _, _, _, _, _, z⟩ := h
  exact z

/-- what an error made in this body wants -/
def RaiseOk (X : Cx) (E : XK) : Prop := ∀ (pins : List (Addr × Obj)) (σ : St) (H : Hp) (s : Shared) (e C : Addr) (h' : Heap) (vs : List Value), Inv X pins σ H s → Heap.MadeExcOf s.heap h' e (.ref C) vs → E (.ref C) none H → X.xe (.ref e) { s with heap := h' }
section
variable {P : Program} {w : World} {K : PySem.W.Frag} {mg : Str → Option Value} {base : Heap} {N : List Str} {qual : Str} {scope : Scope} {f : Addr} {cd : Value} {A : Around} {outer : List Env} {s₀ : Shared} {H₀ : Hp} {E : XK}
theorem raise_ok : RaiseOk (cxOf (CXo P w) P w K mg base N qual scope f cd A outer s₀ H₀ E) E := by
  intro pins σ H s e C h' vs I hx hE
  have hin : ∀ env ∈ (cxOf (CXo P w) P w K mg base N qual scope f cd A outer s₀ H₀ E).stack, ∀ b, env.frame = some b → b ∈ frs (cxOf (CXo P w) P w K mg base N qual scope f cd A outer s₀ H₀ E).stack := fun env he b hb => List.mem_filterMap.mpr ⟨env, he, hb⟩
  have hl := PySem.W.funFrames_hide I.stack hin
  have frne : ∀ b o, s₀.heap.get? b = some o → b ∉ frs outer → b ∉ frs (cxOf (CXo P w) P w K mg base N qual scope f cd A outer s₀ H₀ E).stack := fun b o e hb z => by
    rcases List.mem_cons.mp (I.stkSub b z) with q | q
    · exact absurd (Nat.lt_of_lt_of_le (Heap.lt_size e) I.ok.above) (by rw [← q]; exact Nat.lt_irrefl _)
    · exact hb q
  show wpAny (model P w) (A.deeper (envOfC qual scope s₀.heap.objs.size f cd)) (leaving (envOfC qual scope s₀.heap.objs.size f cd) (.ref e)) _ _ _
  refine wpAny_leaves_madeW (s := { s with heap := h' }) (base := PySem.W.hideAll s.heap (frs (cxOf (CXo P w) P w K mg base N qual scope f cd A outer s₀ H₀ E).stack)) I.ok.frames rfl (fun b o q => PySem.W.of_hideAll _ q) hl hx fun h'' t fl _ _ up => ?_
  have inB : ∀ b o, s.heap.get? b = some o → b ∉ frs (cxOf (CXo P w) P w K mg base N qual scope f cd A outer s₀ H₀ E).stack → (PySem.W.hideAll s.heap (frs (cxOf (CXo P w) P w K mg base N qual scope f cd A outer s₀ H₀ E).stack)).get? b = some o := fun b o e hb => PySem.W.hideAll_get _ e hb
  have st : ∀ b o, s.heap.get? b = some o → b ∉ frs (cxOf (CXo P w) P w K mg base N qual scope f cd A outer s₀ H₀ E).stack → h''.get? b = some o := fun b o e hb => fl.1 b o (inB b o e hb)
  have fr : ∀ b o, s.heap.get? b = some o → b ∈ frs (cxOf (CXo P w) P w K mg base N qual scope f cd A outer s₀ H₀ E).stack → ∃ sl, h''.get? b = some { o with slots := sl } := fun b o e hb => by
    obtain ⟨_, o', e', nf⟩ := I.stack.mem hb
    rw [e] at e'
    cases e'
    exact up b o (hx.keeps b o e) nf
  have trkd : ∀ b, H b ≠ none → b ∉ frs (cxOf (CXo P w) P w K mg base N qual scope f cd A outer s₀ H₀ E).stack := fun b hb z => hb (I.stkFree b z)
  refine ⟨e, C, .ref t, _, H, rfl, ⟨I.os, I.bare, ⟨fun b o q n hb _ => ?_, fun b o q n hb _ => ?_, fun b o q n _ => I.base.free b o q n (by intro z; exact absurd (show b ∈ ([] : List Addr) from z) (by simp)), fun b o q _ => ?_, I.base.tups, I.base.frzs, I.base.tbls⟩, fun b u q => ?_, fl, fun b hb => ?_, fun b o q hb => ?_⟩, hE⟩
  · exact st b o (I.base.keep b o q n hb (by intro z; exact absurd (show b ∈ ([] : List Addr) from z) (by simp))) (frne b o q hb)
  · obtain ⟨sl, e1⟩ := I.base.slot b o q n hb (by intro z; exact absurd (show b ∈ ([] : List Addr) from z) (by simp))
    by_cases hz : b ∈ frs (cxOf (CXo P w) P w K mg base N qual scope f cd A outer s₀ H₀ E).stack
    · obtain ⟨sl', e2⟩ := fr b _ e1 hz
      exact ⟨sl', e2⟩
    · exact ⟨sl, st b _ e1 hz⟩
  · obtain ⟨o', e1⟩ := I.base.there b o q (by intro z; exact absurd (show b ∈ ([] : List Addr) from z) (by simp))
    by_cases hz : b ∈ frs (cxOf (CXo P w) P w K mg base N qual scope f cd A outer s₀ H₀ E).stack
    · obtain ⟨sl', e2⟩ := fr b _ e1 hz
      exact ⟨_, e2⟩
    · exact ⟨o', st b _ e1 hz⟩
  · refine (I.hok b u q).stay (fun c v hc e2 => st c v e2 (trkd c ?_)) (fun _ z => z) fun _ _ z => z
    rcases hc with z | z
    · rw [z, q]; simp
    · rw [z]; simp
  · obtain ⟨o, e1⟩ := I.hok.there hb
    exact ⟨o, inB b o e1 (trkd b hb)⟩
  · obtain ⟨o', e1⟩ := I.base.there b o q (by intro z; exact absurd (show b ∈ ([] : List Addr) from z) (by simp))
    exact ⟨o', inB b o' e1 (frne b o q hb)⟩
/-- an error of a callee leaves this body too -/
theorem passes_ok : Passes (CXo P w) (cxOf (CXo P w) P w K mg base N qual scope f cd A outer s₀ H₀ E) E := by
  intro pins σ H s e s' I hcx
  obtain ⟨ea, C, a0, B, H', rfl, F, hE⟩ := hcx
  show wpAny (model P w) (A.deeper (envOfC qual scope s₀.heap.objs.size f cd)) (leaving (envOfC qual scope s₀.heap.objs.size f cd) (.ref ea)) _ _ _
  refine wpAny_leaves_onW (base := B) (cls := .ref C) (a0 := a0) I.ok.frames rfl F.fl fun h'' fl up => ?_
  have frne : ∀ b o, s₀.heap.get? b = some o → b ∉ frs outer → b ∉ frs (cxOf (CXo P w) P w K mg base N qual scope f cd A outer s₀ H₀ E).stack := fun b o e hb z => by
    rcases List.mem_cons.mp (I.stkSub b z) with q | q
    · exact absurd (Nat.lt_of_lt_of_le (Heap.lt_size e) I.ok.above) (by rw [← q]; exact Nat.lt_irrefl _)
    · exact hb q
  have nol : ∀ b : Addr, b ∉ (cxOf (CXo P w) P w K mg base N qual scope f cd A outer s₀ H₀ E).ex := fun b z => absurd (show b ∈ ([] : List Addr) from z) (by simp)
  have st : ∀ b o, s.heap.get? b = some o → b ∉ frs (cxOf (CXo P w) P w K mg base N qual scope f cd A outer s₀ H₀ E).stack → ∃ o', s'.heap.get? b = some o' ∧ h''.get? b = some o' := fun b o e hb => by
    obtain ⟨o', q⟩ := F.old b o e hb
    exact ⟨o', F.fl.1 b o' q, fl.1 b o' q⟩
  have fr : ∀ b o, s.heap.get? b = some o → b ∈ frs (cxOf (CXo P w) P w K mg base N qual scope f cd A outer s₀ H₀ E).stack → ∃ sl, h''.get? b = some { o with slots := sl } := fun b o e hb => by
    obtain ⟨_, o', e', nf⟩ := I.stack.mem hb
    rw [e] at e'
    cases e'
    obtain ⟨sl, e1⟩ := F.un.slot b o e (I.stkFree b hb) hb (by simp)
    obtain ⟨sl', e2⟩ := up b _ e1 nf
    exact ⟨sl', e2⟩
  refine ⟨ea, C, a0, B, H', rfl, ⟨F.os.trans I.os, F.bare, ⟨fun b o q n hb _ => ?_, fun b o q n hb _ => ?_, fun b o q n _ => ?_, fun b o q _ => ?_, fun b xs q => F.un.tups b xs (I.base.tups b xs q), fun b o u q => F.un.frzs b o u (I.base.frzs b o u q), fun b ps q => ?_⟩, fun b u q => ?_, fl, F.trk, fun b o q hb => ?_⟩, hE⟩
  · have e1 := I.base.keep b o q n hb (nol b)
    have n1 := I.base.free b o q n (nol b)
    have e2 := F.un.keep b o e1 n1 (frne b o q hb) (by simp)
    obtain ⟨o', q1, q2⟩ := st b o e1 (frne b o q hb)
    rw [e2] at q1
    cases q1
    exact q2
  · obtain ⟨sl, e1⟩ := I.base.slot b o q n hb (nol b)
    have n1 := I.base.free b o q n (nol b)
    by_cases hz : b ∈ frs (cxOf (CXo P w) P w K mg base N qual scope f cd A outer s₀ H₀ E).stack
    · obtain ⟨sl', e2⟩ := fr b _ e1 hz
      exact ⟨sl', e2⟩
    · have e2 := F.un.keep b _ e1 n1 hz (by simp)
      obtain ⟨o', q1, q2⟩ := st b _ e1 hz
      rw [e2] at q1
      cases q1
      exact ⟨sl, q2⟩
  · obtain ⟨o1, e1⟩ := I.base.there b o q (nol b)
    exact F.un.free b o1 e1 (I.base.free b o q n (nol b)) (by simp)
  · obtain ⟨o1, e1⟩ := I.base.there b o q (nol b)
    by_cases hz : b ∈ frs (cxOf (CXo P w) P w K mg base N qual scope f cd A outer s₀ H₀ E).stack
    · obtain ⟨sl', e2⟩ := fr b _ e1 hz
      exact ⟨_, e2⟩
    · obtain ⟨o', _, q2⟩ := st b _ e1 hz
      exact ⟨o', q2⟩
  · obtain ⟨m1, q1⟩ := I.base.tbls b ps q
    obtain ⟨m2, q2⟩ := F.un.tbls b _ q1
    exact ⟨m1 ++ m2, by rw [q2, Array.append_assoc]⟩
  · refine (F.hok b u q).stay (fun c v hc e2 => ?_) (fun _ z => z) fun _ _ z => z
    have hc' : H' c ≠ none := by
      rcases hc with z | z
      · rw [z, q]; simp
      · rw [z]; simp
    obtain ⟨o, e3⟩ := F.trk c hc'
    have e4 := F.fl.1 c o e3
    rw [e2] at e4
    cases e4
    exact fl.1 c _ e3
  · obtain ⟨o1, e1⟩ := I.base.there b o q (nol b)
    exact F.old b o1 e1 (frne b o q hb)
end

/-! ### the class of an own error, as it stands behind the top -/
abbrev vmro : List Value := [.type "ValueError", .type "Exception", .type "BaseException", .type "object"]
structure OwnErr (K : PySem.W.Frag) (C : Addr) : Prop where
  ex : PySem.W.excIn K C vmro "ValueError.__new__" = true
theorem own_obj {K : PySem.W.Frag} {C : Addr} (q : OwnErr K C) : ∃ (nm qn : Str) (N : Addr) (bs bm : List Value) (hdct : Bool) (sn : List Str) (sub : List Value) (ab : Bool) (col : Option Bool) (dd : Option Addr) (k0 k1 k2 k3 k5 : Option Value),
    K.lookup C = some (excClassObj nm qn C N bs bm hdct sn sub ab col dd k0 k1 k2 k3 k5 "ValueError.__new__") ∧ ∀ h : Heap, K.In h → ∃ mN, h.Ns N mN ∧ mN "__init__" = none ∧ OwnTail h vmro bm := by
  have q := q.ex
  unfold PySem.W.excIn at q
  split at q
  · rename_i dd cd sl ho
    split at q
    · rename_i C' bm k0 k1 k2 k3 n k5 hm hs
      simp only [Bool.and_eq_true, beq_iff_eq, Bool.not_eq_true'] at q
      obtain ⟨⟨⟨⟨⟨rfl, rfl⟩, hdel⟩, ht⟩, hok⟩, hni⟩ := q
      obtain ⟨nm, bs, mro, ns, qn, hd, sn, sub, ab, col, del⟩ := cd
      dsimp only at hm hdel hok hni
      subst hm hdel
      have hsl : sl = #[k0, k1, k2, k3, some (.builtin "ValueError.__new__"), k5] := by
        obtain ⟨l⟩ := sl
        simp only at hs
        rw [hs]
      subst hsl
      exact ⟨nm, qn, ns, bs, bm, hd, sn, sub, ab, col, dd, k0, k1, k2, k3, k5, ho, fun h X => ⟨_, .of_isNs (PySem.W.isNs_of_in X hok), PySem.W.nsMap_none_of_in X hok hni, PySem.W.tail_of_in X ht⟩⟩
    · cases q
  · cases q
/-- the error class at C stands under the one at D (b), or not -/
def SubErr (K : PySem.W.Frag) (C D : Addr) (b : Bool) : Prop := PySem.W.mroIn K C (.ref D) = some b

section
variable {X : Cx}
/-- raise C(e, ..) -/
def tRaise (C : Addr) (E : XK) (t : TA) : TS := fun _ σ H => t σ H fun vs H1 => vs.length ≤ sizeLine ∧ E (.ref C) none H1
theorem ps_raise {x : Str} {C : Addr} {E : XK} {e₀ : Expr} {rest : List Expr} {t : TA} {np cpos pos : Pos} (O : OwnErr X.K C) (hg : Gl X x) (hm : X.mg x = some (.ref C)) (hc : X.calm = true) (hR : RaiseOk X E) (ha : PA X (e₀ :: rest) t)
    (he : starEach (e₀ :: rest) X.env = (false, eval e₀ X.env) :: starEach rest X.env := by rfl) (hpl : (backTo cpos (starEach rest X.env)).any (·.1) = false := by rfl) (hd : (x == ("__debug__" : Str)) = false := by decide) :
    PS X (.Raise (some (.Call (.Name x np) (e₀ :: rest) [] cpos)) none pos) (tRaise C E t) := by
  intro pins s σ H D I h
  obtain ⟨nm, qn, N, bs, bm, hdct, sn, sub, ab, col, dd, k0, k1, k2, k3, k5, lk, more⟩ := own_obj O
  obtain ⟨mN, hN, hni, T⟩ := more _ I.ok.mod.kin
  refine wpAny_Raise_call_subT (C := C) (nm := nm) (q := qn) (N := N) (bs := bs) (bm := bm) (hdct := hdct) (sn := sn) (sub := sub) (ab := ab) (col := col) (dd := dd) (k0 := k0) (k1 := k1) (k2 := k2) (k3 := k3) (k5 := k5)
    PySem.F.excBase_ValueError (mN := mN) (T.hasType PySem.F.excBase_ValueError.hasBase) (I.ok.hd hc) (by rw [he]; show (false || (backTo cpos (starEach rest X.env)).any (·.1)) = false; rw [hpl]; rfl) hni (ld_glob I hg hm ⟨rfl, ?_⟩ hd)
  have hA := ha cpos pins s σ H _ I h
  rw [he] at hA ⊢
  refine Calls.evalArgs_plain (thn hA fun us s1 ⟨vs, H1, I1, r1, hl, q⟩ => ?_)
  exact ⟨rfl, by rw [← r1.length]; exact hl, I1.kIn _ _ lk, hN.keeps I1.bk, T.keeps I1.bk, fun h' e hm => hR pins σ H1 s1 e C h' _ I1 hm q⟩
end

/-! ### try, except -/
section
variable {X : Cx} {pins : List (Addr × Obj)} {σ : St} {H : Hp} {s : Shared}
/-- where an error has come back to this frame -/
theorem Inv.land {ea C : Addr} {a0 : Value} {B : Heap} {H' : Hp} {s' : Shared} {h'' : Heap} (I : Inv X pins σ H s) (F : Flies X.prog X.w X.stack H s ea C a0 B H' s') (stB : B.StaysIn h'') (up : s'.heap.UpToSlots h'') : Inv X pins σ H' { s' with heap := h'' } := by
  refine I.call' (ch := []) (s' := { s' with heap := h'' }) F.os ⟨fun b o q n hb _ => ?_, fun b o q n hb _ => ?_, fun b o q n _ => F.un.free b o q n (by simp), fun b o q _ => ?_, F.un.tups, F.un.frzs, F.un.tbls⟩ (fun b u q => ?_) F.bare (fun b hb => absurd hb (by simp))
  · obtain ⟨o', q1⟩ := F.old b o q hb
    have q2 := F.fl.1 b o' q1
    rw [F.un.keep b o q n hb (by simp)] at q2
    cases q2
    exact stB b o q1
  · obtain ⟨_, o', e', nf⟩ := I.stack.mem hb
    rw [q] at e'
    cases e'
    obtain ⟨sl, e1⟩ := F.un.slot b o q n hb (by simp)
    obtain ⟨sl', e2⟩ := up b _ e1 nf
    exact ⟨sl', e2⟩
  · by_cases hb : b ∈ frs X.stack
    · obtain ⟨_, o', e', nf⟩ := I.stack.mem hb
      rw [q] at e'
      cases e'
      obtain ⟨sl, e1⟩ := F.un.slot b o q (I.stkFree b hb) hb (by simp)
      obtain ⟨sl', e2⟩ := up b _ e1 nf
      exact ⟨_, e2⟩
    · obtain ⟨o', q1⟩ := F.old b o q hb
      exact ⟨o', stB b o' q1⟩
  · refine (F.hok b u q).stay (fun c v hc e2 => ?_) (fun _ z => z) fun _ _ z => z
    have hc' : H' c ≠ none := by
      rcases hc with z | z
      · rw [z, q]; simp
      · rw [z]; simp
    obtain ⟨o, e3⟩ := F.trk c hc'
    have e4 := F.fl.1 c o e3
    rw [e2] at e4
    cases e4
    exact stB c _ e3
/-- within an except suite -/
abbrev Cx.mark (X : Cx) (ea : Addr) : Cx := { X with A := X.A.mark (some (.ref ea)), calm := false, xe := fun _ _ => False }
theorem Inv.mark (I : Inv X pins σ H s) (ea : Addr) : Inv (X.mark ea) pins σ H s :=
  ⟨⟨I.ok.mod, I.ok.kind, I.ok.glob, I.ok.blt, I.ok.above, I.ok.inj, I.ok.has, I.ok.cab, fun z => absurd z (by show ¬ (false = true); decide), I.ok.frames, I.ok.stk, I.ok.exf, I.ok.bs, I.ok.bsz, I.ok.noex, I.ok.exfs, I.ok.funs, I.ok.frf⟩, I.os, I.bare, I.base, I.loc, I.cell, I.free, I.freeC, I.pin, I.hok, I.len⟩
theorem Inv.unmark {ea : Addr} (ok : X.Ok) (I : Inv (X.mark ea) pins σ H s) : Inv X pins σ H s := ⟨ok, I.os, I.bare, I.base, I.loc, I.cell, I.free, I.freeC, I.pin, I.hok, I.len⟩
theorem SP.unmark {ea : Addr} (ok : X.Ok) {D : Ends} {f : Flow} {s' : Shared} (h : SP (X.mark ea) pins D f s') : SP X pins D f s' := by
  cases f with
  | next => obtain ⟨σ', H', I, q⟩ := h; exact ⟨σ', H', I.unmark ok, q⟩
  | brk => obtain ⟨σ', H', I, q⟩ := h; exact ⟨σ', H', I.unmark ok, q⟩
  | cont => obtain ⟨σ', H', I, q⟩ := h; exact ⟨σ', H', I.unmark ok, q⟩
  | ret u => obtain ⟨v, σ', H', I, r, q⟩ := h; exact ⟨v, σ', H', I.unmark ok, r, q⟩
end
/-- the handlers' reading, by the error's class -/
abbrev TH := Addr → TS
def PH (X : Cx) (hs : List ExceptHandler) (t : TH) : Prop :=
  ∀ (pins : List (Addr × Obj)) (s : Shared) (σ : St) (H : Hp) (D : Ends) (ea C : Addr) (a0 : Value) (B : Heap), X.K.In B → H ea = none → Heap.FlyingW B X.stack ea (.ref C) a0 s.heap → (∀ h'', B.StaysIn h'' → s.heap.UpToSlots h'' → Inv X pins σ H { s with heap := h'' }) → t C D σ H →
    wpAny (model X.prog X.w) X.A (handleBy (.ref ea) X.env hs) (SP X pins D) X.xe s
theorem excMatches_own {M : Model} {A : Around} {E : Value → Shared → Prop} {nm q nm2 q2 : Str} {C N D N2 : Addr} {bs bm bs2 bm2 : List Value} {hdct hdct2 : Bool} {sn sn2 : List Str} {sub sub2 : List Value} {ab ab2 : Bool} {col col2 : Option Bool} {dd dd2 : Option Addr} {k0 k1 k2 k3 k5 j0 j1 j2 j3 j5 : Option Value} {newId newId2 : String}
    {h : Heap} {g : Array GenState} {d : Drawn} {t : Nat} {os : OsState} {e : Addr} {oe : Obj} {Q : Bool → Shared → Prop}
    (hC : h.get? C = some (excClassObj nm q C N bs bm hdct sn sub ab col dd k0 k1 k2 k3 k5 newId)) (hD : h.get? D = some (excClassObj nm2 q2 D N2 bs2 bm2 hdct2 sn2 sub2 ab2 col2 dd2 j0 j1 j2 j3 j5 newId2))
    (he : h.get? e = some oe) (hcls : oe.cls = .ref C) (hbase : bm2.contains (.type "BaseException") = true)
    (hq : Q ((Value.ref C :: bm).contains (.ref D)) ⟨h, g, d, t, os⟩) : wpAny M A (excMatches (.ref e) (.ref D)) Q E ⟨h, g, d, t, os⟩ := by
  have hcB : (Value.ref D :: bm2).contains (.type "BaseException") = true := by rw [List.contains_cons, hbase, Bool.or_true]
  have f := tc_notTuple
  unfold excMatches
  repeat (first | (with_reducible refine wpAny_loadPart_at he ?_; rw [hcls]) | with_reducible refine wpAny_loadPart_at hD ?_ | (with_reducible refine wpAny_isSubtype_exc hD ?_; rw [hcB]) | with_reducible refine wpAny_isSubtype_exc hC ?_ | wp_step)
  generalize hb : (Value.ref C :: bm).contains (.ref D) = b at hq ⊢
  cases b <;> (wp_walk; exact hq)
section
variable {X : Cx}
/-- the test of a clause -/
theorem clause_test {pins : List (Addr × Obj)} {s : Shared} {σ : St} {H : Hp} {ea C D : Addr} {a0 : Value} {B : Heap} {x : Str} {np : Pos} {b : Bool} {Q : Bool → Shared → Prop} {E : Value → Shared → Prop} (OC : OwnErr X.K C) (OD : OwnErr X.K D) (hg : Gl X x) (hm : X.mg x = some (.ref D)) (hb : SubErr X.K C D b)
    (I : Inv X pins σ H s) (fl : Heap.FlyingW B X.stack ea (.ref C) a0 s.heap) (hq : Q b s) (hd : (x == ("__debug__" : Str)) = false := by decide) :
    wpAny (model X.prog X.w) (X.A.mark (some (.ref ea))) (eval (.Name x np) X.env) (fun c s₁ => wpAny (model X.prog X.w) (X.A.mark (some (.ref ea))) (excMatches (.ref ea) c) Q E s₁) E s := by
  have IM := I.mark ea
  refine ld_glob (X := X.mark ea) IM hg hm ?_ hd
  obtain ⟨nm, qn, N, bs, bm, hdct, sn, sub, ab, col, dd, k0, k1, k2, k3, k5, lk, _⟩ := own_obj OC
  obtain ⟨nm', qn', N', bs', bm', hdct', sn', sub', ab', col', dd', k0', k1', k2', k3', k5', lk', more⟩ := own_obj OD
  obtain ⟨_, _, _, T⟩ := more _ I.kIn
  obtain ⟨oe, he, hcls⟩ := fl.there
  have e : b = (Value.ref C :: bm).contains (.ref D) := by
    unfold SubErr PySem.W.mroIn PySem.W.clsIn at hb
    rw [lk] at hb
    have hb' : some ((Value.ref C :: bm).contains (.ref D)) = some b := hb
    exact (Option.some.inj hb').symm
  obtain ⟨hp, g, d, tk, os⟩ := s
  exact excMatches_own (I.kIn _ _ lk) (I.kIn _ _ lk') he hcls (T.hasType PySem.F.excBase_ValueError.hasBase) (by rw [← e]; exact hq)
def tClause (K : PySem.W.Frag) (D : Addr) (t : TS) (tr : TH) : TH := fun C Dn σ H => OwnErr K C ∧ ∃ b, SubErr K C D b ∧ if b = true then t Dn σ H else tr C Dn σ H
/-- except D: suite -/
theorem ph_cons {x : Str} {D : Addr} {np pos : Pos} {b₀ : Stmt} {suite : List Stmt} {rest : List ExceptHandler} {t : TS} {tr : TH} (OD : OwnErr X.K D) (hg : Gl X x) (hm : X.mg x = some (.ref D)) (hs : ∀ ea, PSs (X.mark ea) (b₀ :: suite) t) (hr : PH X rest tr)
    (hd : (x == ("__debug__" : Str)) = false := by decide) : PH X (.ExceptHandler (some (.Name x np)) none (b₀ :: suite) pos :: rest) (tClause X.K D t tr) := by
  intro pins s σ H Dn ea C a0 B hK hn fl land h
  obtain ⟨OC, b, hb, h⟩ := h
  have I : Inv X pins σ H s := land s.heap fl.1 (Heap.UpToSlots.refl _)
  refine wpAny_handleBy_cons (codeAny_handlers_test (clause_test OC OD hg hm hb I fl ?_ hd)) (by intro q; cases q)
  cases b with
  | false => exact hr pins s σ H Dn ea C a0 B hK hn fl land h
  | true =>
    refine codeAny_handlers_suite (lands_againW fl fun h₂ fl₂ up₂ => ?_)
    have I2 : Inv X pins σ H { s with heap := h₂ } := land h₂ fl₂.1 up₂
    exact wpAny_mono (hs ea pins _ σ H Dn (I2.mark ea) h) (fun f s3 q => q.unmark I.ok) fun _ _ z => False.elim z
theorem ph_never {hs : List ExceptHandler} : PH X hs fun _ _ _ _ => False := fun _ _ _ _ _ _ _ _ _ _ _ _ _ h => h.elim
/-- an error's object, as it is told within its suite -/
def errO (ea C : Addr) : HO := .ext fun h => ∃ o, h.get? ea = some o ∧ o.cls = .ref C ∧ o.dict = none ∧ PySem.W.notCls o = true
theorem flying_obj {B h : Heap} {l : List Env} {ea C : Addr} {a0 : Value} (fl : Heap.FlyingW B l ea (.ref C) a0 h) : ∃ o, h.get? ea = some o ∧ o.cls = .ref C := fl.there
/-- except D as n: suite, which always returns -/
def tClauseAs (K : PySem.W.Frag) (D : Addr) (i : Nat) (t : TS) (tr : TH) : TH := fun C Dn σ H => OwnErr K C ∧ ∃ b, SubErr K C D b ∧
  if b = true then ∀ ea, H ea = none → t { nx := fun _ _ => False, rt := fun v H' => Dn.rt v H' } (σ.set i (some (.ref ea))) (upd H ea (errO ea C)) else tr C Dn σ H
end
section
variable {X : Cx} {CX : CXT} {k : Nat} {f : Addr} {fd : FuncData} {ps : List Str} {sp : Sp} {x : Str} {p pos : Pos} {e : Expr} {es : List Expr} {t : TA}
/-- the callee runs; an error of it is told with this frame's names as they are -/
theorem run_fnX {pins : List (Addr × Obj)} {σ : St} {H : Hp} {s : Shared} {Q : VK} {E : XK} {us : List Value} {vs : List V} (F : FnOk X.prog X.w X.K X.mg X.base CX k f fd ps sp) (hr : Room k X.A) (hb : Binds X.K fd ps []) (I : Inv X pins σ H s) (r : Vals vs us) (h : sp vs H Q E) :
    wpAny (model X.prog X.w) X.A (call (.ref f) us) (EP X pins σ Q) (fun e s' => CX X.stack H s E e s') s := by
  have hl : us.length = ps.length := by rw [← r.length]; exact F.len _ _ _ _ h
  have hb' := hb s us I.kIn (by rw [List.append_nil]; exact hl)
  rw [List.append_nil] at hb'
  refine wpAny_call (codeAny_mono (F.run X.A X.stack s H ⟨us, []⟩ us vs Q E hr I.env0 hb' r h) fun r s' hq => ?_)
  cases r with
  | error e => exact hq
  | ok fl =>
    cases fl with
    | ret u => exact I.after hq
    | next => exact False.elim hq
    | brk => exact False.elim hq
    | cont => exact False.elim hq
/-- a call, its errors told -/
def EX (CX : CXT) (X : Cx) (pins : List (Addr × Obj)) (σ : St) (E : XK) (e : Value) (s' : Shared) : Prop := ∃ H s, Inv X pins σ H s ∧ CX X.stack H s E e s'
def PEx (X : Cx) (CX : CXT) (e : Expr) (t : St → Hp → VK → XK → Prop) : Prop :=
  ∀ (pins : List (Addr × Obj)) (s : Shared) (σ : St) (H : Hp) (Q : VK) (E : XK), Inv X pins σ H s → t σ H Q E → wpAny (model X.prog X.w) X.A (eval e X.env) (EP X pins σ Q) (EX CX X pins σ E) s
theorem pex_call (F : FnOk X.prog X.w X.K X.mg X.base CX k f fd ps sp) (hr : Room k X.A) (hg : Gl X x) (hm : X.mg x = some (.ref f)) (hk : PySem.W.keepIn X.K (.ref f) = true) (hb : Binds X.K fd ps []) (ha : PA X.nox (e :: es) t)
    (hdb : (x == ("__debug__" : Str)) = false := by decide) (he : starEach (e :: es) X.env = (false, eval e X.env) :: starEach es X.env := by rfl) (hpl : (backTo pos (starEach es X.env)).any (·.1) = false := by rfl) :
    PEx X CX (.Call (.Name x p) (e :: es) [] pos) (fun σ H Q E => t σ H fun vs H1 => sp vs H1 Q E) := by
  intro pins s σ H Q E I h
  refine wpAny_Call_Name_kw (ld_glob I hg hm ?_ hdb)
  refine PySem.W.callWith_K (h₀ := X.base) I.ok.mod.kin hk (wpAny_mono (ha pos pins s σ H _ (I.wish _) h) (fun us s1 ⟨vs, H1, I1, r, q⟩ => ⟨I1.kIn, ?_⟩) fun _ _ z => False.elim z) he hpl
  exact wpAny_mono (run_fnX F hr hb I1.unwish r q) (fun _ _ z => z) fun e s' z => ⟨H1, s1, I1.unwish, z⟩
end
section
variable {X : Cx} {e : Expr} {te : St → Hp → VK → XK → Prop} {hs : List ExceptHandler} {h₀ : ExceptHandler} {th : TH} {tpos : Pos}
theorem catch_it {pins : List (Addr × Obj)} {σ : St} {D : Ends} {ev : Value} {s' : Shared} (hh : PH X (h₀ :: hs) th) (hfr : X.env.frame = some X.env.locals) (hst : X.stack = X.env :: X.outer)
    (h : EX (CXo X.prog X.w) X pins σ (fun c _ H2 => ∃ C, c = .ref C ∧ th C D σ H2) ev s') :
    wpAny (model X.prog X.w) X.A (noteFrame ev X.env) (fun _ s₂ => wpAny (model X.prog X.w) X.A (setFlight ev none) (fun _ s₃ => wpAny (model X.prog X.w) X.A (handleBy ev X.env (h₀ :: hs)) (SP X pins D) X.xe s₃) X.xe s₂) X.xe s' := by
  obtain ⟨H, s, I, ea, C, a0, B, H', rfl, F, C', e1, q⟩ := h
  cases e1
  have fl : Heap.FlyingW B (X.env :: X.outer) ea (.ref C) a0 s'.heap := by rw [← hst]; exact F.fl
  refine wpAny_looks_onW (by rw [← hst]; exact I.ok.frames) hfr fl fun h₄ held up₄ => ?_
  refine wpAny_landsW held fun h₅ fl₅ up₅ => ?_
  have hn : H' ea = none := by
    cases z : H' ea with
    | none => rfl
    | some u =>
      obtain ⟨o, q1⟩ := F.trk ea (by rw [z]; simp)
      rw [fl.2.1] at q1
      cases q1
  have hK : X.K.In B := fun b o e => by
    have eb := I.kIn b o e
    have ebase := I.ok.mod.kin b o e
    obtain ⟨eb', nb⟩ := I.bs b o ebase
    have nf : b ∉ frs X.stack := fun z => by
      have := (I.stack.mem z).1
      rw [ebase] at this
      cases this
    obtain ⟨o', q1⟩ := F.old b o eb nf
    have q2 := F.fl.1 b o' q1
    rw [F.un.keep b o eb nb nf (by simp)] at q2
    cases q2
    exact q1
  exact hh pins { s' with heap := h₅ } σ H' D ea C a0 B hK hn (by rw [hst]; exact fl₅) (fun h'' stB up => show Inv X pins σ H' { s' with heap := h'' } from I.land (s' := s') F stB ((up₄.trans up₅).trans up)) q
/-- try: y = e; except .. -/
theorem ps_tryA {i : Nat} {y : Str} {py apos : Pos} (he : PEx X (CXo X.prog X.w) e te) (hh : PH X (h₀ :: hs) th) (hfr : X.env.frame = some X.env.locals) (hst : X.stack = X.env :: X.outer) (hN : X.N.Nodup) (hi : X.N[i]? = some y) (hx : Loc X.env.scope y)
    (hsw : swapsWith e (some (.Name y py)) apos.line X.env = pure false := by rfl) (hf : X.fn y = true ∨ X.env.scope.names.lookup y = some .local := by first | exact .inl rfl | exact .inr rfl | assumption) :
    PS X (.Try [.Assign [.Name y py] e apos] (h₀ :: hs) [] [] tpos) (fun D σ H => te σ H (fun v H1 => D.nx (σ.set i (some v)) H1) (fun c _ H2 => ∃ C, c = .ref C ∧ th C D σ H2)) := by
  intro pins s σ H D I h
  refine wpAny_Try_except (wpAny_execs_cons ?_)
  refine wpAny_Assign_Name (wpAny_mono (he pins s σ H _ _ I h) (fun v s1 ⟨z, H1, I1, r1, q1⟩ => ?_) fun ev s' q => catch_it hh hfr hst q) hsw
  refine store_ok I1 hN hi hx r1 (fun s2 I2 => ?_) hf
  exact wpAny_execs_nil (wpAny_execs_nil ⟨_, H1, I2, q1⟩)
/-- try: e; except .. -/
theorem ps_tryE {apos : Pos} (he : PEx X (CXo X.prog X.w) e te) (hh : PH X (h₀ :: hs) th) (hfr : X.env.frame = some X.env.locals) (hst : X.stack = X.env :: X.outer) (hsw : swapsWith e none apos.line X.env = pure false := by rfl) :
    PS X (.Try [.Expr e apos] (h₀ :: hs) [] [] tpos) (fun D σ H => te σ H (fun _ H1 => D.nx σ H1) (fun c _ H2 => ∃ C, c = .ref C ∧ th C D σ H2)) := by
  intro pins s σ H D I h
  refine wpAny_Try_except (wpAny_execs_cons ?_)
  refine wpAny_Expr_any (wpAny_mono (he pins s σ H _ _ I h) (fun v s1 ⟨z, H1, I1, r1, q1⟩ => ?_) fun ev s' q => catch_it hh hfr hst q) I.quiet hsw
  exact wpAny_execs_nil (wpAny_execs_nil ⟨_, H1, I1, q1⟩)
end
end L2

set_option linter.all false
set_option maxRecDepth 100000
/-! the usual forms of comprehensions -/
namespace L2
open PySem
abbrev iv (xs : List Int) : List V := xs.map V.int
theorem Same.new {H : Hp} {a : Addr} {o : HO} (h : H a = none) : Same H (upd H a o) := fun b u e => by rw [upd_ne (ne_of_none e h)]; exact e
theorem Same.put {H0 H : Hp} {a : Addr} {o : HO} (s : Same H0 H) (h : H0 a = none) : Same H0 (upd H a o) := fun b u e => by rw [upd_ne (ne_of_none e h)]; exact s b u e
theorem iv_get {xs : List Int} {i : Nat} {v : V} (h : (iv xs)[i]? = some v) : ∃ x, xs[i]? = some x ∧ v = .int x := by
  rw [List.getElem?_map] at h
  cases e : xs[i]? with
  | none => rw [e] at h; cases h
  | some x => rw [e] at h; exact ⟨x, rfl, (Option.some.inj h).symm⟩
theorem take_map_snoc {α β : Type} (f : α → β) (xs : List α) (i : Nat) (x : α) (h : xs[i]? = some x) : (xs.take i).map f ++ [f x] = (xs.take (i + 1)).map f := by
  obtain ⟨hl, e⟩ := List.getElem?_eq_some_iff.mp h
  rw [List.take_succ_eq_append_getElem hl, List.map_append, e]
  rfl
/-- [f(x) for x in xs], nothing else done -/
theorem comp_list {K : PySem.W.Frag} {a acc : Addr} {xs : List V} {te : TE} {v0 : Option V} {fs : St} {H1 : Hp} {Q : Hp → Prop} (f : V → V) (hz : xs.length ≤ sizeLine) (hl : SqL K H1 a xs) (hacc : H1 acc = none)
    (he : ∀ x ∈ xs, ∀ ys R, R (f x) (upd H1 acc (.lst ys)) → te (some x :: fs) (upd H1 acc (.lst ys)) R) (hq : Q (upd H1 acc (.lst (xs.map f)))) :
    ∃ W : Nat → Nat → St → Hp → Prop, (∃ m, W 0 m (v0 :: fs) (upd H1 acc (.lst []))) ∧ ∀ i m σ H, W i m σ H → ((Itl K a).stop i H ∧ Q H) ∨
      ((Itl K a).go i H ∧ ∃ N : V → St → Hp → Prop, (∀ y σ' H', N y σ' H' → ∃ ys, H' acc = some (.lst ys) ∧ ys.length < sizeLine ∧ ∃ m', m' < m ∧ W (i + 1) m' σ' (upd H' acc (.lst (ys ++ [y])))) ∧
        ∀ x H', (Itl K a).yld i H x H' → gName 0 x σ H' fun σ2 H2 => te σ2 H2 fun y H3 => N y σ2 H3) := by
  have sq : ∀ ys, SqL K (upd H1 acc (.lst ys)) a xs := fun ys => (Same.new hacc).seq hl
  refine comp_by xs.length hz (fun i ys σ H => (∃ v, σ = v :: fs) ∧ ys = (xs.take i).map f ∧ i ≤ xs.length ∧ H = upd H1 acc (.lst ys)) ⟨⟨v0, rfl⟩, by simp, Nat.zero_le _, rfl⟩ (fun i ys σ H ⟨_, e, hi, _⟩ => by rw [e]; simp; omega) (fun i ys σ H hi ⟨_, _, _, e⟩ => ?_) (fun ys σ H ⟨_, _, _, e⟩ => ?_) (fun i ys σ H x H' hi ⟨⟨v, es⟩, ey, _, eh⟩ y => ?_) (fun ys σ H ⟨_, e1, _, e2⟩ => ?_)
  · subst e
    exact ⟨xs, xs[i], sq _, by simp [hi]⟩
  · subst e
    exact ⟨xs, sq _, Nat.le_refl _⟩
  · obtain ⟨e', hx⟩ := y
    subst eh
    subst e'
    subst es
    have hx' := hx xs (sq ys)
    show te (some x :: fs) _ _
    refine he x (List.mem_of_getElem? hx') ys _ ⟨upd_same, ⟨some x, rfl⟩, ?_, hi, by rw [upd_upd]⟩
    rw [ey]
    exact take_map_snoc f xs i x hx'
  · subst e2
    rw [e1, List.take_of_length_le (Nat.le_refl _)]
    exact hq
/-- .. of ints -/
theorem comp_ints {K : PySem.W.Frag} {a acc : Addr} {xs : List Int} {te : TE} {v0 : Option V} {fs : St} {H1 : Hp} {Q : Hp → Prop} (f : Int → V) (hz : xs.length ≤ sizeLine) (hl : SqL K H1 a (iv xs)) (hacc : H1 acc = none)
    (he : ∀ x ∈ xs, ∀ ys R, R (f x) (upd H1 acc (.lst ys)) → te (some (.int x) :: fs) (upd H1 acc (.lst ys)) R) (hq : Q (upd H1 acc (.lst (xs.map f)))) :
    ∃ W : Nat → Nat → St → Hp → Prop, (∃ m, W 0 m (v0 :: fs) (upd H1 acc (.lst []))) ∧ ∀ i m σ H, W i m σ H → ((Itl K a).stop i H ∧ Q H) ∨
      ((Itl K a).go i H ∧ ∃ N : V → St → Hp → Prop, (∀ y σ' H', N y σ' H' → ∃ ys, H' acc = some (.lst ys) ∧ ys.length < sizeLine ∧ ∃ m', m' < m ∧ W (i + 1) m' σ' (upd H' acc (.lst (ys ++ [y])))) ∧
        ∀ x H', (Itl K a).yld i H x H' → gName 0 x σ H' fun σ2 H2 => te σ2 H2 fun y H3 => N y σ2 H3) := by
  refine comp_list (K := K) (v0 := v0) (fs := fs) (fun v => match v with | .int i => f i | _ => .non) (by rw [List.length_map]; exact hz) hl hacc (fun x hx ys R q => ?_) ?_
  · obtain ⟨z, hz, rfl⟩ := List.mem_map.mp hx
    exact he z hz ys R q
  · rw [List.map_map]
    exact hq
def ints2 (xs ys : List Int) (i : Nat) : Option (Int × Int) := (xs.zip ys)[i]?
/-- the target (a, b) -/
abbrev gPair (K : PySem.W.Frag) : TG := gTup K 2 (gCons (gName 0) (gCons (gName 1) gNil))
abbrev gTriple (K : PySem.W.Frag) : TG := gTup K 3 (gCons (gName 0) (gCons (gName 1) (gCons (gName 2) gNil)))
/-- [f(x, y) for x, y in zip(xs, ys)] over two lists of ints of one length -/
theorem comp_zip2 {K : PySem.W.Frag} {c1 c2 : Addr × Bool} {acc : Addr} {xs ys : List Int} {te : TE} {H1 : Hp} {Q : Hp → Prop} (f : Int → Int → V) (hz : xs.length ≤ sizeLine) (hlen : xs.length = ys.length) (h1 : ∀ H, Same H1 H → SqB K H c1 (iv xs)) (h2 : ∀ H, Same H1 H → SqB K H c2 (iv ys)) (hacc : H1 acc = none)
    (he : ∀ x y σ0 H R, (∀ H', H' = H → R (f x y) H') → te (some (.int x) :: some (.int y) :: σ0) H R) (hq : ∀ H, Same H1 H → H acc = some (.lst ((xs.zip ys).map fun p => f p.1 p.2)) → Q H) :
    ∃ W : Nat → Nat → St → Hp → Prop, (∃ m, W 0 m [none, none] (upd H1 acc (.lst []))) ∧ ∀ i m σ H, W i m σ H → ((Itz K [c1, c2]).stop i H ∧ Q H) ∨
      ((Itz K [c1, c2]).go i H ∧ ∃ N : V → St → Hp → Prop, (∀ y σ' H', N y σ' H' → ∃ ys, H' acc = some (.lst ys) ∧ ys.length < sizeLine ∧ ∃ m', m' < m ∧ W (i + 1) m' σ' (upd H' acc (.lst (ys ++ [y])))) ∧
        ∀ x H', (Itz K [c1, c2]).yld i H x H' → gPair K x σ H' fun σ2 H2 => te σ2 H2 fun y H3 => N y σ2 H3) := by
  have row : ∀ H i (hi : i < xs.length), Same H1 H → ZOk K H i [(c1, iv xs, .int xs[i]), (c2, iv ys, .int (ys[i]'(by omega)))] := fun H i hi s p hp => by
    rcases List.mem_cons.mp hp with rfl | hp
    · exact ⟨h1 H s, by simp [hi]⟩
    · rw [List.mem_singleton.mp hp]
      exact ⟨h2 H s, by simp <;> omega⟩
  refine comp_by xs.length hz (fun i zs σ H => (∃ v u, σ = [v, u]) ∧ zs = ((xs.zip ys).take i).map (fun p => f p.1 p.2) ∧ i ≤ xs.length ∧ Same H1 H ∧ H acc = some (.lst zs)) ⟨⟨none, none, rfl⟩, by simp, Nat.zero_le _, Same.new hacc, upd_same⟩
    (fun i zs σ H ⟨_, e, hi, _⟩ => by rw [e]; simp; omega) (fun i zs σ H hi ⟨_, _, _, s, _⟩ => ⟨_, rfl, row H i hi s⟩) (fun zs σ H ⟨_, _, _, s, _⟩ => ⟨[], c1, iv xs, [c2], rfl, fun p hp => absurd hp (by simp), h1 H s, by simp⟩)
    (fun i zs σ H x H' hi ⟨⟨v, u, es⟩, ey, _, s, ea⟩ y => ?_) (fun zs σ H ⟨_, e1, _, s, e2⟩ => ?_)
  · obtain ⟨T, vs, rfl, hT, rfl, hv⟩ := y
    have hv' := hv _ rfl (row H i hi s)
    subst hv'
    subst es
    refine ⟨T, _, rfl, SqT.of upd_same, rfl, _, _, rfl, _, _, rfl, rfl, ?_⟩
    have hTa : acc ≠ T := ne_of_none ea hT
    refine he _ _ [] _ _ fun H' e => ?_
    subst e
    refine ⟨by rw [upd_ne hTa]; exact ea, ⟨_, _, rfl⟩, ?_, hi, (s.put (s.free hT)).put hacc, upd_same⟩
    rw [ey]
    exact take_map_snoc (fun p : Int × Int => f p.1 p.2) (xs.zip ys) i (xs[i], ys[i]'(by omega)) (by rw [List.getElem?_zip_eq_some]; exact ⟨by simp [hi], by simp <;> omega⟩)
  · refine hq H s ?_
    rw [e2, e1, List.take_of_length_le (by simp <;> omega)]
theorem comp_zip3 {K : PySem.W.Frag} {c1 c2 c3 : Addr × Bool} {acc : Addr} {xs ys zs : List Int} {te : TE} {H1 : Hp} {Q : Hp → Prop} (f : Int → Int → Int → V) (hz : xs.length ≤ sizeLine) (hl1 : xs.length = ys.length) (hl2 : xs.length = zs.length) (h1 : ∀ H, Same H1 H → SqB K H c1 (iv xs)) (h2 : ∀ H, Same H1 H → SqB K H c2 (iv ys)) (h3 : ∀ H, Same H1 H → SqB K H c3 (iv zs)) (hacc : H1 acc = none)
    (he : ∀ x y z σ0 H R, (∀ H', H' = H → R (f x y z) H') → te (some (.int x) :: some (.int y) :: some (.int z) :: σ0) H R) (hq : ∀ H, Same H1 H → H acc = some (.lst ((xs.zip (ys.zip zs)).map fun p => f p.1 p.2.1 p.2.2)) → Q H) :
    ∃ W : Nat → Nat → St → Hp → Prop, (∃ m, W 0 m [none, none, none] (upd H1 acc (.lst []))) ∧ ∀ i m σ H, W i m σ H → ((Itz K [c1, c2, c3]).stop i H ∧ Q H) ∨
      ((Itz K [c1, c2, c3]).go i H ∧ ∃ N : V → St → Hp → Prop, (∀ y σ' H', N y σ' H' → ∃ ys, H' acc = some (.lst ys) ∧ ys.length < sizeLine ∧ ∃ m', m' < m ∧ W (i + 1) m' σ' (upd H' acc (.lst (ys ++ [y])))) ∧
        ∀ x H', (Itz K [c1, c2, c3]).yld i H x H' → gTriple K x σ H' fun σ2 H2 => te σ2 H2 fun y H3 => N y σ2 H3) := by
  have row : ∀ H i (hi : i < xs.length), Same H1 H → ZOk K H i [(c1, iv xs, .int xs[i]), (c2, iv ys, .int (ys[i]'(by omega))), (c3, iv zs, .int (zs[i]'(by omega)))] := fun H i hi s p hp => by
    rcases List.mem_cons.mp hp with rfl | hp
    · exact ⟨h1 H s, by simp [hi]⟩
    · rcases List.mem_cons.mp hp with rfl | hp
      · exact ⟨h2 H s, by simp <;> omega⟩
      · rw [List.mem_singleton.mp hp]
        exact ⟨h3 H s, by simp <;> omega⟩
  refine comp_by xs.length hz (fun i ws σ H => (∃ v u t, σ = [v, u, t]) ∧ ws = ((xs.zip (ys.zip zs)).take i).map (fun p => f p.1 p.2.1 p.2.2) ∧ i ≤ xs.length ∧ Same H1 H ∧ H acc = some (.lst ws)) ⟨⟨none, none, none, rfl⟩, by simp, Nat.zero_le _, Same.new hacc, upd_same⟩
    (fun i ws σ H ⟨_, e, hi, _⟩ => by rw [e]; simp; omega) (fun i ws σ H hi ⟨_, _, _, s, _⟩ => ⟨_, rfl, row H i hi s⟩) (fun ws σ H ⟨_, _, _, s, _⟩ => ⟨[], c1, iv xs, [c2, c3], rfl, fun p hp => absurd hp (by simp), h1 H s, by simp⟩)
    (fun i ws σ H x H' hi ⟨⟨v, u, t, es⟩, ey, _, s, ea⟩ y => ?_) (fun ws σ H ⟨_, e1, _, s, e2⟩ => ?_)
  · obtain ⟨T, vs, rfl, hT, rfl, hv⟩ := y
    have hv' := hv _ rfl (row H i hi s)
    subst hv'
    subst es
    refine ⟨T, _, rfl, SqT.of upd_same, rfl, _, _, rfl, _, _, rfl, _, _, rfl, rfl, ?_⟩
    have hTa : acc ≠ T := ne_of_none ea hT
    refine he _ _ _ [] _ _ fun H' e => ?_
    subst e
    refine ⟨by rw [upd_ne hTa]; exact ea, ⟨_, _, _, rfl⟩, ?_, hi, (s.put (s.free hT)).put hacc, upd_same⟩
    rw [ey]
    exact take_map_snoc (fun p : Int × Int × Int => f p.1 p.2.1 p.2.2) (xs.zip (ys.zip zs)) i (xs[i], ys[i]'(by omega), zs[i]'(by omega)) (by rw [List.getElem?_zip_eq_some, List.getElem?_zip_eq_some]; exact ⟨by simp [hi], by simp <;> omega, by simp <;> omega⟩)
  · refine hq H s ?_
    rw [e2, e1, List.take_of_length_le (by simp <;> omega)]
end L2

set_option linter.all false
set_option maxRecDepth 100000
/-! comprehensions with one test -/
namespace L2
open PySem PySem.Spec PyProof.Rows
theorem compLoopI_any {prog : Program} {w : World} {A : Around} {R : Result → Shared → Prop} {s : Shared} {elt target iter cnd : Expr} {scope : Scope} {pos : Pos} {it acc : Value} {env : Env} (I : Nat → Shared → Prop)
    (turn : ∀ n s, I n s → wpAny (model prog w) A (pyNext it) (fun r s₁ => match r with
      | none => R (.ok .next) s₁
      | some v => wpAny (model prog w) A (letOwnedTupleGo target it v) (fun _ s₁' => wpAny (model prog w) A (assign target env v) (fun _ s₂ => wpAny (model prog w) A (PySem.isTrue cnd env (eval cnd env)) (fun k s₂' => match k with
          | true => wpAny (model prog w) A (eval elt env) (fun x s₃ =>
            wpAny (model prog w) A (call (.builtin "list.append") [acc, x]) (fun _ s₄ => ∃ m, m < n ∧ I m s₄) (fun _ _ => False) s₃) (fun _ _ => False) s₂'
          | false => ∃ m, m < n ∧ I m s₂') (fun _ _ => False) s₂) (fun _ _ => False) s₁') (fun _ _ => False) s₁) (fun _ _ => False) s)
    (n : Nat) (h : I n s) : codeAny (model prog w) A (.compLoop (.ListComp elt [⟨target, iter, [cnd], 0⟩] scope pos) 0 it acc env) R s := by
  have no : ∀ {E : Value → Shared → Prop} (e : Value) (s : Shared), False → E e s := fun _ _ z => z.elim
  refine codeAny_loop rfl I (fun n s hI => ?_) n h
  show wpAny _ _ ((compTurn (.ListComp elt [⟨target, iter, [cnd], 0⟩] scope pos) 0 it acc env).onRaise (fun x => do noteFrame x env; theTreesLotGoes x)) _ _ s
  refine wpAny_noted ?_
  rw [compTurn_list]
  refine wpAny_bind (wpAny_standAt (wpAny_bind (wpAny_mono (turn n s hI) (fun r s₁ h₁ => ?_) no)))
  cases r with
  | none => exact wpAny_pure h₁
  | some v =>
    refine wpAny_bind (wpAny_mono h₁ (fun _ s₁' h₁' => ?_) no)
    refine wpAny_bind (wpAny_mono h₁' (fun _ s₂ h₂ => wpAny_bind (wpAny_tests_one (wpAny_mono h₂ (fun k s₃ h₃ => ?_) no))) no)
    cases k with
    | false => exact wpAny_pure ⟨rfl, h₃⟩
    | true => exact wpAny_bind (wpAny_bind (wpAny_mono h₃ (fun x s₄ h₄ => wpAny_bind (wpAny_mono h₄ (fun _ s₅ h₅ => wpAny_pure (wpAny_pure ⟨rfl, h₅⟩)) no)) no))
/-- the reading of a comprehension with a test -/
def tCompI (wi : TI) (st : St → St) (g : TG) (tc : TT) (te : TE) : TE := fun σ H Q => wi σ H fun J H1 => ∀ acc, H1 acc = none → ∃ W : Nat → Nat → St → Hp → Prop, (∃ m, W 0 m (st σ) (upd H1 acc (.lst []))) ∧
  ∀ i m σ H, W i m σ H → (J.stop i H ∧ Q (.ref acc) H) ∨ (J.go i H ∧ ∃ (N : V → St → Hp → Prop) (M : St → Hp → Prop), (∀ y σ' H', N y σ' H' → ∃ ys, H' acc = some (.lst ys) ∧ ys.length < sizeLine ∧ ∃ m', m' < m ∧ W (i + 1) m' σ' (upd H' acc (.lst (ys ++ [y])))) ∧ (∀ σ' H', M σ' H' → ∃ m', m' < m ∧ W (i + 1) m' σ' H') ∧ ∀ x H', J.yld i H x H' → g x σ H' fun σ2 H2 => tc σ2 H2 fun k H3 => if k = true then te σ2 H3 fun y H4 => N y σ2 H4 else M σ2 H3)
section
variable {X : Cx} {elt target iter cnd : Expr} {scope : Scope} {pos : Pos} {N' : List Str} {own : Nat} {fr : List Nat} {wi : TI} {g : TG} {tc : TT} {te : TE} {cl : List (Str × Addr)} {pins : List (Addr × Obj)} {σ : St} {H : Hp} {s : Shared}
theorem compi_core {J : It} {fp : List Addr} {it : Addr} {tn : Nat → Heap → Prop} {H1 : Hp} {s2 : Shared} {Q' : V → Hp → Prop} {E : Value → Shared → Prop} {RR : Value → Addr → Result → Shared → Prop}
    (S : CompScope X.env.scope X.N N' own fr scope) (h1 : ∀ x c, cl.lookup x = some c → X.env.cells.lookup x = some c) (h2 : ∀ y ∈ scope.names, y.2 = .free → ∃ c, cl.lookup y.1 = some c) (hc : X.calm = true)
    (hg : ∀ C s₀ H₀ ex, PG (cxComp X scope N' cl C s₀ H₀ ex) target g) (hk : ∀ C s₀ H₀ ex, PT (cxComp X scope N' cl C s₀ H₀ ex) cnd tc) (he : ∀ C s₀ H₀ ex, PE (cxComp X scope N' cl C s₀ H₀ ex) elt te)
    (I2 : Inv X pins σ H1 s2) (T : Turn X.prog X.w X.K target J fp it tn) (st : tn 0 s2.heap) (f2 : ∀ b ∈ fp, FpOk X pins H1 b)
    (h : ∀ acc, H1 acc = none → ∃ W : Nat → Nat → St → Hp → Prop, (∃ m, W 0 m (compSt own fr σ) (upd H1 acc (.lst []))) ∧
      ∀ i m σ H, W i m σ H → (J.stop i H ∧ Q' (.ref acc) H) ∨ (J.go i H ∧ ∃ (N : V → St → Hp → Prop) (M : St → Hp → Prop), (∀ y σ' H', N y σ' H' → ∃ ys, H' acc = some (.lst ys) ∧ ys.length < sizeLine ∧ ∃ m', m' < m ∧ W (i + 1) m' σ' (upd H' acc (.lst (ys ++ [y])))) ∧ (∀ σ' H', M σ' H' → ∃ m', m' < m ∧ W (i + 1) m' σ' H') ∧ ∀ x H', J.yld i H x H' → g x σ H' fun σ2 H2 => tc σ2 H2 fun k H3 => if k = true then te σ2 H3 fun y H4 => N y σ2 H4 else M σ2 H3))
    (hRR : ∀ acc C H' s' m, Inv X pins σ H' s' → s'.heap.Ns C m → FpOk X pins H' C → Q' (.ref acc) H' → RR (.ref acc) C (.ok .next) s') :
    wpAny (model X.prog X.w) X.A (newList []) (fun acc s₃ => wpAny (model X.prog X.w) X.A (newFunctionEnv scope X.env.globals cl [] X.env.qual none .none (some X.env)) (fun cenv s₄ =>
      codeAny (model X.prog X.w) X.A (.compStart (.ListComp elt [⟨target, iter, [cnd], 0⟩] scope pos) 0 (.ref it) acc { cenv with scope := relabel scope X.env }) (RR acc cenv.locals) s₄) E s₃) E s2 := by
  refine wpAny_newObj_type (wpAny_newFunctionEnv S.nocell (by intro y hy; simp at hy) (fun h₁ hns₁ hsb₁ => ?_) S.kind)
  dsimp only at hns₁ hsb₁ ⊢
  generalize hH2 : s2.heap.push { cls := .type "list", dict := none, data := .seq ([] : List Value).toArray } = H2 at hns₁ hsb₁ ⊢
  have hC : H2.objs.size = s2.heap.objs.size + 1 := by rw [← hH2, Heap.size_push]
  have hCs : s2.heap.objs.size ≤ H2.objs.size := by rw [hC]; exact Nat.le_succ _
  have hDC : s2.heap.objs.size ≠ H2.objs.size := by rw [hC]; exact Nat.ne_of_lt (Nat.lt_succ_self _)
  have below : ∀ b, b < s2.heap.objs.size → b ≠ H2.objs.size := fun b hb => by rw [hC]; exact Nat.ne_of_lt (Nat.lt_succ_of_lt hb)
  have old : ∀ b o, s2.heap.get? b = some o → h₁.get? b = some o := fun b o e => hsb₁.extBut b o (below b (Heap.lt_size e)) (Heap.get?_push_of_some _ (hH2 ▸ Heap.get?_push_of_some _ e))
  have hacc : h₁.get? s2.heap.objs.size = some { cls := .type "list", dict := none, data := .seq ([] : List Value).toArray } := hsb₁.extBut _ _ hDC (Heap.get?_push_of_some _ (hH2 ▸ Heap.get?_push_size _ rfl))
  have fpl : ∀ b ∈ fp, b < s2.heap.objs.size := fun b hb => let ⟨_, e, _⟩ := T.obj 0 _ st b hb; Heap.lt_size e
  have hn0 : H1 s2.heap.objs.size = none := I2.hok.fresh (Nat.le_refl _)
  have hnC : H1 H2.objs.size = none := I2.hok.fresh hCs
  obtain ⟨W, ⟨m0, w0⟩, turn⟩ := h s2.heap.objs.size hn0
  have okX := comp_ok (C := H2.objs.size) (fp := fp) S h1 h2 I2 hCs f2 fpl
  have I3 : Inv (cxComp X scope N' cl H2.objs.size s2 H1 fp) pins (compSt own fr σ) (upd H1 s2.heap.objs.size (.lst [])) { s2 with heap := h₁, toks := s2.toks + ([] : List (Str × Value)).length } := by
    refine ⟨okX, rfl, I2.bare, Un.laid old (Nat.le_refl _) hn0, ⟨_, hns₁, fun i x v e1 e2 _ => comp_look S h1 h2 I2 (fun x c v _ z => ?_) i x v e1 e2⟩, fun x c e => ?_, ?_, fun x c e => ?_, fun p hp => ?_, I2.hok.laid old (Nat.le_refl _) ?_, ?_⟩
    · obtain ⟨o, eo, d⟩ := z
      exact ⟨o, old c o eo, d⟩
    · obtain ⟨v, o, eo, d⟩ := I2.cell x c (h1 x c e)
      exact ⟨v, o, old c o eo, d⟩
    · show upd H1 s2.heap.objs.size (.lst []) H2.objs.size = none
      rw [upd_ne (Ne.symm hDC)]
      exact hnC
    · obtain ⟨v, o, eo, d⟩ := I2.cell x c (h1 x c e)
      rw [upd_ne (Nat.ne_of_lt (Heap.lt_size eo))]
      exact I2.freeC x c (h1 x c e)
    · obtain ⟨p1, p2, p3, p4, p5⟩ := I2.pin p hp
      refine ⟨old _ _ p1, ?_, below _ (Heap.lt_size p1), fun z => (List.mem_cons.mp (I2.stkSub _ z)).elim p3 p4, p5⟩
      rw [upd_ne (Nat.ne_of_lt (Heap.lt_size p1))]
      exact p2
    · exact ⟨Nat.zero_le _, [], _, .nil, hacc⟩
    · show (compSt own fr σ).length = N'.length
      rw [S.len]
      simp [compSt]
  have stat : ∀ {H' : Hp}, (∀ b ∈ fp, H' b = none) → ∀ b ∈ fp, FpOk (cxComp X scope N' cl H2.objs.size s2 H1 fp) pins H' b := fun hn b hb => by
    obtain ⟨_, g1, g2, g3, g4, g5⟩ := f2 b hb
    exact ⟨hn b hb, below b (fpl b hb), fun z => (List.mem_cons.mp (I2.stkSub _ z)).elim g1 g2, .inl hb, fun x c e => g4 x c (h1 x c e), g5⟩
  have fp0 : ∀ b ∈ fp, upd H1 s2.heap.objs.size (.lst []) b = none := fun b hb => by
    rw [upd_ne (Nat.ne_of_lt (fpl b hb))]
    exact (f2 b hb).1
  have st0 : tn 0 h₁ := T.keep _ _ _ st fun b _ o e => old b o e
  -- from the block back to the frame
  have back : ∀ {σ' : St} {H' : Hp} {s' : Shared}, Inv (cxComp X scope N' cl H2.objs.size s2 H1 fp) pins σ' H' s' → Inv X pins σ H' s' := fun {σ' H' s'} J =>
    I2.call' (ch := fp) J.os J.base J.hok J.bare fun b hb => by
      obtain ⟨_, g1, _, g3, g4, g5⟩ := f2 b hb
      exact ⟨g3, g1, g4, g5⟩
  have loop : ∀ s₃ : Shared, s₃ = { s2 with heap := h₁, toks := s2.toks + ([] : List (Str × Value)).length } →
      codeAny (model X.prog X.w) X.A (.compLoop (.ListComp elt [⟨target, iter, [cnd], 0⟩] scope pos) 0 (.ref it) (.ref s2.heap.objs.size) (compEnvC scope cl H2.objs.size X.env)) (RR (.ref s2.heap.objs.size) H2.objs.size) s₃ := by
    rintro s₃ rfl
    refine compLoopI_any (fun n s' => ∃ i σ' H', Inv (cxComp X scope N' cl H2.objs.size s2 H1 fp) pins σ' H' s' ∧ tn i s'.heap ∧ (∀ b ∈ fp, H' b = none) ∧ W i n σ' H') ?_ m0 ⟨0, _, _, I3, st0, fp0, w0⟩
    rintro n s3 ⟨i, σ3, H3, J3, st3, fr3, w3⟩
    rcases turn i n σ3 H3 w3 with ⟨stop, qn⟩ | ⟨go, N, M, hN, hM, step⟩
    · refine thn (T.done (cxComp X scope N' cl H2.objs.size s2 H1 fp) rfl rfl rfl hc i pins s3 σ3 H3 _ J3 (stat fr3) st3 stop) fun r s4 ⟨hr, J4⟩ => ?_
      subst hr
      obtain ⟨m, hm, _⟩ := J4.loc
      exact hRR _ _ H3 s4 m (back J4) hm (I2.fpOk hCs J4.free) qn
    · refine thn (T.item (cxComp X scope N' cl H2.objs.size s2 H1 fp) rfl rfl rfl hc i pins s3 σ3 H3 _ J3 (stat fr3) st3 go) fun r s4 ⟨u, hr, h4⟩ => ?_
      subst hr
      refine thn h4 fun _ s5 ⟨x, H5, J5, r5, y5, st5, fr5⟩ => ?_
      have J5' := J5.pinned (stat fr5) (T.obj _ _ st5)
      refine thn (hg _ _ _ _ _ s5 σ3 H5 x u _ J5' r5 (step x H5 y5)) fun _ s6 ⟨σ6, H6, J6, q6⟩ => ?_
      refine thn (hk _ _ _ _ _ s6 σ6 H6 _ J6 q6) fun k s6' ⟨H6', J6', q6'⟩ => ?_
      cases k with
      | false =>
        obtain ⟨m', hm, w7⟩ := hM σ6 H6' q6'
        refine ⟨m', hm, i + 1, σ6, _, J6'.unpinned, T.keep _ _ _ st5 fun b hb o e => (J6'.pin (b, o) (List.mem_append_right _ (List.mem_append_right _ (mem_pinsAt hb e)))).1, fun b hb => ?_, w7⟩
        obtain ⟨o, e, d⟩ := T.obj _ _ st5 b hb
        exact (J6'.pin (b, o) (List.mem_append_right _ (List.mem_append_right _ (mem_pinsAt hb e)))).2.1
      | true =>
      refine thn (he _ _ _ _ _ s6' σ6 H6' _ J6' q6') fun v s7 ⟨y, H7, J7, r7, n7⟩ => ?_
      obtain ⟨ys, a7, l7, m', hm, w7⟩ := hN y σ6 H7 n7
      refine thn (mt_append (X := cxComp X scope N' cl H2.objs.size s2 H1 fp) _ s7 σ6 H7 (.ref s2.heap.objs.size) [y] (.ref s2.heap.objs.size) [v] (fun z H8 => z = .non ∧ H8 = upd H7 s2.heap.objs.size (.lst (ys ++ [y]))) J7 rfl (.cons r7 .nil) ⟨_, ys, y, rfl, rfl, a7, l7, rfl, rfl⟩) fun z s8 ⟨z8, H8, J8, _, _, e8⟩ => ?_
      subst e8
      refine ⟨m', hm, i + 1, σ6, _, J8.unpinned, T.keep _ _ _ st5 fun b hb o e => (J8.pin (b, o) (List.mem_append_right _ (List.mem_append_right _ (mem_pinsAt hb e)))).1, fun b hb => ?_, w7⟩
      obtain ⟨o, e, d⟩ := T.obj _ _ st5 b hb
      exact (J8.pin (b, o) (List.mem_append_right _ (List.mem_append_right _ (mem_pinsAt hb e)))).2.1
  exact codeAny_compStart_list (loop _ rfl) (T.self _ 0 _ _ _ st0 (loop _ rfl))
end
section
variable {X : Cx} {elt target iter cnd : Expr} {scope : Scope} {pos : Pos} {N' : List Str} {own : Nat} {fr : List Nat} {wi : TI} {g : TG} {tc : TT} {te : TE}
/-- [elt for target in iter] -/
theorem pe_compI {fsc : Scope} {N : List Str} (S0 : CompScope fsc N N' own fr scope) (hc : X.calm = true) (hi : PI X target iter wi) (hg : ∀ cl C s₀ H₀ ex, PG (cxComp X scope N' cl C s₀ H₀ ex) target g) (hk : ∀ cl C s₀ H₀ ex, PT (cxComp X scope N' cl C s₀ H₀ ex) cnd tc) (he : ∀ cl C s₀ H₀ ex, PE (cxComp X scope N' cl C s₀ H₀ ex) elt te)
    (hs : ∀ x, foldedSetIterable iter X.env x = pure x := by intro _; rfl) (hfs : X.env.scope = fsc := by rfl) (hNN : X.N = N := by rfl) : PE X (.ListComp elt [⟨target, iter, [cnd], 0⟩] scope pos) (tCompI wi (compSt own fr) g tc te) := by
  have S : CompScope X.env.scope X.N N' own fr scope := by rw [hfs, hNN]; exact S0
  intro pins s σ H Q I h
  obtain ⟨cl, hcl, h1, h2⟩ := closure_of (scope := scope) (env := X.env) fun y hy hf => I.ok.has y.1 (S.frees y hy hf)
  rw [eval_ListComp]
  refine wpAny_comprehension_free (use := none) rfl hs hcl S.kind S.names (thn (hi pins s σ H _ I h) fun v s1 q1 => thn q1 fun itv s2 q2 => ?_)
  obtain ⟨it, fp, tn, J, H2, e, I2, T, st2, f2, hr⟩ := q2
  subst e
  refine compi_core (Q' := Q) (RR := fun acc C => compPost (model X.prog X.w) X.A X.xe none (EP X pins σ Q) acc C) S h1 h2 hc (hg cl) (hk cl) (he cl) I2 T st2 f2 hr fun acc C H' s' m J' hm fo q => ?_
  refine ⟨m, hm, fun h' sb => ?_⟩
  obtain ⟨f0, g1, g2, g3, g4, g5⟩ := fo
  exact ⟨.ref acc, H', J'.turned (t' := s'.toks) (fun b o hb e => sb.extBut b o hb e) f0 g1 g3 g4 g5, rfl, q⟩
/-- y = [elt for target in iter], the two stores exchanged -/
theorem ps_compI {fsc : Scope} {N : List Str} {i : Nat} {y : Str} {py spos : Pos} (S0 : CompScope fsc N N' own fr scope) (hc : X.calm = true) (hi : PI X target iter wi) (hg : ∀ cl C s₀ H₀ ex, PG (cxComp X scope N' cl C s₀ H₀ ex) target g) (hk : ∀ cl C s₀ H₀ ex, PT (cxComp X scope N' cl C s₀ H₀ ex) cnd tc) (he : ∀ cl C s₀ H₀ ex, PE (cxComp X scope N' cl C s₀ H₀ ex) elt te)
    (hN : X.N.Nodup) (hy : X.N[i]? = some y) (hl : X.env.scope.names.lookup y = some .local)
    (hsw : swapsWith (.ListComp elt [⟨target, iter, [cnd], 0⟩] scope pos) (some (.Name y py)) spos.line X.env = pure true := by rfl)
    (hs : ∀ x, foldedSetIterable iter X.env x = pure x := by intro _; rfl) (hfs : X.env.scope = fsc := by rfl) (hNN : X.N = N := by rfl) : PS X (.Assign [.Name y py] (.ListComp elt [⟨target, iter, [cnd], 0⟩] scope pos) spos) (tAsg (tCompI wi (compSt own fr) g tc te) (gName i)) := by
  have S : CompScope X.env.scope X.N N' own fr scope := by rw [hfs, hNN]; exact S0
  intro pins s σ H D I h
  obtain ⟨cl, hcl, h1, h2⟩ := closure_of (scope := scope) (env := X.env) fun y hy hf => I.ok.has y.1 (S.frees y hy hf)
  rw [exec_Assign_Name_used _ _ _ _ hsw]
  refine wpAny_bind (wpAny_standAt (wpAny_bind ?_))
  show wpAny _ _ (do let _ ← comprehension (.ListComp elt [⟨target, iter, [cnd], 0⟩] scope pos) scope X.env _ (newList []) false (eval iter X.env) (some (assign (.Name y py) X.env))) _ _ s
  refine wpAny_bind (wpAny_mono (wpAny_comprehension_free (use := some (assign (.Name y py) X.env)) (Q := fun _ s' => SP X pins D .next s') rfl hs hcl S.kind S.names
    (thn (hi pins s σ H _ I h) fun v s1 q1 => thn q1 fun itv s2 q2 => ?_)) (fun _ s' hq => wpAny_pure (wpAny_pure hq)) fun _ _ e => e)
  obtain ⟨it, fp, tn, J, H2, e, I2, T, st2, f2, hr⟩ := q2
  subst e
  refine compi_core (Q' := fun x H1 => gName i x σ H1 D.nx) (RR := fun acc C => compPost (model X.prog X.w) X.A X.xe (some (assign (.Name y py) X.env)) (fun _ s' => SP X pins D .next s') acc C) S h1 h2 hc (hg cl) (hk cl) (he cl) I2 T st2 f2 hr fun acc C H' s' m J' hm fo q => ?_
  show wpAny _ _ (assign (.Name y py) X.env (.ref acc)) _ _ _
  obtain ⟨f0, g1, g2, g3, g4, g5⟩ := fo
  refine wpAny_assign_Name (store_ok2 J' hN hy (.inl hl) (v := .ref acc) rfl (fun s'' J'' sb => ?_) (.inr hl))
  obtain ⟨a, sb, ha⟩ := sb
  have hCa : C ≠ a := by
    rcases ha with z | z
    · rw [z]; exact g1
    · exact Ne.symm (g4 _ _ z)
  refine ⟨m, hm.sameBut sb hCa, fun h' sb' => ?_⟩
  exact ⟨_, H', J''.turned (t' := s''.toks) (fun b o hb e => sb'.extBut b o hb e) f0 g1 g3 g4 g5, q⟩
end
/-- the usual form: n turns; Pv by the turn, the items so far, the block's names, the heap -/
theorem compi_by {J : It} {acc : Addr} {g : TG} {tc : TT} {te : TE} {σ0 : St} {H1 : Hp} {Q : Hp → Prop} (n : Nat) (hn : n ≤ sizeLine) (Pv : Nat → List V → St → Hp → Prop) (h0 : Pv 0 [] σ0 (upd H1 acc (.lst [])))
    (ha : ∀ i ys σ H, Pv i ys σ H → ys.length ≤ i) (hgo : ∀ i ys σ H, i < n → Pv i ys σ H → J.go i H) (hstop : ∀ ys σ H, Pv n ys σ H → J.stop n H)
    (hs : ∀ i ys σ H x H', i < n → Pv i ys σ H → J.yld i H x H' → g x σ H' fun σ2 H2 => tc σ2 H2 fun k H3 => if k = true then te σ2 H3 fun y H4 => H4 acc = some (.lst ys) ∧ Pv (i + 1) (ys ++ [y]) σ2 (upd H4 acc (.lst (ys ++ [y]))) else Pv (i + 1) ys σ2 H3)
    (hd : ∀ ys σ H, Pv n ys σ H → Q H) :
    ∃ W : Nat → Nat → St → Hp → Prop, (∃ m, W 0 m σ0 (upd H1 acc (.lst []))) ∧ ∀ i m σ H, W i m σ H → (J.stop i H ∧ Q H) ∨ (J.go i H ∧ ∃ (N : V → St → Hp → Prop) (M : St → Hp → Prop), (∀ y σ' H', N y σ' H' → ∃ ys, H' acc = some (.lst ys) ∧ ys.length < sizeLine ∧ ∃ m', m' < m ∧ W (i + 1) m' σ' (upd H' acc (.lst (ys ++ [y])))) ∧ (∀ σ' H', M σ' H' → ∃ m', m' < m ∧ W (i + 1) m' σ' H') ∧ ∀ x H', J.yld i H x H' → g x σ H' fun σ2 H2 => tc σ2 H2 fun k H3 => if k = true then te σ2 H3 fun y H4 => N y σ2 H4 else M σ2 H3) := by
  refine ⟨fun i m σ H => m = n - i ∧ i ≤ n ∧ ∃ ys, Pv i ys σ H, ⟨n, rfl, Nat.zero_le _, [], h0⟩, ?_⟩
  rintro i m σ H ⟨rfl, hi, ys, p⟩
  by_cases hlt : i < n
  · refine .inr ⟨hgo i ys σ H hlt p, fun y σ2 H3 => H3 acc = some (.lst ys) ∧ Pv (i + 1) (ys ++ [y]) σ2 (upd H3 acc (.lst (ys ++ [y]))), fun σ2 H3 => Pv (i + 1) ys σ2 H3, fun y σ' H' ⟨e, q⟩ => ⟨ys, e, ?_, n - (i + 1), by omega, rfl, hlt, _, q⟩, fun σ' H' q => ⟨n - (i + 1), by omega, rfl, hlt, _, q⟩, fun x H' y => hs i ys σ H x H' hlt p y⟩
    have := ha i ys σ H p
    omega
  · have e : i = n := by omega
    subst e
    exact .inl ⟨hstop ys σ H p, hd ys σ H p⟩
end L2

set_option linter.all false
set_option maxRecDepth 100000
namespace L2
open PySem PySem.Spec PyProof.Rows
section
variable {X : Cx}
/-- sum(xs) of a list of ints -/
theorem call_sumL (hc : X.calm = true) : CallR X (.builtin "sum") (fun xs H Q => ∃ (p : Addr) (ns : List Int), xs = [.ref p] ∧ SqL X.K H p (ns.map V.int) ∧ Q (.int ns.sum) H) := by
  intro pins s σ H xs us Q I r h
  obtain ⟨p, ns, rfl, hq, q⟩ := h
  obtain ⟨u, rfl, rx⟩ := vals1 r
  cases rx
  obtain ⟨its, rv, pl, hz⟩ := I.list hq
  have hi : IntsAre its ns := intsAre_of rv
  obtain ⟨zs, e⟩ := hi.allInts.items
  have hns : ns = zs.toList.map (·.1) := by rw [← hi.numsOf, ← nums_intItems, ← e]
  have hl := pl.isList
  rw [e] at hl
  refine sum_intListG (I.ok.hd hc) hl fun h' tk t' hk => ?_
  refine ⟨.int ns.sum, H, I.kept hk, ⟨t', ?_⟩, q⟩
  rw [preSum_eq, List.take_of_length_le (by simp), hns]
/-- a * b of any size that a machine can hold -/
theorem op_mulW : OpR X (binaryOp .Mult) (rI IntMulOk fun i j => .int (i * j)) := opI fun _ _ _ _ _ _ _ hc q => mul_int q hc
/-- a // b by a divisor that isn't nought, below 9000 bits -/
theorem op_fdivW : OpR X (binaryOp .FloorDiv) (rI (fun _ j => j ≠ 0 ∧ j.natAbs.log2 < 9000) fun i j => .int (i.fdiv j)) := opI fun _ _ _ _ _ _ _ hc q => floordiv_int hc.1 q (.inl (PyProof.noPylong_of_log2 hc.2))
end
end L2

set_option linter.all false
/-! linear algebra over whole numbers, by hand: families of vectors as functions of two numbers -/
namespace Lin
def sumN : Nat → (Nat → Int) → Int
  | 0, _ => 0
  | n + 1, f => sumN n f + f n
theorem sumN_congr {n : Nat} {f g : Nat → Int} (h : ∀ i, i < n → f i = g i) : sumN n f = sumN n g := by
  induction n with
  | zero => rfl
  | succ n ih => rw [sumN, sumN, ih fun i hi => h i (by omega), h n (by omega)]
theorem sumN_zero {n : Nat} {f : Nat → Int} (h : ∀ i, i < n → f i = 0) : sumN n f = 0 := by
  induction n with
  | zero => rfl
  | succ n ih => rw [sumN, ih fun i hi => h i (by omega), h n (by omega)]; rfl
theorem sumN_add (n : Nat) (f g : Nat → Int) : sumN n (fun i => f i + g i) = sumN n f + sumN n g := by
  induction n with
  | zero => rfl
  | succ n ih => rw [sumN, sumN, sumN, ih]; omega
theorem sumN_mul (n : Nat) (k : Int) (f : Nat → Int) : sumN n (fun i => k * f i) = k * sumN n f := by
  induction n with
  | zero => rw [sumN, sumN, Int.mul_zero]
  | succ n ih => rw [sumN, sumN, ih, Int.mul_add]
theorem sumN_mulR (n : Nat) (k : Int) (f : Nat → Int) : sumN n (fun i => f i * k) = sumN n f * k := by
  rw [Int.mul_comm, ← sumN_mul]
  exact sumN_congr fun i _ => Int.mul_comm ..
theorem sumN_sub (n : Nat) (f g : Nat → Int) : sumN n (fun i => f i - g i) = sumN n f - sumN n g := by
  induction n with
  | zero => rfl
  | succ n ih => rw [sumN, sumN, sumN, ih]; omega
theorem sumN_swap (m n : Nat) (f : Nat → Nat → Int) : sumN m (fun i => sumN n (fun j => f i j)) = sumN n (fun j => sumN m (fun i => f i j)) := by
  induction m with
  | zero => exact (sumN_zero (f := fun j => sumN 0 fun i => f i j) fun _ _ => rfl).symm
  | succ m ih => rw [sumN, ih, ← sumN_add]; rfl
theorem sumN_one {n k : Nat} (hk : k < n) (f : Nat → Int) (h : ∀ i, i < n → i ≠ k → f i = 0) : sumN n f = f k := by
  induction n with
  | zero => omega
  | succ n ih =>
    rw [sumN]
    by_cases e : k = n
    · subst e
      rw [sumN_zero fun i hi => h i (by omega) (by omega)]; omega
    · rw [ih (by omega) fun i hi ne => h i (by omega) ne, h n (by omega) (by omega)]; omega
/-- the numbers without i0 -/
def skip (i0 i : Nat) : Nat := if i < i0 then i else i + 1
theorem skip_ne (i0 i : Nat) : skip i0 i ≠ i0 := by unfold skip; split <;> omega
theorem skip_lt {i0 i m : Nat} (h : i < m) : skip i0 i < m + 1 := by unfold skip; split <;> omega
theorem sumN_skip (m i0 : Nat) (h : i0 ≤ m) (f : Nat → Int) : sumN (m + 1) f = f i0 + sumN m (fun i => f (skip i0 i)) := by
  induction m with
  | zero =>
    have e : i0 = 0 := by omega
    subst e
    rw [sumN, sumN, sumN]; omega
  | succ m ih =>
    by_cases e : i0 = m + 1
    · subst e
      rw [sumN, Int.add_comm]
      congr 1
      exact sumN_congr fun i hi => by unfold skip; rw [if_pos hi]
    · rw [sumN, ih (by omega), sumN]
      have : skip i0 m = m + 1 := by unfold skip; rw [if_neg (by omega)]
      rw [this]; omega
theorem unskip {i0 k m : Nat} (h : k < m + 1) (hk : k ≠ i0) (hi : i0 ≤ m) : ∃ i, i < m ∧ skip i0 i = k := by
  by_cases e : k < i0
  · exact ⟨k, by omega, by unfold skip; rw [if_pos e]⟩
  · exact ⟨k - 1, by omega, by unfold skip; rw [if_neg (by omega)]; omega⟩
/-- more vectors than coordinates: a combination that is nought -/
theorem dep : ∀ (n m : Nat) (v : Nat → Nat → Int), n < m → ∃ c : Nat → Int, (∃ i, i < m ∧ c i ≠ 0) ∧ ∀ j, j < n → sumN m (fun i => c i * v i j) = 0
  | 0, m, v, h => ⟨fun _ => 1, ⟨0, h, by decide⟩, fun j hj => absurd hj (Nat.not_lt_zero _)⟩
  | n + 1, m, v, h => by
    by_cases hz : ∀ i, i < m → v i n = 0
    · obtain ⟨c, hc, hs⟩ := dep n m v (by omega)
      refine ⟨c, hc, fun j hj => ?_⟩
      by_cases e : j = n
      · subst e
        exact sumN_zero fun i hi => by rw [hz i hi, Int.mul_zero]
      · exact hs j (by omega)
    · obtain ⟨i0, h0, hp⟩ : ∃ i0, i0 < m ∧ v i0 n ≠ 0 := by
        refine Classical.byContradiction fun hc => hz fun i hi => Classical.byContradiction fun hv => hc ⟨i, hi, hv⟩
      obtain ⟨m', rfl⟩ : ∃ m', m = m' + 1 := ⟨m - 1, by omega⟩
      obtain ⟨c', ⟨i1, hi1, hc1⟩, hs⟩ := dep n m' (fun i j => v i0 n * v (skip i0 i) j - v (skip i0 i) n * v i0 j) (by omega)
      let d : Int := sumN m' (fun i => c' i * v (skip i0 i) n)
      let c : Nat → Int := fun k => if k = i0 then -d else v i0 n * c' (if k < i0 then k else k - 1)
      have ck : ∀ i, c (skip i0 i) = v i0 n * c' i := fun i => by
        show (if skip i0 i = i0 then _ else _) = _
        rw [if_neg (skip_ne i0 i)]
        congr 2
        unfold skip
        by_cases e : i < i0
        · rw [if_pos e, if_pos e]
        · rw [if_neg e, if_neg (by omega)]; omega
      have c0 : c i0 = -d := if_pos rfl
      refine ⟨c, ⟨skip i0 i1, skip_lt hi1, ?_⟩, fun j hj => ?_⟩
      · rw [ck]
        exact Int.mul_ne_zero hp hc1
      · rw [sumN_skip m' i0 (by omega), c0]
        have e1 : sumN m' (fun i => c (skip i0 i) * v (skip i0 i) j) = sumN m' (fun i => c' i * (v i0 n * v (skip i0 i) j - v (skip i0 i) n * v i0 j)) + d * v i0 j := by
          rw [show d * v i0 j = sumN m' (fun i => c' i * v (skip i0 i) n * v i0 j) from (sumN_mulR m' (v i0 j) (fun i => c' i * v (skip i0 i) n)).symm, ← sumN_add]
          refine sumN_congr fun i _ => ?_
          rw [ck, Int.mul_sub]
          have a1 : v i0 n * c' i * v (skip i0 i) j = c' i * (v i0 n * v (skip i0 i) j) := by rw [Int.mul_comm (v i0 n), Int.mul_assoc]
          have a2 : c' i * (v (skip i0 i) n * v i0 j) = c' i * v (skip i0 i) n * v i0 j := by rw [Int.mul_assoc]
          rw [a1, a2]; omega
        rw [e1]
        by_cases e : j = n
        · subst e
          have : sumN m' (fun i => c' i * (v i0 j * v (skip i0 i) j - v (skip i0 i) j * v i0 j)) = 0 := sumN_zero fun i _ => by rw [Int.mul_comm (v i0 j), Int.sub_self, Int.mul_zero]
          rw [this, Int.neg_mul]; omega
        · rw [hs j (by omega), Int.neg_mul]; omega
def Ind (m n : Nat) (v : Nat → Nat → Int) : Prop := ∀ c : Nat → Int, (∀ j, j < n → sumN m (fun i => c i * v i j) = 0) → ∀ i, i < m → c i = 0
def Sp (m n : Nat) (v : Nat → Nat → Int) (u : Nat → Int) : Prop := ∃ c : Nat → Int, ∀ j, j < n → u j = sumN m (fun i => c i * v i j)
def SpQ (m n : Nat) (v : Nat → Nat → Int) (u : Nat → Int) : Prop := ∃ k : Int, k ≠ 0 ∧ Sp m n v (fun j => k * u j)
/-- independent ones that others span are no more than these -/
theorem le_of_span {m r n : Nat} {v w : Nat → Nat → Int} (hv : Ind m n v) (h : ∀ i, i < m → SpQ r n w (v i)) : m ≤ r := by
  refine Classical.byContradiction fun hlt => ?_
  have hx : ∀ i, ∃ (k : Int) (a : Nat → Int), i < m → k ≠ 0 ∧ ∀ j, j < n → k * v i j = sumN r (fun l => a l * w l j) := fun i => by
    by_cases hi : i < m
    · obtain ⟨k, hk, a, ha⟩ := h i hi
      exact ⟨k, a, fun _ => ⟨hk, ha⟩⟩
    · exact ⟨0, fun _ => 0, fun z => absurd z hi⟩
  have hk := fun i => (hx i).choose_spec
  let k : Nat → Int := fun i => (hx i).choose
  let a : Nat → Nat → Int := fun i => (hk i).choose
  have ha : ∀ i, i < m → k i ≠ 0 ∧ ∀ j, j < n → k i * v i j = sumN r (fun l => a i l * w l j) := fun i hi => (hk i).choose_spec hi
  obtain ⟨c, ⟨i, hi, hc⟩, hs⟩ := dep r m a (by omega)
  have z := hv (fun i => c i * k i) (fun j hj => by
    have e : sumN m (fun i => c i * k i * v i j) = sumN m (fun i => sumN r (fun l => c i * a i l * w l j)) := sumN_congr fun i hi => by
      rw [Int.mul_assoc, (ha i hi).2 j hj, ← sumN_mul]
      exact sumN_congr fun l _ => by rw [Int.mul_assoc]
    rw [e, sumN_swap]
    exact sumN_zero fun l hl => by rw [sumN_mulR, hs l hl, Int.zero_mul]) i hi
  exact (Int.mul_ne_zero hc (ha i hi).1) z
/-- r is how many of the vectors of which none is put together of the others there are -/
structure Rank (m n : Nat) (v : Nat → Nat → Int) (r : Nat) : Prop where
  ex : ∃ b : Nat → Nat → Int, Ind r n b ∧ (∀ i, i < r → Sp m n v (b i)) ∧ ∀ i, i < m → SpQ r n b (v i)
theorem SpQ.of_sp {m n : Nat} {v : Nat → Nat → Int} {u : Nat → Int} (h : Sp m n v u) : SpQ m n v u := by
  obtain ⟨c, hc⟩ := h
  exact ⟨1, by decide, c, fun j hj => (Int.one_mul _).trans (hc j hj)⟩
theorem Sp.trans {m r n : Nat} {v w : Nat → Nat → Int} {u : Nat → Int} (h : Sp m n v u) (hw : ∀ i, i < m → SpQ r n w (v i)) : SpQ r n w u := by
  obtain ⟨c, hc⟩ := h
  -- a common multiple of the first t of the numbers
  have key : ∀ t, t ≤ m → ∃ k : Int, k ≠ 0 ∧ ∃ a : Nat → Int, ∀ j, j < n → k * sumN t (fun i => c i * v i j) = sumN r (fun l => a l * w l j) := fun t => by
    induction t with
    | zero => exact fun _ => ⟨1, by decide, fun _ => 0, fun j _ => by rw [sumN, Int.mul_zero]; exact (sumN_zero fun l _ => by rw [Int.zero_mul]).symm⟩
    | succ t ih =>
      intro ht
      obtain ⟨k, hk, a, ha⟩ := ih (by omega)
      obtain ⟨k2, hk2, b, hb⟩ := hw t (by omega)
      refine ⟨k * k2, Int.mul_ne_zero hk hk2, fun l => k2 * a l + k * c t * b l, fun j hj => ?_⟩
      have e1 := ha j hj
      have e2 : k2 * v t j = sumN r (fun l => b l * w l j) := hb j hj
      have e3 : sumN r (fun l => (k2 * a l + k * c t * b l) * w l j) = k2 * sumN r (fun l => a l * w l j) + k * c t * sumN r (fun l => b l * w l j) := by
        rw [← sumN_mul, ← sumN_mul, ← sumN_add]
        exact sumN_congr fun l _ => by rw [Int.add_mul, Int.mul_assoc, Int.mul_assoc (k * c t)]
      rw [e3, ← e1, ← e2, sumN, Int.mul_add]
      congr 1
      · rw [Int.mul_comm k k2, Int.mul_assoc]
      · rw [Int.mul_assoc k (c t), ← Int.mul_assoc (c t), Int.mul_comm (c t) k2, Int.mul_assoc k2, ← Int.mul_assoc k]
  obtain ⟨k, hk, a, ha⟩ := key m (Nat.le_refl m)
  exact ⟨k, hk, a, fun j hj => (congrArg (k * ·) (hc j hj)).trans (ha j hj)⟩
theorem Rank.uniq {m n r r' : Nat} {v : Nat → Nat → Int} (h : Rank m n v r) (h' : Rank m n v r') : r = r' := by
  obtain ⟨b, hb, hs, hq⟩ := h.ex
  obtain ⟨b', hb', hs', hq'⟩ := h'.ex
  exact Nat.le_antisymm (le_of_span hb fun i hi => (hs i hi).trans hq') (le_of_span hb' fun i hi => (hs' i hi).trans hq)
end Lin

set_option linter.all false
namespace Lin
/-- one more vector behind m others -/
def ext (m : Nat) (v : Nat → Nat → Int) (row : Nat → Int) : Nat → Nat → Int := fun i j => if i < m then v i j else row j
theorem ext_lt {m i : Nat} (v : Nat → Nat → Int) (row : Nat → Int) (h : i < m) (j : Nat) : ext m v row i j = v i j := if_pos h
theorem ext_at (m : Nat) (v : Nat → Nat → Int) (row : Nat → Int) (j : Nat) : ext m v row m j = row j := if_neg (Nat.lt_irrefl m)
theorem sum_ext (m : Nat) (v : Nat → Nat → Int) (row : Nat → Int) (c : Nat → Int) (j : Nat) : sumN (m + 1) (fun i => c i * ext m v row i j) = sumN m (fun i => c i * v i j) + c m * row j := by
  rw [sumN, ext_at]
  congr 1
  exact sumN_congr fun i hi => by rw [ext_lt v row hi]
def cof (r : Nat) (a : Nat → Int) (x : Int) : Nat → Int := fun i => if i < r then a i else x
theorem cof_at (r : Nat) (a : Nat → Int) (x : Int) : cof r a x r = x := if_neg (Nat.lt_irrefl r)
theorem sum_cof (m : Nat) (a : Nat → Int) (x : Int) (v : Nat → Nat → Int) (j : Nat) : sumN m (fun i => cof m a x i * v i j) = sumN m (fun i => a i * v i j) :=
  sumN_congr fun i hi => by rw [show cof m a x i = a i from if_pos hi]
theorem Sp.mono {m n : Nat} {v : Nat → Nat → Int} {row u : Nat → Int} (h : Sp m n v u) : Sp (m + 1) n (ext m v row) u := by
  obtain ⟨c, hc⟩ := h
  exact ⟨cof m c 0, fun j hj => by rw [sum_ext, cof_at, sum_cof, hc j hj]; omega⟩
theorem SpQ.mono {m n : Nat} {v : Nat → Nat → Int} {row u : Nat → Int} (h : SpQ m n v u) : SpQ (m + 1) n (ext m v row) u := by
  obtain ⟨k, hk, h⟩ := h
  exact ⟨k, hk, h.mono⟩
theorem SpQ.congr {m n : Nat} {v : Nat → Nat → Int} {u u' : Nat → Int} (h : SpQ m n v u) (e : ∀ j, j < n → u j = u' j) : SpQ m n v u' := by
  obtain ⟨k, hk, c, hc⟩ := h
  exact ⟨k, hk, c, fun j hj => by show k * u' j = _; rw [← e j hj]; exact hc j hj⟩
theorem Sp.congr {m n : Nat} {v : Nat → Nat → Int} {u u' : Nat → Int} (h : Sp m n v u) (e : ∀ j, j < n → u j = u' j) : Sp m n v u' := by
  obtain ⟨c, hc⟩ := h
  exact ⟨c, fun j hj => by rw [← e j hj]; exact hc j hj⟩
theorem Rank.zero {n : Nat} {v : Nat → Nat → Int} : Rank 0 n v 0 := ⟨v, fun _ _ i hi => absurd hi (Nat.not_lt_zero _), fun i hi => absurd hi (Nat.not_lt_zero _), fun i hi => absurd hi (Nat.not_lt_zero _)⟩
theorem Rank.ind {m n : Nat} {v : Nat → Nat → Int} (h : Ind m n v) : Rank m n v m := by
  have own : ∀ i, i < m → Sp m n v (v i) := fun i hi => ⟨fun k => if k = i then 1 else 0, fun j _ => by
    rw [sumN_one hi (fun k => (if k = i then 1 else 0) * v k j) fun k _ ne => by show (if k = i then (1 : Int) else 0) * _ = 0; rw [if_neg ne, Int.zero_mul]]
    show v i j = (if i = i then (1 : Int) else 0) * v i j
    rw [if_pos rfl, Int.one_mul]⟩
  exact ⟨v, h, own, fun i hi => .of_sp (own i hi)⟩
theorem Rank.congr {m n r : Nat} {v v' : Nat → Nat → Int} (h : Rank m n v r) (e : ∀ i j, i < m → j < n → v i j = v' i j) : Rank m n v' r := by
  obtain ⟨b, h1, h2, h3⟩ := h.ex
  refine ⟨b, h1, fun i hi => ?_, fun i hi => (h3 i hi).congr fun j hj => e i j hi hj⟩
  obtain ⟨c, hc⟩ := h2 i hi
  exact ⟨c, fun j hj => by rw [hc j hj]; exact sumN_congr fun l hl => by rw [e l j hl hj]⟩
/-- a vector of noughts adds nothing -/
theorem Rank.none {m n r : Nat} {v : Nat → Nat → Int} {row : Nat → Int} (h : Rank m n v r) (hz : ∀ j, j < n → row j = 0) : Rank (m + 1) n (ext m v row) r := by
  obtain ⟨b, h1, h2, h3⟩ := h.ex
  refine ⟨b, h1, fun i hi => (h2 i hi).mono, fun i hi => ?_⟩
  by_cases e : i < m
  · exact (h3 i e).congr fun j _ => (ext_lt v row e j).symm
  · have e : i = m := by omega
    subst e
    refine ⟨1, by decide, fun _ => 0, fun j hj => ?_⟩
    show 1 * ext i v row i j = _
    rw [ext_at, hz j hj]
    exact (sumN_zero fun l _ => by rw [Int.zero_mul]).symm
/-- a vector with a number at s, the others cleared there -/
theorem Rank.more {m n r s : Nat} {v : Nat → Nat → Int} {row : Nat → Int} (hs : s < n) (hp : row s ≠ 0) (h : Rank m n (fun i j => v i j * row s - row j * v i s) r) : Rank (m + 1) n (ext m v row) (r + 1) := by
  obtain ⟨b, h1, h2, h3⟩ := h.ex
  have bz : ∀ i, i < r → b i s = 0 := fun i hi => by
    obtain ⟨a, ha⟩ := h2 i hi
    rw [ha s hs]
    exact sumN_zero fun l _ => by show a l * (v l s * row s - row s * v l s) = 0; rw [Int.mul_comm (row s), Int.sub_self, Int.mul_zero]
  refine ⟨ext r b row, fun c hc => ?_, fun i hi => ?_, fun i hi => ?_⟩
  · have hr : c r = 0 := by
      have := hc s hs
      rw [sum_ext, sumN_zero fun i hi => by rw [bz i hi, Int.mul_zero], Int.zero_add] at this
      exact (Int.mul_eq_zero.mp this).resolve_right hp
    have hl := h1 c fun j hj => by
      have := hc j hj
      rw [sum_ext, hr, Int.zero_mul, Int.add_zero] at this
      exact this
    intro i hi
    by_cases e : i = r
    · rw [e]; exact hr
    · exact hl i (by omega)
  · by_cases e : i < r
    · obtain ⟨a, ha⟩ := h2 i e
      refine ⟨cof m (fun l => a l * row s) (-(sumN m fun l => a l * v l s)), fun j hj => ?_⟩
      rw [ext_lt b row e, sum_ext, cof_at, sum_cof, ha j hj]
      have e1 : sumN m (fun l => a l * (v l j * row s - row j * v l s)) = sumN m (fun l => a l * row s * v l j) - sumN m (fun l => a l * v l s * row j) := by
        rw [← sumN_sub]
        refine sumN_congr fun l _ => ?_
        rw [Int.mul_sub, Int.mul_comm (v l j), ← Int.mul_assoc, Int.mul_comm (row j), ← Int.mul_assoc]
      rw [e1, sumN_mulR m (row j) (fun l => a l * v l s), Int.neg_mul]
      omega
    · have e : i = r := by omega
      subst e
      refine ⟨cof m (fun _ => 0) 1, fun j hj => ?_⟩
      rw [ext_at, sum_ext, cof_at, sum_cof, sumN_zero fun l _ => by rw [Int.zero_mul]]
      omega
  · by_cases e : i < m
    · obtain ⟨k, hk, a, ha⟩ := h3 i e
      refine ⟨k * row s, Int.mul_ne_zero hk hp, cof r a (k * v i s), fun j hj => ?_⟩
      show k * row s * ext m v row i j = _
      rw [ext_lt v row e, sum_ext, cof_at, sum_cof]
      have q : k * (v i j * row s - row j * v i s) = sumN r (fun l => a l * b l j) := ha j hj
      rw [← q, Int.mul_sub]
      have a1 : k * row s * v i j = k * (v i j * row s) := by rw [Int.mul_assoc, Int.mul_comm (row s)]
      have a2 : k * v i s * row j = k * (row j * v i s) := by rw [Int.mul_assoc, Int.mul_comm (v i s)]
      rw [a1, a2]; omega
    · have e : i = m := by omega
      subst e
      refine ⟨1, by decide, cof r (fun _ => 0) 1, fun j hj => ?_⟩
      show 1 * ext i v row i j = _
      rw [ext_at, sum_ext, cof_at, sum_cof, sumN_zero fun l _ => by rw [Int.zero_mul]]
      omega
/-! ### the rank of a list of rows, as it is counted by clearing from the last one on -/
def co (v : List Int) (j : Nat) : Int := v.getD j 0
def mat (l : List (List Int)) : Nat → Nat → Int := fun i j => co (l.getD i []) j
def clear (n : Nat) (o row : List Int) (s : Nat) : List Int := (List.range n).map fun j => co o j * co row s - co row j * co o s
def spots (n : Nat) (row : List Int) : List Nat := (List.range n).filter fun j => decide (co row j ≠ 0)
def rk (n : Nat) : Nat → List (List Int) → Nat
  | 0, _ => 0
  | m + 1, l => match l.getLast? with
    | none => 0
    | some row => match (spots n row).head? with
      | none => rk n m l.dropLast
      | some s => rk n m (l.dropLast.map fun o => clear n o row s) + 1
theorem mat_lt {l : List (List Int)} {row : List Int} {i : Nat} (h : i < l.length) (j : Nat) : mat (l ++ [row]) i j = mat l i j := by
  unfold mat
  rw [List.getD_eq_getElem?_getD, List.getD_eq_getElem?_getD, List.getElem?_append_left h]
theorem mat_at (l : List (List Int)) (row : List Int) (j : Nat) : mat (l ++ [row]) l.length j = co row j := by
  unfold mat
  rw [List.getD_eq_getElem?_getD]
  simp
theorem co_clear {n s : Nat} (o row : List Int) {j : Nat} (hj : j < n) : co (clear n o row s) j = co o j * co row s - co row j * co o s := by
  unfold clear
  show ((List.range n).map _).getD j 0 = _
  rw [List.getD_eq_getElem?_getD, List.getElem?_map, List.getElem?_range hj]
  rfl
theorem mat_map {l : List (List Int)} {f : List Int → List Int} {i : Nat} (h : i < l.length) (j : Nat) : mat (l.map f) i j = co (f (l.getD i [])) j := by
  unfold mat
  rw [List.getD_eq_getElem?_getD, List.getD_eq_getElem?_getD, List.getElem?_map, List.getElem?_eq_getElem h]
  rfl
theorem rank_rk (n : Nat) : ∀ (m : Nat) (l : List (List Int)), l.length = m → Rank m n (mat l) (rk n m l)
  | 0, l, _ => .zero
  | m + 1, l, hl => by
    rcases List.eq_nil_or_concat l with rfl | ⟨l', row, rfl⟩
    · simp at hl
    · rw [List.concat_eq_append] at *
      have hl' : l'.length = m := by simp at hl; exact hl
      have em : ∀ i j, i < m + 1 → j < n → ext m (mat l') (co row) i j = mat (l' ++ [row]) i j := fun i j hi _ => by
        by_cases e : i < m
        · rw [ext_lt _ _ e, mat_lt (by omega)]
        · have : i = m := by omega
          subst this
          rw [ext_at, ← hl', mat_at]
      rw [rk, List.getLast?_concat]
      simp only [List.dropLast_concat]
      cases hs : (spots n row).head? with
      | none =>
        have hz : ∀ j, j < n → co row j = 0 := fun j hj => by
          have he : spots n row = [] := List.head?_eq_none_iff.mp hs
          refine Classical.byContradiction fun hne => ?_
          have : j ∈ spots n row := List.mem_filter.mpr ⟨List.mem_range.mpr hj, decide_eq_true hne⟩
          rw [he] at this
          simp at this
        exact ((rank_rk n m l' hl').none hz).congr em
      | some s =>
        have hm : s ∈ spots n row := List.mem_of_mem_head? (by rw [hs]; simp)
        obtain ⟨h1, h2⟩ := List.mem_filter.mp hm
        have hsn : s < n := List.mem_range.mp h1
        have hp : co row s ≠ 0 := of_decide_eq_true h2
        have ih := rank_rk n m (l'.map fun o => clear n o row s) (by rw [List.length_map]; exact hl')
        exact ((ih.congr fun i j hi hj => by rw [mat_map (by omega), co_clear _ _ hj]; rfl).more hsn hp).congr em
end Lin

set_option linter.all false
namespace Lin
def dot (n : Nat) (u v : Nat → Int) : Int := sumN n fun j => u j * v j
theorem dot_sum (m n : Nat) (c : Nat → Int) (v : Nat → Nat → Int) (u : Nat → Int) : dot n (fun j => sumN m fun i => c i * v i j) u = sumN m fun i => c i * dot n (v i) u := by
  unfold dot
  rw [show sumN n (fun j => sumN m (fun i => c i * v i j) * u j) = sumN n (fun j => sumN m fun i => c i * (v i j * u j)) from sumN_congr fun j _ => by
    rw [← sumN_mulR]; exact sumN_congr fun i _ => by rw [Int.mul_assoc]]
  rw [sumN_swap]
  exact sumN_congr fun i _ => sumN_mul n (c i) _
theorem dot_comm (n : Nat) (u v : Nat → Int) : dot n u v = dot n v u := sumN_congr fun j _ => Int.mul_comm ..
theorem dot_congr {n : Nat} {u u' v : Nat → Int} (h : ∀ j, j < n → u j = u' j) : dot n u v = dot n u' v := sumN_congr fun j hj => by rw [h j hj]
theorem dot_smul (n : Nat) (k : Int) (u v : Nat → Int) : dot n (fun j => k * u j) v = k * dot n u v := by
  unfold dot
  rw [← sumN_mul]
  exact sumN_congr fun j _ => by rw [Int.mul_assoc]
theorem sq_nonneg' (x : Int) : 0 ≤ x * x := by
  rcases Int.le_total 0 x with h | h
  · exact Int.mul_nonneg h h
  · exact Int.mul_nonneg_of_nonpos_of_nonpos h h
theorem sumN_nonneg {n : Nat} {f : Nat → Int} (h : ∀ i, i < n → 0 ≤ f i) : 0 ≤ sumN n f := by
  induction n with
  | zero => exact Int.le_refl 0
  | succ n ih => rw [sumN]; have := ih fun i hi => h i (by omega); have := h n (by omega); omega
theorem sumN_pos_zero {n : Nat} {f : Nat → Int} (h : ∀ i, i < n → 0 ≤ f i) (hz : sumN n f = 0) : ∀ i, i < n → f i = 0 := by
  induction n with
  | zero => exact fun i hi => absurd hi (Nat.not_lt_zero _)
  | succ n ih =>
    rw [sumN] at hz
    have h1 := sumN_nonneg (n := n) (f := f) fun i hi => h i (by omega)
    have h2 := h n (by omega)
    intro i hi
    by_cases e : i = n
    · subst e; omega
    · exact ih (fun i hi => h i (by omega)) (by omega) i (by omega)
theorem dot_self {n : Nat} {u : Nat → Int} (h : dot n u u = 0) : ∀ j, j < n → u j = 0 := fun j hj => by
  have := sumN_pos_zero (f := fun j => u j * u j) (fun i _ => sq_nonneg' (u i)) h j hj
  exact (Int.mul_eq_zero.mp this).elim id id
theorem Sp.orth {m n : Nat} {v : Nat → Nat → Int} {x u : Nat → Int} (h : Sp m n v x) (ho : ∀ i, i < m → dot n (v i) u = 0) : dot n x u = 0 := by
  obtain ⟨c, hc⟩ := h
  rw [dot_congr (u' := fun j => sumN m fun i => c i * v i j) hc, dot_sum]
  exact sumN_zero fun i hi => by rw [ho i hi, Int.mul_zero]
theorem SpQ.orth {m n : Nat} {v : Nat → Nat → Int} {x u : Nat → Int} (h : SpQ m n v x) (ho : ∀ i, i < m → dot n (v i) u = 0) : dot n x u = 0 := by
  obtain ⟨k, hk, h⟩ := h
  have := h.orth ho
  rw [dot_smul] at this
  exact (Int.mul_eq_zero.mp this).resolve_left hk
/-- two families, one behind the other -/
def both (r : Nat) (b w : Nat → Nat → Int) : Nat → Nat → Int := fun i j => if i < r then b i j else w (i - r) j
theorem sum_two (r p : Nat) (f : Nat → Int) : sumN (r + p) f = sumN r f + sumN p (fun i => f (r + i)) := by
  induction p with
  | zero => rw [Nat.add_zero, sumN]; omega
  | succ p ih => rw [Nat.add_succ, sumN, ih, sumN]; omega
theorem sum_both (r p : Nat) (b w : Nat → Nat → Int) (c : Nat → Int) (j : Nat) : sumN (r + p) (fun i => c i * both r b w i j) = sumN r (fun i => c i * b i j) + sumN p (fun i => c (r + i) * w i j) := by
  rw [sum_two]
  congr 1
  · exact sumN_congr fun i hi => by rw [show both r b w i j = b i j from if_pos hi]
  · exact sumN_congr fun i _ => by rw [show both r b w (r + i) j = w (r + i - r) j from if_neg (by omega), Nat.add_sub_cancel_left]
/-- the weights that no row changes: as many as there are coordinates less the rank -/
theorem null_count {m n r p : Nat} {v w : Nat → Nat → Int} (hr : Rank m n v r) (hi : Ind p n w) (ho : ∀ i k, i < m → k < p → dot n (v i) (w k) = 0) (hc : ∀ u : Nat → Int, (∀ i, i < m → dot n (v i) u = 0) → SpQ p n w u) : r + p = n := by
  obtain ⟨b, h1, h2, h3⟩ := hr.ex
  have hbw : ∀ i k, i < r → k < p → dot n (b i) (w k) = 0 := fun i k hi hk => (h2 i hi).orth fun l hl => ho l k hl hk
  refine Nat.le_antisymm ?_ ?_
  · -- together they are independent
    refine Classical.byContradiction fun hlt => ?_
    obtain ⟨c, ⟨i, hi', hne⟩, hs⟩ := dep n (r + p) (both r b w) (by omega)
    have e : ∀ j, j < n → sumN r (fun i => c i * b i j) = -(sumN p fun k => c (r + k) * w k j) := fun j hj => by
      have := hs j hj
      rw [sum_both] at this
      omega
    have z : ∀ j, j < n → sumN r (fun i => c i * b i j) = 0 := dot_self (by
      have e2 : dot n (fun j => sumN r fun i => c i * b i j) (fun j => sumN r fun i => c i * b i j) = dot n (fun j => -(sumN p fun k => c (r + k) * w k j)) (fun j => sumN r fun i => c i * b i j) := dot_congr e
      rw [e2]
      have e3 : dot n (fun j => -(sumN p fun k => c (r + k) * w k j)) (fun j => sumN r fun i => c i * b i j) = (-1) * dot n (fun j => sumN p fun k => c (r + k) * w k j) (fun j => sumN r fun i => c i * b i j) := by
        rw [← dot_smul]
        exact dot_congr fun j _ => by omega
      rw [e3, dot_sum]
      rw [sumN_zero fun k hk => by
        rw [dot_comm, dot_sum, sumN_zero fun i hi => by rw [hbw i k hi hk, Int.mul_zero], Int.mul_zero]]
      rfl)
    by_cases hir : i < r
    · exact hne (h1 c z i hir)
    · have z2 : ∀ j, j < n → sumN p (fun k => c (r + k) * w k j) = 0 := fun j hj => by have := e j hj; rw [z j hj] at this; omega
      have := hi (fun k => c (r + k)) z2 (i - r) (by omega)
      rw [show r + (i - r) = i by omega] at this
      exact hne this
  · -- none is left
    refine Classical.byContradiction fun hlt => ?_
    obtain ⟨u, ⟨j, hj, hne⟩, hs⟩ := dep (r + p) n (fun j i => both r b w i j) (by omega)
    have d1 : ∀ i, i < r + p → dot n (both r b w i) u = 0 := fun i hi => by
      rw [dot_comm]
      exact hs i hi
    have hb : ∀ i, i < r → dot n (b i) u = 0 := fun i hi => by
      have := d1 i (by omega)
      rw [show both r b w i = b i from funext fun j => if_pos hi] at this
      exact this
    have hw : ∀ k, k < p → dot n (w k) u = 0 := fun k hk => by
      have := d1 (r + k) (by omega)
      rw [show both r b w (r + k) = w k from funext fun j => by show (if r + k < r then _ else w (r + k - r) j) = _; rw [if_neg (by omega), Nat.add_sub_cancel_left]] at this
      exact this
    have hu := (hc u fun i hi => (h3 i hi).orth hb).orth hw
    exact hne (dot_self hu j hj)
end Lin

set_option linter.all false
/-! two ways to all weights that nothing changes -/
namespace Lin
theorem dot_add (n : Nat) (u v w : Nat → Int) : dot n (fun j => u j + v j) w = dot n u w + dot n v w := by
  unfold dot
  rw [← sumN_add]
  exact sumN_congr fun j _ => Int.add_mul ..
theorem dot_sub (n : Nat) (u v w : Nat → Int) : dot n (fun j => u j - v j) w = dot n u w - dot n v w := by
  unfold dot
  rw [← sumN_sub]
  exact sumN_congr fun j _ => Int.sub_mul ..
/-! ### the first: one more change, the weights mixed with one that it changes -/
section
variable {p n k : Nat} {w : Nat → Nat → Int} {c : Nat → Int}
/-- the weights behind: each other one, mixed with the k-th -/
def mixed (n k : Nat) (w : Nat → Nat → Int) (c : Nat → Int) : Nat → Nat → Int := fun i j => dot n (w k) c * w (skip k i) j - dot n (w (skip k i)) c * w k j
theorem mixed_orth (n k : Nat) (w : Nat → Nat → Int) (c : Nat → Int) (i : Nat) : dot n (mixed n k w c i) c = 0 := by
  unfold mixed
  rw [dot_sub, dot_smul, dot_smul, Int.mul_comm, Int.sub_self]
theorem mixed_keep {x : Nat → Int} (i : Nat) (h1 : dot n (w k) x = 0) (h2 : dot n (w (skip k i)) x = 0) : dot n (mixed n k w c i) x = 0 := by
  unfold mixed
  rw [dot_sub, dot_smul, dot_smul, h1, h2, Int.mul_zero, Int.mul_zero]; rfl
/-- coefficients with one more at k -/
def gap (k : Nat) (a : Nat → Int) (x : Int) : Nat → Int := fun i => if i = k then x else a (if i < k then i else i - 1)
theorem gap_at (k : Nat) (a : Nat → Int) (x : Int) : gap k a x k = x := if_pos rfl
theorem gap_skip (k : Nat) (a : Nat → Int) (x : Int) (i : Nat) : gap k a x (skip k i) = a i := by
  unfold gap
  rw [if_neg (skip_ne k i)]
  congr 1
  unfold skip
  by_cases e : i < k
  · rw [if_pos e, if_pos e]
  · rw [if_neg e, if_neg (by omega)]; omega
theorem sum_mixed (hk : k ≤ p) (a : Nat → Int) (j : Nat) : sumN p (fun i => a i * mixed n k w c i j) = sumN (p + 1) (fun i => gap k (fun i => a i * dot n (w k) c) (-(sumN p fun i => a i * dot n (w (skip k i)) c)) i * w i j) := by
  rw [sumN_skip p k hk, gap_at]
  have e : sumN p (fun i => gap k (fun i => a i * dot n (w k) c) (-(sumN p fun i => a i * dot n (w (skip k i)) c)) (skip k i) * w (skip k i) j) = sumN p (fun i => a i * dot n (w k) c * w (skip k i) j) := sumN_congr fun i _ => by rw [gap_skip]
  rw [e, Int.neg_mul, ← sumN_mulR]
  have e2 : sumN p (fun i => a i * mixed n k w c i j) = sumN p (fun i => a i * dot n (w k) c * w (skip k i) j) - sumN p (fun i => a i * dot n (w (skip k i)) c * w k j) := by
    rw [← sumN_sub]
    refine sumN_congr fun i _ => ?_
    unfold mixed
    rw [Int.mul_sub, Int.mul_assoc, Int.mul_assoc]
  rw [e2]
  omega
theorem mixed_ind (hk : k ≤ p) (hd : dot n (w k) c ≠ 0) (h : Ind (p + 1) n w) : Ind p n (mixed n k w c) := fun a ha i hi => by
  have z := h (gap k (fun i => a i * dot n (w k) c) (-(sumN p fun i => a i * dot n (w (skip k i)) c))) (fun j hj => by rw [← sum_mixed hk]; exact ha j hj) (skip k i) (skip_lt hi)
  rw [gap_skip] at z
  exact (Int.mul_eq_zero.mp z).resolve_right hd
theorem mixed_all (hk : k ≤ p) (hd : dot n (w k) c ≠ 0) {u : Nat → Int} (hu : dot n u c = 0) (h : SpQ (p + 1) n w u) : SpQ p n (mixed n k w c) u := by
  obtain ⟨q, hq, b, hb⟩ := h
  refine ⟨dot n (w k) c * q, Int.mul_ne_zero hd hq, fun i => b (skip k i), fun j hj => ?_⟩
  -- the sum by c of both sides
  have z : sumN (p + 1) (fun i => b i * dot n (w i) c) = 0 := by
    rw [← dot_sum, ← dot_congr (u := fun j => q * u j) hb, dot_smul, hu, Int.mul_zero]
  rw [sumN_skip p k hk] at z
  have hb' : q * u j = sumN (p + 1) (fun i => b i * w i j) := hb j hj
  show dot n (w k) c * q * u j = sumN p (fun i => b (skip k i) * mixed n k w c i j)
  rw [Int.mul_assoc, hb', sumN_skip p k hk, Int.mul_add]
  have e2 : sumN p (fun i => b (skip k i) * mixed n k w c i j) = sumN p (fun i => dot n (w k) c * (b (skip k i) * w (skip k i) j)) - sumN p (fun i => b (skip k i) * dot n (w (skip k i)) c * w k j) := by
    rw [← sumN_sub]
    refine sumN_congr fun i _ => ?_
    unfold mixed
    rw [Int.mul_sub, ← Int.mul_assoc, ← Int.mul_assoc, ← Int.mul_assoc, Int.mul_comm (b (skip k i)) (dot n (w k) c)]
  rw [e2, sumN_mul, sumN_mulR]
  have z2 : sumN p (fun i => b (skip k i) * dot n (w (skip k i)) c) = -(b k * dot n (w k) c) := by omega
  rw [z2, Int.neg_mul]
  have : dot n (w k) c * (b k * w k j) = b k * dot n (w k) c * w k j := by rw [← Int.mul_assoc, Int.mul_comm (dot n (w k) c)]
  rw [this]
  omega
end
/-- the same, each divided by a number -/
theorem Ind.scale {p n : Nat} {w w' : Nat → Nat → Int} {g : Nat → Int} (hg : ∀ i, i < p → g i ≠ 0) (e : ∀ i j, i < p → j < n → w i j = g i * w' i j) (h : Ind p n w) : Ind p n w' := fun a ha i hi => by
  -- with all the numbers multiplied
  have hall : ∀ q, q ≤ p → ∃ (m : Int) (t : Nat → Int), m ≠ 0 ∧ ∀ i, i < q → m = t i * g i := fun q => by
    induction q with
    | zero => exact fun _ => ⟨1, fun _ => 0, by decide, fun i hi => absurd hi (Nat.not_lt_zero _)⟩
    | succ q ih =>
      intro hq
      obtain ⟨m, t, hm, ht⟩ := ih (by omega)
      refine ⟨m * g q, fun i => if i = q then m else t i * g q, Int.mul_ne_zero hm (hg q (by omega)), fun i hi => ?_⟩
      by_cases e : i = q
      · subst e; show _ = (if i = i then m else _) * g i; rw [if_pos rfl]
      · show _ = (if i = q then m else t i * g q) * g i
        rw [if_neg e, ht i (by omega), Int.mul_assoc, Int.mul_comm (g i), ← Int.mul_assoc]
  obtain ⟨m, t, hm, ht⟩ := hall p (Nat.le_refl p)
  have z := h (fun i => a i * t i) (fun j hj => by
    have e2 : sumN p (fun i => a i * t i * w i j) = sumN p (fun i => m * (a i * w' i j)) := sumN_congr fun i hi => by
      rw [e i j hi hj, ht i hi, Int.mul_assoc, ← Int.mul_assoc (t i), Int.mul_left_comm]
    rw [e2, sumN_mul, ha j hj, Int.mul_zero]) i hi
  have ti : t i ≠ 0 := fun z => hm (by rw [ht i hi, z, Int.zero_mul])
  exact (Int.mul_eq_zero.mp z).resolve_right ti
theorem Sp.scale {p n : Nat} {w w' : Nat → Nat → Int} {g : Nat → Int} {u : Nat → Int} (e : ∀ i j, i < p → j < n → w i j = g i * w' i j) (h : Sp p n w u) : Sp p n w' u := by
  obtain ⟨b, hb⟩ := h
  refine ⟨fun i => b i * g i, fun j hj => ?_⟩
  rw [hb j hj]
  exact sumN_congr fun i hi => by rw [e i j hi hj, Int.mul_assoc]
theorem SpQ.scale {p n : Nat} {w w' : Nat → Nat → Int} {g : Nat → Int} {u : Nat → Int} (e : ∀ i j, i < p → j < n → w i j = g i * w' i j) (h : SpQ p n w u) : SpQ p n w' u := by
  obtain ⟨q, hq, h⟩ := h
  exact ⟨q, hq, h.scale e⟩
/-- at first: every weight -/
def unit (i : Nat) : Nat → Int := fun j => if j = i then 1 else 0
theorem sum_unit {n : Nat} (a : Nat → Int) {j : Nat} (hj : j < n) : sumN n (fun i => a i * unit i j) = a j := by
  rw [sumN_one hj (fun i => a i * unit i j) fun i _ ne => by show a i * (if j = i then 1 else 0) = 0; rw [if_neg (Ne.symm ne), Int.mul_zero]]
  show a j * (if j = j then 1 else 0) = a j
  rw [if_pos rfl, Int.mul_one]
theorem unit_ind (n : Nat) : Ind n n unit := fun a ha i hi => by rw [← sum_unit a hi]; exact ha i hi
theorem unit_all {n : Nat} (u : Nat → Int) : SpQ n n unit u := .of_sp ⟨u, fun j hj => (sum_unit u hj).symm⟩
/-! ### the second: rows with a spot of their own each -/
section
variable {r p n : Nat} {R w : Nat → Nat → Int} {pv fc : Nat → Nat}
theorem echelon_ind (hf : ∀ k, k < p → fc k < n) (h1 : ∀ k, k < p → w k (fc k) ≠ 0) (h0 : ∀ k l, k < p → l < p → k ≠ l → w k (fc l) = 0) : Ind p n w := fun a ha k hk => by
  have z := ha (fc k) (hf k hk)
  rw [sumN_one hk (fun i => a i * w i (fc k)) fun i hi ne => by rw [h0 i k hi hk ne, Int.mul_zero]] at z
  exact (Int.mul_eq_zero.mp z).resolve_right (h1 k hk)
theorem echelon_all (hf : ∀ k, k < p → fc k < n) (hp : ∀ i, i < r → pv i < n) (hc : ∀ j, j < n → (∃ k, k < p ∧ fc k = j) ∨ ∃ i, i < r ∧ pv i = j)
    (hR1 : ∀ i, i < r → R i (pv i) ≠ 0) (hR0 : ∀ i l, i < r → l < r → i ≠ l → R i (pv l) = 0) (h1 : ∀ k, k < p → w k (fc k) ≠ 0) (h0 : ∀ k l, k < p → l < p → k ≠ l → w k (fc l) = 0)
    (ho : ∀ i k, i < r → k < p → dot n (R i) (w k) = 0) {u : Nat → Int} (hu : ∀ i, i < r → dot n (R i) u = 0) : SpQ p n w u := by
  -- a common multiple of the weights' own numbers
  have hall : ∀ q, q ≤ p → ∃ (m : Int) (t : Nat → Int), m ≠ 0 ∧ ∀ i, i < q → m = t i * w i (fc i) := fun q => by
    induction q with
    | zero => exact fun _ => ⟨1, fun _ => 0, by decide, fun i hi => absurd hi (Nat.not_lt_zero _)⟩
    | succ q ih =>
      intro hq
      obtain ⟨m, t, hm, ht⟩ := ih (by omega)
      refine ⟨m * w q (fc q), fun i => if i = q then m else t i * w q (fc q), Int.mul_ne_zero hm (h1 q (by omega)), fun i hi => ?_⟩
      by_cases e : i = q
      · subst e; show _ = (if i = i then m else _) * w i (fc i); rw [if_pos rfl]
      · show _ = (if i = q then m else t i * w q (fc q)) * w i (fc i)
        rw [if_neg e, ht i (by omega), Int.mul_assoc, Int.mul_comm (w i (fc i)), ← Int.mul_assoc]
  obtain ⟨m, t, hm, ht⟩ := hall p (Nat.le_refl p)
  refine ⟨m, hm, fun k => u (fc k) * t k, fun j hj => ?_⟩
  show m * u j = sumN p (fun k => u (fc k) * t k * w k j)
  -- the rest
  let x : Nat → Int := fun j => m * u j - sumN p (fun k => u (fc k) * t k * w k j)
  have xf : ∀ k, k < p → x (fc k) = 0 := fun k hk => by
    show m * u (fc k) - sumN p (fun i => u (fc i) * t i * w i (fc k)) = 0
    rw [sumN_one hk (fun i => u (fc i) * t i * w i (fc k)) fun i hi ne => by rw [h0 i k hi hk ne, Int.mul_zero], Int.mul_assoc (u (fc k)), ← ht k hk, Int.mul_comm, Int.sub_self]
  have xo : ∀ i, i < r → dot n (R i) x = 0 := fun i hi => by
    rw [dot_comm]
    show dot n (fun j => m * u j - sumN p (fun k => u (fc k) * t k * w k j)) (R i) = 0
    rw [dot_sub, dot_smul, dot_sum, dot_comm n u, hu i hi, sumN_zero fun k hk => by rw [dot_comm, ho i k hi hk, Int.mul_zero], Int.mul_zero]
    rfl
  have xz : x j = 0 := by
    rcases hc j hj with ⟨k, hk, rfl⟩ | ⟨i, hi, rfl⟩
    · exact xf k hk
    · have z := xo i hi
      unfold dot at z
      rw [sumN_one (hp i hi) (fun j => R i j * x j) fun l hl ne => by
        rcases hc l hl with ⟨k, hk, rfl⟩ | ⟨i', hi', rfl⟩
        · rw [xf k hk, Int.mul_zero]
        · rw [hR0 i i' hi hi' (fun e => ne (by rw [e])), Int.zero_mul]] at z
      exact (Int.mul_eq_zero.mp z).resolve_left (hR1 i hi)
  have : m * u j - sumN p (fun k => u (fc k) * t k * w k j) = 0 := xz
  omega
end
end Lin

set_option linter.all false
set_option maxRecDepth 100000
set_option maxHeartbeats 4000000
namespace Bd
open PySem L2
seal L2.PSs L2.PS L2.PE L2.PT L2.PW L2.PA L2.PI L2.PG L2.PGs
def top (i : Nat) : Stmt := PySem.Challenge.pw_beadnets_k02_whole_sums.main.body.getD i (.Pass ⟨0, 0, 0, 0⟩)
abbrev sCheckB : Stmt := top 4
abbrev sCheckN : Stmt := top 5
abbrev sSums : Stmt := top 15
abbrev sWhole : Stmt := top 17
abbrev sAt : Stmt := top 18
abbrev sSame : Stmt := top 19
abbrev sAreN : Stmt := top 20
abbrev sNumOf : Stmt := top 21
abbrev sMovesOf : Stmt := top 22
abbrev sCleared : Stmt := top 23
abbrev sRankOf : Stmt := top 24
abbrev sCommon : Stmt := top 25
abbrev sIsW : Stmt := top 26
abbrev sLaw : Stmt := top 27
structure Bn (mg : Str → Option Value) : Prop where
  len : mg "len" = none
  any : mg "any" = none
  list : mg "list" = none
  tuple : mg "tuple" = none
  int : mg "int" = none
  bool : mg "bool" = none
  isi : mg "isinstance" = none
  range : mg "range" = none
  abs : mg "abs" = none
  sum : mg "sum" = none
  zip : mg "zip" = none
  enum : mg "enumerate" = none
/-- a def of the text -/
structure Df (K : PySem.W.Frag) (mg : Str → Option Value) (x : Str) (st : Stmt) (ps : List Str) (f : Addr) (fd : FuncData) : Prop where
  fn : Fun K x x st f fd
  bd : Binds K fd ps []
  gl : mg x = some (.ref f)
/-! ### what lies on the heap -/
abbrev Mv := List Int × List Int
def IntsAt (H : Hp) (a : Addr) (xs : List Int) : Prop := H a = some (.lst (iv xs))
def MvAt (H : Hp) (v : V) (m : Mv) : Prop := ∃ t a b, v = .ref t ∧ H t = some (.tup [.ref a, .ref b]) ∧ IntsAt H a m.1 ∧ IntsAt H b m.2
structure MvsAt (H : Hp) (p : Addr) (vs : List V) (ms : List Mv) : Prop where
  li : H p = some (.lst vs)
  len : vs.length = ms.length
  at' : ∀ (i : Nat) m, ms[i]? = some m → ∃ v, vs[i]? = some v ∧ MvAt H v m
def Wf (n : Nat) (xs : List Int) : Prop := xs.length = n ∧ ∀ x ∈ xs, 0 ≤ x
def WfM (n : Nat) (ms : List Mv) : Prop := ∀ m ∈ ms, Wf n m.1 ∧ Wf n m.2
theorem IntsAt.same {H H' : Hp} {a : Addr} {xs : List Int} (h : IntsAt H a xs) (s : Same H H') : IntsAt H' a xs := s _ _ h
theorem MvAt.same {H H' : Hp} {v : V} {m : Mv} (h : MvAt H v m) (s : Same H H') : MvAt H' v m := let ⟨t, a, b, e, h1, h2, h3⟩ := h; ⟨t, a, b, e, s _ _ h1, s _ _ h2, s _ _ h3⟩
theorem MvsAt.same {H H' : Hp} {p : Addr} {vs : List V} {ms : List Mv} (h : MvsAt H p vs ms) (s : Same H H') : MvsAt H' p vs ms :=
  ⟨s _ _ h.li, h.len, fun i m e => let ⟨v, e1, e2⟩ := h.at' i m e; ⟨v, e1, e2.same s⟩⟩
theorem MvsAt.get {H : Hp} {p : Addr} {vs : List V} {ms : List Mv} (h : MvsAt H p vs ms) {i : Nat} {v : V} (e : vs[i]? = some v) : ∃ m, ms[i]? = some m ∧ MvAt H v m := by
  have hi : i < ms.length := by rw [← h.len]; exact (List.getElem?_eq_some_iff.mp e).1
  obtain ⟨v', e1, e2⟩ := h.at' i ms[i] (by simp [hi])
  rw [e] at e1
  cases e1
  exact ⟨ms[i], by simp [hi], e2⟩
theorem small {n : Nat} (h : n ≤ 1000) : n ≤ sizeLine := Nat.le_trans h (by rw [sizeLine_eq]; decide)
section
variable {P : Program} {w : World} {K : PySem.W.Frag} {mg : Str → Option Value} {base : Heap}
/-! ### check_beads -/
def spCheckB : Sp := fun vs H Q _ => ∃ (a : Addr) (xs : List Int) (n : Nat), vs = [.ref a, .int n] ∧ IntsAt H a xs ∧ Wf n xs ∧ n ≤ 1000 ∧ ∀ H', Same H H' → Q .non H'
theorem scCheckB : FnScope ["beads", "places"] ["beads", "places"] (defScope sCheckB) := ⟨rfl, rfl, rfl, by decide +kernel, rfl, by decide +kernel, by decide +kernel⟩
theorem ok_checkB {f : Addr} {fd : FuncData} (F : Fun K "check_beads" "check_beads" sCheckB f fd) (B : Bn mg) : FnOk P w K mg base CX0 1 f fd ["beads", "places"] spCheckB := by
  refine F.ok scCheckB (fun vs H Q E h => ?_) (fun cdv A outer s H vs Q E hr h => ?_)
  · obtain ⟨a, xs, n, rfl, _⟩ := h
    rfl
  · obtain ⟨a, xs, n, rfl, ha, hw, hn, k⟩ := h
    refine ⟨_, pss_cons (ps_if (pt_cmpR op_ne (pe_callB call_len_seq (by rfl) B.len PySem.boot_len (pa_cons (pv 0) pa_nil)) (pv 1) (nomark _)) (pss_one ps_never) pss_nil)
      (pss_one (ps_if (pt_val (pe_callB (call_anyB rfl) (by rfl) B.any PyProof.Rows.boot_any (pa_cons (pe_comp (fsc := defScope sCheckB) (N := ["beads", "places"]) (N' := ["number"]) (own := 1) (fr := []) ⟨rfl, by decide +kernel, by decide +kernel, by decide +kernel, rfl, by decide +kernel⟩ rfl (pi_list (pv 0))
        (fun cl C s₀ H₀ ex => pg_name (i := 0) (by show (["number"] : List Str).Nodup; decide +kernel) rfl (Or.inl rfl)) (fun cl C s₀ H₀ ex => pe_cmpR op_lt (pv 0) pe_int (nomark _))) pa_nil))) (pss_one ps_never) pss_nil)), ?_⟩
    have hlen : (iv xs).length = n := by rw [List.length_map]; exact hw.1
    refine ⟨_, rfl, a, _, rfl, .inl (SqL.of ha), _, rfl, rfl, _, rfl, ?_⟩
    refine iteNS (by rw [hlen]) ?_
    refine ⟨_, rfl, a, rfl, ⟨_, SqL.of ha⟩, fun acc hacc => comp_ints (K := K) (v0 := none) (fs := []) (fun i => .bl (decide (i < 0))) (small (by rw [hw.1]; exact hn)) (SqL.of ha) hacc (fun x hx ys R q => ⟨_, rfl, _, _, rfl, rfl, q⟩) ?_⟩
    refine ⟨acc, xs.map (fun i => decide (i < 0)), rfl, ?_, _, rfl, ?_⟩
    · refine SqL.of ?_
      rw [upd_same, List.map_map]
      rfl
    · have e : (xs.map (fun i => decide (i < 0))).any id = false := by
        rw [List.any_eq_false]
        intro b hb
        obtain ⟨x, hx, rfl⟩ := List.mem_map.mp hb
        have := hw.2 x hx
        simp
        omega
      rw [e]
      exact iteF (k _ (Same.new hacc))
/-! ### check_net -/
def spCheckN : Sp := fun vs H Q _ => ∃ (p q : Addr) (us : List V) (ms : List Mv) (st : List Int) (n : Nat), vs = [.ref p, .ref q] ∧ MvsAt H p us ms ∧ IntsAt H q st ∧ Wf n st ∧ WfM n ms ∧ n ≤ 1000 ∧ ∀ H', Same H H' → Q .non H'
theorem scCheckN : FnScope ["moves", "start", "places", "takes", "gives"] ["moves", "start"] (defScope sCheckN) := ⟨rfl, rfl, rfl, by decide +kernel, rfl, by decide +kernel, by decide +kernel⟩
theorem ok_checkN {f g : Addr} {fd gd : FuncData} (F : Fun K "check_net" "check_net" sCheckN f fd) (B : Bn mg) (D : Df K mg "check_beads" sCheckB ["beads", "places"] g gd) : FnOk P w K mg base CX0 2 f fd ["moves", "start"] spCheckN := by
  have G : FnOk P w K mg base CX0 1 g gd ["beads", "places"] spCheckB := ok_checkB D.fn B
  refine F.ok scCheckN (fun vs H Q E h => ?_) (fun cdv A outer s H vs Q E hr h => ?_)
  · obtain ⟨p, q, us, ms, st, n, rfl, _⟩ := h
    rfl
  · obtain ⟨p, q, us, ms, st, n, rfl, hm, hq, hw, hwm, hn, k⟩ := h
    refine ⟨_, pss_cons (ps_set (i := 2) scCheckN.nd rfl (Or.inl rfl) (pe_callB call_len_seq (by rfl) B.len PySem.boot_len (pa_cons (pv 1) pa_nil)))
      (pss_cons (ps_expr (pe_call G hr (by rfl) D.gl D.fn.kp D.bd .nil pass0 (pa_cons (pv 1) (pa_cons (pv 2) pa_nil))))
      (pss_one (ps_for PassesOwn.never rfl (pi_list (pv 0)) (pg_tup rfl (pgs_cons (pg_name (i := 3) scCheckN.nd rfl (Or.inl rfl)) (pgs_cons (pg_name (i := 4) scCheckN.nd rfl (Or.inl rfl)) pgs_nil)))
        (pss_cons (ps_expr (pe_call G hr (by rfl) D.gl D.fn.kp D.bd .nil pass0 (pa_cons (pv 3) (pa_cons (pv 2) pa_nil))))
        (pss_one (ps_expr (pe_call G hr (by rfl) D.gl D.fn.kp D.bd .nil pass0 (pa_cons (pv 4) (pa_cons (pv 2) pa_nil))))))))), ?_⟩
    have hlen : (iv st).length = n := by rw [List.length_map]; exact hw.1
    refine ⟨_, rfl, q, _, rfl, .inl (SqL.of hq), ?_⟩
    refine ⟨_, rfl, _, rfl, q, st, n, by rw [hlen]; rfl, hq, hw, hn, fun H1 s1 => ?_⟩
    refine ⟨_, rfl, p, rfl, ⟨us, SqL.of (hm.same s1).li⟩, for_list (K := K) (a := p) (xs := us) (fun i σ H2 => Same H H2 ∧ ∃ u v, σ = [some (.ref p), some (.ref q), some (.int n), u, v]) ⟨s1, none, none, by rw [hlen]; rfl⟩ (fun i σ H2 _ ⟨s2, _⟩ => SqL.of (hm.same s2).li) ?_ ?_⟩
    · rintro i x σ H2 hx ⟨s2, u, v, rfl⟩
      obtain ⟨m, em, t, a, b, rfl, ht, ha, hb⟩ := (hm.same s2).get hx
      have hw2 := hwm m (List.mem_of_getElem? em)
      refine ⟨t, _, rfl, SqT.of ht, rfl, _, _, rfl, _, _, rfl, rfl, ?_⟩
      refine ⟨_, rfl, _, rfl, a, m.1, n, rfl, ha, hw2.1, hn, fun H3 s3 => ?_⟩
      exact ⟨_, rfl, _, rfl, b, m.2, n, rfl, hb.same s3, hw2.2, hn, fun H4 s4 => ⟨(s2.trans s3).trans s4, _, _, rfl⟩⟩
    · rintro σ H2 ⟨s2, _⟩
      exact k H2 s2
end
theorem kit_ii (K : PySem.W.Frag) : PySem.W.kitOne K (.type "int") (.type "int") = some true := by kernel_rfl
theorem kit_ib (K : PySem.W.Frag) : PySem.W.kitOne K (.type "int") (.type "bool") = some false := by kernel_rfl
theorem kit_ll (K : PySem.W.Frag) : PySem.W.kitOne K (.type "list") (.type "list") = some true := by kernel_rfl
theorem kit_tl (K : PySem.W.Frag) : PySem.W.kitOne K (.type "tuple") (.type "list") = some false := by kernel_rfl
theorem kit_lt (K : PySem.W.Frag) : PySem.W.kitOne K (.type "list") (.type "tuple") = some false := by kernel_rfl
theorem kit_tt (K : PySem.W.Frag) : PySem.W.kitOne K (.type "tuple") (.type "tuple") = some true := by kernel_rfl
theorem kit_ia (K : PySem.W.Frag) : PySem.W.kitAny K (.type "int") [.type "list", .type "tuple"] = some false := by kernel_rfl
theorem kit_la (K : PySem.W.Frag) : PySem.W.kitAny K (.type "list") [.type "list", .type "tuple"] = some true := by kernel_rfl
theorem kit_ta (K : PySem.W.Frag) : PySem.W.kitAny K (.type "tuple") [.type "list", .type "tuple"] = some true := by kernel_rfl
theorem kit_na (K : PySem.W.Frag) : PySem.W.kitAny K (.type "NoneType") [.type "list", .type "tuple"] = some false := by kernel_rfl
theorem menu {xs : List Int} (h : xs ≠ []) (hp : ∀ x ∈ xs, 0 ≤ x) (z : Int) : ∃ d, atI (iv xs) (z % xs.length) = some (.int d) ∧ 0 ≤ d := by
  have hl : 0 < xs.length := List.length_pos_iff.mpr h
  have h1 : 0 ≤ z % (xs.length : Int) := Int.emod_nonneg _ (by omega)
  have h2 : z % (xs.length : Int) < xs.length := Int.emod_lt_of_pos _ (by omega)
  have h3 : (z % (xs.length : Int)).toNat < xs.length := by omega
  refine ⟨xs[(z % (xs.length : Int)).toNat], ?_, hp _ (List.getElem_mem h3)⟩
  have e : z % (xs.length : Int) = (((z % (xs.length : Int)).toNat : Nat) : Int) := by omega
  conv => lhs; rw [e]
  exact atI_nat (by simp [h3])
section
variable {P : Program} {w : World} {K : PySem.W.Frag} {mg : Str → Option Value} {base : Heap}
/-! ### _law_whole -/
def spWhole : Sp := fun vs H Q _ => ∃ i : Int, vs = [.int i] ∧ ∀ H', Same H H' → Q (.bl true) H'
theorem scWhole : FnScope ["_law_found"] ["_law_found"] (defScope sWhole) := ⟨rfl, rfl, rfl, by decide +kernel, rfl, by decide +kernel, by decide +kernel⟩
theorem ok_whole {f : Addr} {fd : FuncData} (F : Fun K "_law_whole" "_law_whole" sWhole f fd) (B : Bn mg) : FnOk P w K mg base CX0 1 f fd ["_law_found"] spWhole := by
  refine F.ok scWhole (fun vs H Q E h => ?_) (fun cdv A outer s H vs Q E hr h => ?_)
  · obtain ⟨i, rfl, _⟩ := h
    rfl
  · obtain ⟨i, rfl, k⟩ := h
    refine ⟨_, pss_one (ps_ret (pe_and (pe_callB call_isi (by rfl) B.isi PyProof.Rows.boot_isinstance (pa_cons (pv 0) (pa_cons (pe_bltn (v := .ty "int") (by rfl) B.int PyProof.Rows.boot_int rfl) pa_nil)))
      (pe_one (pe_not (pe_callB call_isi (by rfl) B.isi PyProof.Rows.boot_isinstance (pa_cons (pv 0) (pa_cons (pe_bltn (v := .ty "bool") (by rfl) B.bool PyProof.Rows.boot_bool rfl) pa_nil))))))), ?_⟩
    refine ⟨_, rfl, _, _, _, true, rfl, TyOf.int i, .inl ⟨"int", rfl, kit_ii _⟩, _, rfl, ?_⟩
    refine iteT ⟨_, rfl, _, _, _, false, rfl, TyOf.int i, .inl ⟨"bool", rfl, kit_ib _⟩, _, rfl, k H (Same.refl H)⟩
/-! ### _law_at -/
def spAt : Sp := fun vs H Q _ => ∃ (a : Addr) (ns : List Int) (k : Int), vs = [.ref a, .int k] ∧ SqL K H a (iv ns) ∧ ns.length ≤ 63 ∧ 0 ≤ k ∧ ∀ z H', Same H H' → Q (.int z) H'
theorem scAt : FnScope ["_law_script", "_law_k"] ["_law_script", "_law_k"] (defScope sAt) := ⟨rfl, rfl, rfl, by decide +kernel, rfl, by decide +kernel, by decide +kernel⟩
theorem ok_at {f : Addr} {fd : FuncData} (F : Fun K "_law_at" "_law_at" sAt f fd) (B : Bn mg) : FnOk P w K mg base CX0 1 f fd ["_law_script", "_law_k"] (spAt (K := K)) := by
  refine F.ok scAt (fun vs H Q E h => ?_) (fun cdv A outer s H vs Q E hr h => ?_)
  · obtain ⟨a, ns, k, rfl, _⟩ := h
    rfl
  · obtain ⟨a, ns, k, rfl, hS, hl, hk, q⟩ := h
    refine ⟨_, pss_cons (ps_if (pt_cmpR (op_eqL hr.units0) (pv 0) (pe_lst pa_nil) (nomark _)) (pss_one (ps_ret pe_int)) pss_nil)
      (pss_one (ps_ret (pe_op op_add (pe_ix ix_list (pv 0) (pe_op op_mod (pv 1) (pe_callB call_len_seq (by rfl) B.len PySem.boot_len (pa_cons (pv 0) pa_nil))) (fun _ _ => rfl))
        (pe_op op_mul pe_int (pe_op op_fdiv (pv 1) (pe_callB call_len_seq (by rfl) B.len PySem.boot_len (pa_cons (pv 0) pa_nil))))))), ?_⟩
    refine ⟨_, rfl, by show 0 ≤ sizeLine; exact Nat.zero_le _, fun l hl0 => ?_⟩
    have sn : Same H (upd H l (.lst [])) := Same.new hl0
    have hS' : SqL K (upd H l (.lst [])) a (iv ns) := sn.seq hS
    refine ⟨a, l, iv ns, [], rfl, rfl, hS', SqL.of upd_same, ?_⟩
    by_cases hne : ns = []
    · subst hne
      refine .inr ⟨[], [], rfl, rfl, _, rfl, ?_⟩
      exact iteT (q 0 _ sn)
    · have hpos : 0 < ns.length := List.length_pos_iff.mpr hne
      refine .inl ⟨by rw [List.length_map]; show ns.length ≠ 0; omega, _, rfl, ?_⟩
      refine iteF ⟨_, rfl, _, rfl, _, rfl, a, _, rfl, .inl hS', _, _, rfl, rfl, by rw [List.length_map]; show (0 : Int) < _; omega, ?_⟩
      have h1 : 0 ≤ k % ((iv ns).length : Int) := Int.emod_nonneg _ (by rw [List.length_map]; omega)
      have h2 : k % ((iv ns).length : Int) < (iv ns).length := Int.emod_lt_of_pos _ (by rw [List.length_map]; omega)
      have h3 : (k % ((iv ns).length : Int)).toNat < ns.length := by rw [List.length_map] at h2 h1 ⊢; omega
      have hat : atI (iv ns) (k % ((iv ns).length : Int)) = some (.int ns[(k % ((iv ns).length : Int)).toNat]) := by
        have e : k % ((iv ns).length : Int) = (((k % ((iv ns).length : Int)).toNat : Nat) : Int) := by omega
        conv => lhs; rw [e]
        exact atI_nat (by simp [h3])
      refine ⟨a, _, _, _, rfl, rfl, hS', hat, _, rfl, _, rfl, a, _, rfl, .inl hS', _, _, rfl, rfl, ⟨by rw [List.length_map]; omega, by rw [List.length_map]; omega⟩, _, _, rfl, rfl, .inl ⟨by decide, by decide⟩, _, _, rfl, rfl, q _ _ sn⟩
end
end Bd


set_option linter.all false
set_option maxRecDepth 100000
set_option maxHeartbeats 4000000
namespace Bd
open PySem L2
seal L2.PSs L2.PS L2.PE L2.PT L2.PW L2.PA L2.PI L2.PG L2.PGs
/-- behind one statement a word that is enough for the rest -/
theorem seq_by {t u : TS} {D : Ends} {σ : St} {H : Hp} (Pm : St → Hp → Prop) (fin : ∀ σ' H', Pm σ' H' → u D σ' H') (h : (∀ σ' H', Pm σ' H' → u D σ' H') → t { D with nx := u D } σ H) : tSeq t u D σ H := h fin
theorem gN {i : Nat} {v : V} {σ : St} {H : Hp} {Q : St → Hp → Prop} (h : Q (σ.set i (some v)) H) : gName i v σ H Q := h
/-- a place of a list by a rest -/
theorem at_mod {xs : List Int} (h : xs ≠ []) (z : Int) : ∃ d, atI (iv xs) (z % ((iv xs).length : Int)) = some (.int d) ∧ d ∈ xs := by
  rw [List.length_map]
  have hl : 0 < xs.length := List.length_pos_iff.mpr h
  have h1 : 0 ≤ z % (xs.length : Int) := Int.emod_nonneg _ (by omega)
  have h2 : z % (xs.length : Int) < xs.length := Int.emod_lt_of_pos _ (by omega)
  have h3 : (z % (xs.length : Int)).toNat < xs.length := by omega
  refine ⟨xs[(z % (xs.length : Int)).toNat], ?_, List.getElem_mem h3⟩
  have e : z % (xs.length : Int) = (((z % (xs.length : Int)).toNat : Nat) : Int) := by omega
  conv => lhs; rw [e]
  exact atI_nat (by simp [h3])
abbrev Trip := V × V × Nat
/-- two values of the same shape and numbers; how many there are in one -/
inductive SameT (H : Hp) : V → V → Nat → Prop where
  | int (i : Int) : SameT H (.int i) (.int i) 1
  | lst (a b : Addr) (qs : List Trip) (ha : H a = some (.lst (qs.map (·.1)))) (hb : H b = some (.lst (qs.map (·.2.1)))) (h : ∀ p ∈ qs, SameT H p.1 p.2.1 p.2.2) : SameT H (.ref a) (.ref b) (1 + (qs.map (·.2.2)).sum)
  | tup (a b : Addr) (qs : List Trip) (ha : H a = some (.tup (qs.map (·.1)))) (hb : H b = some (.tup (qs.map (·.2.1)))) (h : ∀ p ∈ qs, SameT H p.1 p.2.1 p.2.2) : SameT H (.ref a) (.ref b) (1 + (qs.map (·.2.2)).sum)
theorem SameT.pos {H : Hp} {x y : V} {n : Nat} (h : SameT H x y n) : 1 ≤ n := by cases h <;> omega
theorem SameT.mono {H H' : Hp} (s : Same H H') {x y : V} {n : Nat} (h : SameT H x y n) : SameT H' x y n := by
  induction h with
  | int i => exact .int i
  | lst a b qs ha hb _ ih => exact .lst a b qs (s _ _ ha) (s _ _ hb) ih
  | tup a b qs ha hb _ ih => exact .tup a b qs (s _ _ ha) (s _ _ hb) ih
theorem len_le_sum {H : Hp} : ∀ {ps : List Trip}, (∀ p ∈ ps, SameT H p.1 p.2.1 p.2.2) → ps.length ≤ (ps.map (·.2.2)).sum
  | [], _ => Nat.zero_le _
  | p :: ps, h => by
    have h1 := (h p (List.mem_cons_self ..)).pos
    have h2 := len_le_sum (ps := ps) fun q hq => h q (List.mem_cons_of_mem _ hq)
    rw [List.map_cons, List.sum_cons, List.length_cons]
    omega
/-- the two stacks -/
def SW (H : Hp) (x y : V) (la ra : Addr) (m : Nat) (σ : St) (H2 : Hp) : Prop := m ≤ 1000 ∧ ∃ (ps : List Trip) (u4 u5 : Option V), σ = [some x, some y, some (.ref la), some (.ref ra), u4, u5] ∧ m = (ps.map (·.2.2)).sum ∧ (∀ p ∈ ps, SameT H p.1 p.2.1 p.2.2) ∧ Same H H2 ∧ H2 la = some (.lst (ps.map (·.1))) ∧ H2 ra = some (.lst (ps.map (·.2.1)))
theorem last_map {α β : Type} (f : α → β) (xs : List α) (p : α) : (xs.map f ++ [f p])[(xs.map f ++ [f p]).length - 1]? = some (f p) := by simp
section
variable {P : Program} {w : World} {K : PySem.W.Frag} {mg : Str → Option Value} {base : Heap}
def spSame : Sp := fun vs H Q _ => ∃ (x y : V) (n : Nat), vs = [x, y] ∧ SameT H x y n ∧ n ≤ 1000 ∧ ∀ H', Same H H' → Q (.bl true) H'
theorem scSame : FnScope ["_law_found", "_law_due", "_law_left", "_law_right", "_law_one", "_law_two"] ["_law_found", "_law_due"] (defScope sSame) := ⟨rfl, rfl, rfl, by decide +kernel, rfl, by decide +kernel, by decide +kernel⟩
theorem ok_same {f g : Addr} {fd gd : FuncData} (F : Fun K "_law_same" "_law_same" sSame f fd) (B : Bn mg) (D : Df K mg "_law_whole" sWhole ["_law_found"] g gd) : FnOk P w K mg base CX0 2 f fd ["_law_found", "_law_due"] spSame := by
  have G : FnOk P w K mg base CX0 1 g gd ["_law_found"] spWhole := ok_whole D.fn B
  refine F.ok scSame (fun vs H Q E h => ?_) (fun cdv A outer s H vs Q E hr h => ?_)
  · obtain ⟨x, y, n, rfl, _⟩ := h
    rfl
  · obtain ⟨x, y, n, rfl, hT, hn, hend⟩ := h
    refine ⟨_, pss_cons (ps_set (i := 2) scSame.nd rfl (Or.inl rfl) (pe_lst (pa_cons (pv 0) pa_nil)))
      (pss_cons (ps_set (i := 3) scSame.nd rfl (Or.inl rfl) (pe_lst (pa_cons (pv 1) pa_nil)))
      (pss_cons (ps_while PassesOwn.never (pt_cmpR (op_neL hr.units0) (pv 3) (pe_lst pa_nil) (nomark _))
        (pss_cons (ps_set (i := 4) scSame.nd rfl (Or.inl rfl) (pe_bm0 PySem.F.plainAttrs_list PySem.F.slot_list_pop PySem.F.type_list_pop mt_pop (pv 2)))
        (pss_cons (ps_set (i := 5) scSame.nd rfl (Or.inl rfl) (pe_bm0 PySem.F.plainAttrs_list PySem.F.slot_list_pop PySem.F.type_list_pop mt_pop (pv 3)))
        (pss_one (ps_if (pt_val (pe_callB call_isiT (by rfl) B.isi PyProof.Rows.boot_isinstance (pa_cons (pv 5) (pa_cons (pe_tup (pa_cons (pe_bltn (v := .ty "list") (by rfl) B.list PyProof.Rows.boot_list rfl) (pa_cons (pe_bltn (v := .ty "tuple") (by rfl) B.tuple (by rfl) rfl) pa_nil))) pa_nil))))
          (pss_cons (ps_if (pt_cmpR op_ne (pe_callB call_isi (by rfl) B.isi PyProof.Rows.boot_isinstance (pa_cons (pv 4) (pa_cons (pe_bltn (v := .ty "list") (by rfl) B.list PyProof.Rows.boot_list rfl) pa_nil)))
              (pe_callB call_isi (by rfl) B.isi PyProof.Rows.boot_isinstance (pa_cons (pv 5) (pa_cons (pe_bltn (v := .ty "list") (by rfl) B.list PyProof.Rows.boot_list rfl) pa_nil))) (nomark _)) (pss_one ps_never) pss_nil)
          (pss_cons (ps_if (pw_or (pt_cmpR op_ne (pe_callB call_isi (by rfl) B.isi PyProof.Rows.boot_isinstance (pa_cons (pv 4) (pa_cons (pe_bltn (v := .ty "tuple") (by rfl) B.tuple (by rfl) rfl) pa_nil)))
              (pe_callB call_isi (by rfl) B.isi PyProof.Rows.boot_isinstance (pa_cons (pv 5) (pa_cons (pe_bltn (v := .ty "tuple") (by rfl) B.tuple (by rfl) rfl) pa_nil))) (nomark _))
              (pw_or1 (pt_cmpR op_ne (pe_callB call_len_seq (by rfl) B.len PySem.boot_len (pa_cons (pv 4) pa_nil)) (pe_callB call_len_seq (by rfl) B.len PySem.boot_len (pa_cons (pv 5) pa_nil)) (nomark _)))).pt (pss_one ps_never) pss_nil)
          (pss_cons (ps_expr (pe_bm PySem.F.plainAttrs_list PySem.F.slot_list_extend PySem.F.type_list_extend (mt_extend.or mt_extT) (pv 2) (pa_cons (pv 4) pa_nil)))
          (pss_one (ps_expr (pe_bm PySem.F.plainAttrs_list PySem.F.slot_list_extend PySem.F.type_list_extend (mt_extend.or mt_extT) (pv 3) (pa_cons (pv 5) pa_nil)))))))
          (pss_one (ps_if (pt_cmp (pc_isN (pv 5))) pss_never
            (pss_one (ps_if (pw_or (pt_not (pt_val (pe_call G hr (by rfl) D.gl D.fn.kp D.bd .nil pass0 (pa_cons (pv 4) pa_nil)))) (pw_or1 (pt_cmpR op_ne (pv 4) (pv 5) (nomark _)))).pt (pss_one ps_never) pss_nil))))))))
      )
      (pss_one (ps_ret pe_bl)))), ?_⟩
    refine ⟨_, rfl, small (show 1 ≤ 1000 by decide), fun la hla => ?_⟩
    refine ⟨_, rfl, small (show 1 ≤ 1000 by decide), fun ra hra => ?_⟩
    have hra0 : H ra = none := (Same.new hla).free hra
    have hne : la ≠ ra := ne_of_none (H := upd H la (.lst [x])) upd_same hra
    refine ⟨SW H x y la ra, ⟨n, hn, [(x, y, n)], none, none, rfl, by simp, fun p hp => by rw [List.mem_singleton.mp hp]; exact hT, (Same.new hla).put hra0, by rw [upd_ne hne]; exact upd_same, upd_same⟩, ?_⟩
    rintro m σ H2 ⟨hm, ps, u4, u5, rfl, em, hall, s2, hl2, hr2⟩
    refine ⟨_, rfl, Nat.zero_le _, fun e he => ⟨ra, e, _, _, rfl, rfl, SqL.of ((Same.new he) _ _ hr2), SqL.of upd_same, ?_⟩⟩
    have s3 : Same H (upd H2 e (.lst [])) := s2.trans (Same.new he)
    have hl3 := (Same.new (o := .lst []) he) _ _ hl2
    have hr3 := (Same.new (o := .lst []) he) _ _ hr2
    rcases List.eq_nil_or_concat ps with rfl | ⟨ps0, p, rfl⟩
    · exact .inr ⟨[], [], rfl, rfl, _, rfl, iteF (hend _ s3)⟩
    · refine .inl ⟨by simp, _, rfl, iteT ⟨fun σ' H' => ∃ m', m' < m ∧ SW H x y la ra m' σ' H', fun _ _ h => h, ?_⟩⟩
      simp only [List.concat_eq_append, List.map_append, List.map_cons, List.map_nil] at hl3 hr3 em hall
      have hp := hall p (by simp)
      have hall0 : ∀ q ∈ ps0, SameT H q.1 q.2.1 q.2.2 := fun q hq => hall q (List.mem_append_left _ hq)
      obtain ⟨one, two, k⟩ := p
      generalize hH3 : upd H2 e (.lst []) = H3 at *
      refine ⟨_, rfl, .inl ⟨rfl, _, SqL.of hl3⟩, la, _, _, rfl, rfl, hl3, last_map (·.1) ps0 (one, two, k), ?_⟩
      rw [List.dropLast_concat]
      have hr4 : upd H3 la (.lst (ps0.map (·.1))) ra = some (.lst (ps0.map (·.2.1) ++ [two])) := by rw [upd_ne (Ne.symm hne)]; exact hr3
      refine ⟨_, rfl, .inl ⟨rfl, _, SqL.of hr4⟩, ra, _, _, rfl, rfl, hr4, last_map (·.2.1) ps0 (one, two, k), ?_⟩
      rw [List.dropLast_concat]
      have s5 : Same H (upd (upd H3 la (.lst (ps0.map (·.1)))) ra (.lst (ps0.map (·.2.1)))) := (s3.put hla).put hra0
      have hl5 : upd (upd H3 la (.lst (ps0.map (·.1)))) ra (.lst (ps0.map (·.2.1))) la = some (.lst (ps0.map (·.1))) := by rw [upd_ne hne, upd_same]
      have hr5 : upd (upd H3 la (.lst (ps0.map (·.1)))) ra (.lst (ps0.map (·.2.1))) ra = some (.lst (ps0.map (·.2.1))) := upd_same
      generalize upd (upd H3 la (.lst (ps0.map (·.1)))) ra (.lst (ps0.map (·.2.1))) = H5 at *
      rw [List.sum_append] at em
      have em' : m = (ps0.map (·.2.2)).sum + k := by rw [em]; simp
      cases hp with
      | int i =>
        have hlt : (ps0.map (·.2.2)).sum < m := by rw [em']; exact Nat.lt_succ_self _
        refine ⟨_, rfl, small (show 2 ≤ 1000 by decide), fun tp htp => ⟨_, tp, ["list", "tuple"], _, false, rfl, TyOf.int i, upd_same, kit_ia _, _, rfl, iteF ?_⟩⟩
        have sT : Same H5 (upd H5 tp (.tup [.ty "list", .ty "tuple"])) := Same.new htp
        refine ⟨_, rfl, false, rfl, iteF ?_⟩
        refine ⟨_, rfl, i, rfl, fun H7 s7 => ⟨_, rfl, iteF ⟨_, rfl, _, rfl, by rfl, _, rfl, iteNS rfl ?_⟩⟩⟩
        refine ⟨(ps0.map (·.2.2)).sum, hlt, Nat.le_trans (Nat.le_of_lt hlt) hm, ps0, _, _, rfl, rfl, hall0, (s5.trans sT).trans s7, s7 _ _ (sT _ _ hl5), s7 _ _ (sT _ _ hr5)⟩
      | lst a b qs ha hb hq =>
        have hlt : ((ps0 ++ qs).map (·.2.2)).sum < m := by
          rw [em', List.map_append, List.sum_append]
          exact Nat.add_lt_add_left (Nat.lt_add_of_pos_left (by decide : 0 < 1)) _
        have hall1 : ∀ q ∈ ps0 ++ qs, SameT H q.1 q.2.1 q.2.2 := fun q hq' => (List.mem_append.mp hq').elim (hall0 q) (hq q)
        have hlen : (ps0 ++ qs).length ≤ 1000 := Nat.le_trans (len_le_sum hall1) (Nat.le_trans (Nat.le_of_lt hlt) hm)
        rw [List.length_append] at hlen
        refine ⟨_, rfl, small (show 2 ≤ 1000 by decide), fun tp htp => ⟨_, tp, ["list", "tuple"], _, true, rfl, TyOf.lst (s5.put (s5.free htp) _ _ hb), upd_same, kit_la _, _, rfl, iteT ?_⟩⟩
        have sT : Same H5 (upd H5 tp (.tup [.ty "list", .ty "tuple"])) := Same.new htp
        have s6 := s5.trans sT
        have hl6 := sT _ _ hl5
        have hr6 := sT _ _ hr5
        generalize upd H5 tp (.tup [.ty "list", .ty "tuple"]) = H6 at *
        have ha6 := s6 _ _ ha
        have hb6 := s6 _ _ hb
        refine ⟨_, rfl, _, _, _, true, rfl, TyOf.lst ha6, .inl ⟨"list", rfl, kit_ll _⟩, _, rfl, _, _, _, true, rfl, TyOf.lst hb6, .inl ⟨"list", rfl, kit_ll _⟩, by rfl, _, rfl, iteNS rfl ?_⟩
        refine ⟨_, rfl, _, _, _, false, rfl, TyOf.lst ha6, .inl ⟨"tuple", rfl, kit_lt _⟩, _, rfl, _, _, _, false, rfl, TyOf.lst hb6, .inl ⟨"tuple", rfl, kit_lt _⟩, by rfl, _, rfl, iteNS rfl ?_⟩
        refine ⟨_, rfl, a, _, rfl, .inl (SqL.of ha6), _, rfl, b, _, rfl, .inl (SqL.of hb6), by rfl, _, rfl, iteNS (by simp) ?_⟩
        have sl : Same H (upd H6 la (.lst (ps0.map (·.1) ++ qs.map (·.1)))) := s6.put hla
        have hr7 : upd H6 la (.lst (ps0.map (·.1) ++ qs.map (·.1))) ra = some (.lst (ps0.map (·.2.1))) := by rw [upd_ne (Ne.symm hne)]; exact hr6
        refine ⟨_, rfl, .inl ⟨rfl, _, SqL.of hl6⟩, _, rfl, .inl ⟨la, a, _, _, rfl, rfl, hl6, ha6, small (by rw [List.length_map, List.length_map]; exact hlen), ?_⟩⟩
        refine ⟨_, rfl, .inl ⟨rfl, _, SqL.of hr7⟩, _, rfl, .inl ⟨ra, b, _, _, rfl, rfl, hr7, (sl _ _ hb), small (by rw [List.length_map, List.length_map]; exact hlen), ?_⟩⟩
        exact ⟨_, hlt, Nat.le_trans (Nat.le_of_lt hlt) hm, ps0 ++ qs, _, _, rfl, rfl, hall1, sl.put hra0, by rw [upd_ne hne, upd_same, List.map_append], by rw [upd_same, List.map_append]⟩
      | tup a b qs ha hb hq =>
        have hlt : ((ps0 ++ qs).map (·.2.2)).sum < m := by
          rw [em', List.map_append, List.sum_append]
          exact Nat.add_lt_add_left (Nat.lt_add_of_pos_left (by decide : 0 < 1)) _
        have hall1 : ∀ q ∈ ps0 ++ qs, SameT H q.1 q.2.1 q.2.2 := fun q hq' => (List.mem_append.mp hq').elim (hall0 q) (hq q)
        have hlen : (ps0 ++ qs).length ≤ 1000 := Nat.le_trans (len_le_sum hall1) (Nat.le_trans (Nat.le_of_lt hlt) hm)
        rw [List.length_append] at hlen
        refine ⟨_, rfl, small (show 2 ≤ 1000 by decide), fun tp htp => ⟨_, tp, ["list", "tuple"], _, true, rfl, TyOf.tup (s5.put (s5.free htp) _ _ hb), upd_same, kit_ta _, _, rfl, iteT ?_⟩⟩
        have sT : Same H5 (upd H5 tp (.tup [.ty "list", .ty "tuple"])) := Same.new htp
        have s6 := s5.trans sT
        have hl6 := sT _ _ hl5
        have hr6 := sT _ _ hr5
        generalize upd H5 tp (.tup [.ty "list", .ty "tuple"]) = H6 at *
        have ha6 := s6 _ _ ha
        have hb6 := s6 _ _ hb
        refine ⟨_, rfl, _, _, _, false, rfl, TyOf.tup ha6, .inl ⟨"list", rfl, kit_tl _⟩, _, rfl, _, _, _, false, rfl, TyOf.tup hb6, .inl ⟨"list", rfl, kit_tl _⟩, by rfl, _, rfl, iteNS rfl ?_⟩
        refine ⟨_, rfl, _, _, _, true, rfl, TyOf.tup ha6, .inl ⟨"tuple", rfl, kit_tt _⟩, _, rfl, _, _, _, true, rfl, TyOf.tup hb6, .inl ⟨"tuple", rfl, kit_tt _⟩, by rfl, _, rfl, iteNS rfl ?_⟩
        refine ⟨_, rfl, a, _, rfl, .inr (SqT.of ha6), _, rfl, b, _, rfl, .inr (SqT.of hb6), by rfl, _, rfl, iteNS (by simp) ?_⟩
        have sl : Same H (upd H6 la (.lst (ps0.map (·.1) ++ qs.map (·.1)))) := s6.put hla
        have hr7 : upd H6 la (.lst (ps0.map (·.1) ++ qs.map (·.1))) ra = some (.lst (ps0.map (·.2.1))) := by rw [upd_ne (Ne.symm hne)]; exact hr6
        refine ⟨_, rfl, .inl ⟨rfl, _, SqL.of hl6⟩, _, rfl, .inr ⟨la, a, _, _, rfl, rfl, hl6, SqT.of ha6, small (by rw [List.length_map, List.length_map]; exact hlen), ?_⟩⟩
        refine ⟨_, rfl, .inl ⟨rfl, _, SqL.of hr7⟩, _, rfl, .inr ⟨ra, b, _, _, rfl, rfl, hr7, SqT.of (sl _ _ hb), small (by rw [List.length_map, List.length_map]; exact hlen), ?_⟩⟩
        exact ⟨_, hlt, Nat.le_trans (Nat.le_of_lt hlt) hm, ps0 ++ qs, _, _, rfl, rfl, hall1, sl.put hra0, by rw [upd_ne hne, upd_same, List.map_append], by rw [upd_same, List.map_append]⟩
end
end Bd


set_option linter.all false
set_option maxRecDepth 100000
set_option maxHeartbeats 4000000
namespace Bd
open PySem L2
seal L2.PSs L2.PS L2.PE L2.PT L2.PW L2.PA L2.PI L2.PG L2.PGs
theorem iv_snoc (xs : List Int) (z : Int) : iv (xs ++ [z]) = iv xs ++ [.int z] := by rw [iv, List.map_append]; rfl
theorem iv_at {xs : List Int} {k : Nat} {x : Int} (h : xs[k]? = some x) : atI (iv xs) ((k : Nat) : Int) = some (.int x) := atI_nat (by rw [List.getElem?_map, h]; rfl)
def hid (acc : Addr) (H : Hp) : Hp := fun b => if b = acc then none else H b
theorem hid_same {acc : Addr} {H H' : Hp} (s : Same H H') : Same (hid acc H) (hid acc H') := fun b o h => by
  unfold hid at h ⊢
  by_cases e : b = acc
  · rw [if_pos e] at h; cases h
  · rw [if_neg e] at h ⊢; exact s b o h
theorem hid_upd {acc : Addr} {H : Hp} {o : HO} : hid acc (upd H acc o) = hid acc H := by
  funext b
  unfold hid
  by_cases e : b = acc
  · rw [if_pos e, if_pos e]
  · rw [if_neg e, if_neg e, upd_ne e]
theorem hid_sub {acc : Addr} {H : Hp} : Same (hid acc H) H := fun b o h => by
  unfold hid at h
  by_cases e : b = acc
  · rw [if_pos e] at h; cases h
  · rw [if_neg e] at h; exact h
theorem hid_of {acc b : Addr} {H : Hp} {o : HO} (h : H b = some o) (e : b ≠ acc) : hid acc H b = some o := by
  unfold hid
  rw [if_neg e]
  exact h
def rListOf (K : PySem.W.Frag) : List V → Hp → VK → Prop := fun xs H Q => ∃ p ys, xs = [.ref p] ∧ (SqL K H p ys ∨ SqT K H p ys) ∧ ∀ l, H l = none → Q (.ref l) (upd H l (.lst ys))
theorem call_listK {X : Cx} {K : PySem.W.Frag} (h : X.K = K) : CallR X (.type "list") (rListOf K) := h ▸ call_list_of
theorem same_ints {H : Hp} {a b : Addr} {xs : List Int} (ha : IntsAt H a xs) (hb : IntsAt H b xs) : SameT H (.ref a) (.ref b) (1 + xs.length) := by
  have h := SameT.lst (H := H) a b (xs.map fun i => (V.int i, V.int i, 1)) (by rw [List.map_map]; exact ha) (by rw [List.map_map]; exact hb) fun p hp => by
    obtain ⟨i, _, rfl⟩ := List.mem_map.mp hp
    exact .int i
  rw [List.map_map] at h
  have e : (xs.map ((fun x : Trip => x.2.2) ∘ fun i => (V.int i, V.int i, 1))).sum = xs.length := by
    have e4 : (xs.map ((fun x : Trip => x.2.2) ∘ fun i => (V.int i, V.int i, 1))) = List.replicate xs.length 1 := by
      rw [List.eq_replicate_iff]
      refine ⟨List.length_map .., fun b hb => ?_⟩
      obtain ⟨q, _, rfl⟩ := List.mem_map.mp hb
      rfl
    rw [e4, List.sum_replicate_nat, Nat.mul_one]
  rw [e] at h
  exact h
theorem same_mv {H : Hp} {v v' : V} {m : Mv} {n : Nat} (h : MvAt H v m) (h' : MvAt H v' m) (w1 : Wf n m.1) (w2 : Wf n m.2) : SameT H v v' (3 + 2 * n) := by
  obtain ⟨t, a, b, rfl, ht, ha, hb⟩ := h
  obtain ⟨t', a', b', rfl, ht', ha', hb'⟩ := h'
  have q := SameT.tup (H := H) t t' [(.ref a, .ref a', 1 + n), (.ref b, .ref b', 1 + n)] ht ht' fun p hp => by
    rcases List.mem_cons.mp hp with rfl | hp
    · have := same_ints ha ha'; rw [w1.1] at this; exact this
    · rw [List.mem_singleton.mp hp]
      have := same_ints hb hb'; rw [w2.1] at this; exact this
  have e : 1 + (([(.ref a, .ref a', 1 + n), (.ref b, .ref b', 1 + n)] : List Trip).map (·.2.2)).sum = 3 + 2 * n := by simp; omega
  rw [e] at q
  exact q
theorem same_mvs {H : Hp} {p p' : Addr} {us us' : List V} {ms : List Mv} {n : Nat} (h : MvsAt H p us ms) (h' : MvsAt H p' us' ms) (w : WfM n ms) : SameT H (.ref p) (.ref p') (1 + ms.length * (3 + 2 * n)) := by
  have hl := h.len
  have hl' := h'.len
  have e1 : ((us.zip us').map fun q => (q.1, q.2, 3 + 2 * n)).map (fun x : Trip => x.1) = us := by
    rw [List.map_map]
    exact List.map_fst_zip (by omega)
  have e2 : ((us.zip us').map fun q => (q.1, q.2, 3 + 2 * n)).map (fun x : Trip => x.2.1) = us' := by
    rw [List.map_map]
    exact List.map_snd_zip (by omega)
  have e3 : (((us.zip us').map fun q => (q.1, q.2, 3 + 2 * n)).map (fun x : Trip => x.2.2)).sum = ms.length * (3 + 2 * n) := by
    rw [List.map_map]
    have e4 : ((us.zip us').map ((fun x : Trip => x.2.2) ∘ fun q => (q.1, q.2, 3 + 2 * n))) = List.replicate ms.length (3 + 2 * n) := by
      rw [List.eq_replicate_iff]
      refine ⟨by rw [List.length_map, List.length_zip]; omega, fun b hb => ?_⟩
      obtain ⟨q, _, rfl⟩ := List.mem_map.mp hb
      rfl
    rw [e4, List.sum_replicate_nat]
  have q := SameT.lst (H := H) p p' ((us.zip us').map fun q => (q.1, q.2, 3 + 2 * n)) (by rw [e1]; exact h.li) (by rw [e2]; exact h'.li) fun q hq => by
    obtain ⟨r, hr, rfl⟩ := List.mem_map.mp hq
    obtain ⟨i, hi⟩ := List.mem_iff_getElem?.mp hr
    obtain ⟨u, u'⟩ := r
    rw [List.getElem?_zip_eq_some] at hi
    obtain ⟨m, em, hm⟩ := h.get hi.1
    obtain ⟨m', em', hm'⟩ := h'.get hi.2
    rw [em] at em'
    cases em'
    have hw := w m (List.mem_of_getElem? em)
    exact same_mv hm hm' hw.1 hw.2
  rw [e3] at q
  exact q
theorem seqC {v : V} {i : Nat} {u : TS} {D : Ends} {σ : St} {H : Hp} (h : u D (σ.set i (some v)) H) : tSeq (tAsg (tC v) (gName i)) u D σ H := h
theorem ixN_nat {n j : Nat} (h : j < n) : ixN n (j : Int) = some j := by
  unfold ixN
  rw [if_pos (by omega), if_pos (by omega), Int.toNat_natCast]
theorem ixN_mod {n : Nat} (h : 0 < n) (z : Int) : ∃ j, ixN n (z % (n : Int)) = some j ∧ j < n := by
  have h1 : 0 ≤ z % (n : Int) := Int.emod_nonneg _ (by omega)
  have h2 : z % (n : Int) < n := Int.emod_lt_of_pos _ (by omega)
  refine ⟨(z % (n : Int)).toNat, ?_, by omega⟩
  unfold ixN
  rw [if_pos h1, if_pos h2]
theorem iv_set (xs : List Int) (j : Nat) (d : Int) : (iv xs).set j (.int d) = iv (xs.set j d) := (List.map_set).symm
theorem Wf.set {n : Nat} {xs : List Int} (h : Wf n xs) (j : Nat) {d : Int} (hd : 0 ≤ d) : Wf n (xs.set j d) := by
  refine ⟨by rw [List.length_set]; exact h.1, fun x hx => ?_⟩
  rcases List.mem_or_eq_of_mem_set hx with hx | rfl
  · exact h.2 x hx
  · exact hd
theorem Wf.snoc {n : Nat} {xs : List Int} (h : Wf n xs) {d : Int} (hd : 0 ≤ d) : Wf (n + 1) (xs ++ [d]) := by
  refine ⟨by rw [List.length_append, h.1]; rfl, fun x hx => ?_⟩
  rcases List.mem_append.mp hx with hx | hx
  · exact h.2 x hx
  · rw [List.mem_singleton.mp hx]; exact hd
theorem rep_zero (n : Nat) : (List.replicate (n : Int).toNat [V.int 0]).flatten = iv (List.replicate n 0) := by
  rw [Int.toNat_natCast]
  induction n with
  | zero => rfl
  | succ n ih => rw [List.replicate_succ, List.flatten_cons, ih]; rfl
theorem Wf.zeros (n : Nat) : Wf n (List.replicate n 0) := ⟨List.length_replicate, fun x hx => by rw [List.eq_of_mem_replicate hx]; exact Int.le_refl _⟩
end Bd

set_option linter.all false
set_option maxRecDepth 100000
set_option maxHeartbeats 4000000
namespace Bd
open PySem L2 Lin
open PySem.Builtin.Int (intBits)
seal L2.PSs L2.PS L2.PE L2.PT L2.PW L2.PA L2.PI L2.PG L2.PGs
/-! ### sizes of numbers -/
def Bits (b : Nat) (xs : List Int) : Prop := ∀ x ∈ xs, intBits x ≤ b
theorem intBits_zero (b : Nat) : intBits 0 ≤ b := intBits_le_iff.mpr (by simp; exact Nat.two_pow_pos b)
theorem co_get {xs : List Int} {j : Nat} (h : j < xs.length) : xs[j]? = some (co xs j) := by
  unfold co
  rw [List.getD_eq_getElem?_getD, List.getElem?_eq_getElem h]
  rfl
theorem Bits.co {b : Nat} {xs : List Int} (h : Bits b xs) (j : Nat) : intBits (co xs j) ≤ b := by
  by_cases hj : j < xs.length
  · exact h _ (List.mem_of_getElem? (co_get hj))
  · unfold Lin.co
    rw [List.getD_eq_getElem?_getD, List.getElem?_eq_none (by omega)]
    exact intBits_zero b
theorem Bits.mono {b c : Nat} {xs : List Int} (h : Bits b xs) (hc : b ≤ c) : Bits c xs := fun x hx => Nat.le_trans (h x hx) hc
theorem bits_clear1 {b : Nat} {o row : List Int} (ho : Bits b o) (hr : Bits b row) (s j : Nat) : intBits (co o j * co row s - co row j * co o s) ≤ 2 * b + 1 := by
  have := intBits_sub_le (intBits_mul_le (ho.co j) (hr.co s)) (intBits_mul_le (hr.co j) (ho.co s))
  omega
theorem bits_clear {b n : Nat} {o row : List Int} (ho : Bits b o) (hr : Bits b row) (s : Nat) : Bits (2 * b + 1) (clear n o row s) := fun x hx => by
  obtain ⟨j, _, rfl⟩ := List.mem_map.mp hx
  exact bits_clear1 ho hr s j
theorem clear_length (n : Nat) (o row : List Int) (s : Nat) : (clear n o row s).length = n := by unfold clear; rw [List.length_map, List.length_range]
theorem take_snoc {α : Type} {xs : List α} {i : Nat} {x : α} (h : xs[i]? = some x) : xs.take i ++ [x] = xs.take (i + 1) := by
  obtain ⟨hl, e⟩ := List.getElem?_eq_some_iff.mp h
  rw [List.take_succ_eq_append_getElem hl, e]
theorem clear_get {n : Nat} (o row : List Int) (s : Nat) {j : Nat} (h : j < n) : (clear n o row s)[j]? = some (co o j * co row s - co row j * co o s) := by
  unfold clear
  rw [List.getElem?_map, List.getElem?_range h]
  rfl
section
variable {P : Program} {w : World} {K : PySem.W.Frag} {mg : Str → Option Value} {base : Heap}
/-! ### _law_are_numbers -/
def spAreN : Sp := fun vs H Q _ => ∃ (a : Addr) (xs : List Int), vs = [.ref a] ∧ IntsAt H a xs ∧ ∀ H', Same H H' → Q (.bl true) H'
theorem scAreN : FnScope ["_law_found", "_law_one"] ["_law_found"] (defScope sAreN) := ⟨rfl, rfl, rfl, by decide +kernel, rfl, by decide +kernel, by decide +kernel⟩
theorem ok_areN {f g : Addr} {fd gd : FuncData} (F : Fun K "_law_are_numbers" "_law_are_numbers" sAreN f fd) (B : Bn mg) (D : Df K mg "_law_whole" sWhole ["_law_found"] g gd) : FnOk P w K mg base CX0 2 f fd ["_law_found"] spAreN := by
  have G : FnOk P w K mg base CX0 1 g gd ["_law_found"] spWhole := ok_whole D.fn B
  refine F.ok scAreN (fun vs H Q E h => ?_) (fun cdv A outer s H vs Q E hr h => ?_)
  · obtain ⟨a, xs, rfl, _⟩ := h
    rfl
  · obtain ⟨a, xs, rfl, ha, k⟩ := h
    refine ⟨_, pss_cons (ps_if (pt_not (pt_val (pe_callB call_isi (by rfl) B.isi PyProof.Rows.boot_isinstance (pa_cons (pv 0) (pa_cons (pe_bltn (v := .ty "list") (by rfl) B.list PyProof.Rows.boot_list rfl) pa_nil))))) (pss_one ps_never) pss_nil)
      (pss_cons (ps_for PassesOwn.never rfl (pi_list (pv 0)) (pg_name (i := 1) scAreN.nd rfl (Or.inl rfl))
        (pss_one (ps_if (pt_not (pt_val (pe_call G hr (by rfl) D.gl D.fn.kp D.bd .nil pass0 (pa_cons (pv 1) pa_nil)))) (pss_one ps_never) pss_nil)))
      (pss_one (ps_ret pe_bl))), ?_⟩
    refine ⟨_, rfl, _, _, _, true, rfl, TyOf.lst ha, .inl ⟨"list", rfl, kit_ll _⟩, _, rfl, iteF ?_⟩
    refine ⟨_, rfl, a, rfl, ⟨_, SqL.of ha⟩, for_list (K := K) (a := a) (xs := iv xs) (fun i σ H2 => Same H H2 ∧ ∃ u, σ = [some (.ref a), u]) ⟨Same.refl H, none, rfl⟩ (fun i σ H2 _ ⟨s2, _⟩ => SqL.of (ha.same s2)) ?_ ?_⟩
    · rintro i x σ H2 hx ⟨s2, u, rfl⟩
      obtain ⟨z, _, rfl⟩ := iv_get hx
      exact ⟨_, rfl, _, rfl, fun H3 s3 => ⟨_, rfl, iteF ⟨s2.trans s3, _, rfl⟩⟩⟩
    · rintro σ H2 ⟨s2, _⟩
      exact k H2 s2
end
end Bd

set_option linter.all false
set_option maxRecDepth 100000
set_option maxHeartbeats 4000000
namespace Bd
open PySem L2 Lin
open PySem.Builtin.Int (intBits)
seal L2.PSs L2.PS L2.PE L2.PT L2.PW L2.PA L2.PI L2.PG L2.PGs
theorem star_c {c : Const} {k p} {es : List Expr} {env : Env} : starEach (.Constant c k p :: es) env = (false, eval (.Constant c k p) env) :: starEach es env := by simp only [starEach]
theorem star_b {a b : Expr} {op p} {es : List Expr} {env : Env} : starEach (.BinOp a op b p :: es) env = (false, eval (.BinOp a op b p) env) :: starEach es env := by simp only [starEach]
theorem pa_i {X : Cx} {i : Int} {j p} {es : List Expr} {t : TA} (h : PA X es t) : PA X (.Constant (.int i) j p :: es) (tCons (tC (.int i)) t) := pa_cons pe_int h star_c
section
variable {P : Program} {w : World} {K : PySem.W.Frag} {mg : Str → Option Value} {base : Heap}
/-! ### _law_number_of -/
def spNumOf : Sp := fun vs H Q _ => ∃ z : Int, vs = [.int z] ∧ ∀ d H', 0 ≤ d → intBits d ≤ 100 → Same H H' → Q (.int d) H'
theorem scNumOf : FnScope ["_law_cell"] ["_law_cell"] (defScope sNumOf) := ⟨rfl, rfl, rfl, by decide +kernel, rfl, by decide +kernel, by decide +kernel⟩
abbrev numL (z : Int) : List Int := [0, 1, 0, 2, 3, 0, 6, 1, 4, 5, 0, 1000000000000, z % 1000000000000000000000000000000]
theorem numL_ok (z d : Int) (h : d ∈ numL z) : 0 ≤ d ∧ intBits d ≤ 100 := by
  have e : (2 : Nat) ^ 100 = 1267650600228229401496703205376 := by decide
  rw [intBits_le_iff, e]
  simp only [numL, List.mem_cons, List.not_mem_nil, or_false] at h
  omega
theorem ok_numOf {f : Addr} {fd : FuncData} (F : Fun K "_law_number_of" "_law_number_of" sNumOf f fd) : FnOk P w K mg base CX0 1 f fd ["_law_cell"] spNumOf := by
  refine F.ok scNumOf (fun vs H Q E h => ?_) (fun cdv A outer s H vs Q E hr h => ?_)
  · obtain ⟨z, rfl, _⟩ := h
    rfl
  · obtain ⟨z, rfl, k⟩ := h
    refine ⟨_, pss_one (ps_ret (pe_ix ix_list (pe_lst (pa_i (pa_i (pa_i (pa_i (pa_i (pa_i (pa_i (pa_i (pa_i (pa_i (pa_i (pa_i (pa_cons (pe_op op_mod (pv 0) (pe_op op_pow pe_int pe_int)) pa_nil star_b))))))))))))))
      (pe_op op_mod (pv 0) pe_int) (fun _ _ => rfl))), ?_⟩
    have e30 : (10 : Int) ^ ((30 : Int).toNat) = 1000000000000000000000000000000 := by decide
    refine ⟨_, rfl, _, _, rfl, rfl, ⟨by decide, by decide, by decide⟩, _, _, rfl, rfl, by rw [e30]; exact (by decide : (0 : Int) < 1000000000000000000000000000000), small (show 13 ≤ 1000 by decide), fun l hl => ?_⟩
    rw [e30]
    obtain ⟨d, h1, h2⟩ := at_mod (xs := numL z) (by simp) z
    obtain ⟨h3, h4⟩ := numL_ok z d h2
    exact ⟨_, rfl, _, _, rfl, rfl, (by decide : (0 : Int) < 13), l, _, _, _, rfl, rfl, SqL.of upd_same, h1, k d _ h3 h4 (Same.new hl)⟩
/-! ### _law_cleared -/
def spCleared : Sp := fun vs H Q _ => ∃ (o r : Addr) (os rs : List Int) (n s b : Nat), vs = [.ref o, .ref r, .int (s : Nat)] ∧ IntsAt H o os ∧ IntsAt H r rs ∧ os.length = n ∧ rs.length = n ∧ s < n ∧ n ≤ 1000 ∧ Bits b os ∧ Bits b rs ∧ b ≤ 60000000 ∧ ∀ l H', H l = none → Same H H' → IntsAt H' l (clear n os rs s) → Q (.ref l) H'
theorem scCleared : FnScope ["_law_other", "_law_row", "_law_spot", "_law_found", "_law_j"] ["_law_other", "_law_row", "_law_spot"] (defScope sCleared) := ⟨rfl, rfl, rfl, by decide +kernel, rfl, by decide +kernel, by decide +kernel⟩
theorem ok_cleared {f : Addr} {fd : FuncData} (F : Fun K "_law_cleared" "_law_cleared" sCleared f fd) (B : Bn mg) : FnOk P w K mg base CX0 1 f fd ["_law_other", "_law_row", "_law_spot"] spCleared := by
  refine F.ok scCleared (fun vs H Q E h => ?_) (fun cdv A outer s0 H vs Q E hr h => ?_)
  · obtain ⟨o, r, os, rs, n, s, b, rfl, _⟩ := h
    rfl
  · obtain ⟨o, r, os, rs, n, s, b, rfl, ho, hr', hol, hrl, hs, hn, bo, br, hb, k⟩ := h
    refine ⟨_, pss_cons (ps_set (i := 3) scCleared.nd rfl (Or.inl rfl) (pe_lst pa_nil))
      (pss_cons (ps_for PassesOwn.never rfl (pi_range1 (by rfl) B.range (pa_cons (pe_callB call_len_seq (by rfl) B.len PySem.boot_len (pa_cons (pv 1) pa_nil)) pa_nil)) (pg_name (i := 4) scCleared.nd rfl (Or.inl rfl))
        (pss_one (ps_expr (pe_bm PySem.F.plainAttrs_list PySem.F.slot_list_append PySem.F.type_list_append mt_append (pv 3) (pa_cons
          (pe_op op_sub (pe_op op_mulW (pe_ix ix_list (pv 0) (pv 4) (fun _ _ => rfl)) (pe_ix ix_list (pv 1) (pv 2) (fun _ _ => rfl))) (pe_op op_mulW (pe_ix ix_list (pv 1) (pv 4) (fun _ _ => rfl)) (pe_ix ix_list (pv 0) (pv 2) (fun _ _ => rfl)))) pa_nil)))))
      (pss_one (ps_ret (pv 3)))), ?_⟩
    refine ⟨Nat.zero_le _, fun l hl => ?_⟩
    have s1 : Same H (upd H l (.lst [])) := Same.new hl
    refine ⟨_, rfl, r, _, rfl, .inl (SqL.of (hr'.same s1)), _, rfl, ?_⟩
    have hnl : (((iv rs).length : Nat) : Int).toNat = n := by rw [Int.toNat_natCast, List.length_map]; exact hrl
    refine ⟨by rw [List.length_map]; omega, by rw [List.length_map]; omega, ?_⟩
    rw [hnl]
    refine for_range (lo := 0) (n := n) (fun i σ H2 => ∃ v, σ = [some (.ref o), some (.ref r), some (.int (s : Nat)), some (.ref l), v] ∧ Same H H2 ∧ IntsAt H2 l ((clear n os rs s).take i)) ⟨none, rfl, s1, upd_same⟩ ?_ ?_
    · rintro i σ H2 hi ⟨v, rfl, s2, h2⟩
      show tDrop _ _ [some (.ref o), some (.ref r), some (.int (s : Nat)), some (.ref l), some (.int (0 + i))] H2
      rw [Int.zero_add]
      have a1 := iv_at (co_get (xs := os) (j := i) (by omega))
      have a2 := iv_at (co_get (xs := rs) (j := s) (by omega))
      have a3 := iv_at (co_get (xs := rs) (j := i) (by omega))
      have a4 := iv_at (co_get (xs := os) (j := s) (by omega))
      have m1 : IntMulOk (co os i) (co rs s) := IntMulOk.of_le (bo.co i) (br.co s) (by omega)
      have m2 : IntMulOk (co rs i) (co os s) := IntMulOk.of_le (br.co i) (bo.co s) (by omega)
      refine ⟨_, rfl, .inl ⟨rfl, _, SqL.of h2⟩, _, rfl, _, rfl, o, _, _, _, rfl, rfl, SqL.of (ho.same s2), a1, _, rfl, _, rfl, r, _, _, _, rfl, rfl, SqL.of (hr'.same s2), a2, _, _, rfl, rfl, m1,
        _, rfl, _, rfl, r, _, _, _, rfl, rfl, SqL.of (hr'.same s2), a3, _, rfl, _, rfl, o, _, _, _, rfl, rfl, SqL.of (ho.same s2), a4, _, _, rfl, rfl, m2, _, _, rfl, rfl, l, _, _, rfl, rfl, h2, ?_, ?_⟩
      · rw [List.length_map, List.length_take]
        exact Nat.lt_of_le_of_lt (Nat.min_le_left _ _) (small1000 (by omega))
      · refine ⟨_, rfl, s2.put hl, ?_⟩
        unfold IntsAt
        rw [upd_same, ← take_snoc (clear_get os rs s hi), iv_snoc]
    · rintro σ H2 ⟨v, rfl, s2, h2⟩
      rw [List.take_of_length_le (by rw [clear_length]; exact Nat.le_refl n)] at h2
      exact ⟨_, rfl, k l H2 hl s2 h2⟩
end
end Bd

set_option linter.all false
set_option maxRecDepth 100000
set_option maxHeartbeats 4000000
namespace Bd
open PySem L2 Lin
open PySem.Builtin.Int (intBits)
seal L2.PSs L2.PS L2.PE L2.PT L2.PW L2.PA L2.PI L2.PG L2.PGs
/-- the greatest common divisor of all -/
def gcdL (xs : List Int) : Nat := xs.foldl (fun g x => Nat.gcd g x.natAbs) 0
theorem gcdL_snoc (xs : List Int) (x : Int) : gcdL (xs ++ [x]) = Nat.gcd (gcdL xs) x.natAbs := by unfold gcdL; rw [List.foldl_append]; rfl
section
variable {P : Program} {w : World} {K : PySem.W.Frag} {mg : Str → Option Value} {base : Heap}
/-! ### _law_common_of -/
def spCommon : Sp := fun vs H Q _ => ∃ (a : Addr) (xs : List Int), vs = [.ref a] ∧ IntsAt H a xs ∧ ∀ H', Same H H' → Q (.int (gcdL xs : Nat)) H'
theorem scCommon : FnScope ["_law_row", "_law_found", "_law_number", "_law_one", "_law_two", "_law_rest"] ["_law_row"] (defScope sCommon) := ⟨rfl, rfl, rfl, by decide +kernel, rfl, by decide +kernel, by decide +kernel⟩
theorem ok_common {f : Addr} {fd : FuncData} (F : Fun K "_law_common_of" "_law_common_of" sCommon f fd) (B : Bn mg) : FnOk P w K mg base CX0 1 f fd ["_law_row"] spCommon := by
  refine F.ok scCommon (fun vs H Q E h => ?_) (fun cdv A outer s0 H vs Q E hr h => ?_)
  · obtain ⟨a, xs, rfl, _⟩ := h
    rfl
  · obtain ⟨a, xs, rfl, ha, k⟩ := h
    refine ⟨_, pss_cons (ps_set (i := 1) scCommon.nd rfl (Or.inl rfl) pe_int)
      (pss_cons (ps_for PassesOwn.never rfl (pi_list (pv 0)) (pg_name (i := 2) scCommon.nd rfl (Or.inl rfl))
        (pss_cons (ps_set (i := 3) scCommon.nd rfl (Or.inl rfl) (pv 1))
        (pss_cons (ps_set (i := 4) scCommon.nd rfl (Or.inl rfl) (pe_callB call_abs (by rfl) B.abs PyProof.Rows.boot_abs (pa_cons (pv 2) pa_nil)))
        (pss_cons (ps_while PassesOwn.never (pt_cmpR op_ne (pv 4) pe_int (nomark _))
          (pss_cons (ps_set (i := 5) scCommon.nd rfl (Or.inl rfl) (pe_op op_mod (pv 3) (pv 4)))
          (pss_cons (ps_set (i := 3) scCommon.nd rfl (Or.inl rfl) (pv 4))
          (pss_one (ps_set (i := 4) scCommon.nd rfl (Or.inl rfl) (pv 5))))))
        (pss_one (ps_set (i := 1) scCommon.nd rfl (Or.inl rfl) (pv 3)))))))
      (pss_one (ps_ret (pv 1)))), ?_⟩
    refine seqC ?_
    refine ⟨_, rfl, a, rfl, ⟨_, SqL.of ha⟩, for_list (K := K) (a := a) (xs := iv xs) (fun i σ H2 => H2 = H ∧ ∃ u2 u3 u4 u5, σ = [some (.ref a), some (.int (gcdL (xs.take i) : Nat)), u2, u3, u4, u5]) ⟨rfl, none, none, none, none, rfl⟩ (fun i σ H2 _ ⟨s2, _⟩ => by rw [s2]; exact SqL.of ha) ?_ ?_⟩
    · rintro i x σ H2 hx ⟨rfl, u2, u3, u4, u5, rfl⟩
      obtain ⟨z, hz, rfl⟩ := iv_get hx
      have eg : gcdL (xs.take (i + 1)) = Nat.gcd (gcdL (xs.take i)) z.natAbs := by rw [← take_snoc hz, gcdL_snoc]
      refine ⟨_, rfl, _, rfl, _, rfl, ?_⟩
      have ea : (if z < 0 then -z else z) = ((z.natAbs : Nat) : Int) := by split <;> omega
      rw [ea]
      refine ⟨fun m σ H3 => H3 = H2 ∧ ∃ (one : Nat) (u5 : Option V), σ = [some (.ref a), some (.int (gcdL (xs.take i) : Nat)), some (.int z), some (.int one), some (.int m), u5] ∧ Nat.gcd one m = gcdL (xs.take (i + 1)), ⟨_, rfl, _, _, rfl, eg.symm⟩, ?_⟩
      rintro m σ H3 ⟨rfl, one, u5', rfl, hg⟩
      refine ⟨_, rfl, rfl, _, rfl, ?_⟩
      by_cases hm : m = 0
      · subst hm
        refine iteNS rfl ?_
        rw [Nat.gcd_zero_right] at hg
        subst hg
        exact ⟨_, rfl, rfl, _, _, _, _, rfl⟩
      · refine ite2 (fun _ => ?_) (fun hc => absurd (show (!decide (V.int (m : Int) = V.int 0)) = true by simp; omega) hc)
        refine ⟨fun σ' H' => H' = H3 ∧ ∃ (one' m' : Nat) (u5 : Option V), m' < m ∧ σ' = [some (.ref a), some (.int (gcdL (xs.take i) : Nat)), some (.int z), some (.int one'), some (.int m'), u5] ∧ Nat.gcd one' m' = gcdL (xs.take (i + 1)), fun σ' H' ⟨e, one', m', u, h1, h2, h3⟩ => ⟨m', h1, e, one', u, h2, h3⟩, ?_⟩
        refine ⟨_, rfl, _, rfl, _, _, rfl, rfl, by omega, ?_⟩
        refine ⟨_, rfl, _, rfl, rfl, m, one % m, some (.int ((one : Int) % m)), Nat.mod_lt _ (by omega), ?_, ?_⟩
        · rw [Int.natCast_emod]; rfl
        · rw [← hg, Nat.gcd_comm one m, Nat.gcd_rec m one, Nat.gcd_comm]
    · rintro σ H2 ⟨rfl, u2, u3, u4, u5, rfl⟩
      rw [List.take_of_length_le (by rw [List.length_map]; exact Nat.le_refl _)]
      exact ⟨_, rfl, k _ (Same.refl _)⟩
end
end Bd

set_option linter.all false
set_option maxRecDepth 100000
set_option maxHeartbeats 8000000
namespace Bd
open PySem L2 Lin
open PySem.Builtin.Int (intBits)
seal L2.PSs L2.PS L2.PE L2.PT L2.PW L2.PA L2.PI L2.PG L2.PGs
/-! ### lists of rows -/
structure RowsL (H : Hp) (p : Addr) (vs : List V) (rows : List (List Int)) : Prop where
  li : H p = some (.lst vs)
  len : vs.length = rows.length
  at' : ∀ (i : Nat) r, rows[i]? = some r → ∃ a, vs[i]? = some (.ref a) ∧ IntsAt H a r
/-- .. the list itself apart from them -/
structure RowsAt (H : Hp) (p : Addr) (vs : List V) (rows : List (List Int)) : Prop where
  li : H p = some (.lst vs)
  len : vs.length = rows.length
  at' : ∀ (i : Nat) r, rows[i]? = some r → ∃ a, vs[i]? = some (.ref a) ∧ IntsAt (hid p H) a r
theorem RowsL.same {H H' : Hp} {p : Addr} {vs : List V} {rows : List (List Int)} (h : RowsL H p vs rows) (s : Same H H') : RowsL H' p vs rows :=
  ⟨s _ _ h.li, h.len, fun i r e => let ⟨a, e1, e2⟩ := h.at' i r e; ⟨a, e1, e2.same s⟩⟩
theorem RowsAt.same {H H' : Hp} {p : Addr} {vs : List V} {rows : List (List Int)} (h : RowsAt H p vs rows) (s : Same H H') : RowsAt H' p vs rows :=
  ⟨s _ _ h.li, h.len, fun i r e => let ⟨a, e1, e2⟩ := h.at' i r e; ⟨a, e1, e2.same (hid_same s)⟩⟩
theorem RowsAt.plain {H : Hp} {p : Addr} {vs : List V} {rows : List (List Int)} (h : RowsAt H p vs rows) : RowsL H p vs rows :=
  ⟨h.li, h.len, fun i r e => let ⟨a, e1, e2⟩ := h.at' i r e; ⟨a, e1, e2.same hid_sub⟩⟩
theorem RowsAt.put {H : Hp} {p : Addr} {vs' : List V} {rows' : List (List Int)} (hl : vs'.length = rows'.length) (ha : ∀ (i : Nat) r, rows'[i]? = some r → ∃ a, vs'[i]? = some (.ref a) ∧ IntsAt (hid p H) a r) : RowsAt (upd H p (.lst vs')) p vs' rows' :=
  ⟨upd_same, hl, fun i r e => by rw [hid_upd]; exact ha i r e⟩
theorem RowsAt.cut {H : Hp} {p : Addr} {vs : List V} {l : List (List Int)} {row : List Int} (h : RowsAt H p vs (l ++ [row])) : ∃ vs0 a, vs = vs0 ++ [.ref a] ∧ IntsAt (hid p H) a row ∧ vs0.length = l.length ∧ ∀ (i : Nat) r, l[i]? = some r → ∃ b, vs0[i]? = some (.ref b) ∧ IntsAt (hid p H) b r := by
  have hl : vs.length = l.length + 1 := by rw [h.len]; simp
  rcases List.eq_nil_or_concat vs with rfl | ⟨vs0, x, rfl⟩
  · simp at hl
  · rw [List.concat_eq_append] at *
    have h0 : vs0.length = l.length := by simp at hl; exact hl
    obtain ⟨a, e1, e2⟩ := h.at' l.length row (by simp)
    rw [← h0] at e1
    have e3 : x = .ref a := by simpa using e1
    subst e3
    refine ⟨vs0, a, rfl, e2, h0, fun i r e => ?_⟩
    have hi : i < l.length := (List.getElem?_eq_some_iff.mp e).1
    obtain ⟨b, e3, e4⟩ := h.at' i r (by rw [List.getElem?_append_left hi]; exact e)
    rw [List.getElem?_append_left (by omega)] at e3
    exact ⟨b, e3, e4⟩
theorem cut_first (xs : List V) : cutV xs none (some 1) = xs.take 1 := by
  unfold cutV
  have e1 : HT.sIx xs.length 0 none = 0 := rfl
  have e2 : HT.sIx xs.length xs.length (some 1) = min 1 xs.length := HT.sIx_nat xs.length xs.length 1
  rw [e1, e2, List.drop_zero, Nat.sub_zero, Nat.min_comm, ← List.take_take]
  exact List.take_of_length_le (by rw [List.length_take]; exact Nat.min_le_right _ _)
theorem spots_succ (i : Nat) (row : List Int) : spots (i + 1) row = spots i row ++ (if co row i ≠ 0 then [i] else []) := by
  unfold spots
  rw [List.range_succ, List.filter_append]
  congr 1
  by_cases h : co row i ≠ 0
  · rw [if_pos h, List.filter_cons_of_pos (by simpa using h)]; rfl
  · rw [if_neg h, List.filter_cons_of_neg (by simpa using h)]; rfl
abbrev ivN (xs : List Nat) : List V := iv (xs.map fun (j : Nat) => (j : Int))
theorem rk_none {n : Nat} {l : List (List Int)} {row : List Int} (h : spots n row = []) : rk n (l ++ [row]).length (l ++ [row]) = rk n l.length l := by
  rw [List.length_append, List.length_singleton, rk, List.getLast?_concat]
  simp only [List.dropLast_concat, h, List.head?_nil]
theorem rk_some {n s : Nat} {l : List (List Int)} {row : List Int} {t : List Nat} (h : spots n row = s :: t) : rk n (l ++ [row]).length (l ++ [row]) = rk n (l.map fun o => clear n o row s).length (l.map fun o => clear n o row s) + 1 := by
  rw [List.length_append, List.length_singleton, rk, List.getLast?_concat, List.length_map]
  simp only [List.dropLast_concat, h, List.head?_cons]
/-- the first i cleared -/
def mix (f : List Int → List Int) (l : List (List Int)) (i : Nat) : List (List Int) := (l.take i).map f ++ l.drop i
theorem mix_zero (f : List Int → List Int) (l : List (List Int)) : mix f l 0 = l := by unfold mix; simp
theorem mix_all (f : List Int → List Int) (l : List (List Int)) : mix f l l.length = l.map f := by unfold mix; simp
theorem mix_length (f : List Int → List Int) (l : List (List Int)) (i : Nat) : (mix f l i).length = l.length := by unfold mix; simp; omega
theorem mix_at {f : List Int → List Int} {l : List (List Int)} {i : Nat} (h : i < l.length) : (mix f l i)[i]? = l[i]? := by
  unfold mix
  rw [List.getElem?_append_right (by simp; omega)]
  simp
  congr 1
  omega
theorem mix_set {f : List Int → List Int} {l : List (List Int)} {i : Nat} {r : List Int} (h : l[i]? = some r) : (mix f l i).set i (f r) = mix f l (i + 1) := by
  obtain ⟨hi, e⟩ := List.getElem?_eq_some_iff.mp h
  unfold mix
  rw [List.set_append_right _ _ (by simp; omega), List.take_succ_eq_append_getElem hi, List.map_append, List.append_assoc, List.drop_eq_getElem_cons hi]
  have : i - ((l.take i).map f).length = 0 := by simp; omega
  rw [this, e]
  rfl
theorem RowsAt.setR {H : Hp} {p b : Addr} {vs : List V} {rows : List (List Int)} {i : Nat} {r : List Int} (h : RowsAt H p vs rows) (hi : i < rows.length) (hb : IntsAt (hid p H) b r) : RowsAt (upd H p (.lst (vs.set i (.ref b)))) p (vs.set i (.ref b)) (rows.set i r) := by
  have hl := h.len
  refine .put (by simp [hl]) fun j q e => ?_
  by_cases hj : j = i
  · subst hj
    rw [List.getElem?_set_self hi] at e
    cases e
    exact ⟨b, List.getElem?_set_self (by omega), hb⟩
  · rw [List.getElem?_set_ne (Ne.symm hj)] at e
    obtain ⟨a, e1, e2⟩ := h.at' j q e
    exact ⟨a, by rw [List.getElem?_set_ne (Ne.symm hj)]; exact e1, e2⟩
section
variable {P : Program} {w : World} {K : PySem.W.Frag} {mg : Str → Option Value} {base : Heap}
/-! ### _law_rank_of -/
def spRank : Sp := fun vs H Q _ => ∃ (p : Addr) (us : List V) (rows : List (List Int)) (n b : Nat), vs = [.ref p] ∧ RowsL H p us rows ∧ (∀ r ∈ rows, r.length = n ∧ Bits b r) ∧ n ≤ 1000 ∧ rows.length ≤ 1000 ∧ 2 ^ rows.length * (b + 1) ≤ 60000000 ∧ ∀ H', Same H H' → Q (.int (rk n rows.length rows : Nat)) H'
abbrev nRank : List Str := ["_law_rows", "_law_row", "_law_left", "_law_rank", "_law_k", "_law_first", "_law_spot", "_law_other"]
theorem scRank : FnScope nRank ["_law_rows"] (defScope sRankOf) := ⟨rfl, rfl, rfl, by decide +kernel, rfl, by decide +kernel, by decide +kernel⟩
def WR (H : Hp) (p acc : Addr) (n tot m0 : Nat) (k : Nat) (σ : St) (H2 : Hp) : Prop := ∃ (l : List (List Int)) (vs : List V) (rank bb : Nat) (u1 u4 u5 u6 u7 : Option V), k = l.length ∧ σ = [some (.ref p), u1, some (.ref acc), some (.int rank), u4, u5, u6, u7] ∧ Same H H2 ∧ RowsAt H2 acc vs l ∧ (∀ r ∈ l, r.length = n ∧ Bits bb r) ∧ rank + rk n l.length l = tot ∧ l.length ≤ m0 ∧ 2 ^ l.length * (bb + 1) ≤ 60000000
theorem ok_rank {f g : Addr} {fd gd : FuncData} (F : Fun K "_law_rank_of" "_law_rank_of" sRankOf f fd) (B : Bn mg) (D : Df K mg "_law_cleared" sCleared ["_law_other", "_law_row", "_law_spot"] g gd) : FnOk P w K mg base CX0 2 f fd ["_law_rows"] spRank := by
  have G : FnOk P w K mg base CX0 1 g gd ["_law_other", "_law_row", "_law_spot"] spCleared := ok_cleared D.fn B
  refine F.ok scRank (fun vs H Q E h => ?_) (fun cdv A outer s0 H vs Q E hr h => ?_)
  · obtain ⟨p, us, rows, n, b, rfl, _⟩ := h
    rfl
  · obtain ⟨p, us, rows, n, b, rfl, hm, hall, hn, hml, hbb, hend⟩ := h
    refine ⟨_, pss_cons (ps_comp (i := 2) (g := gName 0) (te := tCB (rListOf K) (tCons (tVar 0) tNil)) (fsc := defScope sRankOf) (N := nRank) (N' := ["_law_row"]) (own := 1) (fr := []) ⟨rfl, by decide +kernel, by decide +kernel, by decide +kernel, rfl, by decide +kernel⟩ rfl
        (pi_list (pv 0)) (fun cl C s₀ H₀ ex => pg_name (i := 0) (by show (["_law_row"] : List Str).Nodup; decide +kernel) rfl (Or.inl rfl))
        (fun cl C s₀ H₀ ex => pe_callTy (call_listK (K := K) rfl) (by rfl) B.list PyProof.Rows.boot_list (pa_cons (pv 0) pa_nil)) scRank.nd rfl rfl)
      (pss_cons (ps_set (i := 3) scRank.nd rfl (Or.inl rfl) pe_int)
      (pss_cons (ps_while PassesOwn.never (pt_cmpR (op_neL hr.units0) (pv 2) (pe_lst pa_nil) (nomark _))
        (pss_cons (ps_set (i := 1) scRank.nd rfl (Or.inr rfl) (pe_bm0 PySem.F.plainAttrs_list PySem.F.slot_list_pop PySem.F.type_list_pop mt_pop (pv 2)))
        (pss_cons (ps_set (i := 5) scRank.nd rfl (Or.inl rfl) (pe_slice sl_list (pe_compI (g := gName 0) (tc := tTest (tOp rNe (tOp (rIxL K) (tVar 1) (tVar 0)) (tC (.int 0)))) (te := tVar 0) (fsc := defScope sRankOf) (N := nRank) (N' := ["_law_k", "_law_row"]) (own := 1) (fr := [1]) ⟨rfl, by decide +kernel, by decide +kernel, by decide +kernel, rfl, by decide +kernel⟩ rfl
            (pi_range1 (by rfl) B.range (pa_cons (pe_callB call_len_seq (by rfl) B.len PySem.boot_len (pa_cons (pv 1) pa_nil)) pa_nil))
            (fun cl C s₀ H₀ ex => pg_name (i := 0) (by show (["_law_k", "_law_row"] : List Str).Nodup; decide +kernel) rfl (Or.inl rfl))
            (fun cl C s₀ H₀ ex => pt_cmpR op_ne (pe_ix ix_list (pv 1) (pv 0) (fun _ _ => rfl)) pe_int (nomark _))
            (fun cl C s₀ H₀ ex => pv 0)) po_none (po_some pe_int)))
        (pss_one (ps_if (pt_cmpR (op_neL hr.units0) (pv 5) (pe_lst pa_nil) (nomark _))
          (pss_cons (ps_set (i := 3) scRank.nd rfl (Or.inl rfl) (pe_op op_add (pv 3) pe_int))
          (pss_cons (ps_set (i := 6) scRank.nd rfl (Or.inl rfl) (pe_ix ix_list (pv 5) pe_int (fun _ _ => rfl)))
          (pss_one (ps_for PassesOwn.never rfl (pi_range1 (by rfl) B.range (pa_cons (pe_callB call_len_seq (by rfl) B.len PySem.boot_len (pa_cons (pv 2) pa_nil)) pa_nil)) (pg_name (i := 4) scRank.nd rfl (Or.inl rfl))
            (pss_cons (ps_set (i := 7) scRank.nd rfl (Or.inl rfl) (pe_ix ix_list (pv 2) (pv 4) (fun _ _ => rfl)))
            (pss_one (ps_asg (pe_call G hr (by rfl) D.gl D.fn.kp D.bd .nil pass0 (pa_cons (pv 7) (pa_cons (pv 1) (pa_cons (pv 6) pa_nil)))) (pg_sub (pv 2) (pv 4) set_list))))))))
          pss_nil)))))
      (pss_one (ps_ret (pv 3))))), ?_⟩
    refine ⟨_, rfl, p, rfl, ⟨us, SqL.of hm.li⟩, fun acc hacc => comp_by rows.length (small (by omega)) (fun i ys σ H2 => (∃ v, σ = [v]) ∧ Same H H2 ∧ H2 acc = some (.lst ys) ∧ ys.length = i ∧ ∀ (j : Nat) r, j < i → rows[j]? = some r → ∃ a, ys[j]? = some (.ref a) ∧ IntsAt (hid acc H2) a r)
      ⟨⟨none, rfl⟩, Same.new hacc, upd_same, rfl, fun j m hj => absurd hj (Nat.not_lt_zero _)⟩ (fun i ys σ H2 ⟨_, _, _, e, _⟩ => e) (fun i ys σ H2 hi ⟨_, s2, _⟩ => ?_) (fun ys σ H2 ⟨_, s2, _⟩ => ?_) (fun i ys σ H2 x H3 hi ⟨⟨v, es⟩, s2, ha, hyl, hal⟩ y => ?_) (fun ys σ H2 ⟨_, s2, ha, hyl, hal⟩ => ?_)⟩
    · exact ⟨us, us[i]'(by rw [hm.len]; exact hi), SqL.of (s2 _ _ hm.li), by simp [hm.len, hi]⟩
    · exact ⟨us, SqL.of (s2 _ _ hm.li), by rw [hm.len]; exact Nat.le_refl _⟩
    · obtain ⟨e3, hx⟩ := y
      subst e3 es
      have hx' := hx us (SqL.of (s2 _ _ hm.li))
      have er : rows[i]? = some rows[i] := by simp [hi]
      obtain ⟨a, e1, e2⟩ := hm.at' i _ er
      rw [e1] at hx'
      cases hx'
      refine ⟨_, rfl, a, _, rfl, .inl (SqL.of (e2.same s2)), fun l1 hl1 => ?_⟩
      have n1 : l1 ≠ acc := Ne.symm (ne_of_none ha hl1)
      refine ⟨(Same.new hl1) _ _ ha, ⟨_, rfl⟩, (s2.trans (Same.new hl1)).put hacc, upd_same, by rw [List.length_append, hyl]; rfl, fun j r' hj ej => ?_⟩
      rw [hid_upd]
      by_cases hji : j = i
      · subst hji
        rw [er] at ej
        cases ej
        exact ⟨l1, by rw [← hyl]; simp, hid_of upd_same n1⟩
      · obtain ⟨a', e4, e5⟩ := hal j r' (by omega) ej
        exact ⟨a', by rw [List.getElem?_append_left (by omega)]; exact e4, e5.same (hid_same (Same.new hl1))⟩
    · refine gN ?_
      dsimp only
      refine seqC ?_
      have hR : RowsAt H2 acc ys rows := ⟨ha, hyl, fun i r e => hal i r (List.getElem?_eq_some_iff.mp e).1 e⟩
      refine ⟨WR H p acc n (rk n rows.length rows) rows.length, ⟨rows.length, rows, ys, 0, b, _, _, _, _, _, rfl, rfl, s2, hR, hall, by omega, Nat.le_refl _, hbb⟩, ?_⟩
      clear hR hal hyl ha s2 hbb hall
      rintro k σ H2 ⟨l, vs, rank, bb, u1, u4, u5, u6, u7, rfl, rfl, s2, hR, hall, htot, hlm, hbb⟩
      refine ⟨_, rfl, Nat.zero_le _, fun e he => ⟨acc, e, _, _, rfl, rfl, SqL.of ((Same.new he) _ _ hR.li), SqL.of upd_same, ?_⟩⟩
      have s3 : Same H (upd H2 e (.lst [])) := s2.trans (Same.new he)
      have hR3 := hR.same (Same.new (o := .lst []) he)
      generalize upd H2 e (.lst []) = H3 at *
      rcases List.eq_nil_or_concat l with rfl | ⟨l0, row, rfl⟩
      · obtain rfl : vs = [] := List.eq_nil_of_length_eq_zero hR.len
        refine .inr ⟨[], [], rfl, rfl, _, rfl, iteF ⟨_, rfl, ?_⟩⟩
        have e0 : rank = rk n rows.length rows := by rw [← htot]; rfl
        rw [e0]
        exact hend _ s3
      · rw [List.concat_eq_append] at *
        obtain ⟨vs0, a, rfl, harow, hv0, hat0⟩ := hR3.cut
        refine .inl ⟨by simp, _, rfl, iteT ⟨fun σ' H' => ∃ m', m' < (l0 ++ [row]).length ∧ WR H p acc n (rk n rows.length rows) rows.length m' σ' H', fun _ _ h => h, ?_⟩⟩
        have hrowL := hall row (by simp)
        have hall0 : ∀ r ∈ l0, r.length = n ∧ Bits bb r := fun r hr => hall r (List.mem_append_left _ hr)
        have hl1 : (l0 ++ [row]).length = l0.length + 1 := by simp
        refine ⟨_, rfl, .inl ⟨rfl, _, SqL.of hR3.li⟩, acc, _, .ref a, rfl, rfl, hR3.li, by simp, ?_⟩
        rw [List.dropLast_concat]
        have hR4 : RowsAt (upd H3 acc (.lst vs0)) acc vs0 l0 := .put hv0 hat0
        have harow4 : IntsAt (hid acc (upd H3 acc (.lst vs0))) a row := by rw [hid_upd]; exact harow
        have s4 : Same H (upd H3 acc (.lst vs0)) := s3.put hacc
        refine gN ?_
        dsimp only
        generalize upd H3 acc (.lst vs0) = H4 at *
        clear hR3 hR s2 s3 harow hat0
        have hrow4 : IntsAt H4 a row := harow4.same hid_sub
        have hnl : (((iv row).length : Nat) : Int).toNat = n := by rw [Int.toNat_natCast, List.length_map]; exact hrowL.1
        refine ⟨_, rfl, a, _, rfl, .inl (SqL.of hrow4), _, rfl, by rw [List.length_map]; omega, by rw [List.length_map]; omega, fun fa hfa => ?_⟩
        rw [hnl]
        refine compi_by n (small hn) (fun i ys σ H5 => (∃ v, σ = [v, some (.ref a)]) ∧ H5 = upd H4 fa (.lst ys) ∧ ys = ivN (spots i row)) ⟨⟨none, rfl⟩, rfl, rfl⟩ (fun i ys σ H5 ⟨_, _, e⟩ => ?_) (fun i ys σ H5 hi _ => hi) (fun ys σ H5 _ => Nat.le_refl _) (fun i ys σ H5 x H6 hi ⟨⟨v, es⟩, eh, ey⟩ y => ?_) (fun ys σ H5 ⟨_, eh, ey⟩ => ?_)
        · rw [e, List.length_map, List.length_map]
          unfold spots
          exact Nat.le_trans (List.length_filter_le _ _) (by simp)
        · obtain ⟨e6, ex⟩ := y
          subst e6 ex es
          have hq : SqL K H6 a (iv row) := by rw [eh]; exact SqL.of ((Same.new hfa) _ _ hrow4)
          have hat : atI (iv row) (0 + (i : Int)) = some (.int (co row i)) := by rw [Int.zero_add]; exact iv_at (co_get (by rw [hrowL.1]; exact hi))
          refine ⟨_, rfl, _, rfl, a, _, _, _, rfl, rfl, hq, hat, rfl, _, rfl, ?_⟩
          by_cases hc : co row i = 0
          · refine iteNS (by rw [hc]) ?_
            exact ⟨⟨_, rfl⟩, eh, by rw [ey, spots_succ, if_neg (by simpa using hc), List.append_nil]⟩
          · refine ite2 (fun _ => ?_) (fun h => absurd (show (!decide (V.int (co row i) = V.int 0)) = true by simp [hc]) h)
            refine ⟨_, rfl, by rw [eh]; exact upd_same, ⟨_, rfl⟩, by rw [eh, upd_upd], ?_⟩
            rw [ey, spots_succ, if_pos hc, Int.zero_add]
            simp [ivN, iv]
        · subst eh ey
          refine ⟨_, rfl, fa, _, rfl, SqL.of upd_same, fun fp hfp => ?_⟩
          rw [cut_first]
          have s46 : Same H4 (upd (upd H4 fa (.lst (ivN (spots n row)))) fp (.lst ((ivN (spots n row)).take 1))) := (Same.new hfa).trans (Same.new hfp)
          have hfp6 : upd (upd H4 fa (.lst (ivN (spots n row)))) fp (.lst ((ivN (spots n row)).take 1)) fp = some (.lst ((ivN (spots n row)).take 1)) := upd_same
          refine gN ?_
          dsimp only
          generalize upd (upd H4 fa (.lst (ivN (spots n row)))) fp (.lst ((ivN (spots n row)).take 1)) = H6 at *
          have s6 := s4.trans s46
          have hR6 := hR4.same s46
          have harow6 := harow4.same (hid_same s46)
          clear hR4 s4 hrow4 harow4 s46
          have hp2 : 2 ^ (l0.length + 1) * (bb + 1) ≤ 60000000 := by rw [← hl1]; exact hbb
          have hp1 : 2 ^ (l0.length + 1) = 2 * 2 ^ l0.length := by rw [Nat.pow_succ, Nat.mul_comm]
          have hpos : 0 < 2 ^ l0.length := Nat.two_pow_pos _
          rw [hp1, Nat.mul_assoc] at hp2
          cases hsp : spots n row with
          | nil =>
            rw [hsp] at hfp6
            refine ⟨_, rfl, Nat.zero_le _, fun e2 he2 => ⟨fp, e2, _, _, rfl, rfl, SqL.of ((Same.new he2) _ _ hfp6), SqL.of upd_same, .inr ⟨[], [], rfl, rfl, _, rfl, iteF ?_⟩⟩⟩
            rw [rk_none hsp] at htot
            exact ⟨l0.length, by omega, l0, vs0, rank, bb, _, _, _, _, _, rfl, rfl, s6.trans (Same.new he2), hR6.same (Same.new he2), hall0, htot, by omega, by omega⟩
          | cons s t =>
            rw [hsp] at hfp6
            refine ⟨_, rfl, Nat.zero_le _, fun e2 he2 => ⟨fp, e2, _, _, rfl, rfl, SqL.of ((Same.new he2) _ _ hfp6), SqL.of upd_same, .inl ⟨by simp, _, rfl, iteT ?_⟩⟩⟩
            rw [rk_some hsp] at htot
            have hsn : s < n := by
              have : s ∈ spots n row := by rw [hsp]; simp
              exact List.mem_range.mp (List.mem_filter.mp this).1
            have s7 := s6.trans (Same.new (o := .lst []) he2)
            have hR7 := hR6.same (Same.new (o := .lst []) he2)
            have harow7 := harow6.same (hid_same (Same.new (o := .lst []) he2))
            have hfp7 := (Same.new (o := .lst []) he2) _ _ hfp6
            generalize upd H6 e2 (.lst []) = H7 at *
            refine ⟨_, rfl, _, _, rfl, rfl, ?_⟩
            refine gN ?_
            dsimp only
            refine ⟨_, rfl, fp, _, _, .int s, rfl, rfl, SqL.of hfp7, atI_nat (j := 0) rfl, ?_⟩
            refine gN ?_
            dsimp only
            have hvl : vs0.length = l0.length := hv0
            refine ⟨_, rfl, acc, _, rfl, .inl (SqL.of hR7.li), _, rfl, by omega, by omega, ?_⟩
            have hnl2 : ((vs0.length : Nat) : Int).toNat = l0.length := by rw [Int.toNat_natCast]; exact hvl
            rw [hnl2]
            refine for_range (lo := 0) (n := l0.length) (fun i σ H8 => ∃ (vs : List V) (u4 u7 : Option V), σ = [some (.ref p), some (.ref a), some (.ref acc), some (.int (rank + 1)), u4, some (.ref fp), some (.int s), u7] ∧ Same H H8 ∧ RowsAt H8 acc vs (mix (fun o => clear n o row s) l0 i) ∧ IntsAt (hid acc H8) a row)
              ⟨vs0, _, _, rfl, s7, by rw [mix_zero]; exact hR7, harow7⟩ ?_ ?_
            · rintro i σ H8 hi ⟨vs, v4, v7, rfl, s8, hR8, hrow8⟩
              show tSeq _ _ _ [some (.ref p), some (.ref a), some (.ref acc), some (.int (rank + 1)), some (.int (0 + i)), some (.ref fp), some (.int s), v7] H8
              rw [Int.zero_add]
              have er : l0[i]? = some l0[i] := by simp [hi]
              obtain ⟨bo, e1, e3⟩ := hR8.at' i l0[i] (by rw [mix_at hi]; exact er)
              have hw := hall0 _ (List.mem_of_getElem? er)
              refine ⟨_, rfl, _, rfl, acc, _, _, _, rfl, rfl, SqL.of hR8.li, atI_nat e1, ?_⟩
              refine gN ?_
              dsimp only
              refine ⟨_, rfl, _, rfl, _, rfl, bo, a, l0[i], row, n, s, bb, rfl, e3.same hid_sub, hrow8.same hid_sub, hw.1, hrowL.1, hsn, hn, hw.2, hrowL.2, ?_, fun lc H9 hlc s9 hc9 => ?_⟩
              · have : bb + 1 ≤ 2 ^ l0.length * (bb + 1) := Nat.le_mul_of_pos_left _ hpos
                omega
              · have nc : lc ≠ acc := Ne.symm (ne_of_none hR8.li hlc)
                refine ⟨_, rfl, _, rfl, acc, _, _, i, rfl, rfl, s9 _ _ hR8.li, ixN_nat (by rw [hR8.len, mix_length]; exact hi), ?_⟩
                refine ⟨vs.set i (.ref lc), _, _, rfl, (s8.trans s9).put hacc, ?_, by rw [hid_upd]; exact hrow8.same (hid_same s9)⟩
                rw [← mix_set er]
                exact (hR8.same s9).setR (by rw [mix_length]; exact hi) (hid_of hc9 nc)
            · rintro σ H8 ⟨vs, v4, v7, rfl, s8, hR8, hrow8⟩
              rw [mix_all] at hR8
              refine ⟨l0.length, by omega, l0.map fun o => clear n o row s, vs, rank + 1, 2 * bb + 1, _, _, _, _, _, by simp, rfl, s8, hR8, fun r hr' => ?_, by omega, by rw [List.length_map]; omega, ?_⟩
              · obtain ⟨o, ho, rfl⟩ := List.mem_map.mp hr'
                exact ⟨clear_length .., bits_clear (hall0 o ho).2 hrowL.2 s⟩
              · rw [List.length_map]
                have : 2 ^ l0.length * (2 * bb + 1 + 1) = 2 * (2 ^ l0.length * (bb + 1)) := by
                  rw [show 2 * bb + 1 + 1 = 2 * (bb + 1) by omega, ← Nat.mul_assoc, Nat.mul_comm (2 ^ l0.length) 2, Nat.mul_assoc]
                omega
end
end Bd

set_option linter.all false
set_option maxRecDepth 100000
set_option maxHeartbeats 8000000
namespace Bd
open PySem L2 Lin
open PySem.Builtin.Int (intBits)
seal L2.PSs L2.PS L2.PE L2.PT L2.PW L2.PA L2.PI L2.PG L2.PGs
/-- moves in a list, the list itself apart from them -/
structure MvsH (H : Hp) (p : Addr) (us : List V) (ms : List Mv) : Prop where
  li : H p = some (.lst us)
  len : us.length = ms.length
  at' : ∀ (i : Nat) m, ms[i]? = some m → ∃ v, us[i]? = some v ∧ MvAt (hid p H) v m
theorem MvsH.same {H H' : Hp} {p : Addr} {us : List V} {ms : List Mv} (h : MvsH H p us ms) (s : Same H H') : MvsH H' p us ms :=
  ⟨s _ _ h.li, h.len, fun i m e => let ⟨v, e1, e2⟩ := h.at' i m e; ⟨v, e1, e2.same (hid_same s)⟩⟩
theorem MvsH.plain {H : Hp} {p : Addr} {us : List V} {ms : List Mv} (h : MvsH H p us ms) : MvsAt H p us ms :=
  ⟨h.li, h.len, fun i m e => let ⟨v, e1, e2⟩ := h.at' i m e; ⟨v, e1, e2.same hid_sub⟩⟩
theorem MvsH.snoc {H : Hp} {p : Addr} {us : List V} {ms : List Mv} {v : V} {m : Mv} (h : MvsH H p us ms) (hv : MvAt (hid p H) v m) : MvsH (upd H p (.lst (us ++ [v]))) p (us ++ [v]) (ms ++ [m]) := by
  have hl := h.len
  refine ⟨upd_same, by simp [hl], fun i m' e => ?_⟩
  rw [hid_upd]
  by_cases hi : i < ms.length
  · rw [List.getElem?_append_left hi] at e
    obtain ⟨v', e1, e2⟩ := h.at' i m' e
    exact ⟨v', by rw [List.getElem?_append_left (by omega)]; exact e1, e2⟩
  · have : i < (ms ++ [m]).length := (List.getElem?_eq_some_iff.mp e).1
    have hi' : i = ms.length := by simp at this; omega
    subst hi'
    have : m = m' := by simpa using e
    subst this
    exact ⟨v, by rw [← hl]; simp, hv⟩
def BitsM (b : Nat) (m : Mv) : Prop := Bits b m.1 ∧ Bits b m.2
theorem Bits.snoc {b : Nat} {xs : List Int} {d : Int} (h : Bits b xs) (hd : intBits d ≤ b) : Bits b (xs ++ [d]) := fun x hx => by
  rcases List.mem_append.mp hx with hx | hx
  · exact h x hx
  · rw [List.mem_singleton.mp hx]; exact hd
theorem Bits.nil (b : Nat) : Bits b [] := fun x hx => absurd hx (by simp)
theorem Wf.scl {n : Nat} {xs : List Int} {tm : Int} (h : Wf n xs) (ht : 0 ≤ tm) : Wf n (xs.map (tm * ·)) := by
  refine ⟨by rw [List.length_map]; exact h.1, fun x hx => ?_⟩
  obtain ⟨y, hy, rfl⟩ := List.mem_map.mp hx
  exact Int.mul_nonneg ht (h.2 y hy)
theorem Bits.scl {b : Nat} {xs : List Int} {tm : Int} (h : Bits b xs) (ht : tm = 1 ∨ tm = 2) : Bits (b + 1) (xs.map (tm * ·)) := fun x hx => by
  obtain ⟨y, hy, rfl⟩ := List.mem_map.mp hx
  have h1 : intBits tm ≤ 2 := intBits_le_iff.mpr (by rcases ht with rfl | rfl <;> decide)
  have h2 := intBits_le_iff.mp (h y hy)
  refine intBits_le_iff.mpr ?_
  rw [Nat.pow_succ]
  rcases ht with rfl | rfl <;> omega
section
variable {P : Program} {w : World} {K : PySem.W.Frag} {mg : Str → Option Value} {base : Heap}
/-! ### _law_moves_of -/
abbrev teNum (K : PySem.W.Frag) (c : Int) : TE := tCall spNumOf [] E0 (tCons (tCall (spAt (K := K)) [] E0 (tCons (tVar 2) (tCons (tOp (rI0 fun i j => .int (i + j)) (tOp (rI0 fun i j => .int (i + j)) (tC (.int c)) (tOp (rI CMul fun i j => .int (i * j)) (tC (.int 10)) (tVar 1))) (tVar 0)) tNil))) tNil)
abbrev CG (J : It) (g : TG) (te : TE) (acc : Addr) (σ0 : St) (H1 : Hp) (Q : Hp → Prop) : Prop := ∃ W : Nat → Nat → St → Hp → Prop, (∃ m, W 0 m σ0 (upd H1 acc (.lst []))) ∧ ∀ i m σ H, W i m σ H → (J.stop i H ∧ Q H) ∨
      (J.go i H ∧ ∃ N : V → St → Hp → Prop, (∀ y σ' H', N y σ' H' → ∃ ys, H' acc = some (.lst ys) ∧ ys.length < sizeLine ∧ ∃ m', m' < m ∧ W (i + 1) m' σ' (upd H' acc (.lst (ys ++ [y])))) ∧
        ∀ x H', J.yld i H x H' → g x σ H' fun σ2 H2 => te σ2 H2 fun y H3 => N y σ2 H3)
theorem comp_num {c : Int} (hc : 0 ≤ c) {a acc : Addr} {ns : List Int} {k n : Nat} {H1 : Hp} {Q : Hp → Prop} (hS : SqL K H1 a (iv ns)) (hnl : ns.length ≤ 63) (hn : n ≤ 1000) (hacc : H1 acc = none)
    (hq : ∀ st H', Same H1 H' → IntsAt H' acc st → Wf n st → Bits 100 st → Q H') : CG (Itr 0 n) (gName 0) (teNum K c) acc [none, some (.int (k : Nat)), some (.ref a)] H1 Q := by
  refine comp_by n (small hn) (fun i ys σ H4 => (∃ v, σ = [v, some (.int (k : Nat)), some (.ref a)]) ∧ Same H1 H4 ∧ H4 acc = some (.lst ys) ∧ ∃ st : List Int, ys = iv st ∧ Wf i st ∧ Bits 100 st)
    ⟨⟨none, rfl⟩, Same.new hacc, upd_same, [], rfl, ⟨rfl, fun x h => absurd h (by simp)⟩, Bits.nil _⟩ (fun i ys σ H4 ⟨_, _, _, st, e, hw, _⟩ => by rw [e, List.length_map]; exact hw.1) (fun i ys σ H4 hi _ => hi) (fun ys σ H4 _ => Nat.le_refl _)
    (fun i ys σ H4 x H5 hi ⟨⟨v, es⟩, s4, hs4, st, eS, hwS, hbS⟩ y => ?_) (fun ys σ H4 ⟨_, s4, hs4, st, eS, hwS, hbS⟩ => ?_)
  · obtain ⟨e5, ex⟩ := y
    subst e5 ex es
    refine ⟨_, rfl, _, rfl, _, _, rfl, rfl, .inl ⟨by decide, by decide⟩, _, _, rfl, rfl, _, rfl, _, _, rfl, rfl, a, ns, _, rfl, s4.seq hS, hnl, by omega, fun z H6 s6 => ⟨z, rfl, fun d H7 d0 d1 s7 => ?_⟩⟩
    have s67 := s6.trans s7
    exact ⟨s67 _ _ hs4, ⟨_, rfl⟩, (s4.trans s67).put hacc, upd_same, st ++ [d], by rw [eS, iv_snoc], hwS.snoc d0, hbS.snoc d1⟩
  · subst eS
    exact hq st H4 s4 hs4 hwS hbS
def spMovesOf : Sp := fun vs H Q _ => ∃ (a : Addr) (ns : List Int) (n : Nat), vs = [.ref a, .int (n : Nat)] ∧ SqL K H a (iv ns) ∧ ns.length ≤ 63 ∧ n ≤ 5 ∧ ∀ p us ms H', Same H H' → MvsAt H' p us ms → WfM n ms → ms.length ≤ 5 → (∀ m ∈ ms, BitsM 105 m) → Q (.ref p) H'
abbrev nMv : List Str := ["_law_script", "_law_places", "_law_moves", "_law_k", "_law_takes", "_law_gives", "_law_way", "_law_times"]
theorem scMv : FnScope nMv ["_law_script", "_law_places"] (defScope sMovesOf) := ⟨rfl, rfl, rfl, by decide +kernel, rfl, by decide +kernel, by decide +kernel⟩
abbrev teTimes : TE := tOp (rI CMul fun i j => .int (i * j)) (tVar 1) (tVar 0)
theorem ok_movesOf {f g j : Addr} {fd gd jd : FuncData} (F : Fun K "_law_moves_of" "_law_moves_of" sMovesOf f fd) (B : Bn mg) (D : Df K mg "_law_at" sAt ["_law_script", "_law_k"] g gd) (DN : Df K mg "_law_number_of" sNumOf ["_law_cell"] j jd) : FnOk P w K mg base CX0 2 f fd ["_law_script", "_law_places"] (spMovesOf (K := K)) := by
  have G : FnOk P w K mg base CX0 1 g gd ["_law_script", "_law_k"] (spAt (K := K)) := ok_at D.fn B
  have GN : FnOk P w K mg base CX0 1 j jd ["_law_cell"] spNumOf := ok_numOf DN.fn
  refine F.ok scMv (fun vs H Q E h => ?_) (fun cdv A outer s0 H vs Q E hr h => ?_)
  · obtain ⟨a, ns, n, rfl, _⟩ := h
    rfl
  · obtain ⟨a, ns, n, rfl, hS, hnl, hn, hend⟩ := h
    refine ⟨_, pss_cons (ps_set (i := 2) scMv.nd rfl (Or.inl rfl) (pe_lst pa_nil))
      (pss_cons (ps_for PassesOwn.never rfl (pi_range1 (by rfl) B.range (pa_cons (pe_op op_mod (pe_call G hr (by rfl) D.gl D.fn.kp D.bd .nil pass0 (pa_cons (pv 0) (pa_cons pe_int pa_nil))) pe_int) pa_nil)) (pg_name (i := 3) scMv.nd rfl (Or.inr rfl))
        (pss_cons (ps_comp (i := 4) (g := gName 0) (te := teNum K 4) (fsc := defScope sMovesOf) (N := nMv) (N' := ["_law_j", "_law_k", "_law_script"]) (own := 1) (fr := [3, 0]) ⟨rfl, by decide +kernel, by decide +kernel, by decide +kernel, rfl, by decide +kernel⟩ rfl
          (pi_range1 (by rfl) B.range (pa_cons (pv 1) pa_nil)) (fun cl C s₀ H₀ ex => pg_name (i := 0) (by show (["_law_j", "_law_k", "_law_script"] : List Str).Nodup; decide +kernel) rfl (Or.inl rfl))
          (fun cl C s₀ H₀ ex => pe_call GN hr (by rfl) DN.gl DN.fn.kp DN.bd .nil pass0 (pa_cons (pe_call G hr (by rfl) D.gl D.fn.kp D.bd .nil pass0 (pa_cons (pv 2) (pa_cons (pe_op op_add (pe_op op_add pe_int (pe_op op_mul pe_int (pv 1))) (pv 0)) pa_nil))) pa_nil)) scMv.nd rfl rfl)
        (pss_cons (ps_comp (i := 5) (g := gName 0) (te := teNum K 9) (fsc := defScope sMovesOf) (N := nMv) (N' := ["_law_j", "_law_k", "_law_script"]) (own := 1) (fr := [3, 0]) ⟨rfl, by decide +kernel, by decide +kernel, by decide +kernel, rfl, by decide +kernel⟩ rfl
          (pi_range1 (by rfl) B.range (pa_cons (pv 1) pa_nil)) (fun cl C s₀ H₀ ex => pg_name (i := 0) (by show (["_law_j", "_law_k", "_law_script"] : List Str).Nodup; decide +kernel) rfl (Or.inl rfl))
          (fun cl C s₀ H₀ ex => pe_call GN hr (by rfl) DN.gl DN.fn.kp DN.bd .nil pass0 (pa_cons (pe_call G hr (by rfl) D.gl D.fn.kp D.bd .nil pass0 (pa_cons (pv 2) (pa_cons (pe_op op_add (pe_op op_add pe_int (pe_op op_mul pe_int (pv 1))) (pv 0)) pa_nil))) pa_nil)) scMv.nd rfl rfl)
        (pss_cons (ps_if (pw_and (pt_cmpR op_eq (pe_op op_mod (pe_call G hr (by rfl) D.gl D.fn.kp D.bd .nil pass0 (pa_cons (pv 0) (pa_cons pe_int pa_nil))) pe_int) pe_int (nomark _)) (pw_and1 (pt_cmpR op_gt (pv 3) pe_int (nomark _)))).pt
          (pss_cons (ps_asg (pe_ix ix_list (pv 2) (pe_op op_mod (pe_call G hr (by rfl) D.gl D.fn.kp D.bd .nil pass0 (pa_cons (pv 0) (pa_cons (pe_op op_add pe_int (pv 3)) pa_nil))) (pv 3)) (fun _ _ => rfl)) (pg_tup rfl (pgs_cons (pg_name (i := 4) scMv.nd rfl (Or.inl rfl)) (pgs_cons (pg_name (i := 5) scMv.nd rfl (Or.inl rfl)) pgs_nil))))
          (pss_cons (ps_set (i := 6) scMv.nd rfl (Or.inl rfl) (pe_op op_mod (pe_call G hr (by rfl) D.gl D.fn.kp D.bd .nil pass0 (pa_cons (pv 0) (pa_cons (pe_op op_add pe_int (pv 3)) pa_nil))) pe_int))
          (pss_cons (ps_if (pt_cmpR op_eq (pv 6) pe_int (nomark _)) (pss_one (ps_par (i := 4) (j := 5) rfl scMv.nd rfl rfl (by decide) rfl rfl (pa_cons (pv 5) (pa_cons (pv 4) pa_nil)) (by rfl))) pss_nil)
          (pss_cons (ps_set (i := 7) scMv.nd rfl (Or.inr rfl) (pe_op op_add pe_int (pe_callTy call_int1 (by rfl) B.int PyProof.Rows.boot_int (pa_cons (pe_cmpR op_eq (pv 6) pe_int (nomark _)) pa_nil))))
          (pss_cons (ps_comp (i := 4) (g := gName 0) (te := teTimes) (fsc := defScope sMovesOf) (N := nMv) (N' := ["_law_number", "_law_times"]) (own := 1) (fr := [7]) ⟨rfl, by decide +kernel, by decide +kernel, by decide +kernel, rfl, by decide +kernel⟩ rfl
            (pi_list (pv 4)) (fun cl C s₀ H₀ ex => pg_name (i := 0) (by show (["_law_number", "_law_times"] : List Str).Nodup; decide +kernel) rfl (Or.inl rfl))
            (fun cl C s₀ H₀ ex => pe_op op_mul (pv 1) (pv 0)) scMv.nd rfl rfl)
          (pss_one (ps_comp (i := 5) (g := gName 0) (te := teTimes) (fsc := defScope sMovesOf) (N := nMv) (N' := ["_law_number", "_law_times"]) (own := 1) (fr := [7]) ⟨rfl, by decide +kernel, by decide +kernel, by decide +kernel, rfl, by decide +kernel⟩ rfl
            (pi_list (pv 5)) (fun cl C s₀ H₀ ex => pg_name (i := 0) (by show (["_law_number", "_law_times"] : List Str).Nodup; decide +kernel) rfl (Or.inl rfl))
            (fun cl C s₀ H₀ ex => pe_op op_mul (pv 1) (pv 0)) scMv.nd rfl rfl)))))))
          pss_nil)
        (pss_one (ps_expr (pe_bm PySem.F.plainAttrs_list PySem.F.slot_list_append PySem.F.type_list_append mt_append (pv 2) (pa_cons (pe_tup (pa_cons (pe_callTy (call_listK (K := K) rfl) (by rfl) B.list PyProof.Rows.boot_list (pa_cons (pv 4) pa_nil)) (pa_cons (pe_callTy (call_listK (K := K) rfl) (by rfl) B.list PyProof.Rows.boot_list (pa_cons (pv 5) pa_nil)) pa_nil))) pa_nil)))))))
      )
      (pss_one (ps_ret (pv 2)))), ?_⟩
    refine ⟨Nat.zero_le _, fun p hp => ?_⟩
    refine gN ?_
    dsimp only
    have sp : Same H (upd H p (.lst [])) := Same.new hp
    refine ⟨_, rfl, a, ns, _, rfl, sp.seq hS, hnl, by decide, fun z0 H1 s1 => ⟨_, _, rfl, rfl, (by decide : (0 : Int) < 6), _, rfl, by omega, by omega, ?_⟩⟩
    obtain ⟨c, ec, hc5⟩ : ∃ c : Nat, (z0 % 6).toNat = c ∧ c ≤ 5 := ⟨_, rfl, by omega⟩
    rw [ec]
    refine for_range (lo := 0) (n := c) (fun i σ H2 => ∃ (us : List V) (ms : List Mv) (u3 u4 u5 u6 u7 : Option V), σ = [some (.ref a), some (.int (n : Nat)), some (.ref p), u3, u4, u5, u6, u7] ∧ Same H H2 ∧ MvsH H2 p us ms ∧ ms.length = i ∧ WfM n ms ∧ ∀ m ∈ ms, BitsM (100 + i) m)
      ⟨[], [], _, _, _, _, _, rfl, sp.trans s1, ⟨s1 _ _ upd_same, rfl, fun i m e => by simp at e⟩, rfl, fun m h => absurd h (by simp), fun m h => absurd h (by simp)⟩ ?_ ?_
    · rintro i σ H2 hi ⟨us, ms, u3, u4, u5, u6, u7, rfl, s2, hM, hml, hwm, hbm⟩
      show tSeq _ _ _ [some (.ref a), some (.int (n : Nat)), some (.ref p), some (.int (0 + i)), u4, u5, u6, u7] H2
      rw [Int.zero_add]
      refine ⟨_, rfl, _, rfl, by omega, by omega, fun ta hta => ?_⟩
      rw [Int.toNat_natCast]
      refine comp_num (K := K) (c := 4) (k := i) (n := n) (by decide) (s2.seq hS) hnl (by omega) hta (fun xs H3 s3 hx wx bx => ?_)
      refine gN ?_
      dsimp only
      refine ⟨_, rfl, _, rfl, by omega, by omega, fun ga hga => ?_⟩
      rw [Int.toNat_natCast]
      refine comp_num (K := K) (c := 9) (k := i) (n := n) (by decide) ((s2.trans s3).seq hS) hnl (by omega) hga (fun ys H4 s4 hy wy by' => ?_)
      refine gN ?_
      dsimp only
      have s24 := s2.trans (s3.trans s4)
      have hM4 := hM.same (s3.trans s4)
      have hx4 := hx.same s4
      clear hM hx s3 s2 s4
      refine seq_by (fun σ' H' => ∃ (ta ga : Addr) (xs ys : List Int) (u6 u7 : Option V), σ' = [some (.ref a), some (.int (n : Nat)), some (.ref p), some (.int (i : Nat)), some (.ref ta), some (.ref ga), u6, u7] ∧ Same H H' ∧ MvsH H' p us ms ∧ IntsAt H' ta xs ∧ IntsAt H' ga ys ∧ Wf n xs ∧ Wf n ys ∧ Bits (100 + i + 1) xs ∧ Bits (100 + i + 1) ys) ?_ (fun go => ?_)
      · clear hM4 hx4 hy wx wy bx by' s24
        rintro σ' H5 ⟨ta, ga, xs, ys, v6, v7, rfl, s5, hM, hx, hy, wx, wy, bx, by'⟩
        refine ⟨_, rfl, .inl ⟨rfl, _, SqL.of hM.li⟩, _, rfl, ta, _, rfl, .inl (SqL.of hx), fun l1 hl1 => ?_⟩
        have sa : Same H5 (upd H5 l1 (.lst (iv xs))) := Same.new hl1
        refine ⟨_, rfl, ga, _, rfl, .inl (SqL.of (hy.same sa)), fun l2 hl2 => ?_⟩
        have sb : Same (upd H5 l1 (.lst (iv xs))) (upd (upd H5 l1 (.lst (iv xs))) l2 (.lst (iv ys))) := Same.new hl2
        refine ⟨small (show 2 ≤ 1000 by decide), fun l3 hl3 => ?_⟩
        have sc : Same (upd (upd H5 l1 (.lst (iv xs))) l2 (.lst (iv ys))) (upd (upd (upd H5 l1 (.lst (iv xs))) l2 (.lst (iv ys))) l3 (.tup [.ref l1, .ref l2])) := Same.new hl3
        have s6 := (sa.trans sb).trans sc
        have n1 : l1 ≠ p := Ne.symm (ne_of_none hM.li hl1)
        have n2 : l2 ≠ p := Ne.symm (ne_of_none (sa _ _ hM.li) hl2)
        have n3 : l3 ≠ p := Ne.symm (ne_of_none ((sa.trans sb) _ _ hM.li) hl3)
        have hnew : MvAt (hid p (upd (upd (upd H5 l1 (.lst (iv xs))) l2 (.lst (iv ys))) l3 (.tup [.ref l1, .ref l2]))) (.ref l3) (xs, ys) := ⟨l3, l1, l2, rfl, hid_of upd_same n3, hid_of (sc _ _ (sb _ _ upd_same)) n1, hid_of (sc _ _ upd_same) n2⟩
        refine ⟨p, _, _, rfl, rfl, s6 _ _ hM.li, by rw [hM.len, hml]; exact small1000 (by omega), ?_⟩
        refine ⟨us ++ [.ref l3], ms ++ [(xs, ys)], _, _, _, _, _, rfl, (s5.trans s6).put hp, (hM.same s6).snoc hnew, by rw [List.length_append, hml]; rfl, fun m hm => ?_, fun m hm => ?_⟩
        · rcases List.mem_append.mp hm with hm | hm
          · exact hwm m hm
          · rw [List.mem_singleton.mp hm]; exact ⟨wx, wy⟩
        · rcases List.mem_append.mp hm with hm | hm
          · exact ⟨(hbm m hm).1.mono (by omega), (hbm m hm).2.mono (by omega)⟩
          · rw [List.mem_singleton.mp hm]; exact ⟨bx, by'⟩
      · have stay : ∀ H', Same H4 H' → ∃ (ta ga : Addr) (xs ys : List Int) (u6' u7' : Option V), ([some (.ref a), some (.int (n : Nat)), some (.ref p), some (.int (i : Nat)), some (.ref ta), some (.ref ga), u6, u7] : St) = [some (.ref a), some (.int (n : Nat)), some (.ref p), some (.int (i : Nat)), some (.ref ta), some (.ref ga), u6', u7'] ∧ Same H H' ∧ MvsH H' p us ms ∧ IntsAt H' ta xs ∧ IntsAt H' ga ys ∧ Wf n xs ∧ Wf n ys ∧ Bits (100 + i + 1) xs ∧ Bits (100 + i + 1) ys := fun H' s' => ⟨ta, ga, xs, ys, _, _, rfl, s24.trans s', hM4.same s', hx4.same s', hy.same s', wx, wy, bx.mono (by omega), by'.mono (by omega)⟩
        refine ⟨_, rfl, a, ns, _, rfl, s24.seq hS, hnl, by decide, fun z2 H5 s5 => ⟨_, _, rfl, rfl, (by decide : (0 : Int) < 3), rfl, _, rfl, ?_⟩⟩
        refine ite2 (fun _ => ?_) (fun _ => iteF (go _ _ ⟨ta, ga, xs, ys, _, _, rfl, s24.trans s5, hM4.same s5, hx4.same s5, hy.same s5, wx, wy, bx.mono (by omega), by'.mono (by omega)⟩))
        refine ⟨_, rfl, _, _, rfl, rfl, _, rfl, ?_⟩
        refine ite2 (fun hi0 => ?_) (fun _ => go _ _ ⟨ta, ga, xs, ys, _, _, rfl, s24.trans s5, hM4.same s5, hx4.same s5, hy.same s5, wx, wy, bx.mono (by omega), by'.mono (by omega)⟩)
        have hi0' : 0 < i := by simpa using hi0
        clear stay
        have s05 := s24.trans s5
        have hM5 := hM4.same s5
        clear hM4 hx4 hy s24 s5 wx wy bx by' hta hga
        refine ⟨_, rfl, _, rfl, _, rfl, _, _, rfl, rfl, a, ns, _, rfl, s05.seq hS, hnl, by omega, fun z3 H6 s6 => ?_⟩
        obtain ⟨q, eq, hq⟩ : ∃ q : Nat, z3 % (i : Int) = (q : Int) ∧ q < ms.length := ⟨(z3 % (i : Int)).toNat, by have := Int.emod_nonneg z3 (by omega : (i : Int) ≠ 0); omega, by have := Int.emod_nonneg z3 (by omega : (i : Int) ≠ 0); have := Int.emod_lt_of_pos z3 (by omega : (0 : Int) < i); omega⟩
        have em : ms[q]? = some ms[q] := by simp [hq]
        obtain ⟨v, ev, t, x1, y1, rfl, ht, h1, h2⟩ := (hM5.same s6).plain.at' _ _ em
        have hw := hwm _ (List.mem_of_getElem? em)
        have hb := hbm _ (List.mem_of_getElem? em)
        generalize ms[q] = m at *
        refine ⟨_, rfl, _, _, rfl, rfl, by omega, p, _, _, .ref t, rfl, rfl, SqL.of (s6 _ _ hM5.li), by rw [eq]; exact atI_nat ev, t, _, rfl, SqT.of ht, rfl, _, _, rfl, _, _, rfl, rfl, ?_⟩
        refine ⟨_, rfl, _, rfl, _, _, rfl, rfl, a, ns, _, rfl, (s05.trans s6).seq hS, hnl, by omega, fun z4 H7 s7 => ⟨_, _, rfl, rfl, (by decide : (0 : Int) < 3), ?_⟩⟩
        refine gN ?_
        dsimp only
        have s07 := (s05.trans s6).trans s7
        have hM7 := (hM5.same s6).same s7
        have h17 := h1.same s7
        have h27 := h2.same s7
        clear h1 h2 ht ev hM5
        generalize z4 % 3 = wy at *
        refine seq_by (fun σ' H' => ∃ (ta ga : Addr) (xs ys : List Int), σ' = [some (.ref a), some (.int (n : Nat)), some (.ref p), some (.int (i : Nat)), some (.ref ta), some (.ref ga), some (.int wy), u7] ∧ H' = H7 ∧ IntsAt H7 ta xs ∧ IntsAt H7 ga ys ∧ Wf n xs ∧ Wf n ys ∧ Bits (100 + i) xs ∧ Bits (100 + i) ys) ?_ (fun go' => ?_)
        · rintro σ' H' ⟨ta, ga, xs, ys, rfl, rfl, hx, hy, wx, wy', bx, by'⟩
          refine ⟨_, rfl, rfl, .inr ⟨_, rfl, _, _, rfl, rfl, ?_⟩⟩
          obtain ⟨tm, et, ht⟩ : ∃ tm : Int, (1 + if decide (V.int wy = V.int 2) = true then (1 : Int) else 0) = tm ∧ (tm = 1 ∨ tm = 2) := ⟨_, rfl, by split <;> omega⟩
          refine gN ?_
          dsimp only
          rw [et]
          have hcm : ∀ x, CMul tm x := fun x => .inl ⟨by omega, by omega⟩
          have ht0 : 0 ≤ tm := by omega
          refine ⟨_, rfl, ta, rfl, ⟨_, SqL.of hx⟩, fun l1 hl1 => comp_ints (K := K) (v0 := none) (fs := [some (.int tm)]) (fun x => .int (tm * x)) (small (by rw [wx.1]; omega)) (SqL.of hx) hl1 (fun x hx ys R q => ⟨_, rfl, _, rfl, _, _, rfl, rfl, hcm x, q⟩) ?_⟩
          refine gN ?_
          dsimp only
          have sa : Same H' (upd H' l1 (.lst (xs.map fun x => V.int (tm * x)))) := Same.new hl1
          refine ⟨_, rfl, ga, rfl, ⟨_, SqL.of (hy.same sa)⟩, fun l2 hl2 => comp_ints (K := K) (v0 := none) (fs := [some (.int tm)]) (fun x => .int (tm * x)) (small (by rw [wy'.1]; omega)) (SqL.of (hy.same sa)) hl2 (fun x hx ys R q => ⟨_, rfl, _, rfl, _, _, rfl, rfl, hcm x, q⟩) ?_⟩
          refine gN ?_
          dsimp only
          have sb : Same (upd H' l1 (.lst (xs.map fun x => V.int (tm * x)))) (upd (upd H' l1 (.lst (xs.map fun x => V.int (tm * x)))) l2 (.lst (ys.map fun x => V.int (tm * x)))) := Same.new hl2
          have e1 : ∀ zs : List Int, zs.map (fun x => V.int (tm * x)) = iv (zs.map (tm * ·)) := fun zs => by rw [iv, List.map_map]; rfl
          refine go _ _ ⟨l1, l2, xs.map (tm * ·), ys.map (tm * ·), _, _, rfl, s07.trans (sa.trans sb), hM7.same (sa.trans sb), ?_, ?_, wx.scl ht0, wy'.scl ht0, bx.scl ht, by'.scl ht⟩
          · unfold IntsAt
            rw [← e1]
            exact sb _ _ upd_same
          · unfold IntsAt
            rw [← e1]
            exact upd_same
        · refine ⟨_, rfl, rfl, _, rfl, ?_⟩
          refine ite2 (fun _ => ?_) (fun _ => ?_)
          · exact ⟨_, rfl, _, rfl, _, _, rfl, go' _ _ ⟨y1, x1, m.2, m.1, rfl, rfl, h27, h17, hw.2, hw.1, hb.2, hb.1⟩⟩
          · exact go' _ _ ⟨x1, y1, m.1, m.2, rfl, rfl, h17, h27, hw.1, hw.2, hb.1, hb.2⟩
    · rintro σ H2 ⟨us, ms, u3, u4, u5, u6, u7, rfl, s2, hM, hml, hwm, hbm⟩
      exact ⟨_, rfl, hend p us ms H2 s2 hM.plain hwm (by omega) fun m hm => ⟨(hbm m hm).1.mono (by omega), (hbm m hm).2.mono (by omega)⟩⟩
end
end Bd

set_option linter.all false
set_option maxRecDepth 100000
set_option maxHeartbeats 8000000
namespace Bd
open PySem L2 Lin
open PySem.Builtin.Int (intBits)
seal L2.PSs L2.PS L2.PE L2.PT L2.PW L2.PA L2.PI L2.PG L2.PGs
/-- what a move changes -/
def chg (n : Nat) (m : Mv) : List Int := (List.range n).map fun k => co m.2 k - co m.1 k
def wsum (n : Nat) (xs : List Int) (m : Mv) : Int := ((List.range n).map fun k => co xs k * (co m.2 k - co m.1 k)).sum
def filled (xs : List Int) : List Int := xs.filter fun x => decide (x ≠ 0)
theorem filled_snoc (xs : List Int) (x : Int) : filled (xs ++ [x]) = filled xs ++ (if x ≠ 0 then [x] else []) := by
  unfold filled
  rw [List.filter_append]
  congr 1
  by_cases h : x ≠ 0
  · rw [if_pos h, List.filter_cons_of_pos (by simpa using h)]; rfl
  · rw [if_neg h, List.filter_cons_of_neg (by simpa using h)]; rfl
section
variable {P : Program} {w : World} {K : PySem.W.Frag} {mg : Str → Option Value} {base : Heap}
/-! ### _law_is_weight -/
def spIsW : Sp := fun vs H Q _ => ∃ (a p : Addr) (us : List V) (ms : List Mv) (xs : List Int) (n b : Nat), vs = [.ref a, .int (n : Nat), .ref p] ∧ IntsAt H a xs ∧ MvsAt H p us ms ∧ xs.length = n ∧ n ≤ 1000 ∧ WfM n ms ∧ gcdL xs = 1 ∧ (∃ f r, filled xs = f :: r ∧ 0 < f) ∧ (∀ m ∈ ms, wsum n xs m = 0) ∧ Bits b xs ∧ (∀ m ∈ ms, BitsM b m) ∧ b ≤ 60000000 ∧ ∀ H', Same H H' → Q (.bl true) H'
abbrev nIsW : List Str := ["_law_row", "_law_places", "_law_moves", "_law_filled", "_law_takes", "_law_gives"]
theorem scIsW : FnScope nIsW ["_law_row", "_law_places", "_law_moves"] (defScope sIsW) := ⟨rfl, rfl, rfl, by decide +kernel, rfl, by decide +kernel, by decide +kernel⟩
abbrev teW (K : PySem.W.Frag) : TE := tOp (rI IntMulOk fun i j => .int (i * j)) (tOp (rIxL K) (tVar 2) (tVar 0)) (tOp (rI0 fun i j => .int (i - j)) (tOp (rIxL K) (tVar 1) (tVar 0)) (tOp (rIxL K) (tVar 3) (tVar 0)))
theorem ok_isW {f g g2 g3 : Addr} {fd gd gd2 gd3 : FuncData} (F : Fun K "_law_is_weight" "_law_is_weight" sIsW f fd) (B : Bn mg) (D : Df K mg "_law_are_numbers" sAreN ["_law_found"] g gd) (DW : Df K mg "_law_whole" sWhole ["_law_found"] g3 gd3) (DC : Df K mg "_law_common_of" sCommon ["_law_row"] g2 gd2) : FnOk P w K mg base CX0 3 f fd ["_law_row", "_law_places", "_law_moves"] spIsW := by
  have G : FnOk P w K mg base CX0 2 g gd ["_law_found"] spAreN := ok_areN D.fn B DW
  have GC : FnOk P w K mg base CX0 1 g2 gd2 ["_law_row"] spCommon := ok_common DC.fn B
  refine F.ok scIsW (fun vs H Q E h => ?_) (fun cdv A outer s0 H vs Q E hr h => ?_)
  · obtain ⟨a, p, us, ms, xs, n, b, rfl, _⟩ := h
    rfl
  · obtain ⟨a, p, us, ms, xs, n, b, rfl, ha, hm, hxl, hn, hwm, hg, ⟨ff, rr, hf, hf0⟩, hw0, hb, hbm, hb6, k⟩ := h
    have hr1 : Room 1 _ := hr.mono (by decide)
    refine ⟨_, pss_cons (ps_if (pw_or (pt_not (pt_val (pe_call G hr (by rfl) D.gl D.fn.kp D.bd .nil pass0 (pa_cons (pv 0) pa_nil)))) (pw_or (pt_cmpR op_ne (pe_callB call_len_seq (by rfl) B.len PySem.boot_len (pa_cons (pv 0) pa_nil)) (pv 1) (nomark _)) (pw_or1 (pt_cmpR op_ne (pe_call GC hr1 (by rfl) DC.gl DC.fn.kp DC.bd .nil pass0 (pa_cons (pv 0) pa_nil)) pe_int (nomark _))))).pt (pss_one ps_never) pss_nil)
      (pss_cons (ps_compI (i := 3) (g := gName 0) (tc := tTest (tOp rNe (tVar 0) (tC (.int 0)))) (te := tVar 0) (fsc := defScope sIsW) (N := nIsW) (N' := ["_law_number"]) (own := 1) (fr := []) ⟨rfl, by decide +kernel, by decide +kernel, by decide +kernel, rfl, by decide +kernel⟩ rfl
        (pi_list (pv 0)) (fun cl C s₀ H₀ ex => pg_name (i := 0) (by show (["_law_number"] : List Str).Nodup; decide +kernel) rfl (Or.inl rfl))
        (fun cl C s₀ H₀ ex => pt_cmpR op_ne (pv 0) pe_int (nomark _)) (fun cl C s₀ H₀ ex => pv 0) scIsW.nd rfl rfl)
      (pss_cons (ps_if (pt_cmpR op_lt (pe_ix ix_list (pv 3) pe_int (fun _ _ => rfl)) pe_int (nomark _)) (pss_one ps_never) pss_nil)
      (pss_cons (ps_for PassesOwn.never rfl (pi_list (pv 2)) (pg_tup rfl (pgs_cons (pg_name (i := 4) scIsW.nd rfl (Or.inr rfl)) (pgs_cons (pg_name (i := 5) scIsW.nd rfl (Or.inr rfl)) pgs_nil)))
        (pss_one (ps_if (pt_cmpR op_ne (pe_callB (call_sumL rfl) (by rfl) B.sum PyProof.Rows.boot_sum (pa_cons (pe_comp (g := gName 0) (te := teW K) (fsc := defScope sIsW) (N := nIsW) (N' := ["_law_k", "_law_gives", "_law_row", "_law_takes"]) (own := 1) (fr := [5, 0, 4]) ⟨rfl, by decide +kernel, by decide +kernel, by decide +kernel, rfl, by decide +kernel⟩ rfl
            (pi_range1 (by rfl) B.range (pa_cons (pv 1) pa_nil)) (fun cl C s₀ H₀ ex => pg_name (i := 0) (by show (["_law_k", "_law_gives", "_law_row", "_law_takes"] : List Str).Nodup; decide +kernel) rfl (Or.inl rfl))
            (fun cl C s₀ H₀ ex => pe_op op_mulW (pe_ix ix_list (pv 2) (pv 0) (fun _ _ => rfl)) (pe_op op_sub (pe_ix ix_list (pv 1) (pv 0) (fun _ _ => rfl)) (pe_ix ix_list (pv 3) (pv 0) (fun _ _ => rfl))))) pa_nil)) pe_int (nomark _)) (pss_one ps_never) pss_nil)))
      (pss_one (ps_ret pe_bl))))), ?_⟩
    refine ⟨_, rfl, a, xs, rfl, ha, fun H1 s1 => ⟨_, rfl, iteF ?_⟩⟩
    refine ⟨_, rfl, a, _, rfl, .inl (SqL.of (ha.same s1)), _, rfl, rfl, _, rfl, iteNS (by rw [List.length_map, hxl]) ?_⟩
    refine ⟨_, rfl, a, xs, rfl, ha.same s1, fun H2 s2 => ⟨rfl, _, rfl, iteNS (by rw [hg]; rfl) ?_⟩⟩
    have s12 := s1.trans s2
    refine ⟨_, rfl, a, rfl, ⟨_, SqL.of (ha.same s12)⟩, fun fa hfa => ?_⟩
    refine compi_by xs.length (small (by omega)) (fun i ys σ H5 => (∃ v, σ = [v]) ∧ H5 = upd H2 fa (.lst ys) ∧ ys = iv (filled (xs.take i))) ⟨⟨none, rfl⟩, rfl, rfl⟩ (fun i ys σ H5 ⟨_, _, e⟩ => ?_) (fun i ys σ H5 hi ⟨_, eh, _⟩ => ?_) (fun ys σ H5 ⟨_, eh, _⟩ => ?_) (fun i ys σ H5 x H6 hi ⟨⟨v, es⟩, eh, ey⟩ y => ?_) (fun ys σ H5 ⟨_, eh, ey⟩ => ?_)
    · rw [e, List.length_map]
      unfold filled
      exact Nat.le_trans (List.length_filter_le _ _) (by rw [List.length_take]; omega)
    · rw [eh]
      exact ⟨iv xs, .int xs[i], SqL.of ((Same.new hfa) _ _ (ha.same s12)), by simp [hi]⟩
    · rw [eh]
      exact ⟨iv xs, SqL.of ((Same.new hfa) _ _ (ha.same s12)), by simp⟩
    · obtain ⟨e6, hx⟩ := y
      subst e6 es
      have hx' := hx (iv xs) (by rw [eh]; exact SqL.of ((Same.new hfa) _ _ (ha.same s12)))
      obtain ⟨z, hz, rfl⟩ := iv_get hx'
      refine ⟨_, rfl, rfl, _, rfl, ?_⟩
      by_cases hc : z = 0
      · refine iteNS (by rw [hc]) ?_
        exact ⟨⟨_, rfl⟩, eh, by rw [ey, ← take_snoc hz, filled_snoc, if_neg (by simpa using hc), List.append_nil]⟩
      · refine ite2 (fun _ => ?_) (fun h => absurd (show (!decide (V.int z = V.int 0)) = true by simp [hc]) h)
        refine ⟨_, rfl, by rw [eh]; exact upd_same, ⟨_, rfl⟩, by rw [eh, upd_upd], ?_⟩
        rw [ey, ← take_snoc hz, filled_snoc, if_pos hc, iv_snoc]
    · rw [List.take_of_length_le (Nat.le_refl _), hf] at ey
      subst eh ey
      refine gN ?_
      dsimp only
      have s3 : Same H (upd H2 fa (.lst (iv (ff :: rr)))) := s12.trans (Same.new hfa)
      have hfa3 : upd H2 fa (.lst (iv (ff :: rr))) fa = some (.lst (iv (ff :: rr))) := upd_same
      generalize upd H2 fa (.lst (iv (ff :: rr))) = H3 at *
      refine ⟨_, rfl, fa, _, _, .int ff, rfl, rfl, SqL.of hfa3, atI_nat (j := 0) rfl, _, _, rfl, rfl, _, rfl, ?_⟩
      refine ite2 (fun h => absurd (of_decide_eq_true h) (by omega)) (fun _ => ?_)
      refine ⟨_, rfl, p, rfl, ⟨us, SqL.of (hm.same s3).li⟩, for_list (K := K) (a := p) (xs := us) (fun i σ H4 => Same H H4 ∧ ∃ u v, σ = [some (.ref a), some (.int (n : Nat)), some (.ref p), some (.ref fa), u, v]) ⟨s3, none, none, rfl⟩ (fun i σ H4 _ ⟨s4, _⟩ => SqL.of (hm.same s4).li) ?_ ?_⟩
      · rintro i x σ H4 hx ⟨s4, u, v, rfl⟩
        obtain ⟨m, em, t, x1, y1, rfl, ht, h1, h2⟩ := (hm.same s4).get hx
        have hmem := List.mem_of_getElem? em
        have hwf := hwm m hmem
        have hbb := hbm m hmem
        refine ⟨t, _, rfl, SqT.of ht, rfl, _, _, rfl, _, _, rfl, rfl, ?_⟩
        refine ⟨_, rfl, _, rfl, by omega, by omega, fun ac hac => ?_⟩
        rw [Int.toNat_natCast]
        refine comp_by n (small hn) (fun j ys σ H5 => (∃ v, σ = [v, some (.ref y1), some (.ref a), some (.ref x1)]) ∧ H5 = upd H4 ac (.lst ys) ∧ ys = iv (((List.range n).map fun k => co xs k * (co m.2 k - co m.1 k)).take j) ∧ j ≤ n) ⟨⟨none, rfl⟩, rfl, by simp, Nat.zero_le _⟩ (fun j ys σ H5 ⟨_, _, e, hj⟩ => ?_) (fun j ys σ H5 hj _ => hj) (fun ys σ H5 _ => Nat.le_refl _) (fun j ys σ H5 x H6 hj ⟨⟨v, es⟩, eh, ey, _⟩ y => ?_) (fun ys σ H5 ⟨_, eh, ey, _⟩ => ?_)
        · rw [e, List.length_map, List.length_take, List.length_map, List.length_range]
          omega
        · obtain ⟨e6, ex⟩ := y
          subst e6 ex es
          have sh : Same H4 H6 := by rw [eh]; exact Same.new hac
          have at1 : atI (iv xs) (0 + (j : Int)) = some (.int (co xs j)) := by rw [Int.zero_add]; exact iv_at (co_get (by omega))
          have at2 : atI (iv m.2) (0 + (j : Int)) = some (.int (co m.2 j)) := by rw [Int.zero_add]; exact iv_at (co_get (by rw [hwf.2.1]; exact hj))
          have at3 : atI (iv m.1) (0 + (j : Int)) = some (.int (co m.1 j)) := by rw [Int.zero_add]; exact iv_at (co_get (by rw [hwf.1.1]; exact hj))
          have bs := intBits_sub_le (hbb.2.co j) (hbb.1.co j)
          have mo : IntMulOk (co xs j) (co m.2 j - co m.1 j) := IntMulOk.of_le (hb.co j) bs (by omega)
          refine ⟨_, rfl, _, rfl, a, _, _, _, rfl, rfl, SqL.of (sh _ _ (ha.same s4)), at1, _, rfl, _, rfl, y1, _, _, _, rfl, rfl, SqL.of (sh _ _ h2), at2, _, rfl, _, rfl, x1, _, _, _, rfl, rfl, SqL.of (sh _ _ h1), at3, _, _, rfl, rfl, _, _, rfl, rfl, mo, ?_⟩
          refine ⟨by rw [eh]; exact upd_same, ⟨_, rfl⟩, by rw [eh, upd_upd], ?_⟩
          have e7 : ((List.range n).map fun k => co xs k * (co m.2 k - co m.1 k))[j]? = some (co xs j * (co m.2 j - co m.1 j)) := by
            rw [List.getElem?_map, List.getElem?_range hj]
            rfl
          exact ⟨by rw [ey, ← take_snoc e7, iv_snoc], hj⟩
        · rw [List.take_of_length_le (by simp)] at ey
          subst eh ey
          refine ⟨ac, _, rfl, SqL.of upd_same, rfl, _, rfl, iteNS ?_ ⟨s4.trans (Same.new hac), _, _, rfl⟩⟩
          exact congrArg V.int (hw0 m hmem)
      · rintro σ H4 ⟨s4, _⟩
        exact k H4 s4
end
end Bd

set_option linter.all false
set_option maxRecDepth 100000
set_option maxHeartbeats 8000000
namespace Bd
open PySem L2 Lin
open PySem.Builtin.Int (intBits)
seal L2.PSs L2.PS L2.PE L2.PT L2.PW L2.PA L2.PI L2.PG L2.PGs
theorem range_sum (n : Nat) (f : Nat → Int) : ((List.range n).map f).sum = sumN n f := by
  induction n with
  | zero => rfl
  | succ n ih => rw [List.range_succ, List.map_append, List.sum_append, ih, sumN]; simp
theorem co_chg {n j : Nat} (m : Mv) (h : j < n) : co (chg n m) j = co m.2 j - co m.1 j := by
  unfold chg
  show ((List.range n).map _).getD j 0 = _
  rw [List.getD_eq_getElem?_getD, List.getElem?_map, List.getElem?_range h]
  rfl
theorem chg_length (n : Nat) (m : Mv) : (chg n m).length = n := by unfold chg; simp
theorem wsum_dot (n : Nat) (r : List Int) (m : Mv) : wsum n r m = dot n (co (chg n m)) (co r) := by
  unfold wsum
  rw [range_sum]
  unfold dot
  refine sumN_congr fun j hj => ?_
  rw [co_chg m hj, Int.mul_comm]
/-- what the document asks of the weights told -/
structure Good (n : Nat) (ms : List Mv) (b : Nat) (ws : List (List Int)) : Prop where
  len : ∀ r ∈ ws, r.length = n
  bits : ∀ r ∈ ws, Bits b r
  one : ∀ r ∈ ws, gcdL r = 1
  sgn : ∀ r ∈ ws, ∃ f t, filled r = f :: t ∧ 0 < f
  orth : ∀ r ∈ ws, ∀ m ∈ ms, wsum n r m = 0
  ind : Ind ws.length n (mat ws)
  all : ∀ u : Nat → Int, (∀ m ∈ ms, dot n (co (chg n m)) u = 0) → SpQ ws.length n (mat ws) u
theorem mat_mem {l : List (List Int)} {i : Nat} (h : i < l.length) : ∃ r ∈ l, mat l i = co r := ⟨l[i], List.getElem_mem h, by
  funext j
  unfold mat
  rw [List.getD_eq_getElem?_getD, List.getElem?_eq_getElem h]
  rfl⟩
theorem mat_of {l : List (List Int)} {r : List Int} (h : r ∈ l) : ∃ i, i < l.length ∧ mat l i = co r := by
  obtain ⟨i, hi, e⟩ := List.getElem_of_mem h
  exact ⟨i, hi, by
    funext j
    unfold mat
    rw [List.getD_eq_getElem?_getD, List.getElem?_eq_getElem hi, e]
    rfl⟩
theorem Good.count {n b : Nat} {ms : List Mv} {ws : List (List Int)} (G : Good n ms b ws) : rk n (ms.map (chg n)).length (ms.map (chg n)) + ws.length = n ∧ rk n ws.length ws = ws.length := by
  refine ⟨null_count (rank_rk n _ (ms.map (chg n)) rfl) G.ind (fun i k hi hk => ?_) (fun u hu => G.all u fun m hm => ?_), (rank_rk n ws.length ws rfl).uniq (.ind G.ind)⟩
  · obtain ⟨c, hc, e1⟩ := mat_mem hi
    obtain ⟨r, hr, e2⟩ := mat_mem hk
    obtain ⟨m, hm, rfl⟩ := List.mem_map.mp hc
    rw [e1, e2, ← wsum_dot]
    exact G.orth r hr m hm
  · obtain ⟨i, hi, e⟩ := mat_of (List.mem_map_of_mem (f := chg n) hm)
    rw [← e]
    exact hu i hi
theorem bits_chg {n b : Nat} {m : Mv} (h : BitsM b m) : Bits (b + 1) (chg n m) := fun x hx => by
  obtain ⟨j, _, rfl⟩ := List.mem_map.mp hx
  have := intBits_sub_le (h.2.co j) (h.1.co j)
  omega
section
variable {P : Program} {w : World} {K : PySem.W.Frag} {mg : Str → Option Value} {base : Heap}
/-! ### the law -/
def spSums : Sp := fun vs H Q _ => ∃ (p q : Addr) (us : List V) (ms : List Mv) (st : List Int) (n : Nat), vs = [.ref p, .ref q] ∧ MvsAt H p us ms ∧ IntsAt H q st ∧ Wf n st ∧ WfM n ms ∧ 1 ≤ n ∧ n ≤ 5 ∧ ms.length ≤ 5 ∧ (∀ m ∈ ms, BitsM 105 m) ∧ ∀ l rs ws H', Same H H' → RowsL H' l rs ws → Good n ms 1000000 ws → Q (.ref l) H'
def spLaw : Sp := fun vs H Q _ => ∃ (a : Addr) (ns : List Int), vs = [.ref a] ∧ SqL K H a (iv ns) ∧ ns.length ≤ 63 ∧ ∀ H', Same H H' → Q (.bl true) H'
abbrev nLaw : List Str := ["_law_script", "_law_places", "_law_moves", "_law_start", "_law_takes", "_law_gives", "_law_ones", "_law_others", "_law_found", "_law_row", "_law_changes"]
theorem scLaw : FnScope nLaw ["_law_script"] (defScope sLaw) := ⟨rfl, rfl, rfl, by decide +kernel, rfl, by decide +kernel, by decide +kernel⟩
abbrev teStart (K : PySem.W.Frag) : TE := tOp (rI (fun _ j => 0 < j) fun i j => .int (i % j)) (tCall (spAt (K := K)) [] E0 (tCons (tVar 1) (tCons (tOp (rI0 fun i j => .int (i + j)) (tC (.int 4)) (tVar 0)) tNil))) (tC (.int 4))
abbrev teCopy (K : PySem.W.Frag) : TE := tTup (tCons (tCB (rListOf K) (tCons (tVar 0) tNil)) (tCons (tCB (rListOf K) (tCons (tVar 1) tNil)) tNil))
abbrev teChg (K : PySem.W.Frag) : TE := tOp (rI0 fun i j => .int (i - j)) (tOp (rIxL K) (tVar 1) (tVar 0)) (tOp (rIxL K) (tVar 2) (tVar 0))
/-- the law's defs -/
structure Lw (K : PySem.W.Frag) (mg : Str → Option Value) (a1 a2 a3 a4 a5 a6 a7 a8 a9 a10 : Addr) (b1 b2 b3 b4 b5 b6 b7 b8 b9 b10 : FuncData) : Prop where
  whole : Df K mg "_law_whole" sWhole ["_law_found"] a1 b1
  at' : Df K mg "_law_at" sAt ["_law_script", "_law_k"] a2 b2
  same : Df K mg "_law_same" sSame ["_law_found", "_law_due"] a3 b3
  areN : Df K mg "_law_are_numbers" sAreN ["_law_found"] a4 b4
  numOf : Df K mg "_law_number_of" sNumOf ["_law_cell"] a5 b5
  movesOf : Df K mg "_law_moves_of" sMovesOf ["_law_script", "_law_places"] a6 b6
  cleared : Df K mg "_law_cleared" sCleared ["_law_other", "_law_row", "_law_spot"] a7 b7
  rank : Df K mg "_law_rank_of" sRankOf ["_law_rows"] a8 b8
  common : Df K mg "_law_common_of" sCommon ["_law_row"] a9 b9
  isW : Df K mg "_law_is_weight" sIsW ["_law_row", "_law_places", "_law_moves"] a10 b10
theorem ok_law {a1 a2 a3 a4 a5 a6 a7 a8 a9 a10 f gs : Addr} {b1 b2 b3 b4 b5 b6 b7 b8 b9 b10 fd gsd : FuncData} (L : Lw K mg a1 a2 a3 a4 a5 a6 a7 a8 a9 a10 b1 b2 b3 b4 b5 b6 b7 b8 b9 b10) (F : Fun K "law" "law" sLaw f fd) (B : Bn mg) (DS : Df K mg "sums" sSums ["moves", "start"] gs gsd) (GS : FnOk P w K mg base CX0 6 gs gsd ["moves", "start"] spSums) : FnOk P w K mg base CX0 7 f fd ["_law_script"] (spLaw (K := K)) := by
  have GA : FnOk P w K mg base CX0 1 a2 b2 ["_law_script", "_law_k"] (spAt (K := K)) := ok_at L.at'.fn B
  have GM : FnOk P w K mg base CX0 2 a6 b6 ["_law_script", "_law_places"] (spMovesOf (K := K)) := ok_movesOf L.movesOf.fn B L.at' L.numOf
  have GE : FnOk P w K mg base CX0 2 a3 b3 ["_law_found", "_law_due"] spSame := ok_same L.same.fn B L.whole
  have GW : FnOk P w K mg base CX0 3 a10 b10 ["_law_row", "_law_places", "_law_moves"] spIsW := ok_isW L.isW.fn B L.areN L.whole L.common
  have GR : FnOk P w K mg base CX0 2 a8 b8 ["_law_rows"] spRank := ok_rank L.rank.fn B L.cleared
  refine F.ok scLaw (fun vs H Q E h => ?_) (fun cdv A outer s0 H vs Q E hr h => ?_)
  · obtain ⟨a, ns, rfl, _⟩ := h
    rfl
  · obtain ⟨a, ns, rfl, hS, hnl, hend⟩ := h
    have hr1 : Room 1 _ := hr.mono (by decide)
    have hr2 : Room 2 _ := hr.mono (by decide)
    have hr3 : Room 3 _ := hr.mono (by decide)
    refine ⟨_, pss_cons (ps_set (i := 1) scLaw.nd rfl (Or.inl rfl) (pe_op op_add pe_int (pe_op op_mod (pe_call GA hr1 (by rfl) L.at'.gl L.at'.fn.kp L.at'.bd .nil pass0 (pa_cons (pv 0) (pa_cons pe_int pa_nil))) pe_int)))
      (pss_cons (ps_set (i := 2) scLaw.nd rfl (Or.inl rfl) (pe_call GM hr2 (by rfl) L.movesOf.gl L.movesOf.fn.kp L.movesOf.bd .nil pass0 (pa_cons (pv 0) (pa_cons (pv 1) pa_nil))))
      (pss_cons (ps_comp (i := 3) (g := gName 0) (te := teStart K) (fsc := defScope sLaw) (N := nLaw) (N' := ["_law_k", "_law_script"]) (own := 1) (fr := [0]) ⟨rfl, by decide +kernel, by decide +kernel, by decide +kernel, rfl, by decide +kernel⟩ rfl
        (pi_range1 (by rfl) B.range (pa_cons (pv 1) pa_nil)) (fun cl C s₀ H₀ ex => pg_name (i := 0) (by show (["_law_k", "_law_script"] : List Str).Nodup; decide +kernel) rfl (Or.inl rfl))
        (fun cl C s₀ H₀ ex => pe_op op_mod (pe_call GA hr1 (by rfl) L.at'.gl L.at'.fn.kp L.at'.bd .nil pass0 (pa_cons (pv 1) (pa_cons (pe_op op_add pe_int (pv 0)) pa_nil))) pe_int) scLaw.nd rfl rfl)
      (pss_cons (ps_comp (i := 6) (g := gPair K) (te := teCopy K) (fsc := defScope sLaw) (N := nLaw) (N' := ["_law_takes", "_law_gives"]) (own := 2) (fr := []) ⟨rfl, by decide +kernel, by decide +kernel, by decide +kernel, rfl, by decide +kernel⟩ rfl
        (pi_list (pv 2)) (fun cl C s₀ H₀ ex => pg_tup rfl (pgs_cons (pg_name (i := 0) (by show (["_law_takes", "_law_gives"] : List Str).Nodup; decide +kernel) rfl (Or.inl rfl)) (pgs_cons (pg_name (i := 1) (by show (["_law_takes", "_law_gives"] : List Str).Nodup; decide +kernel) rfl (Or.inl rfl)) pgs_nil)))
        (fun cl C s₀ H₀ ex => pe_tup (pa_cons (pe_callTy (call_listK (K := K) rfl) (by rfl) B.list PyProof.Rows.boot_list (pa_cons (pv 0) pa_nil)) (pa_cons (pe_callTy (call_listK (K := K) rfl) (by rfl) B.list PyProof.Rows.boot_list (pa_cons (pv 1) pa_nil)) pa_nil))) scLaw.nd rfl rfl)
      (pss_cons (ps_set (i := 7) scLaw.nd rfl (Or.inl rfl) (pe_callTy call_list_of (by rfl) B.list PyProof.Rows.boot_list (pa_cons (pv 3) pa_nil)))
      (pss_cons (ps_set (i := 8) scLaw.nd rfl (Or.inl rfl) (pe_call GS hr (by rfl) DS.gl DS.fn.kp DS.bd .nil pass0 (pa_cons (pv 6) (pa_cons (pv 7) pa_nil))))
      (pss_cons (ps_if (pw_or (pt_not (pt_val (pe_call GE hr2 (by rfl) L.same.gl L.same.fn.kp L.same.bd .nil pass0 (pa_cons (pe_lst (pa_cons (pv 6) (pa_cons (pv 7) pa_nil))) (pa_cons (pe_lst (pa_cons (pv 2) (pa_cons (pv 3) pa_nil))) pa_nil)))))
          (pw_or1 (pt_not (pt_val (pe_callB call_isi (by rfl) B.isi PyProof.Rows.boot_isinstance (pa_cons (pv 8) (pa_cons (pe_bltn (v := .ty "list") (by rfl) B.list PyProof.Rows.boot_list rfl) pa_nil))))))).pt (pss_one ps_never) pss_nil)
      (pss_cons (ps_for PassesOwn.never rfl (pi_list (pv 8)) (pg_name (i := 9) scLaw.nd rfl (Or.inl rfl))
        (pss_one (ps_if (pt_not (pt_val (pe_call GW hr3 (by rfl) L.isW.gl L.isW.fn.kp L.isW.bd .nil pass0 (pa_cons (pv 9) (pa_cons (pv 1) (pa_cons (pv 2) pa_nil)))))) (pss_one ps_never) pss_nil)))
      (pss_cons (ps_set (i := 10) scLaw.nd rfl (Or.inl rfl) (pe_lst pa_nil))
      (pss_cons (ps_for PassesOwn.never rfl (pi_list (pv 2)) (pg_tup rfl (pgs_cons (pg_name (i := 4) scLaw.nd rfl (Or.inr rfl)) (pgs_cons (pg_name (i := 5) scLaw.nd rfl (Or.inr rfl)) pgs_nil)))
        (pss_one (ps_expr (pe_bm PySem.F.plainAttrs_list PySem.F.slot_list_append PySem.F.type_list_append mt_append (pv 10) (pa_cons (pe_comp (g := gName 0) (te := teChg K) (fsc := defScope sLaw) (N := nLaw) (N' := ["_law_k", "_law_gives", "_law_takes"]) (own := 1) (fr := [5, 4]) ⟨rfl, by decide +kernel, by decide +kernel, by decide +kernel, rfl, by decide +kernel⟩ rfl
          (pi_range1 (by rfl) B.range (pa_cons (pv 1) pa_nil)) (fun cl C s₀ H₀ ex => pg_name (i := 0) (by show (["_law_k", "_law_gives", "_law_takes"] : List Str).Nodup; decide +kernel) rfl (Or.inl rfl))
          (fun cl C s₀ H₀ ex => pe_op op_sub (pe_ix ix_list (pv 1) (pv 0) (fun _ _ => rfl)) (pe_ix ix_list (pv 2) (pv 0) (fun _ _ => rfl)))) pa_nil)))))
      (pss_one (ps_ret (pe_and (pe_cmpR op_eq (pe_callB call_len_seq (by rfl) B.len PySem.boot_len (pa_cons (pv 8) pa_nil)) (pe_op op_sub (pv 1) (pe_call GR hr2 (by rfl) L.rank.gl L.rank.fn.kp L.rank.bd .nil pass0 (pa_cons (pv 10) pa_nil))) (nomark _))
        (pe_one (pe_cmpR op_eq (pe_call GR hr2 (by rfl) L.rank.gl L.rank.fn.kp L.rank.bd .nil pass0 (pa_cons (pv 8) pa_nil)) (pe_callB call_len_seq (by rfl) B.len PySem.boot_len (pa_cons (pv 8) pa_nil)) (nomark _))))))))))))))), ?_⟩
    refine ⟨_, rfl, a, ns, _, rfl, hS, hnl, by decide, fun z0 H1 s1 => ⟨_, _, rfl, rfl, (by decide : (0 : Int) < 5), _, _, rfl, rfl, ?_⟩⟩
    obtain ⟨n, en, hn1, hn5⟩ : ∃ n : Nat, 1 + z0 % 5 = (n : Int) ∧ 1 ≤ n ∧ n ≤ 5 := ⟨(1 + z0 % 5).toNat, by omega, by omega, by omega⟩
    refine gN ?_
    dsimp only
    rw [en]
    refine ⟨_, rfl, _, rfl, a, ns, n, rfl, s1.seq hS, hnl, hn5, fun p us ms H2 s2 hm hwm hml hbm => ?_⟩
    refine gN ?_
    dsimp only
    have s02 := s1.trans s2
    refine ⟨_, rfl, _, rfl, by omega, by omega, fun sa hsa => ?_⟩
    rw [Int.toNat_natCast]
    refine comp_by n (small (by omega)) (fun i ys σ H4 => (∃ v, σ = [v, some (.ref a)]) ∧ Same H2 H4 ∧ H4 sa = some (.lst ys) ∧ ∃ st : List Int, ys = iv st ∧ Wf i st)
      ⟨⟨none, rfl⟩, Same.new hsa, upd_same, [], rfl, rfl, fun x h => absurd h (by simp)⟩ (fun i ys σ H4 ⟨_, _, _, st, e, hw⟩ => by rw [e, List.length_map]; exact hw.1) (fun i ys σ H4 hi _ => hi) (fun ys σ H4 _ => Nat.le_refl _)
      (fun i ys σ H4 x H5 hi ⟨⟨v, es⟩, s4, hs4, st, eS, hwS⟩ y => ?_) (fun ys σ H4 ⟨_, s4, hs4, st, eS, hwS⟩ => ?_)
    · obtain ⟨e5, ex⟩ := y
      subst e5 ex es
      refine ⟨_, rfl, _, rfl, _, _, rfl, rfl, a, ns, _, rfl, (s02.trans s4).seq hS, hnl, by omega, fun z H6 s6 => ⟨_, _, rfl, rfl, (by decide : (0 : Int) < 4), s6 _ _ hs4, ⟨_, rfl⟩, (s4.trans s6).put hsa, upd_same, st ++ [z % 4], by rw [eS, iv_snoc], hwS.snoc (by omega)⟩⟩
    · subst eS
      refine gN ?_
      dsimp only
      have s04 := s02.trans s4
      have hm4 := hm.same s4
      have hst4 : IntsAt H4 sa st := hs4
      clear hm s1 s2 s4 hs4
      refine ⟨_, rfl, p, rfl, ⟨us, SqL.of hm4.li⟩, fun oa hoa => ?_⟩
      refine comp_by ms.length (small (by omega)) (fun i ys σ H5 => (∃ v u, σ = [v, u]) ∧ Same H4 H5 ∧ MvsH H5 oa ys (ms.take i) ∧ i ≤ ms.length)
        ⟨⟨none, none, rfl⟩, Same.new hoa, ⟨upd_same, by simp, fun i m e => by simp at e⟩, Nat.zero_le _⟩ (fun i ys σ H5 ⟨_, _, hM, hi⟩ => ?_) (fun i ys σ H5 hi ⟨_, s5, _⟩ => ?_) (fun ys σ H5 ⟨_, s5, _⟩ => ?_) (fun i ys σ H5 x H6 hi ⟨⟨v, u, es⟩, s5, hM, _⟩ y => ?_) (fun ys σ H5 ⟨_, s5, hM, _⟩ => ?_)
      · rw [hM.len, List.length_take]; omega
      · exact ⟨us, us[i]'(by rw [hm4.len]; exact hi), SqL.of (hm4.same s5).li, by simp [hm4.len, hi]⟩
      · exact ⟨us, SqL.of (hm4.same s5).li, by rw [hm4.len]; exact Nat.le_refl _⟩
      · obtain ⟨e3, hx⟩ := y
        subst e3 es
        obtain ⟨m, em, t, x1, y1, rfl, ht, h1, h2⟩ := (hm4.same s5).get (hx us (SqL.of (hm4.same s5).li))
        refine ⟨t, _, rfl, SqT.of ht, rfl, _, _, rfl, _, _, rfl, rfl, ?_⟩
        refine ⟨_, rfl, x1, _, rfl, .inl (SqL.of h1), fun l1 hl1 => ?_⟩
        refine ⟨_, rfl, y1, _, rfl, .inl (SqL.of (h2.same (Same.new hl1))), fun l2 hl2 => ?_⟩
        refine ⟨small (show 2 ≤ 1000 by decide), fun l3 hl3 => ?_⟩
        have sa' : Same H6 (upd H6 l1 (.lst (iv m.1))) := Same.new hl1
        have sb : Same (upd H6 l1 (.lst (iv m.1))) (upd (upd H6 l1 (.lst (iv m.1))) l2 (.lst (iv m.2))) := Same.new hl2
        have sc : Same (upd (upd H6 l1 (.lst (iv m.1))) l2 (.lst (iv m.2))) (upd (upd (upd H6 l1 (.lst (iv m.1))) l2 (.lst (iv m.2))) l3 (.tup [.ref l1, .ref l2])) := Same.new hl3
        have s3 := (sa'.trans sb).trans sc
        have n1 : l1 ≠ oa := Ne.symm (ne_of_none hM.li hl1)
        have n2 : l2 ≠ oa := Ne.symm (ne_of_none (sa' _ _ hM.li) hl2)
        have n3 : l3 ≠ oa := Ne.symm (ne_of_none ((sa'.trans sb) _ _ hM.li) hl3)
        have hnew : MvAt (hid oa (upd (upd (upd H6 l1 (.lst (iv m.1))) l2 (.lst (iv m.2))) l3 (.tup [.ref l1, .ref l2]))) (.ref l3) m := ⟨l3, l1, l2, rfl, hid_of upd_same n3, hid_of (sc _ _ (sb _ _ upd_same)) n1, hid_of (sc _ _ upd_same) n2⟩
        refine ⟨s3 _ _ hM.li, ⟨_, _, rfl⟩, (s5.trans s3).put hoa, ?_, hi⟩
        rw [← take_snoc em]
        exact (hM.same s3).snoc hnew
      · rw [List.take_of_length_le (Nat.le_refl _)] at hM
        refine gN ?_
        dsimp only
        have hq5 := hst4.same s5
        refine ⟨_, rfl, sa, _, rfl, .inl (SqL.of hq5), fun ob hob => ?_⟩
        refine gN ?_
        dsimp only
        have s6 : Same H5 (upd H5 ob (.lst (iv st))) := Same.new hob
        have hob6 : IntsAt (upd H5 ob (.lst (iv st))) ob st := upd_same
        generalize upd H5 ob (.lst (iv st)) = H6 at *
        have s46 := s5.trans s6
        have hM6 := (hM.same s6).plain
        refine ⟨_, rfl, _, rfl, oa, ob, _, ms, st, n, rfl, hM6, hob6, hwS, hwm, hn1, hn5, hml, hbm, fun l rs ws H7 s7 hR hG => ?_⟩
        refine gN ?_
        dsimp only
        have s47 := s46.trans s7
        have hm7 := hm4.same s47
        have hst7 := hst4.same s47
        have hM7 := hM6.same s7
        have hob7 := hob6.same s7
        have s07 := s04.trans s47
        clear hM hM6 hob6 hq5 s6 s5 s46 hm4 hst4 s04 s02 s47 s7
        obtain ⟨hc1, hc2⟩ := hG.count
        refine ⟨_, rfl, _, rfl, small (show 2 ≤ 1000 by decide), fun la hla => ?_⟩
        have sa' : Same H7 (upd H7 la (.lst [.ref oa, .ref ob])) := Same.new hla
        refine ⟨_, rfl, _, rfl, small (show 2 ≤ 1000 by decide), fun lb hlb => ?_⟩
        have sb : Same (upd H7 la (.lst [.ref oa, .ref ob])) (upd (upd H7 la (.lst [.ref oa, .ref ob])) lb (.lst [.ref p, .ref sa])) := Same.new hlb
        have sab := sa'.trans sb
        have hb : ms.length * (3 + 2 * n) ≤ 65 := Nat.le_trans (Nat.mul_le_mul hml (by omega : 3 + 2 * n ≤ 13)) (by decide)
        refine ⟨.ref la, .ref lb, _, rfl, SameT.lst la lb [(.ref oa, .ref p, 1 + ms.length * (3 + 2 * n)), (.ref ob, .ref sa, 1 + st.length)] (sb _ _ upd_same) upd_same (fun r hr => ?_), ?_, fun H8 s8 => ⟨_, rfl, iteF ?_⟩⟩
        · rcases List.mem_cons.mp hr with rfl | hr
          · exact same_mvs (hM7.same sab) (hm7.same sab) hwm
          · rw [List.mem_singleton.mp hr]
            exact same_ints (hob7.same sab) (hst7.same sab)
        · have := hwS.1
          simp only [List.map_cons, List.map_nil, List.sum_cons, List.sum_nil]
          omega
        have s78 := sab.trans s8
        have hR8 := hR.same s78
        have hm8 := hm7.same s78
        have s08 := s07.trans s78
        clear hR hm7 hst7 hM7 hob7 sa' sb sab s8 s07
        refine ⟨_, rfl, _, _, _, true, rfl, TyOf.lst hR8.li, .inl ⟨"list", rfl, kit_ll _⟩, _, rfl, iteF ?_⟩
        refine ⟨_, rfl, l, rfl, ⟨_, SqL.of hR8.li⟩, for_list (K := K) (a := l) (xs := rs) (fun i σ H9 => Same H8 H9 ∧ ∃ u, σ = [some (.ref a), some (.int (n : Nat)), some (.ref p), some (.ref sa), none, none, some (.ref oa), some (.ref ob), some (.ref l), u, none]) ⟨Same.refl _, none, rfl⟩ (fun i σ H9 _ ⟨s9, _⟩ => SqL.of (s9 _ _ hR8.li)) ?_ ?_⟩
        · rintro i x σ H9 hx ⟨s9, u, rfl⟩
          have hi : i < ws.length := by rw [← hR8.len]; exact (List.getElem?_eq_some_iff.mp hx).1
          have er : ws[i]? = some ws[i] := by simp [hi]
          obtain ⟨b, e1, e2⟩ := hR8.at' i _ er
          rw [hx] at e1
          cases e1
          have hmem := List.mem_of_getElem? er
          generalize ws[i] = r at *
          refine ⟨_, rfl, _, rfl, _, rfl, b, p, us, ms, r, n, 1000000, rfl, e2.same s9, hm8.same s9, hG.len r hmem, by omega, hwm, hG.one r hmem, hG.sgn r hmem, hG.orth r hmem, hG.bits r hmem, fun m hm => ⟨(hbm m hm).1.mono (by decide), (hbm m hm).2.mono (by decide)⟩, by decide, fun H10 s10 => ⟨_, rfl, iteF ⟨s9.trans s10, _, rfl⟩⟩⟩
        · rintro σ H9 ⟨s9, u, rfl⟩
          have hR9 := hR8.same s9
          have hm9 := hm8.same s9
          have s09 := s08.trans s9
          clear hR8 hm8 s08 s78
          refine ⟨Nat.zero_le _, fun ch hch => ?_⟩
          refine gN ?_
          dsimp only
          have sc : Same H9 (upd H9 ch (.lst [])) := Same.new hch
          refine ⟨_, rfl, p, rfl, ⟨us, SqL.of (hm9.same sc).li⟩, for_list (K := K) (a := p) (xs := us) (fun i σ H10 => ∃ (vs : List V) (u4 u5 : Option V), σ = [some (.ref a), some (.int (n : Nat)), some (.ref p), some (.ref sa), u4, u5, some (.ref oa), some (.ref ob), some (.ref l), u, some (.ref ch)] ∧ Same H9 H10 ∧ RowsAt H10 ch vs ((ms.take i).map (chg n)))
            ⟨[], none, none, rfl, sc, upd_same, by simp, fun i r e => by simp at e⟩ (fun i σ H10 _ ⟨_, _, _, _, s10, _⟩ => SqL.of (hm9.same s10).li) ?_ ?_⟩
          · rintro i x σ H10 hx ⟨vs, u4, u5, rfl, s10, hC⟩
            obtain ⟨m, em, t, x1, y1, rfl, ht, h1, h2⟩ := (hm9.same s10).get hx
            have hmem := List.mem_of_getElem? em
            have hwf := hwm m hmem
            have hi : i < ms.length := (List.getElem?_eq_some_iff.mp em).1
            refine ⟨t, _, rfl, SqT.of ht, rfl, _, _, rfl, _, _, rfl, rfl, ?_⟩
            refine ⟨_, rfl, .inl ⟨rfl, _, SqL.of hC.li⟩, _, rfl, _, rfl, by omega, by omega, fun ac hac => ?_⟩
            rw [Int.toNat_natCast]
            refine comp_by n (small (by omega)) (fun j ys σ H11 => (∃ v, σ = [v, some (.ref y1), some (.ref x1)]) ∧ H11 = upd H10 ac (.lst ys) ∧ ys = iv ((chg n m).take j) ∧ j ≤ n) ⟨⟨none, rfl⟩, rfl, by simp, Nat.zero_le _⟩ (fun j ys σ H11 ⟨_, _, e, hj⟩ => ?_) (fun j ys σ H11 hj _ => hj) (fun ys σ H11 _ => Nat.le_refl _) (fun j ys σ H11 x H12 hj ⟨⟨v, es⟩, eh, ey, _⟩ y => ?_) (fun ys σ H11 ⟨_, eh, ey, _⟩ => ?_)
            · rw [e, List.length_map, List.length_take, chg_length]
              omega
            · obtain ⟨e6, ex⟩ := y
              subst e6 ex es
              have sh : Same H10 H12 := by rw [eh]; exact Same.new hac
              have at2 : atI (iv m.2) (0 + (j : Int)) = some (.int (co m.2 j)) := by rw [Int.zero_add]; exact iv_at (co_get (by rw [hwf.2.1]; exact hj))
              have at3 : atI (iv m.1) (0 + (j : Int)) = some (.int (co m.1 j)) := by rw [Int.zero_add]; exact iv_at (co_get (by rw [hwf.1.1]; exact hj))
              refine ⟨_, rfl, _, rfl, y1, _, _, _, rfl, rfl, SqL.of (sh _ _ h2), at2, _, rfl, _, rfl, x1, _, _, _, rfl, rfl, SqL.of (sh _ _ h1), at3, _, _, rfl, rfl, ?_⟩
              refine ⟨by rw [eh]; exact upd_same, ⟨_, rfl⟩, by rw [eh, upd_upd], ?_, hj⟩
              have e7 : (chg n m)[j]? = some (co m.2 j - co m.1 j) := by
                unfold chg
                rw [List.getElem?_map, List.getElem?_range hj]
                rfl
              rw [ey, ← take_snoc e7, iv_snoc]
            · rw [List.take_of_length_le (by rw [chg_length]; exact Nat.le_refl _)] at ey
              subst eh ey
              have sn : Same H10 (upd H10 ac (.lst (iv (chg n m)))) := Same.new hac
              have na : ac ≠ ch := Ne.symm (ne_of_none hC.li hac)
              have hvl : vs.length = i := by rw [hC.len]; simp; omega
              refine ⟨ch, _, _, rfl, rfl, sn _ _ hC.li, by rw [hvl]; exact small1000 (by omega), ?_⟩
              refine ⟨vs ++ [.ref ac], _, _, rfl, (s10.trans sn).put hch, ?_⟩
              rw [← take_snoc em, List.map_append]
              refine .put (by simp [hvl]; omega) fun j r e => ?_
              by_cases hj : j < i
              · rw [List.getElem?_append_left (by simp; omega)] at e
                obtain ⟨b, e1, e2⟩ := hC.at' j r e
                exact ⟨b, by rw [List.getElem?_append_left (by omega)]; exact e1, e2.same (hid_same sn)⟩
              · have hlen : j < i + 1 := by have := (List.getElem?_eq_some_iff.mp e).1; simp at this; omega
                have : j = i := by omega
                subst this
                rw [List.getElem?_append_right (by simp; omega)] at e
                have e' : chg n m = r := by
                  have hz : j - ((ms.take j).map (chg n)).length = 0 := by simp; omega
                  rw [hz] at e
                  simpa using e
                subst e'
                exact ⟨ac, by rw [← hvl]; simp, hid_of upd_same na⟩
          · rintro σ H10 ⟨vs, u4, u5, rfl, s10, hC⟩
            rw [hm9.len, List.take_of_length_le (Nat.le_refl _)] at hC
            have hR10 := hR9.same s10
            refine ⟨_, rfl, l, _, rfl, .inl (SqL.of hR10.li), _, rfl, _, rfl, ch, _, ms.map (chg n), n, 106, rfl, hC.plain, fun r hr => ?_, by omega, by rw [List.length_map]; omega, ?_, fun H11 s11 => ?_⟩
            · obtain ⟨m, hm, rfl⟩ := List.mem_map.mp hr
              exact ⟨chg_length n m, bits_chg (hbm m hm)⟩
            · rw [List.length_map]
              have : 2 ^ ms.length ≤ 2 ^ 5 := Nat.pow_le_pow_right (by decide) hml
              omega
            · have e1 : V.int (rs.length : Int) = V.int ((n : Int) - (rk n (ms.map (chg n)).length (ms.map (chg n)) : Nat)) := by rw [hR10.len]; congr 1; omega
              have hwl : ws.length ≤ 5 := by omega
              refine ⟨_, _, rfl, rfl, rfl, _, rfl, ?_⟩
              rw [show decide (V.int (rs.length : Int) = V.int ((n : Int) - (rk n (ms.map (chg n)).length (ms.map (chg n)) : Nat))) = true from decide_eq_true e1]
              refine iteT ⟨_, rfl, l, rs, ws, n, 1000000, rfl, hR10.same s11, fun r hr => ⟨hG.len r hr, hG.bits r hr⟩, by omega, by omega, ?_, fun H12 s12 => ?_⟩
              · have : 2 ^ ws.length ≤ 2 ^ 5 := Nat.pow_le_pow_right (by decide) hwl
                omega
              · refine ⟨_, rfl, l, _, rfl, .inl (SqL.of ((hR10.same s11).same s12).li), rfl, ?_⟩
                rw [hc2, hR10.len, decide_eq_true rfl]
                exact hend _ (((s09.trans s10).trans s11).trans s12)
end
end Bd

set_option linter.all false
set_option maxRecDepth 100000
set_option maxHeartbeats 4000000
namespace Bd
open PySem L2 Lin
open PySem.Builtin.Int (intBits)
abbrev sSumBy : Stmt := top 7
abbrev sChgBy : Stmt := top 8
abbrev sCdiv : Stmt := top 9
abbrev sFirst : Stmt := top 10
abbrev sLow : Stmt := top 11
abbrev sUnit : Stmt := top 12
abbrev sMade : Stmt := top 13
abbrev sKept : Stmt := top 14
/-! ### the greatest common divisor, and a row in its lowest form -/
theorem gcdF_dvd (xs : List Int) : ∀ g : Nat, xs.foldl (fun g x => Nat.gcd g x.natAbs) g ∣ g ∧ ∀ x ∈ xs, xs.foldl (fun g x => Nat.gcd g x.natAbs) g ∣ x.natAbs := by
  induction xs with
  | nil => exact fun g => ⟨Nat.dvd_refl _, fun x h => absurd h (by simp)⟩
  | cons y ys ih =>
    intro g
    obtain ⟨h1, h2⟩ := ih (Nat.gcd g y.natAbs)
    refine ⟨Nat.dvd_trans h1 (Nat.gcd_dvd_left _ _), fun x hx => ?_⟩
    rcases List.mem_cons.mp hx with rfl | hx
    · exact Nat.dvd_trans h1 (Nat.gcd_dvd_right _ _)
    · exact h2 x hx
theorem gcdF_max (xs : List Int) (d : Nat) (h : ∀ x ∈ xs, d ∣ x.natAbs) : ∀ g : Nat, d ∣ g → d ∣ xs.foldl (fun g x => Nat.gcd g x.natAbs) g := by
  induction xs with
  | nil => exact fun g hg => hg
  | cons y ys ih => exact fun g hg => ih (fun x hx => h x (List.mem_cons_of_mem _ hx)) _ (Nat.dvd_gcd hg (h y (List.mem_cons_self ..)))
theorem gcdL_dvd {xs : List Int} {x : Int} (h : x ∈ xs) : gcdL xs ∣ x.natAbs := (gcdF_dvd xs 0).2 x h
theorem gcdL_max {xs : List Int} {d : Nat} (h : ∀ x ∈ xs, d ∣ x.natAbs) : d ∣ gcdL xs := gcdF_max xs d h 0 (Nat.dvd_zero d)
theorem filled_mem {xs t : List Int} {f : Int} (h : filled xs = f :: t) : f ∈ xs ∧ f ≠ 0 := by
  have : f ∈ filled xs := by rw [h]; exact List.mem_cons_self ..
  unfold filled at this
  obtain ⟨h1, h2⟩ := List.mem_filter.mp this
  exact ⟨h1, of_decide_eq_true h2⟩
theorem filled_some {xs : List Int} {x : Int} (h : x ∈ xs) (hx : x ≠ 0) : ∃ f t, filled xs = f :: t := by
  have : x ∈ filled xs := List.mem_filter.mpr ⟨h, decide_eq_true hx⟩
  cases e : filled xs with
  | nil => rw [e] at this; exact absurd this (by simp)
  | cons f t => exact ⟨f, t, rfl⟩
theorem gcdL_pos {xs t : List Int} {f : Int} (h : filled xs = f :: t) : 0 < gcdL xs := by
  obtain ⟨h1, h2⟩ := filled_mem h
  exact Nat.pos_of_dvd_of_pos (gcdL_dvd h1) (by omega)
/-- what a row is divided by, f its first number that isn't nought -/
def dv (f : Int) (r : List Int) : Int := if f < 0 then -(gcdL r : Int) else (gcdL r : Int)
def lowest (r : List Int) : List Int := r.map fun x => x.fdiv (dv ((filled r).headD 0) r)
theorem lowest_eq {r t : List Int} {f : Int} (h : filled r = f :: t) : lowest r = r.map fun x => x.fdiv (dv f r) := by unfold lowest; rw [h]; rfl
theorem dv_abs (f : Int) (r : List Int) : (dv f r).natAbs = gcdL r := by unfold dv; split <;> omega
theorem dv_dvd {f x : Int} {r : List Int} (h : x ∈ r) : dv f r ∣ x := by
  rw [← Int.natAbs_dvd_natAbs, dv_abs]
  exact gcdL_dvd h
theorem dv_ne {r t : List Int} {f : Int} (h : filled r = f :: t) : dv f r ≠ 0 := fun e => by
  have h1 := gcdL_pos h
  have h2 := dv_abs f r
  rw [e] at h2
  simp at h2
  omega
theorem dv_mul {f x : Int} {r : List Int} (h : x ∈ r) : dv f r * x.fdiv (dv f r) = x := Int.mul_fdiv_cancel' (dv_dvd h)
theorem dv_log {b : Nat} {r t : List Int} {f : Int} (h : filled r = f :: t) (hb : Bits b r) {c : Nat} (hb9 : b ≤ c) : (dv f r).natAbs.log2 < c := by
  obtain ⟨h1, h2⟩ := filled_mem h
  have h3 := intBits_le_iff.mp (hb f h1)
  have h4 : gcdL r ≤ f.natAbs := Nat.le_of_dvd (by omega) (gcdL_dvd h1)
  have h5 : (2 : Nat) ^ b ≤ 2 ^ c := Nat.pow_le_pow_right (by decide) hb9
  have h6 := gcdL_pos h
  rw [dv_abs, Nat.log2_lt (Nat.ne_of_gt h6)]
  exact Nat.lt_of_le_of_lt h4 (Nat.lt_of_lt_of_le h3 h5)
theorem lowest_length (r : List Int) : (lowest r).length = r.length := by unfold lowest; rw [List.length_map]
theorem lowest_bits {b : Nat} {r : List Int} (h : Bits b r) : Bits b (lowest r) := fun x hx => by
  unfold lowest at hx
  obtain ⟨y, hy, rfl⟩ := List.mem_map.mp hx
  exact intBits_fdiv_le (h y hy)
theorem lowest_co {r t : List Int} {f : Int} (h : filled r = f :: t) (j : Nat) : co r j = dv f r * co (lowest r) j := by
  rw [lowest_eq h]
  by_cases hj : j < r.length
  · have h1 : co (r.map fun x => x.fdiv (dv f r)) j = (co r j).fdiv (dv f r) := by
      unfold co
      rw [List.getD_eq_getElem?_getD, List.getElem?_map, List.getD_eq_getElem?_getD, List.getElem?_eq_getElem hj]
      rfl
    rw [h1]
    exact (dv_mul (List.mem_of_getElem? (co_get hj))).symm
  · unfold co
    rw [List.getD_eq_getElem?_getD, List.getD_eq_getElem?_getD, List.getElem?_eq_none (by omega), List.getElem?_eq_none (by rw [List.length_map]; omega)]
    show (0 : Int) = _ * 0
    rw [Int.mul_zero]
theorem lowest_one {r t : List Int} {f : Int} (h : filled r = f :: t) : gcdL (lowest r) = 1 := by
  have hp := gcdL_pos h
  have h1 : gcdL r * gcdL (lowest r) ∣ gcdL r := gcdL_max fun x hx => by
    have h2 : x.fdiv (dv f r) ∈ lowest r := by rw [lowest_eq h]; exact List.mem_map_of_mem (f := fun x => x.fdiv (dv f r)) hx
    have h3 := gcdL_dvd h2
    have h4 : x.natAbs = gcdL r * (x.fdiv (dv f r)).natAbs := by
      rw [← dv_abs f r, ← Int.natAbs_mul, dv_mul hx]
    rw [h4]
    exact Nat.mul_dvd_mul_left _ h3
  have h5 : gcdL r * gcdL (lowest r) ∣ gcdL r * 1 := by rw [Nat.mul_one]; exact h1
  exact Nat.dvd_one.mp (Nat.dvd_of_mul_dvd_mul_left hp h5)
theorem filled_map {q : Int → Int} : ∀ {r : List Int}, (∀ x ∈ r, (q x ≠ 0 ↔ x ≠ 0)) → filled (r.map q) = (filled r).map q
  | [], _ => rfl
  | x :: xs, h => by
    have ih := filled_map (q := q) (r := xs) fun y hy => h y (List.mem_cons_of_mem _ hy)
    have hx := h x (List.mem_cons_self ..)
    unfold filled at ih ⊢
    rw [List.map_cons]
    by_cases e : x ≠ 0
    · rw [List.filter_cons_of_pos (by simpa using hx.mpr e), List.filter_cons_of_pos (by simpa using e), List.map_cons, ih]
    · rw [List.filter_cons_of_neg (by simpa using fun z => e (hx.mp z)), List.filter_cons_of_neg (by simpa using e), ih]
theorem lowest_sgn {r t : List Int} {f : Int} (h : filled r = f :: t) : ∃ f' t', filled (lowest r) = f' :: t' ∧ 0 < f' := by
  have hne := dv_ne h
  obtain ⟨h1, h2⟩ := filled_mem h
  refine ⟨f.fdiv (dv f r), t.map fun x => x.fdiv (dv f r), ?_, ?_⟩
  · rw [lowest_eq h, filled_map, h, List.map_cons]
    intro x hx
    have hm := dv_mul (f := f) hx
    refine ⟨fun z e => z ?_, fun z e => z ?_⟩
    · rw [e, Int.zero_fdiv]
    · rw [← hm, e, Int.mul_zero]
  · have hm := dv_mul (f := f) h1
    have hp := gcdL_pos h
    generalize f.fdiv (dv f r) = q at *
    unfold dv at hm
    by_cases hf : f < 0
    · rw [if_pos hf] at hm
      rcases Int.lt_or_le 0 q with z | z
      · exact z
      · have := Int.mul_nonneg_of_nonpos_of_nonpos (a := -(gcdL r : Int)) (b := q) (by omega) z
        omega
    · rw [if_neg hf] at hm
      rcases Int.lt_or_le 0 q with z | z
      · exact z
      · have := Int.mul_nonpos_of_nonneg_of_nonpos (a := (gcdL r : Int)) (b := q) (by omega) z
        omega
/-! ### the sum by weights, and what a move changes of it -/
def sumBy (ws xs : List Int) : Int := ((ws.zip xs).map fun p => p.1 * p.2).sum
def chgBy (r : List Int) (m : Mv) : Int := sumBy r m.2 - sumBy r m.1
def mixL (r : List Int) (c : Int) (o : List Int) (d : Int) : List Int := (r.zip o).map fun p => p.1 * d - p.2 * c
theorem zip_range {n : Nat} {a b : List Int} (ha : a.length = n) (hb : b.length = n) : a.zip b = (List.range n).map fun j => (co a j, co b j) := by
  refine List.ext_getElem? fun j => ?_
  by_cases hj : j < n
  · rw [List.getElem?_map, List.getElem?_range hj, (List.getElem?_zip_eq_some (z := (co a j, co b j))).mpr ⟨co_get (xs := a) (by omega), co_get (xs := b) (by omega)⟩]
    rfl
  · rw [List.getElem?_eq_none (by simp; omega), List.getElem?_eq_none (by simp; omega)]
theorem sumBy_eq {n : Nat} {a b : List Int} (ha : a.length = n) (hb : b.length = n) : sumBy a b = sumN n fun j => co a j * co b j := by
  unfold sumBy
  rw [zip_range ha hb, List.map_map, ← range_sum]
  rfl
theorem chgBy_wsum {n : Nat} {r : List Int} {m : Mv} (hr : r.length = n) (h : Wf n m.1 ∧ Wf n m.2) : chgBy r m = wsum n r m := by
  unfold chgBy wsum
  rw [sumBy_eq hr h.2.1, sumBy_eq hr h.1.1, range_sum, ← sumN_sub]
  exact sumN_congr fun j _ => by rw [Int.mul_sub]
theorem chgBy_dot {n : Nat} {r : List Int} {m : Mv} (hr : r.length = n) (h : Wf n m.1 ∧ Wf n m.2) : chgBy r m = dot n (co r) (co (chg n m)) := by
  rw [chgBy_wsum hr h, wsum_dot, dot_comm]
theorem sumN_bits {b : Nat} {f : Nat → Int} (h : ∀ j, (f j).natAbs < 2 ^ b) : ∀ n, (sumN n f).natAbs ≤ n * 2 ^ b
  | 0 => by simp [sumN]
  | n + 1 => by
    have := sumN_bits h n
    have h2 := h n
    rw [sumN, Nat.succ_mul]
    omega
theorem sumBy_bits {n b c : Nat} {a x : List Int} (ha : a.length = n) (hx : x.length = n) (hn : n ≤ 5) (ba : Bits b a) (bx : Bits c x) : intBits (sumBy a x) ≤ b + c + 3 := by
  rw [sumBy_eq ha hx, intBits_le_iff]
  have h1 := sumN_bits (b := b + c) (f := fun j => co a j * co x j) (fun j => intBits_le_iff.mp (intBits_mul_le (ba.co j) (bx.co j))) n
  have h2 : n * 2 ^ (b + c) ≤ 5 * 2 ^ (b + c) := Nat.mul_le_mul_right _ hn
  have h3 : 2 ^ (b + c + 3) = 8 * 2 ^ (b + c) := by rw [Nat.pow_add, Nat.mul_comm]
  have h4 := Nat.two_pow_pos (b + c)
  omega
theorem chgBy_bits {n b : Nat} {r : List Int} {m : Mv} (hr : r.length = n) (h : Wf n m.1 ∧ Wf n m.2) (hn : n ≤ 5) (br : Bits b r) (bm : BitsM 105 m) : intBits (chgBy r m) ≤ b + 109 := by
  have h1 := intBits_sub_le (sumBy_bits hr h.2.1 hn br bm.2) (sumBy_bits hr h.1.1 hn br bm.1)
  unfold chgBy
  omega
theorem mixL_eq {n : Nat} {r o : List Int} {c d : Int} (hr : r.length = n) (ho : o.length = n) : mixL r c o d = (List.range n).map fun j => co r j * d - co o j * c := by
  unfold mixL
  rw [zip_range hr ho, List.map_map]
  rfl
theorem mixL_length {n : Nat} {r o : List Int} {c d : Int} (hr : r.length = n) (ho : o.length = n) : (mixL r c o d).length = n := by rw [mixL_eq hr ho]; simp
theorem mixL_co {n j : Nat} {r o : List Int} {c d : Int} (hr : r.length = n) (ho : o.length = n) (hj : j < n) : co (mixL r c o d) j = co r j * d - co o j * c := by
  rw [mixL_eq hr ho]
  show ((List.range n).map _).getD j 0 = _
  rw [List.getD_eq_getElem?_getD, List.getElem?_map, List.getElem?_range hj]
  rfl
theorem mixL_bits {b e : Nat} {r o : List Int} {c d : Int} (br : Bits b r) (bo : Bits b o) (hc : intBits c ≤ e) (hd : intBits d ≤ e) : Bits (b + e + 1) (mixL r c o d) := fun x hx => by
  obtain ⟨p, hp, rfl⟩ := List.mem_map.mp hx
  have h1 := List.of_mem_zip hp
  have := intBits_sub_le (intBits_mul_le (br _ h1.1) hd) (intBits_mul_le (bo _ h1.2) hc)
  show intBits (p.1 * d - p.2 * c) ≤ _
  omega
/-! ### the weights kept by one more move -/
def rowAt (ws : List (List Int)) (i : Nat) : List Int := ws.getD i []
def mixAt (m : Mv) (ws : List (List Int)) (k i : Nat) : List Int := mixL (rowAt ws i) (chgBy (rowAt ws i) m) (rowAt ws k) (chgBy (rowAt ws k) m)
def keptOf (m : Mv) (ws : List (List Int)) (k : Nat) : List (List Int) := (List.range (ws.length - 1)).map fun i => lowest (mixAt m ws k (skip k i))
theorem rowAt_mem {ws : List (List Int)} {i : Nat} (h : i < ws.length) : rowAt ws i ∈ ws := by
  unfold rowAt
  rw [List.getD_eq_getElem?_getD, List.getElem?_eq_getElem h]
  exact List.getElem_mem h
theorem rowAt_get {ws : List (List Int)} {i : Nat} (h : i < ws.length) : ws[i]? = some (rowAt ws i) := by
  unfold rowAt
  rw [List.getD_eq_getElem?_getD, List.getElem?_eq_getElem h]
  rfl
theorem Good.keep {n b : Nat} {ms : List Mv} {ws : List (List Int)} {m : Mv} (G : Good n ms b ws) (hm : Wf n m.1 ∧ Wf n m.2) (h : ∀ r ∈ ws, chgBy r m = 0) : Good n (ms ++ [m]) b ws :=
  ⟨G.len, G.bits, G.one, G.sgn, fun r hr m' hm' => by
    rcases List.mem_append.mp hm' with z | z
    · exact G.orth r hr m' z
    · rw [List.mem_singleton.mp z, ← chgBy_wsum (G.len r hr) hm]
      exact h r hr, G.ind, fun u hu => G.all u fun m' hm' => hu m' (List.mem_append_left _ hm')⟩
theorem Good.mono {n b c : Nat} {ms : List Mv} {ws : List (List Int)} (G : Good n ms b ws) (h : b ≤ c) : Good n ms c ws := ⟨G.len, fun r hr => (G.bits r hr).mono h, G.one, G.sgn, G.orth, G.ind, G.all⟩
theorem mat_row (ws : List (List Int)) (i : Nat) : mat ws i = co (rowAt ws i) := rfl
section
variable {n b k : Nat} {ms : List Mv} {ws : List (List Int)} {m : Mv} (G : Good n ms b ws) (hm : Wf n m.1 ∧ Wf n m.2) (hk : k < ws.length)
include G hm hk
theorem mixAt_co {i j : Nat} (hi : i < ws.length - 1) (hj : j < n) : co (mixAt m ws k (skip k i)) j = mixed n k (mat ws) (co (chg n m)) i j := by
  have h1 : skip k i < ws.length := by have := skip_lt (i0 := k) hi; omega
  have l1 := G.len _ (rowAt_mem h1)
  have l2 := G.len _ (rowAt_mem hk)
  unfold mixAt mixed
  rw [mixL_co l1 l2 hj, chgBy_dot l1 hm, chgBy_dot l2 hm, mat_row, mat_row, Int.mul_comm (co (rowAt ws (skip k i)) j), Int.mul_comm (co (rowAt ws k) j)]
theorem mixAt_filled (hc : chgBy (rowAt ws k) m ≠ 0) {i : Nat} (hi : i < ws.length - 1) : ∃ f t, filled (mixAt m ws k (skip k i)) = f :: t := by
  have h1 : skip k i < ws.length := by have := skip_lt (i0 := k) hi; omega
  have l1 := G.len _ (rowAt_mem h1)
  have l2 := G.len _ (rowAt_mem hk)
  have hp : ws.length - 1 + 1 = ws.length := by omega
  have hd : dot n (mat ws k) (co (chg n m)) ≠ 0 := by rw [mat_row, ← chgBy_dot l2 hm]; exact hc
  have I : Ind (ws.length - 1) n (mixed n k (mat ws) (co (chg n m))) := mixed_ind (by omega) hd (by rw [hp]; exact G.ind)
  refine Classical.byContradiction fun hno => ?_
  have hz : ∀ j, j < n → mixed n k (mat ws) (co (chg n m)) i j = 0 := fun j hj => Classical.byContradiction fun hne => hno (by
    rw [← mixAt_co G hm hk hi hj] at hne
    exact filled_some (List.mem_of_getElem? (co_get (by rw [mixAt, mixL_length l1 l2]; exact hj))) hne)
  have := I (fun i' => if i' = i then 1 else 0) (fun j hj => by
    rw [sumN_one hi (fun i' => (if i' = i then (1 : Int) else 0) * mixed n k (mat ws) (co (chg n m)) i' j) fun i' _ ne => by rw [if_neg ne, Int.zero_mul], hz j hj, Int.mul_zero]) i hi
  rw [if_pos rfl] at this
  exact absurd this (by decide)
theorem mixAt_length {i : Nat} (hi : i < ws.length) : (mixAt m ws k i).length = n := mixL_length (G.len _ (rowAt_mem hi)) (G.len _ (rowAt_mem hk))
theorem mixAt_bits (hn : n ≤ 5) (bm : BitsM 105 m) {i : Nat} (hi : i < ws.length) : Bits (2 * b + 112) (mixAt m ws k i) := by
  have l1 := G.len _ (rowAt_mem hi)
  have l2 := G.len _ (rowAt_mem hk)
  have b1 := G.bits _ (rowAt_mem hi)
  have b2 := G.bits _ (rowAt_mem hk)
  exact (mixL_bits b1 b2 (chgBy_bits l1 hm hn b1 bm) (chgBy_bits l2 hm hn b2 bm)).mono (by omega)
theorem Good.more (hn : n ≤ 5) (bm : BitsM 105 m) (hc : chgBy (rowAt ws k) m ≠ 0) : Good n (ms ++ [m]) (2 * b + 112) (keptOf m ws k) := by
  have hp : ws.length - 1 + 1 = ws.length := by omega
  have l2 := G.len _ (rowAt_mem hk)
  have hd : dot n (mat ws k) (co (chg n m)) ≠ 0 := by rw [mat_row, ← chgBy_dot l2 hm]; exact hc
  have hsk : ∀ i, i < ws.length - 1 → skip k i < ws.length := fun i hi => by have := skip_lt (i0 := k) hi; omega
  have hlen : (keptOf m ws k).length = ws.length - 1 := by unfold keptOf; simp
  have hmem : ∀ r ∈ keptOf m ws k, ∃ i, i < ws.length - 1 ∧ r = lowest (mixAt m ws k (skip k i)) := fun r hr => by
    obtain ⟨i, hi, rfl⟩ := List.mem_map.mp hr
    exact ⟨i, List.mem_range.mp hi, rfl⟩
  have hrow : ∀ i, i < ws.length - 1 → mat (keptOf m ws k) i = co (lowest (mixAt m ws k (skip k i))) := fun i hi => by
    funext j
    unfold mat keptOf
    rw [List.getD_eq_getElem?_getD, List.getElem?_map, List.getElem?_range hi]
    rfl
  have hfd : ∀ i, i < ws.length - 1 → ∃ f t, filled (mixAt m ws k (skip k i)) = f :: t := fun i hi => mixAt_filled G hm hk hc hi
  let g : Nat → Int := fun i => dv ((filled (mixAt m ws k (skip k i))).headD 0) (mixAt m ws k (skip k i))
  have hg : ∀ i, i < ws.length - 1 → g i ≠ 0 := fun i hi => by
    obtain ⟨f, t, e⟩ := hfd i hi
    show dv ((filled (mixAt m ws k (skip k i))).headD 0) _ ≠ 0
    rw [e]
    exact dv_ne e
  have hsc : ∀ i j, i < ws.length - 1 → j < n → mixed n k (mat ws) (co (chg n m)) i j = g i * mat (keptOf m ws k) i j := fun i j hi hj => by
    obtain ⟨f, t, e⟩ := hfd i hi
    rw [← mixAt_co G hm hk hi hj, hrow i hi, lowest_co e]
    show _ = dv ((filled (mixAt m ws k (skip k i))).headD 0) _ * _
    rw [e]
    rfl
  have I : Ind (ws.length - 1) n (mixed n k (mat ws) (co (chg n m))) := mixed_ind (by omega) hd (by rw [hp]; exact G.ind)
  have hsum : ∀ i, i < ws.length - 1 → ∀ x : Nat → Int, dot n (mixed n k (mat ws) (co (chg n m)) i) x = 0 → dot n (mat (keptOf m ws k) i) x = 0 := fun i hi x hx => by
    rw [dot_congr (fun j hj => hsc i j hi hj), dot_smul] at hx
    exact (Int.mul_eq_zero.mp hx).resolve_left (hg i hi)
  refine ⟨fun r hr => ?_, fun r hr => ?_, fun r hr => ?_, fun r hr => ?_, fun r hr m' hm' => ?_, ?_, fun u hu => ?_⟩
  · obtain ⟨i, hi, rfl⟩ := hmem r hr
    rw [lowest_length]
    exact mixAt_length G hm hk (hsk i hi)
  · obtain ⟨i, hi, rfl⟩ := hmem r hr
    exact lowest_bits (mixAt_bits G hm hk hn bm (hsk i hi))
  · obtain ⟨i, hi, rfl⟩ := hmem r hr
    obtain ⟨f, t, e⟩ := hfd i hi
    exact lowest_one e
  · obtain ⟨i, hi, rfl⟩ := hmem r hr
    obtain ⟨f, t, e⟩ := hfd i hi
    exact lowest_sgn e
  · obtain ⟨i, hi, rfl⟩ := hmem r hr
    rw [wsum_dot, dot_comm, ← hrow i hi]
    refine hsum i hi _ ?_
    rcases List.mem_append.mp hm' with z | z
    · have o1 := G.orth _ (rowAt_mem hk) m' z
      have o2 := G.orth _ (rowAt_mem (hsk i hi)) m' z
      rw [wsum_dot, dot_comm] at o1 o2
      exact mixed_keep i o1 o2
    · rw [List.mem_singleton.mp z]
      exact mixed_orth n k (mat ws) (co (chg n m)) i
  · rw [hlen]
    exact I.scale hg hsc
  · rw [hlen]
    have h1 := G.all u fun m' hm' => hu m' (List.mem_append_left _ hm')
    rw [← hp] at h1
    have h2 : dot n u (co (chg n m)) = 0 := by rw [dot_comm]; exact hu m (List.mem_append_right _ (List.mem_singleton.mpr rfl))
    exact (mixed_all (by omega) hd h2 h1).scale hsc
end
/-! ### at first -/
def unitL (n i : Nat) : List Int := (List.range n).map fun j => if j = i then 1 else 0
theorem unitL_co {n i j : Nat} (hj : j < n) : co (unitL n i) j = unit i j := by
  show ((List.range n).map _).getD j 0 = _
  rw [List.getD_eq_getElem?_getD, List.getElem?_map, List.getElem?_range hj]
  rfl
def unitsL (n : Nat) : List (List Int) := (List.range n).map (unitL n)
theorem Good.start (n : Nat) : Good n [] 1 (unitsL n) := by
  have hlen : (unitsL n).length = n := by unfold unitsL; simp
  have hmem : ∀ r ∈ unitsL n, ∃ i, i < n ∧ r = unitL n i := fun r hr => by
    obtain ⟨i, hi, rfl⟩ := List.mem_map.mp hr
    exact ⟨i, List.mem_range.mp hi, rfl⟩
  have hrow : ∀ i, i < n → mat (unitsL n) i = co (unitL n i) := fun i hi => by
    funext j
    unfold mat unitsL
    rw [List.getD_eq_getElem?_getD, List.getElem?_map, List.getElem?_range hi]
    rfl
  have hnum : ∀ i, ∀ x ∈ unitL n i, x = 0 ∨ x = 1 := fun i x hx => by
    obtain ⟨j, _, rfl⟩ := List.mem_map.mp hx
    by_cases e : j = i
    · exact .inr (if_pos e)
    · exact .inl (if_neg e)
  have hone : ∀ i, i < n → (1 : Int) ∈ unitL n i := fun i hi => List.mem_map.mpr ⟨i, List.mem_range.mpr hi, if_pos rfl⟩
  refine ⟨fun r hr => ?_, fun r hr x hx => ?_, fun r hr => ?_, fun r hr => ?_, fun r hr m hm => absurd hm (by simp), ?_, fun u hu => ?_⟩
  · obtain ⟨i, hi, rfl⟩ := hmem r hr
    unfold unitL
    simp
  · obtain ⟨i, hi, rfl⟩ := hmem r hr
    rw [intBits_le_iff]
    rcases hnum i x hx with rfl | rfl <;> decide
  · obtain ⟨i, hi, rfl⟩ := hmem r hr
    have := gcdL_dvd (hone i hi)
    exact Nat.dvd_one.mp this
  · obtain ⟨i, hi, rfl⟩ := hmem r hr
    obtain ⟨f, t, e⟩ := filled_some (hone i hi) (by decide)
    obtain ⟨h1, h2⟩ := filled_mem e
    refine ⟨f, t, e, ?_⟩
    rcases hnum i f h1 with z | z <;> omega
  · rw [hlen]
    have h := unit_ind n
    refine fun a ha i hi => h a (fun j hj => ?_) i hi
    rw [← ha j hj]
    exact sumN_congr fun i hi => by rw [hrow i hi, unitL_co hj]
  · rw [hlen]
    obtain ⟨q, hq, c, hc⟩ := unit_all (n := n) u
    refine ⟨q, hq, c, fun j hj => ?_⟩
    rw [hc j hj]
    exact sumN_congr fun i hi => by rw [hrow i hi, unitL_co hj]
end Bd

set_option linter.all false
set_option maxRecDepth 100000
set_option maxHeartbeats 4000000
namespace L2
open PySem
/-- [f(x, y) for x, y in zip(xs, ys)], the numbers known, more names at hand -/
theorem comp_zip2M {K : PySem.W.Frag} {c1 c2 : Addr × Bool} {acc : Addr} {xs ys : List Int} {te : TE} {H1 : Hp} {Q : Hp → Prop} (fs : St) (f : Int → Int → V) (hz : xs.length ≤ sizeLine) (hlen : xs.length = ys.length) (h1 : ∀ H, Same H1 H → SqB K H c1 (iv xs)) (h2 : ∀ H, Same H1 H → SqB K H c2 (iv ys)) (hacc : H1 acc = none)
    (he : ∀ x y H R, x ∈ xs → y ∈ ys → R (f x y) H → te (some (.int x) :: some (.int y) :: fs) H R) (hq : ∀ H, Same H1 H → H acc = some (.lst ((xs.zip ys).map fun p => f p.1 p.2)) → Q H) :
    ∃ W : Nat → Nat → St → Hp → Prop, (∃ m, W 0 m (none :: none :: fs) (upd H1 acc (.lst []))) ∧ ∀ i m σ H, W i m σ H → ((Itz K [c1, c2]).stop i H ∧ Q H) ∨
      ((Itz K [c1, c2]).go i H ∧ ∃ N : V → St → Hp → Prop, (∀ y σ' H', N y σ' H' → ∃ ys, H' acc = some (.lst ys) ∧ ys.length < sizeLine ∧ ∃ m', m' < m ∧ W (i + 1) m' σ' (upd H' acc (.lst (ys ++ [y])))) ∧
        ∀ x H', (Itz K [c1, c2]).yld i H x H' → gPair K x σ H' fun σ2 H2 => te σ2 H2 fun y H3 => N y σ2 H3) := by
  have row : ∀ H i (hi : i < xs.length), Same H1 H → ZOk K H i [(c1, iv xs, .int xs[i]), (c2, iv ys, .int (ys[i]'(by omega)))] := fun H i hi s p hp => by
    rcases List.mem_cons.mp hp with rfl | hp
    · exact ⟨h1 H s, by simp [hi]⟩
    · rw [List.mem_singleton.mp hp]
      exact ⟨h2 H s, by simp <;> omega⟩
  refine comp_by xs.length hz (fun i zs σ H => (∃ v u, σ = v :: u :: fs) ∧ zs = ((xs.zip ys).take i).map (fun p => f p.1 p.2) ∧ i ≤ xs.length ∧ Same H1 H ∧ H acc = some (.lst zs)) ⟨⟨none, none, rfl⟩, by simp, Nat.zero_le _, Same.new hacc, upd_same⟩
    (fun i zs σ H ⟨_, e, hi, _⟩ => by rw [e]; simp; omega) (fun i zs σ H hi ⟨_, _, _, s, _⟩ => ⟨_, rfl, row H i hi s⟩) (fun zs σ H ⟨_, _, _, s, _⟩ => ⟨[], c1, iv xs, [c2], rfl, fun p hp => absurd hp (by simp), h1 H s, by simp⟩)
    (fun i zs σ H x H' hi ⟨⟨v, u, es⟩, ey, _, s, ea⟩ y => ?_) (fun zs σ H ⟨_, e1, _, s, e2⟩ => ?_)
  · obtain ⟨T, vs, rfl, hT, rfl, hv⟩ := y
    have hv' := hv _ rfl (row H i hi s)
    subst hv'
    subst es
    refine ⟨T, _, rfl, SqT.of upd_same, rfl, _, _, rfl, _, _, rfl, rfl, ?_⟩
    have hTa : acc ≠ T := ne_of_none ea hT
    refine he _ _ _ _ (List.getElem_mem hi) (List.getElem_mem (by omega)) ?_
    refine ⟨by rw [upd_ne hTa]; exact ea, ⟨_, _, rfl⟩, ?_, hi, (s.put (s.free hT)).put hacc, upd_same⟩
    rw [ey]
    exact take_map_snoc (fun p : Int × Int => f p.1 p.2) (xs.zip ys) i (xs[i], ys[i]'(by omega)) (by rw [List.getElem?_zip_eq_some]; exact ⟨by simp [hi], by simp <;> omega⟩)
  · refine hq H s ?_
    rw [e2, e1, List.take_of_length_le (by simp <;> omega)]
end L2
namespace Bd
open PySem L2 Lin
open PySem.Builtin.Int (intBits)
seal L2.PSs L2.PS L2.PE L2.PT L2.PW L2.PA L2.PI L2.PG L2.PGs
section
variable {P : Program} {w : World} {K : PySem.W.Frag} {mg : Str → Option Value} {base : Heap}
/-! ### sum_by -/
def spSumBy : Sp := fun vs H Q _ => ∃ (a b : Addr) (xs ys : List Int) (p q : Nat), vs = [.ref a, .ref b] ∧ IntsAt H a xs ∧ IntsAt H b ys ∧ xs.length = ys.length ∧ xs.length ≤ 1000 ∧ Bits p xs ∧ Bits q ys ∧ p + q ≤ 134217728 ∧ ∀ H', Same H H' → Q (.int (sumBy xs ys)) H'
theorem scSumBy : FnScope ["weights", "beads"] ["weights", "beads"] (defScope sSumBy) := ⟨rfl, rfl, rfl, by decide +kernel, rfl, by decide +kernel, by decide +kernel⟩
theorem ok_sumBy {f : Addr} {fd : FuncData} (F : Fun K "sum_by" "sum_by" sSumBy f fd) (B : Bn mg) : FnOk P w K mg base CX0 1 f fd ["weights", "beads"] spSumBy := by
  refine F.ok scSumBy (fun vs H Q E h => ?_) (fun cdv A outer s H vs Q E hr h => ?_)
  · obtain ⟨a, b, xs, ys, p, q, rfl, _⟩ := h
    rfl
  · obtain ⟨a, b, xs, ys, p, q, rfl, ha, hb, hl, hn, bx, bY, hpq, k⟩ := h
    refine ⟨_, pss_one (ps_ret (pe_callB (call_sumL rfl) (by rfl) B.sum PyProof.Rows.boot_sum (pa_cons (pe_comp (g := gPair K) (te := tOp (rI IntMulOk fun i j => .int (i * j)) (tVar 0) (tVar 1)) (fsc := defScope sSumBy) (N := ["weights", "beads"]) (N' := ["weight", "number"]) (own := 2) (fr := []) ⟨rfl, by decide +kernel, by decide +kernel, by decide +kernel, rfl, by decide +kernel⟩ rfl
        (pi_zip2 (by rfl) B.zip (pa_cons (pv 0) (pa_cons (pv 1) pa_nil)))
        (fun cl C s₀ H₀ ex => pg_tup rfl (pgs_cons (pg_name (i := 0) (by show (["weight", "number"] : List Str).Nodup; decide +kernel) rfl (Or.inl rfl)) (pgs_cons (pg_name (i := 1) (by show (["weight", "number"] : List Str).Nodup; decide +kernel) rfl (Or.inl rfl)) pgs_nil)))
        (fun cl C s₀ H₀ ex => pe_op op_mulW (pv 0) (pv 1))) pa_nil))), ?_⟩
    refine ⟨_, rfl, _, rfl, [(a, false), (b, false)], rfl, rfl, fun d hd => ?_, fun acc hacc => comp_zip2M [] (fun x y => .int (x * y)) (small hn) hl (fun H' s' => SqB.l (SqL.of (ha.same s'))) (fun H' s' => SqB.l (SqL.of (hb.same s'))) hacc (fun x y H1 R hx hy q => ⟨_, rfl, _, rfl, _, _, rfl, rfl, IntMulOk.of_le (bx x hx) (bY y hy) hpq, q⟩) (fun H1 s1 e1 => ?_)⟩
    · rcases List.mem_cons.mp hd with rfl | hd
      · exact ⟨_, SqB.l (SqL.of ha)⟩
      · rw [List.mem_singleton.mp hd]; exact ⟨_, SqB.l (SqL.of hb)⟩
    · refine ⟨acc, (xs.zip ys).map fun p : Int × Int => p.1 * p.2, rfl, SqL.of ?_, k H1 s1⟩
      rw [e1, List.map_map]
      rfl
/-! ### change_by -/
def spChgBy : Sp := fun vs H Q _ => ∃ (a : Addr) (v : V) (m : Mv) (xs : List Int) (n p q : Nat), vs = [.ref a, v] ∧ IntsAt H a xs ∧ MvAt H v m ∧ xs.length = n ∧ m.1.length = n ∧ m.2.length = n ∧ n ≤ 1000 ∧ Bits p xs ∧ BitsM q m ∧ p + q ≤ 134217728 ∧ ∀ H', Same H H' → Q (.int (chgBy xs m)) H'
theorem scChgBy : FnScope ["weights", "move"] ["weights", "move"] (defScope sChgBy) := ⟨rfl, rfl, rfl, by decide +kernel, rfl, by decide +kernel, by decide +kernel⟩
theorem ok_chgBy {f g : Addr} {fd gd : FuncData} (F : Fun K "change_by" "change_by" sChgBy f fd) (B : Bn mg) (D : Df K mg "sum_by" sSumBy ["weights", "beads"] g gd) : FnOk P w K mg base CX0 2 f fd ["weights", "move"] spChgBy := by
  have G : FnOk P w K mg base CX0 1 g gd ["weights", "beads"] spSumBy := ok_sumBy D.fn B
  refine F.ok scChgBy (fun vs H Q E h => ?_) (fun cdv A outer s H vs Q E hr h => ?_)
  · obtain ⟨a, v, m, xs, n, p, q, rfl, _⟩ := h
    rfl
  · obtain ⟨a, v, m, xs, n, p, q, rfl, ha, ⟨t, x1, y1, rfl, ht, h1, h2⟩, hl, hl1, hl2, hn, bx, bm, hpq, k⟩ := h
    refine ⟨_, pss_one (ps_ret (pe_op op_sub (pe_call G hr (by rfl) D.gl D.fn.kp D.bd .nil pass0 (pa_cons (pv 0) (pa_cons (pe_ix ix_tup (pv 1) pe_int (fun _ _ => rfl)) pa_nil))) (pe_call G hr (by rfl) D.gl D.fn.kp D.bd .nil pass0 (pa_cons (pv 0) (pa_cons (pe_ix ix_tup (pv 1) pe_int (fun _ _ => rfl)) pa_nil))))), ?_⟩
    refine ⟨_, rfl, _, rfl, t, _, _, .ref y1, rfl, rfl, SqT.of ht, atI_nat (j := 1) rfl, a, y1, xs, m.2, p, q, rfl, ha, h2, by omega, by omega, bx, bm.2, hpq, fun H1 s1 => ?_⟩
    exact ⟨_, rfl, _, rfl, t, _, _, .ref x1, rfl, rfl, SqT.of (s1 _ _ ht), atI_nat (j := 0) rfl, a, x1, xs, m.1, p, q, rfl, ha.same s1, h1.same s1, by omega, by omega, bx, bm.1, hpq, fun H2 s2 => ⟨_, _, rfl, rfl, k H2 (s1.trans s2)⟩⟩
/-! ### common_divisor -/
def spCdiv : Sp := fun vs H Q _ => ∃ (a : Addr) (xs : List Int), vs = [.ref a] ∧ IntsAt H a xs ∧ ∀ H', Same H H' → Q (.int (gcdL xs : Nat)) H'
theorem scCdiv : FnScope ["numbers", "divisor", "number", "other", "rest"] ["numbers"] (defScope sCdiv) := ⟨rfl, rfl, rfl, by decide +kernel, rfl, by decide +kernel, by decide +kernel⟩
theorem ok_cdiv {f : Addr} {fd : FuncData} (F : Fun K "common_divisor" "common_divisor" sCdiv f fd) (B : Bn mg) : FnOk P w K mg base CX0 1 f fd ["numbers"] spCdiv := by
  refine F.ok scCdiv (fun vs H Q E h => ?_) (fun cdv A outer s0 H vs Q E hr h => ?_)
  · obtain ⟨a, xs, rfl, _⟩ := h
    rfl
  · obtain ⟨a, xs, rfl, ha, k⟩ := h
    refine ⟨_, pss_cons (ps_set (i := 1) scCdiv.nd rfl (Or.inl rfl) pe_int)
      (pss_cons (ps_for PassesOwn.never rfl (pi_list (pv 0)) (pg_name (i := 2) scCdiv.nd rfl (Or.inl rfl))
        (pss_cons (ps_set (i := 3) scCdiv.nd rfl (Or.inl rfl) (pe_callB call_abs (by rfl) B.abs PyProof.Rows.boot_abs (pa_cons (pv 2) pa_nil)))
        (pss_one (ps_while PassesOwn.never (pt_cmpR op_ne (pv 3) pe_int (nomark _))
          (pss_cons (ps_set (i := 4) scCdiv.nd rfl (Or.inl rfl) (pe_op op_mod (pv 1) (pv 3)))
          (pss_cons (ps_set (i := 1) scCdiv.nd rfl (Or.inl rfl) (pv 3))
          (pss_one (ps_set (i := 3) scCdiv.nd rfl (Or.inl rfl) (pv 4)))))))))
      (pss_one (ps_ret (pv 1)))), ?_⟩
    refine seqC ?_
    refine ⟨_, rfl, a, rfl, ⟨_, SqL.of ha⟩, for_list (K := K) (a := a) (xs := iv xs) (fun i σ H2 => H2 = H ∧ ∃ u2 u3 u4, σ = [some (.ref a), some (.int (gcdL (xs.take i) : Nat)), u2, u3, u4]) ⟨rfl, none, none, none, rfl⟩ (fun i σ H2 _ ⟨s2, _⟩ => by rw [s2]; exact SqL.of ha) ?_ ?_⟩
    · rintro i x σ H2 hx ⟨rfl, u2, u3, u4, rfl⟩
      obtain ⟨z, hz, rfl⟩ := iv_get hx
      have eg : gcdL (xs.take (i + 1)) = Nat.gcd (gcdL (xs.take i)) z.natAbs := by rw [← take_snoc hz, gcdL_snoc]
      refine ⟨_, rfl, _, rfl, ?_⟩
      have ea : (if z < 0 then -z else z) = ((z.natAbs : Nat) : Int) := by split <;> omega
      rw [ea]
      refine ⟨fun m σ H3 => H3 = H2 ∧ ∃ (one : Nat) (u4 : Option V), σ = [some (.ref a), some (.int one), some (.int z), some (.int m), u4] ∧ Nat.gcd one m = gcdL (xs.take (i + 1)), ⟨_, rfl, _, _, rfl, eg.symm⟩, ?_⟩
      rintro m σ H3 ⟨rfl, one, u4', rfl, hg⟩
      refine ⟨_, rfl, rfl, _, rfl, ?_⟩
      by_cases hm : m = 0
      · subst hm
        refine iteNS rfl ?_
        rw [Nat.gcd_zero_right] at hg
        subst hg
        exact ⟨rfl, _, _, _, rfl⟩
      · refine ite2 (fun _ => ?_) (fun hc => absurd (show (!decide (V.int (m : Int) = V.int 0)) = true by simp; omega) hc)
        refine ⟨fun σ' H' => H' = H3 ∧ ∃ (one' m' : Nat) (u4 : Option V), m' < m ∧ σ' = [some (.ref a), some (.int one'), some (.int z), some (.int m'), u4] ∧ Nat.gcd one' m' = gcdL (xs.take (i + 1)), fun σ' H' ⟨e, one', m', u, h1, h2, h3⟩ => ⟨m', h1, e, one', u, h2, h3⟩, ?_⟩
        refine ⟨_, rfl, _, rfl, _, _, rfl, rfl, by omega, ?_⟩
        refine ⟨_, rfl, _, rfl, rfl, m, one % m, some (.int ((one : Int) % m)), Nat.mod_lt _ (by omega), ?_, ?_⟩
        · rw [Int.natCast_emod]; rfl
        · rw [← hg, Nat.gcd_comm one m, Nat.gcd_rec m one, Nat.gcd_comm]
    · rintro σ H2 ⟨rfl, u2, u3, u4, rfl⟩
      rw [List.take_of_length_le (by rw [List.length_map]; exact Nat.le_refl _)]
      exact ⟨_, rfl, k _ (Same.refl _)⟩
/-! ### first_not_nought -/
def spFirst : Sp := fun vs H Q _ => ∃ (a : Addr) (xs t : List Int) (f : Int), vs = [.ref a] ∧ IntsAt H a xs ∧ xs.length ≤ 1000 ∧ filled xs = f :: t ∧ ∀ H', Same H H' → Q (.int f) H'
theorem scFirst : FnScope ["numbers"] ["numbers"] (defScope sFirst) := ⟨rfl, rfl, rfl, by decide +kernel, rfl, by decide +kernel, by decide +kernel⟩
theorem ok_first {f : Addr} {fd : FuncData} (F : Fun K "first_not_nought" "first_not_nought" sFirst f fd) (B : Bn mg) : FnOk P w K mg base CX0 1 f fd ["numbers"] spFirst := by
  refine F.ok scFirst (fun vs H Q E h => ?_) (fun cdv A outer s0 H vs Q E hr h => ?_)
  · obtain ⟨a, xs, t, ff, rfl, _⟩ := h
    rfl
  · obtain ⟨a, xs, t, ff, rfl, ha, hn, hf, k⟩ := h
    refine ⟨_, pss_one (ps_ret (pe_ix ix_list (pe_compI (g := gName 0) (tc := tTest (tOp rNe (tVar 0) (tC (.int 0)))) (te := tVar 0) (fsc := defScope sFirst) (N := ["numbers"]) (N' := ["number"]) (own := 1) (fr := []) ⟨rfl, by decide +kernel, by decide +kernel, by decide +kernel, rfl, by decide +kernel⟩ rfl
        (pi_list (pv 0)) (fun cl C s₀ H₀ ex => pg_name (i := 0) (by show (["number"] : List Str).Nodup; decide +kernel) rfl (Or.inl rfl))
        (fun cl C s₀ H₀ ex => pt_cmpR op_ne (pv 0) pe_int (nomark _)) (fun cl C s₀ H₀ ex => pv 0)) pe_int (fun _ _ => rfl))), ?_⟩
    refine ⟨_, rfl, a, rfl, ⟨_, SqL.of ha⟩, fun fa hfa => ?_⟩
    refine compi_by xs.length (small hn) (fun i ys σ H5 => (∃ v, σ = [v]) ∧ H5 = upd H fa (.lst ys) ∧ ys = iv (filled (xs.take i))) ⟨⟨none, rfl⟩, rfl, rfl⟩ (fun i ys σ H5 ⟨_, _, e⟩ => ?_) (fun i ys σ H5 hi ⟨_, eh, _⟩ => ?_) (fun ys σ H5 ⟨_, eh, _⟩ => ?_) (fun i ys σ H5 x H6 hi ⟨⟨v, es⟩, eh, ey⟩ y => ?_) (fun ys σ H5 ⟨_, eh, ey⟩ => ?_)
    · rw [e, List.length_map]
      unfold filled
      exact Nat.le_trans (List.length_filter_le _ _) (by rw [List.length_take]; omega)
    · rw [eh]
      exact ⟨iv xs, .int xs[i], SqL.of ((Same.new hfa) _ _ ha), by simp [hi]⟩
    · rw [eh]
      exact ⟨iv xs, SqL.of ((Same.new hfa) _ _ ha), by simp⟩
    · obtain ⟨e6, hx⟩ := y
      subst e6 es
      have hx' := hx (iv xs) (by rw [eh]; exact SqL.of ((Same.new hfa) _ _ ha))
      obtain ⟨z, hz, rfl⟩ := iv_get hx'
      refine ⟨_, rfl, rfl, _, rfl, ?_⟩
      by_cases hc : z = 0
      · refine iteNS (by rw [hc]) ?_
        exact ⟨⟨_, rfl⟩, eh, by rw [ey, ← take_snoc hz, filled_snoc, if_neg (by simpa using hc), List.append_nil]⟩
      · refine ite2 (fun _ => ?_) (fun h => absurd (show (!decide (V.int z = V.int 0)) = true by simp [hc]) h)
        refine ⟨_, rfl, by rw [eh]; exact upd_same, ⟨_, rfl⟩, by rw [eh, upd_upd], ?_⟩
        rw [ey, ← take_snoc hz, filled_snoc, if_pos hc, iv_snoc]
    · rw [List.take_of_length_le (Nat.le_refl _), hf] at ey
      subst eh ey
      exact ⟨fa, _, _, .int ff, rfl, rfl, SqL.of upd_same, atI_nat (j := 0) rfl, k _ (Same.new hfa)⟩
/-! ### in_lowest_form -/
def spLow : Sp := fun vs H Q _ => ∃ (a : Addr) (xs t : List Int) (f : Int) (b : Nat), vs = [.ref a] ∧ IntsAt H a xs ∧ xs.length ≤ 1000 ∧ filled xs = f :: t ∧ Bits b xs ∧ b ≤ 9000 ∧ ∀ l H', H l = none → Same H H' → IntsAt H' l (lowest xs) → Q (.ref l) H'
theorem scLow : FnScope ["weights", "divisor"] ["weights"] (defScope sLow) := ⟨rfl, rfl, rfl, by decide +kernel, rfl, by decide +kernel, by decide +kernel⟩
theorem ok_low {f g g2 : Addr} {fd gd gd2 : FuncData} (F : Fun K "in_lowest_form" "in_lowest_form" sLow f fd) (B : Bn mg) (DC : Df K mg "common_divisor" sCdiv ["numbers"] g gd) (DF : Df K mg "first_not_nought" sFirst ["numbers"] g2 gd2) : FnOk P w K mg base CX0 2 f fd ["weights"] spLow := by
  have GC : FnOk P w K mg base CX0 1 g gd ["numbers"] spCdiv := ok_cdiv DC.fn B
  have GF : FnOk P w K mg base CX0 1 g2 gd2 ["numbers"] spFirst := ok_first DF.fn B
  refine F.ok scLow (fun vs H Q E h => ?_) (fun cdv A outer s0 H vs Q E hr h => ?_)
  · obtain ⟨a, xs, t, ff, b, rfl, _⟩ := h
    rfl
  · obtain ⟨a, xs, t, ff, b, rfl, ha, hn, hf, hb, hb9, k⟩ := h
    refine ⟨_, pss_cons (ps_set (i := 1) scLow.nd rfl (Or.inr rfl) (pe_call GC hr (by rfl) DC.gl DC.fn.kp DC.bd .nil pass0 (pa_cons (pv 0) pa_nil)))
      (pss_cons (ps_if (pt_cmpR op_lt (pe_call GF hr (by rfl) DF.gl DF.fn.kp DF.bd .nil pass0 (pa_cons (pv 0) pa_nil)) pe_int (nomark _)) (pss_one (ps_set (i := 1) scLow.nd rfl (Or.inr rfl) (pe_un un_neg (pv 1)))) pss_nil)
      (pss_one (ps_ret (pe_comp (g := gName 0) (te := tOp (rI (fun _ j => j ≠ 0 ∧ j.natAbs.log2 < 9000) fun i j => .int (i.fdiv j)) (tVar 0) (tVar 1)) (fsc := defScope sLow) (N := ["weights", "divisor"]) (N' := ["weight", "divisor"]) (own := 1) (fr := [1]) ⟨rfl, by decide +kernel, by decide +kernel, by decide +kernel, rfl, by decide +kernel⟩ rfl
        (pi_list (pv 0)) (fun cl C s₀ H₀ ex => pg_name (i := 0) (by show (["weight", "divisor"] : List Str).Nodup; decide +kernel) rfl (Or.inl rfl))
        (fun cl C s₀ H₀ ex => pe_op op_fdivW (pv 0) (pv 1)))))), ?_⟩
    have hne := dv_ne hf
    have hlg := dv_log hf hb hb9
    refine ⟨_, rfl, a, xs, rfl, ha, fun H1 s1 => ?_⟩
    refine gN ?_
    dsimp only
    refine ⟨_, rfl, a, xs, t, ff, rfl, ha.same s1, hn, hf, fun H2 s2 => ?_⟩
    have s12 := s1.trans s2
    refine ⟨_, _, rfl, rfl, _, rfl, ?_⟩
    have done : ∀ (acc : Addr), H2 acc = none → Q (.ref acc) (upd H2 acc (.lst (xs.map fun x => V.int (x.fdiv (dv ff xs))))) := fun acc hacc => by
      refine k acc _ (s12.free hacc) (s12.trans (Same.new hacc)) ?_
      unfold IntsAt
      rw [upd_same, lowest_eq hf, iv, List.map_map]
      rfl
    by_cases hneg : ff < 0
    · rw [decide_eq_true hneg]
      refine iteT ?_
      refine ⟨_, rfl, _, rfl, ?_⟩
      refine gN ?_
      dsimp only
      have ed : dv ff xs = -(gcdL xs : Int) := by unfold dv; rw [if_pos hneg]
      rw [ed] at hne hlg
      refine ⟨_, rfl, a, rfl, ⟨_, SqL.of (ha.same s12)⟩, fun acc hacc => comp_ints (K := K) (v0 := none) (fs := [some (.int (-(gcdL xs : Int)))]) (fun i => .int (i.fdiv (-(gcdL xs : Int)))) (small hn) (SqL.of (ha.same s12)) hacc (fun x hx ys R q => ⟨_, rfl, _, rfl, _, _, rfl, rfl, ⟨hne, hlg⟩, q⟩) ?_⟩
      have := done acc hacc
      rw [ed] at this
      exact this
    · rw [decide_eq_false hneg]
      refine iteF ?_
      have ed : dv ff xs = (gcdL xs : Int) := by unfold dv; rw [if_neg hneg]
      rw [ed] at hne hlg
      refine ⟨_, rfl, a, rfl, ⟨_, SqL.of (ha.same s12)⟩, fun acc hacc => comp_ints (K := K) (v0 := none) (fs := [some (.int (gcdL xs : Int))]) (fun i => .int (i.fdiv (gcdL xs : Int))) (small hn) (SqL.of (ha.same s12)) hacc (fun x hx ys R q => ⟨_, rfl, _, rfl, _, _, rfl, rfl, ⟨hne, hlg⟩, q⟩) ?_⟩
      have := done acc hacc
      rw [ed] at this
      exact this
/-! ### weight_of_one -/
def spUnit : Sp := fun vs H Q _ => ∃ (n i : Nat), vs = [.int (n : Nat), .int (i : Nat)] ∧ n ≤ 1000 ∧ ∀ l H', H l = none → Same H H' → IntsAt H' l (unitL n i) → Q (.ref l) H'
theorem scUnit : FnScope ["places", "place"] ["places", "place"] (defScope sUnit) := ⟨rfl, rfl, rfl, by decide +kernel, rfl, by decide +kernel, by decide +kernel⟩
theorem ok_unit {f : Addr} {fd : FuncData} (F : Fun K "weight_of_one" "weight_of_one" sUnit f fd) (B : Bn mg) : FnOk P w K mg base CX0 1 f fd ["places", "place"] spUnit := by
  refine F.ok scUnit (fun vs H Q E h => ?_) (fun cdv A outer s0 H vs Q E hr h => ?_)
  · obtain ⟨n, i, rfl, _⟩ := h
    rfl
  · obtain ⟨n, p, rfl, hn, k⟩ := h
    refine ⟨_, pss_one (ps_ret (pe_comp (g := gName 0) (te := tIf (tTest (tOp rEq (tVar 0) (tVar 1))) (tC (.int 1)) (tC (.int 0))) (fsc := defScope sUnit) (N := ["places", "place"]) (N' := ["each", "place"]) (own := 1) (fr := [1]) ⟨rfl, by decide +kernel, by decide +kernel, by decide +kernel, rfl, by decide +kernel⟩ rfl
        (pi_range1 (by rfl) B.range (pa_cons (pv 0) pa_nil)) (fun cl C s₀ H₀ ex => pg_name (i := 0) (by show (["each", "place"] : List Str).Nodup; decide +kernel) rfl (Or.inl rfl))
        (fun cl C s₀ H₀ ex => pe_ifExp (pt_cmpR op_eq (pv 0) (pv 1) (nomark _)) pe_int pe_int))), ?_⟩
    refine ⟨_, rfl, _, rfl, by omega, by omega, fun acc hacc => ?_⟩
    rw [Int.toNat_natCast]
    refine comp_by n (small hn) (fun j ys σ H5 => (∃ v, σ = [v, some (.int (p : Nat))]) ∧ H5 = upd H acc (.lst ys) ∧ ys = iv ((unitL n p).take j) ∧ j ≤ n) ⟨⟨none, rfl⟩, rfl, by simp, Nat.zero_le _⟩ (fun j ys σ H5 ⟨_, _, e, hj⟩ => ?_) (fun j ys σ H5 hj _ => hj) (fun ys σ H5 _ => Nat.le_refl _) (fun j ys σ H5 x H6 hj ⟨⟨v, es⟩, eh, ey, _⟩ y => ?_) (fun ys σ H5 ⟨_, eh, ey, _⟩ => ?_)
    · rw [e, List.length_map, List.length_take]
      unfold unitL
      rw [List.length_map, List.length_range]
      omega
    · obtain ⟨e6, ex⟩ := y
      subst e6 ex es
      refine ⟨_, rfl, _, rfl, rfl, _, rfl, ?_⟩
      have e7 : (unitL n p)[j]? = some (if j = p then 1 else 0) := by
        unfold unitL
        rw [List.getElem?_map, List.getElem?_range hj]
        rfl
      by_cases hjp : j = p
      · refine ite2 (fun _ => ?_) (fun h => absurd (decide_eq_true (show V.int (0 + (j : Int)) = V.int (p : Int) by rw [Int.zero_add, hjp])) h)
        refine ⟨by rw [eh]; exact upd_same, ⟨_, rfl⟩, by rw [eh, upd_upd], ?_, hj⟩
        rw [ey, ← take_snoc e7, iv_snoc, if_pos hjp]
      · refine ite2 (fun h => absurd (of_decide_eq_true h) (fun e => hjp (by injection e with e; omega))) (fun _ => ?_)
        refine ⟨by rw [eh]; exact upd_same, ⟨_, rfl⟩, by rw [eh, upd_upd], ?_, hj⟩
        rw [ey, ← take_snoc e7, iv_snoc, if_neg hjp]
    · rw [List.take_of_length_le (by unfold unitL; simp)] at ey
      subst eh ey
      exact k acc _ hacc (Same.new hacc) upd_same
/-! ### made_up -/
def spMade : Sp := fun vs H Q _ => ∃ (a o : Addr) (xs ys t : List Int) (c d f : Int) (b e : Nat), vs = [.ref a, .int c, .ref o, .int d] ∧ IntsAt H a xs ∧ IntsAt H o ys ∧ xs.length = ys.length ∧ xs.length ≤ 1000 ∧ Bits b xs ∧ Bits b ys ∧ intBits c ≤ e ∧ intBits d ≤ e ∧ b + e ≤ 8999 ∧ filled (mixL xs c ys d) = f :: t ∧ ∀ l H', H l = none → Same H H' → IntsAt H' l (lowest (mixL xs c ys d)) → Q (.ref l) H'
abbrev nMade : List Str := ["weights", "change", "others", "change_of_others"]
theorem scMade : FnScope nMade nMade (defScope sMade) := ⟨rfl, rfl, rfl, by decide +kernel, rfl, by decide +kernel, by decide +kernel⟩
theorem ok_made {f g g1 g2 : Addr} {fd gd gd1 gd2 : FuncData} (F : Fun K "made_up" "made_up" sMade f fd) (B : Bn mg) (DC : Df K mg "common_divisor" sCdiv ["numbers"] g1 gd1) (DF : Df K mg "first_not_nought" sFirst ["numbers"] g2 gd2) (D : Df K mg "in_lowest_form" sLow ["weights"] g gd) : FnOk P w K mg base CX0 3 f fd nMade spMade := by
  have G : FnOk P w K mg base CX0 2 g gd ["weights"] spLow := ok_low D.fn B DC DF
  refine F.ok scMade (fun vs H Q E h => ?_) (fun cdv A outer s0 H vs Q E hr h => ?_)
  · obtain ⟨a, o, xs, ys, t, c, d, ff, b, e, rfl, _⟩ := h
    rfl
  · obtain ⟨a, o, xs, ys, t, c, d, ff, b, e, rfl, ha, ho, hl, hn, bx, bY, hc, hd, hbe, hf, k⟩ := h
    refine ⟨_, pss_one (ps_ret (pe_call G hr (by rfl) D.gl D.fn.kp D.bd .nil pass0 (pa_cons (pe_comp (g := gPair K) (te := tOp (rI0 fun i j => .int (i - j)) (tOp (rI IntMulOk fun i j => .int (i * j)) (tVar 0) (tVar 3)) (tOp (rI IntMulOk fun i j => .int (i * j)) (tVar 1) (tVar 2))) (fsc := defScope sMade) (N := nMade) (N' := ["weight", "other", "change", "change_of_others"]) (own := 2) (fr := [1, 3]) ⟨rfl, by decide +kernel, by decide +kernel, by decide +kernel, rfl, by decide +kernel⟩ rfl
        (pi_zip2 (by rfl) B.zip (pa_cons (pv 0) (pa_cons (pv 2) pa_nil)))
        (fun cl C s₀ H₀ ex => pg_tup rfl (pgs_cons (pg_name (i := 0) (by show (["weight", "other", "change", "change_of_others"] : List Str).Nodup; decide +kernel) rfl (Or.inl rfl)) (pgs_cons (pg_name (i := 1) (by show (["weight", "other", "change", "change_of_others"] : List Str).Nodup; decide +kernel) rfl (Or.inl rfl)) pgs_nil)))
        (fun cl C s₀ H₀ ex => pe_op op_sub (pe_op op_mulW (pv 0) (pv 3)) (pe_op op_mulW (pv 1) (pv 2)))) pa_nil))), ?_⟩
    refine ⟨_, rfl, _, rfl, [(a, false), (o, false)], rfl, rfl, fun z hz => ?_, fun acc hacc => comp_zip2M [some (.int c), some (.int d)] (fun x y => .int (x * d - y * c)) (small hn) hl (fun H' s' => SqB.l (SqL.of (ha.same s'))) (fun H' s' => SqB.l (SqL.of (ho.same s'))) hacc
      (fun x y H1 R hx hy q => ⟨_, rfl, _, rfl, _, _, rfl, rfl, IntMulOk.of_le (bx x hx) hd (by omega), _, rfl, _, rfl, _, _, rfl, rfl, IntMulOk.of_le (bY y hy) hc (by omega), _, _, rfl, rfl, q⟩) (fun H1 s1 e1 => ?_)⟩
    · rcases List.mem_cons.mp hz with rfl | hz
      · exact ⟨_, SqB.l (SqL.of ha)⟩
      · rw [List.mem_singleton.mp hz]; exact ⟨_, SqB.l (SqL.of ho)⟩
    · have hm : IntsAt H1 acc (mixL xs c ys d) := by
        unfold IntsAt mixL
        rw [e1, iv, List.map_map]
        rfl
      refine ⟨acc, mixL xs c ys d, t, ff, b + e + 1, rfl, hm, ?_, hf, mixL_bits bx bY hc hd, by omega, fun l H2 hl2 s2 h2 => k l H2 (s1.free hl2) (s1.trans s2) h2⟩
      rw [mixL_length rfl hl.symm]
      exact hn
end
end Bd

set_option linter.all false
set_option maxRecDepth 100000
set_option maxHeartbeats 8000000
namespace Bd
open PySem L2 Lin
open PySem.Builtin.Int (intBits)
seal L2.PSs L2.PS L2.PE L2.PT L2.PW L2.PA L2.PI L2.PG L2.PGs
theorem RowsAt.snoc {H H' : Hp} {p l : Addr} {vs : List V} {rows : List (List Int)} {r : List Int} (h : RowsAt H p vs rows) (s : Same H H') (hl : IntsAt H' l r) (hn : l ≠ p) : RowsAt (upd H' p (.lst (vs ++ [.ref l]))) p (vs ++ [.ref l]) (rows ++ [r]) := by
  refine .put (by simp [h.len]) fun j q e => ?_
  by_cases hj : j < rows.length
  · rw [List.getElem?_append_left hj] at e
    obtain ⟨a, e1, e2⟩ := h.at' j q e
    exact ⟨a, by rw [List.getElem?_append_left (by rw [h.len]; exact hj)]; exact e1, e2.same (hid_same s)⟩
  · rw [List.getElem?_append_right (by omega)] at e
    have hz : j - rows.length = 0 := by have := (List.getElem?_eq_some_iff.mp e).1; simp at this; omega
    rw [hz] at e
    have e' : r = q := by simpa using e
    subst e'
    exact ⟨l, by rw [List.getElem?_append_right (by rw [h.len]; omega), h.len, hz]; rfl, hid_of hl hn⟩
theorem RowsL.get {H : Hp} {p : Addr} {vs : List V} {rows : List (List Int)} {i : Nat} (h : RowsL H p vs rows) (hi : i < rows.length) : ∃ a, vs[i]? = some (.ref a) ∧ IntsAt H a (rowAt rows i) := h.at' i _ (rowAt_get hi)
theorem spots_mem {n s : Nat} {row : List Int} {t : List Nat} (h : spots n row = s :: t) : s < n ∧ co row s ≠ 0 := by
  have : s ∈ spots n row := by rw [h]; exact List.mem_cons_self ..
  unfold spots at this
  obtain ⟨h1, h2⟩ := List.mem_filter.mp this
  exact ⟨List.mem_range.mp h1, of_decide_eq_true h2⟩
theorem spots_none {n j : Nat} {row : List Int} (h : spots n row = []) (hj : j < n) : co row j = 0 := Classical.byContradiction fun hne => by
  have : j ∈ spots n row := List.mem_filter.mpr ⟨List.mem_range.mpr hj, decide_eq_true hne⟩
  rw [h] at this
  exact absurd this (by simp)
theorem spots_le (n : Nat) (row : List Int) : (spots n row).length ≤ n := by
  unfold spots
  exact Nat.le_trans (List.length_filter_le _ _) (by rw [List.length_range]; exact Nat.le_refl _)
theorem co_map {ws : List (List Int)} {f : List Int → Int} {i : Nat} (h : i < ws.length) : co (ws.map f) i = f (rowAt ws i) := by
  unfold co
  rw [List.getD_eq_getElem?_getD, List.getElem?_map, rowAt_get h]
  rfl
/-- where entry i stands among those kept -/
def spotOf (k i : Nat) : Nat := if i ≤ k then i else i - 1
theorem keptOf_get {m : Mv} {ws : List (List Int)} {k i : Nat} (hk : k < ws.length) (hi : i < ws.length) (hne : i ≠ k) : spotOf k i < ws.length - 1 ∧ skip k (spotOf k i) = i ∧ spotOf k (i + 1) = spotOf k i + 1 ∧ (keptOf m ws k)[spotOf k i]? = some (lowest (mixAt m ws k i)) := by
  have h1 : spotOf k i < ws.length - 1 := by unfold spotOf; split <;> omega
  have h2 : skip k (spotOf k i) = i := by unfold skip spotOf; split <;> split <;> omega
  refine ⟨h1, h2, by unfold spotOf; split <;> split <;> omega, ?_⟩
  unfold keptOf
  rw [List.getElem?_map, List.getElem?_range h1]
  show some (lowest (mixAt m ws k (skip k (spotOf k i)))) = _
  rw [h2]
section
variable {P : Program} {w : World} {K : PySem.W.Frag} {mg : Str → Option Value} {base : Heap}
/-! ### kept_by -/
def spKept : Sp := fun vs H Q _ => ∃ (v : V) (m : Mv) (t : Addr) (rs : List V) (ws : List (List Int)) (ms : List Mv) (n b : Nat), vs = [v, .ref t] ∧ MvAt H v m ∧ RowsL H t rs ws ∧ Good n ms b ws ∧ (Wf n m.1 ∧ Wf n m.2) ∧ n ≤ 5 ∧ ws.length ≤ 5 ∧ BitsM 105 m ∧ 2 * b + 112 ≤ 8000 ∧
  ∀ l rs' ws' H', Same H H' → RowsL H' l rs' ws' → Good n (ms ++ [m]) (2 * b + 112) ws' → ws'.length ≤ 5 → Q (.ref l) H'
abbrev nKept : List Str := ["move", "told", "changes", "changed", "lost"]
theorem scKept : FnScope nKept ["move", "told"] (defScope sKept) := ⟨rfl, rfl, rfl, by decide +kernel, rfl, by decide +kernel, by decide +kernel⟩
abbrev nEach : List Str := ["spot", "weights", "changes", "lost", "told"]
theorem ok_kept {f g1 g2 g3 g4 g5 g6 : Addr} {fd d1 d2 d3 d4 d5 d6 : FuncData} (F : Fun K "kept_by" "kept_by" sKept f fd) (B : Bn mg) (D1 : Df K mg "sum_by" sSumBy ["weights", "beads"] g1 d1) (D2 : Df K mg "change_by" sChgBy ["weights", "move"] g2 d2)
    (D3 : Df K mg "common_divisor" sCdiv ["numbers"] g3 d3) (D4 : Df K mg "first_not_nought" sFirst ["numbers"] g4 d4) (D5 : Df K mg "in_lowest_form" sLow ["weights"] g5 d5) (D6 : Df K mg "made_up" sMade nMade g6 d6) : FnOk P w K mg base CX0 4 f fd ["move", "told"] spKept := by
  have GC : FnOk P w K mg base CX0 2 g2 d2 ["weights", "move"] spChgBy := ok_chgBy D2.fn B D1
  have GM : FnOk P w K mg base CX0 3 g6 d6 nMade spMade := ok_made D6.fn B D3 D4 D5
  refine F.ok scKept (fun vs H Q E h => ?_) (fun cdv A outer s0 H vs Q E hr h => ?_)
  · obtain ⟨v, m, t, rs, ws, ms, n, b, rfl, _⟩ := h
    rfl
  · obtain ⟨v, m, t, rs, ws, ms, n, b, rfl, hmv, hR, G, hwf, hn, hwl, hbm, hb, k⟩ := h
    have hr2 : Room 2 _ := hr.mono (by decide)
    refine ⟨_, pss_cons (ps_set (i := 2) scKept.nd rfl (Or.inr rfl) (pe_comp (g := gName 0) (te := tCall spChgBy [] E0 (tCons (tVar 0) (tCons (tVar 1) tNil))) (fsc := defScope sKept) (N := nKept) (N' := ["weights", "move"]) (own := 1) (fr := [0]) ⟨rfl, by decide +kernel, by decide +kernel, by decide +kernel, rfl, by decide +kernel⟩ rfl
        (pi_list (pv 1)) (fun cl C s₀ H₀ ex => pg_name (i := 0) (by show (["weights", "move"] : List Str).Nodup; decide +kernel) rfl (Or.inl rfl))
        (fun cl C s₀ H₀ ex => pe_call GC hr2 (by rfl) D2.gl D2.fn.kp D2.bd .nil pass0 (pa_cons (pv 0) (pa_cons (pv 1) pa_nil)))))
      (pss_cons (ps_compI (i := 3) (g := gPair K) (tc := tTest (tOp rNe (tVar 1) (tC (.int 0)))) (te := tVar 0) (fsc := defScope sKept) (N := nKept) (N' := ["spot", "change"]) (own := 2) (fr := []) ⟨rfl, by decide +kernel, by decide +kernel, by decide +kernel, rfl, by decide +kernel⟩ rfl
        (pi_enum (by rfl) B.enum (pa_cons (pv 2) pa_nil)) (fun cl C s₀ H₀ ex => pg_tup rfl (pgs_cons (pg_name (i := 0) (by show (["spot", "change"] : List Str).Nodup; decide +kernel) rfl (Or.inl rfl)) (pgs_cons (pg_name (i := 1) (by show (["spot", "change"] : List Str).Nodup; decide +kernel) rfl (Or.inl rfl)) pgs_nil)))
        (fun cl C s₀ H₀ ex => pt_cmpR op_ne (pv 1) pe_int (nomark _)) (fun cl C s₀ H₀ ex => pv 0) scKept.nd rfl rfl)
      (pss_cons (ps_if (pt_cmpR op_eq (pe_callB call_len_seq (by rfl) B.len PySem.boot_len (pa_cons (pv 3) pa_nil)) pe_int (nomark _)) (pss_one (ps_ret (pv 1))) pss_nil)
      (pss_cons (ps_set (i := 4) scKept.nd rfl (Or.inr rfl) (pe_ix ix_list (pv 3) pe_int (fun _ _ => rfl)))
      (pss_one (ps_ret (pe_compI (g := gPair K) (tc := tTest (tOp rNe (tVar 0) (tVar 3))) (te := tCall spMade [] E0 (tCons (tVar 1) (tCons (tOp (rIxL K) (tVar 2) (tVar 0)) (tCons (tOp (rIxL K) (tVar 4) (tVar 3)) (tCons (tOp (rIxL K) (tVar 2) (tVar 3)) tNil))))) (fsc := defScope sKept) (N := nKept) (N' := nEach) (own := 2) (fr := [2, 4, 1]) ⟨rfl, by decide +kernel, by decide +kernel, by decide +kernel, rfl, by decide +kernel⟩ rfl
        (pi_enum (by rfl) B.enum (pa_cons (pv 1) pa_nil)) (fun cl C s₀ H₀ ex => pg_tup rfl (pgs_cons (pg_name (i := 0) (by show nEach.Nodup; decide +kernel) rfl (Or.inl rfl)) (pgs_cons (pg_name (i := 1) (by show nEach.Nodup; decide +kernel) rfl (Or.inl rfl)) pgs_nil)))
        (fun cl C s₀ H₀ ex => pt_cmpR op_ne (pv 0) (pv 3) (nomark _))
        (fun cl C s₀ H₀ ex => pe_call GM hr (by rfl) D6.gl D6.fn.kp D6.bd .nil pass0 (pa_cons (pv 1) (pa_cons (pe_ix ix_list (pv 2) (pv 0) (fun _ _ => rfl)) (pa_cons (pe_ix ix_list (pv 4) (pv 3) (fun _ _ => rfl)) (pa_cons (pe_ix ix_list (pv 2) (pv 3) (fun _ _ => rfl)) pa_nil))))))))))), ?_⟩
    have hwz : ws.length ≤ sizeLine := small (by omega)
    refine ⟨_, rfl, t, rfl, ⟨rs, SqL.of hR.li⟩, fun ca hca => ?_⟩
    refine comp_by ws.length hwz (fun i ys σ H2 => (∃ u, σ = [u, some v]) ∧ Same H H2 ∧ H2 ca = some (.lst ys) ∧ ys = iv ((ws.map fun r => chgBy r m).take i) ∧ i ≤ ws.length)
      ⟨⟨none, rfl⟩, Same.new hca, upd_same, by simp, Nat.zero_le _⟩ (fun i ys σ H2 ⟨_, _, _, e, hi⟩ => by rw [e]; simp; omega) (fun i ys σ H2 hi ⟨_, s2, _⟩ => ?_) (fun ys σ H2 ⟨_, s2, _⟩ => ?_) (fun i ys σ H2 x H3 hi ⟨⟨u, es⟩, s2, ha, ey, _⟩ y => ?_) (fun ys σ H2 ⟨_, s2, ha, ey, _⟩ => ?_)
    · exact ⟨rs, rs[i]'(by rw [hR.len]; exact hi), SqL.of (s2 _ _ hR.li), by simp [hR.len, hi]⟩
    · exact ⟨rs, SqL.of (s2 _ _ hR.li), by rw [hR.len]; exact Nat.le_refl _⟩
    · obtain ⟨e3, hx⟩ := y
      subst e3 es
      have hx' := hx rs (SqL.of (s2 _ _ hR.li))
      obtain ⟨a, e1, e2⟩ := hR.get hi
      rw [e1] at hx'
      cases hx'
      have hmem := rowAt_mem hi
      refine ⟨_, rfl, _, rfl, a, v, m, rowAt ws i, n, b, 105, rfl, e2.same s2, hmv.same s2, G.len _ hmem, hwf.1.1, hwf.2.1, by omega, G.bits _ hmem, hbm, by omega, fun H4 s4 => ?_⟩
      refine ⟨s4 _ _ ha, ⟨_, rfl⟩, (s2.trans s4).put hca, upd_same, ?_, hi⟩
      have e7 : (ws.map fun r => chgBy r m)[i]? = some (chgBy (rowAt ws i) m) := by rw [List.getElem?_map, rowAt_get hi]; rfl
      rw [ey, ← take_snoc e7, iv_snoc]
    · rw [List.take_of_length_le (by simp)] at ey
      subst ey
      refine gN ?_
      dsimp only
      have hcl : (ws.map fun r => chgBy r m).length = ws.length := List.length_map ..
      have hco : ∀ i, i < ws.length → co (ws.map fun r => chgBy r m) i = chgBy (rowAt ws i) m := fun i hi => co_map hi
      have hC2 : IntsAt H2 ca (ws.map fun r => chgBy r m) := ha
      generalize (ws.map fun r => chgBy r m) = chs at *
      clear ha
      refine ⟨_, rfl, ca, rfl, ⟨_, SqL.of hC2⟩, fun da hda => ?_⟩
      refine compi_by ws.length hwz (fun i ys σ H3 => (∃ u u', σ = [u, u']) ∧ Same H2 H3 ∧ H3 da = some (.lst ys) ∧ ys = ivN (spots i chs) ∧ i ≤ ws.length)
        ⟨⟨none, none, rfl⟩, Same.new hda, upd_same, rfl, Nat.zero_le _⟩ (fun i ys σ H3 ⟨_, _, _, e, hi⟩ => ?_) (fun i ys σ H3 hi ⟨_, s3, _⟩ => ?_) (fun ys σ H3 ⟨_, s3, _⟩ => ?_) (fun i ys σ H3 x H4 hi ⟨⟨u, u', es⟩, s3, ha, ey, _⟩ y => ?_) (fun ys σ H3 ⟨_, s3, ha, ey, _⟩ => ?_)
      · rw [e, List.length_map, List.length_map]
        exact spots_le i chs
      · exact ⟨iv chs, .int (co chs i), SqL.of (s3 _ _ hC2), by rw [List.getElem?_map, co_get (by omega)]; rfl⟩
      · exact ⟨iv chs, SqL.of (s3 _ _ hC2), by rw [List.length_map]; omega⟩
      · obtain ⟨T, z, rfl, hT, rfl, hz⟩ := y
        have hz' := hz (iv chs) (SqL.of (s3 _ _ hC2))
        have e8 : (iv chs)[i]? = some (.int (co chs i)) := by rw [List.getElem?_map, co_get (by omega)]; rfl
        rw [e8] at hz'
        cases hz'
        subst es
        have sT : Same H3 (upd H3 T (.tup [.int i, .int (co chs i)])) := Same.new hT
        refine ⟨T, _, rfl, SqT.of upd_same, rfl, _, _, rfl, _, _, rfl, rfl, ?_⟩
        refine ⟨_, rfl, rfl, _, rfl, ?_⟩
        by_cases hc : co chs i = 0
        · refine iteNS (by rw [hc]) ?_
          exact ⟨⟨_, _, rfl⟩, s3.trans sT, sT _ _ ha, by rw [ey, spots_succ, if_neg (by simpa using hc), List.append_nil], hi⟩
        · refine ite2 (fun _ => ?_) (fun h => absurd (show (!decide (V.int (co chs i) = V.int 0)) = true by simp [hc]) h)
          refine ⟨_, rfl, sT _ _ ha, ⟨_, _, rfl⟩, (s3.trans sT).put hda, upd_same, ?_, hi⟩
          rw [ey, spots_succ, if_pos hc, ivN, ivN, List.map_append, iv, iv, List.map_append]
          rfl
      · refine gN ?_
        dsimp only
        have s23 := s2.trans s3
        have hD3 : H3 da = some (.lst ys) := ha
        have hC3 := hC2.same s3
        have hR3 := hR.same s23
        clear ha s3 hC2 s2
        refine ⟨_, rfl, da, _, rfl, .inl (SqL.of hD3), rfl, _, rfl, ?_⟩
        cases hsp : spots ws.length chs with
        | nil =>
          rw [hsp] at ey
          subst ey
          refine ite2 (fun _ => ?_) (fun h => absurd (decide_eq_true rfl) h)
          refine ⟨_, rfl, k t rs ws H3 s23 hR3 ((G.keep hwf fun r hr => ?_).mono (by omega)) hwl⟩
          obtain ⟨i, hi, e⟩ := List.getElem_of_mem hr
          have e1 : rowAt ws i = r := by have := rowAt_get hi; rw [List.getElem?_eq_getElem hi, e] at this; exact (Option.some.inj this).symm
          rw [← e1, ← hco i hi]
          exact spots_none hsp hi
        | cons s0' tl =>
          rw [hsp] at ey
          subst ey
          obtain ⟨hk, hc0⟩ := spots_mem hsp
          have hc : chgBy (rowAt ws s0') m ≠ 0 := by rw [← hco s0' hk]; exact hc0
          refine ite2 (fun h => absurd (of_decide_eq_true h) (fun e => by injection e with e; simp at e; omega)) (fun _ => ?_)
          refine ⟨_, rfl, da, _, _, .int (s0' : Nat), rfl, rfl, SqL.of hD3, atI_nat (j := 0) rfl, ?_⟩
          refine gN ?_
          dsimp only
          refine ⟨_, rfl, t, rfl, ⟨rs, SqL.of hR3.li⟩, fun ac hac => ?_⟩
          have hkl : (keptOf m ws s0').length = ws.length - 1 := by unfold keptOf; simp
          refine compi_by ws.length hwz (fun i ys σ H5 => (∃ u u', σ = [u, u', some (.ref ca), some (.int (s0' : Nat)), some (.ref t)]) ∧ Same H3 H5 ∧ RowsAt H5 ac ys ((keptOf m ws s0').take (spotOf s0' i)) ∧ i ≤ ws.length)
            ⟨⟨none, none, rfl⟩, Same.new hac, ⟨upd_same, by simp [spotOf], fun i r e => by simp [spotOf] at e⟩, Nat.zero_le _⟩ (fun i ys σ H5 ⟨_, _, hA, hi⟩ => ?_) (fun i ys σ H5 hi ⟨_, s5, _⟩ => ?_) (fun ys σ H5 ⟨_, s5, _⟩ => ?_) (fun i ys σ H5 x H6 hi ⟨⟨u, u', es⟩, s5, hA, _⟩ y => ?_) (fun ys σ H5 ⟨_, s5, hA, _⟩ => ?_)
          · rw [hA.len, List.length_take]
            unfold spotOf
            split <;> omega
          · exact ⟨rs, rs[i]'(by rw [hR3.len]; exact hi), SqL.of (s5 _ _ hR3.li), by simp [hR3.len, hi]⟩
          · exact ⟨rs, SqL.of (s5 _ _ hR3.li), by rw [hR3.len]; exact Nat.le_refl _⟩
          · obtain ⟨T, z, rfl, hT, rfl, hz⟩ := y
            have hz' := hz rs (SqL.of (s5 _ _ hR3.li))
            obtain ⟨a, e1, e2⟩ := hR3.get hi
            rw [e1] at hz'
            cases hz'
            subst es
            have sT : Same H5 (upd H5 T (.tup [.int i, .ref a])) := Same.new hT
            have s5T := s5.trans sT
            refine ⟨T, _, rfl, SqT.of upd_same, rfl, _, _, rfl, _, _, rfl, rfl, ?_⟩
            refine ⟨_, rfl, _, rfl, rfl, _, rfl, ?_⟩
            by_cases hik : i = s0'
            · refine iteNS (by rw [hik]) ?_
              refine ⟨⟨_, _, rfl⟩, s5T, ?_, hi⟩
              have : spotOf s0' (i + 1) = spotOf s0' i := by unfold spotOf; split <;> split <;> omega
              rw [this]
              exact hA.same sT
            · refine ite2 (fun _ => ?_) (fun h => absurd (show (!decide (V.int (i : Int) = V.int (s0' : Int))) = true by simp; omega) h)
              obtain ⟨q1, q2, q3, q4⟩ := keptOf_get (m := m) hk hi hik
              obtain ⟨ak, e3, e4⟩ := hR3.get hk
              have hCT := hC3.same s5T
              have hRT := hR3.same s5T
              have ati : atI (iv chs) (i : Int) = some (.int (chgBy (rowAt ws i) m)) := by rw [← hco i hi]; exact iv_at (co_get (by omega))
              have atk : atI (iv chs) (s0' : Int) = some (.int (chgBy (rowAt ws s0') m)) := by rw [← hco s0' hk]; exact iv_at (co_get (by omega))
              have atr : atI rs (s0' : Int) = some (.ref ak) := atI_nat e3
              have hmi := rowAt_mem hi
              have hmk := rowAt_mem hk
              have l1 := G.len _ hmi
              have l2 := G.len _ hmk
              obtain ⟨ff, tt, hf⟩ := mixAt_filled G hwf hk hc q1
              rw [q2] at hf
              refine ⟨_, rfl, _, rfl, _, rfl, ca, _, _, _, rfl, rfl, SqL.of hCT, ati, _, rfl, _, rfl, t, _, _, _, rfl, rfl, SqL.of hRT.li, atr, _, rfl, _, rfl, ca, _, _, _, rfl, rfl, SqL.of hCT, atk,
                a, ak, rowAt ws i, rowAt ws s0', tt, chgBy (rowAt ws i) m, chgBy (rowAt ws s0') m, ff, b, b + 109, rfl, e2.same s5T, e4.same s5T, by omega, by omega, G.bits _ hmi, G.bits _ hmk, chgBy_bits l1 hwf hn (G.bits _ hmi) hbm, chgBy_bits l2 hwf hn (G.bits _ hmk) hbm, by omega, hf, fun l H7 hl s7 h7 => ?_⟩
              have hlA : l ≠ ac := Ne.symm (ne_of_none (sT _ _ hA.li) hl)
              refine ⟨s7 _ _ (sT _ _ hA.li), ⟨_, _, rfl⟩, (s5T.trans s7).put hac, ?_, hi⟩
              rw [q3, ← take_snoc q4]
              exact hA.snoc (sT.trans s7) h7 hlA
          · have hx : spotOf s0' ws.length = ws.length - 1 := by unfold spotOf; split <;> omega
            rw [hx, List.take_of_length_le (by omega)] at hA
            exact k ac ys (keptOf m ws s0') H5 (s23.trans s5) hA.plain (G.more hwf hk hn hbm hc) (by omega)
end
end Bd

set_option linter.all false
set_option maxRecDepth 100000
set_option maxHeartbeats 8000000
namespace Bd
open PySem L2 Lin
open PySem.Builtin.Int (intBits)
seal L2.PSs L2.PS L2.PE L2.PT L2.PW L2.PA L2.PI L2.PG L2.PGs
section
variable {P : Program} {w : World} {K : PySem.W.Frag} {mg : Str → Option Value} {base : Heap}
/-! ### sums -/
abbrev nSums : List Str := ["moves", "start", "places", "told", "move"]
theorem scSums : FnScope nSums ["moves", "start"] (defScope sSums) := ⟨rfl, rfl, rfl, by decide +kernel, rfl, by decide +kernel, by decide +kernel⟩
theorem ok_sums {f g1 g2 g3 g4 g5 g6 g7 g8 g9 g10 : Addr} {fd d1 d2 d3 d4 d5 d6 d7 d8 d9 d10 : FuncData} (B : Bn mg) (DB : Df K mg "check_beads" sCheckB ["beads", "places"] g1 d1) (DN : Df K mg "check_net" sCheckN ["moves", "start"] g2 d2)
    (D1 : Df K mg "sum_by" sSumBy ["weights", "beads"] g3 d3) (D2 : Df K mg "change_by" sChgBy ["weights", "move"] g4 d4) (D3 : Df K mg "common_divisor" sCdiv ["numbers"] g5 d5) (D4 : Df K mg "first_not_nought" sFirst ["numbers"] g6 d6) (D5 : Df K mg "in_lowest_form" sLow ["weights"] g7 d7)
    (DU : Df K mg "weight_of_one" sUnit ["places", "place"] g8 d8) (D6 : Df K mg "made_up" sMade ["weights", "change", "others", "change_of_others"] g9 d9) (DK : Df K mg "kept_by" sKept ["move", "told"] g10 d10) (DS : Df K mg "sums" sSums ["moves", "start"] f fd) : FnOk P w K mg base CX0 6 f fd ["moves", "start"] spSums := by
  have GN : FnOk P w K mg base CX0 2 g2 d2 ["moves", "start"] spCheckN := ok_checkN DN.fn B DB
  have GU : FnOk P w K mg base CX0 1 g8 d8 ["places", "place"] spUnit := ok_unit DU.fn B
  have GK : FnOk P w K mg base CX0 4 g10 d10 ["move", "told"] spKept := ok_kept DK.fn B D1 D2 D3 D4 D5 D6
  refine DS.fn.ok scSums (fun vs H Q E h => ?_) (fun cdv A outer s0 H vs Q E hr h => ?_)
  · obtain ⟨p, q, us, ms, st, n, rfl, _⟩ := h
    rfl
  · obtain ⟨p, q, us, ms, st, n, rfl, hm, hq, hw, hwm, hn1, hn, hml, hbm, k⟩ := h
    have hr1 : Room 1 _ := hr.mono (by decide)
    have hr2 : Room 2 _ := hr.mono (by decide)
    have hr4 : Room 4 _ := hr.mono (by decide)
    refine ⟨_, pss_cons (ps_expr (pe_call GN hr2 (by rfl) DN.gl DN.fn.kp DN.bd .nil pass0 (pa_cons (pv 0) (pa_cons (pv 1) pa_nil))))
      (pss_cons (ps_set (i := 2) scSums.nd rfl (Or.inr rfl) (pe_callB call_len_seq (by rfl) B.len PySem.boot_len (pa_cons (pv 1) pa_nil)))
      (pss_cons (ps_comp (i := 3) (g := gName 0) (te := tCall spUnit [] E0 (tCons (tVar 1) (tCons (tVar 0) tNil))) (fsc := defScope sSums) (N := nSums) (N' := ["place", "places"]) (own := 1) (fr := [2]) ⟨rfl, by decide +kernel, by decide +kernel, by decide +kernel, rfl, by decide +kernel⟩ rfl
        (pi_range1 (by rfl) B.range (pa_cons (pv 2) pa_nil)) (fun cl C s₀ H₀ ex => pg_name (i := 0) (by show (["place", "places"] : List Str).Nodup; decide +kernel) rfl (Or.inl rfl))
        (fun cl C s₀ H₀ ex => pe_call GU hr1 (by rfl) DU.gl DU.fn.kp DU.bd .nil pass0 (pa_cons (pv 1) (pa_cons (pv 0) pa_nil))) scSums.nd rfl rfl)
      (pss_cons (ps_for PassesOwn.never rfl (pi_list (pv 0)) (pg_name (i := 4) scSums.nd rfl (Or.inl rfl))
        (pss_one (ps_set (i := 3) scSums.nd rfl (Or.inl rfl) (pe_call GK hr4 (by rfl) DK.gl DK.fn.kp DK.bd .nil pass0 (pa_cons (pv 4) (pa_cons (pv 3) pa_nil))))))
      (pss_one (ps_ret (pv 3)))))), ?_⟩
    refine ⟨_, rfl, _, rfl, p, q, us, ms, st, n, rfl, hm, hq, hw, hwm, by omega, fun H1 s1 => ?_⟩
    refine ⟨_, rfl, q, _, rfl, .inl (SqL.of (hq.same s1)), ?_⟩
    refine gN ?_
    dsimp only
    have hlen : (iv st).length = n := by rw [List.length_map]; exact hw.1
    rw [hlen]
    refine ⟨_, rfl, _, rfl, by omega, by omega, fun acc hacc => ?_⟩
    rw [Int.toNat_natCast]
    have hul : (unitsL n).length = n := by unfold unitsL; simp
    refine comp_by n (small (by omega)) (fun i ys σ H4 => (∃ v, σ = [v, some (.int (n : Nat))]) ∧ Same H1 H4 ∧ RowsAt H4 acc ys ((unitsL n).take i) ∧ i ≤ n)
      ⟨⟨none, rfl⟩, Same.new hacc, ⟨upd_same, by simp, fun i r e => by simp at e⟩, Nat.zero_le _⟩ (fun i ys σ H4 ⟨_, _, hA, hi⟩ => by rw [hA.len, List.length_take]; omega) (fun i ys σ H4 hi _ => hi) (fun ys σ H4 _ => Nat.le_refl _)
      (fun i ys σ H4 x H5 hi ⟨⟨v, es⟩, s4, hA, _⟩ y => ?_) (fun ys σ H4 ⟨_, s4, hA, _⟩ => ?_)
    · obtain ⟨e5, ex⟩ := y
      subst e5 ex es
      refine ⟨_, rfl, _, rfl, n, i, by rw [Int.zero_add]; rfl, by omega, fun l H6 hl s6 h6 => ?_⟩
      have hlA : l ≠ acc := Ne.symm (ne_of_none hA.li hl)
      refine ⟨s6 _ _ hA.li, ⟨_, rfl⟩, (s4.trans s6).put hacc, ?_, hi⟩
      have e7 : (unitsL n)[i]? = some (unitL n i) := by
        unfold unitsL
        rw [List.getElem?_map, List.getElem?_range hi]
        rfl
      rw [← take_snoc e7]
      exact hA.snoc s6 h6 hlA
    · rw [List.take_of_length_le (by omega)] at hA
      refine gN ?_
      dsimp only
      have s14 := s1.trans s4
      have hm4 := hm.same s14
      refine ⟨_, rfl, p, rfl, ⟨us, SqL.of hm4.li⟩, for_list (K := K) (a := p) (xs := us) (fun i σ H5 => ∃ (l : Addr) (rs : List V) (ws : List (List Int)) (u : Option V), σ = [some (.ref p), some (.ref q), some (.int (n : Nat)), some (.ref l), u] ∧ Same H H5 ∧ RowsL H5 l rs ws ∧ Good n (ms.take i) (113 * 2 ^ i - 112) ws ∧ ws.length ≤ 5)
        ⟨acc, ys, unitsL n, none, rfl, s14, hA.plain, Good.start n, by omega⟩ (fun i σ H5 _ ⟨_, _, _, _, _, s5, _⟩ => SqL.of (hm.same s5).li) ?_ ?_⟩
      · rintro i x σ H5 hx ⟨l, rs, ws, u, rfl, s5, hR, G, hwl⟩
        obtain ⟨m, em, hmv⟩ := (hm.same s5).get hx
        have hmem := List.mem_of_getElem? em
        have hi : i < ms.length := (List.getElem?_eq_some_iff.mp em).1
        have h1 : 2 ^ i ≤ 2 ^ 4 := Nat.pow_le_pow_right (by decide) (by omega)
        have h2 := Nat.two_pow_pos i
        have h3 : 2 ^ (i + 1) = 2 * 2 ^ i := by rw [Nat.pow_succ, Nat.mul_comm]
        refine ⟨_, rfl, _, rfl, x, m, l, rs, ws, ms.take i, n, 113 * 2 ^ i - 112, rfl, hmv, hR, G, hwm m hmem, hn, hwl, hbm m hmem, by omega, fun l' rs' ws' H6 s6 hR' G' hwl' => ?_⟩
        refine ⟨l', rs', ws', _, rfl, s5.trans s6, hR', ?_, hwl'⟩
        rw [← take_snoc em, h3]
        have e9 : 113 * (2 * 2 ^ i) - 112 = 2 * (113 * 2 ^ i - 112) + 112 := by omega
        rw [e9]
        exact G'
      · rintro σ H5 ⟨l, rs, ws, u, rfl, s5, hR, G, hwl⟩
        rw [hm.len, List.take_of_length_le (Nat.le_refl _)] at G
        have h1 : 2 ^ ms.length ≤ 2 ^ 5 := Nat.pow_le_pow_right (by decide) hml
        exact ⟨_, rfl, k l rs ws H5 s5 hR (G.mono (by omega))⟩
end
end Bd

set_option linter.all false
set_option maxRecDepth 100000
set_option maxHeartbeats 8000000
namespace Bd
open PySem L2 PySem.Spec PyProof.Rows
theorem all_mk {l : PySem.W.OpenLaw} {w : World} {K : PySem.W.Frag} {h : Heap} {mg : Str → Option Value} {fa f1 f2 f3 f4 f5 f6 f7 f8 f9 f10 f11 f12 f13 f14 f15 f16 f17 f18 f19 f20 f21 f22 : Addr} (X : K.In h) (G : h.Ns mainGlobals mg) (hfa : mg "law" = some (.ref fa))
    {od1 an1 od2 an2 od3 an3 od4 an4 od5 an5 od6 an6 od7 an7 od8 an8 od9 an9 od10 an10 od11 an11 od12 an12 od13 an13 od14 an14 od15 an15 od16 an16 od17 an17 od18 an18 od19 an19 od20 an20 od21 an21 od22 an22 : Option Addr} {sl1 sl2 sl3 sl4 sl5 sl6 sl7 sl8 sl9 sl10 sl11 sl12 sl13 sl14 sl15 sl16 sl17 sl18 sl19 sl20 sl21 sl22 : Array (Option Value)} {oc1 kV1 dc1 pm1 cd1 ct1 oc2 kV2 dc2 pm2 cd2 ct2 oc3 kV3 dc3 pm3 cd3 ct3 oc4 kV4 dc4 pm4 cd4 ct4 oc5 kV5 dc5 pm5 cd5 ct5 oc6 kV6 dc6 pm6 cd6 ct6 oc7 kV7 dc7 pm7 cd7 ct7 oc8 kV8 dc8 pm8 cd8 ct8 oc9 kV9 dc9 pm9 cd9 ct9 oc10 kV10 dc10 pm10 cd10 ct10 oc11 kV11 dc11 pm11 cd11 ct11 oc12 kV12 dc12 pm12 cd12 ct12 oc13 kV13 dc13 pm13 cd13 ct13 oc14 kV14 dc14 pm14 cd14 ct14 oc15 kV15 dc15 pm15 cd15 ct15 oc16 kV16 dc16 pm16 cd16 ct16 oc17 kV17 dc17 pm17 cd17 ct17 oc18 kV18 dc18 pm18 cd18 ct18 oc19 kV19 dc19 pm19 cd19 ct19 oc20 kV20 dc20 pm20 cd20 ct20 oc21 kV21 dc21 pm21 cd21 ct21 oc22 kV22 dc22 pm22 cd22 ct22 : Value}
    (a1 : PySem.W.nsIn K mainGlobals "check_beads" = some (some (.ref f1)))
    (l1 : K.lookup f1 = some ⟨oc1, od1, .func (PySem.W.fnOf "check_beads" "check_beads" (defArgs sCheckB) (defBody sCheckB) (defScope sCheckB) .none kV1 dc1 pm1 an1 cd1 ct1), sl1⟩)
    (c1 : PySem.W.codeIn K cd1 "check_beads" = true)
    (k1 : PySem.W.keepIn K (.ref f1) = true)
    (a2 : PySem.W.nsIn K mainGlobals "check_net" = some (some (.ref f2)))
    (l2 : K.lookup f2 = some ⟨oc2, od2, .func (PySem.W.fnOf "check_net" "check_net" (defArgs sCheckN) (defBody sCheckN) (defScope sCheckN) .none kV2 dc2 pm2 an2 cd2 ct2), sl2⟩)
    (c2 : PySem.W.codeIn K cd2 "check_net" = true)
    (k2 : PySem.W.keepIn K (.ref f2) = true)
    (a3 : PySem.W.nsIn K mainGlobals "sum_by" = some (some (.ref f3)))
    (l3 : K.lookup f3 = some ⟨oc3, od3, .func (PySem.W.fnOf "sum_by" "sum_by" (defArgs sSumBy) (defBody sSumBy) (defScope sSumBy) .none kV3 dc3 pm3 an3 cd3 ct3), sl3⟩)
    (c3 : PySem.W.codeIn K cd3 "sum_by" = true)
    (k3 : PySem.W.keepIn K (.ref f3) = true)
    (a4 : PySem.W.nsIn K mainGlobals "change_by" = some (some (.ref f4)))
    (l4 : K.lookup f4 = some ⟨oc4, od4, .func (PySem.W.fnOf "change_by" "change_by" (defArgs sChgBy) (defBody sChgBy) (defScope sChgBy) .none kV4 dc4 pm4 an4 cd4 ct4), sl4⟩)
    (c4 : PySem.W.codeIn K cd4 "change_by" = true)
    (k4 : PySem.W.keepIn K (.ref f4) = true)
    (a5 : PySem.W.nsIn K mainGlobals "common_divisor" = some (some (.ref f5)))
    (l5 : K.lookup f5 = some ⟨oc5, od5, .func (PySem.W.fnOf "common_divisor" "common_divisor" (defArgs sCdiv) (defBody sCdiv) (defScope sCdiv) .none kV5 dc5 pm5 an5 cd5 ct5), sl5⟩)
    (c5 : PySem.W.codeIn K cd5 "common_divisor" = true)
    (k5 : PySem.W.keepIn K (.ref f5) = true)
    (a6 : PySem.W.nsIn K mainGlobals "first_not_nought" = some (some (.ref f6)))
    (l6 : K.lookup f6 = some ⟨oc6, od6, .func (PySem.W.fnOf "first_not_nought" "first_not_nought" (defArgs sFirst) (defBody sFirst) (defScope sFirst) .none kV6 dc6 pm6 an6 cd6 ct6), sl6⟩)
    (c6 : PySem.W.codeIn K cd6 "first_not_nought" = true)
    (k6 : PySem.W.keepIn K (.ref f6) = true)
    (a7 : PySem.W.nsIn K mainGlobals "in_lowest_form" = some (some (.ref f7)))
    (l7 : K.lookup f7 = some ⟨oc7, od7, .func (PySem.W.fnOf "in_lowest_form" "in_lowest_form" (defArgs sLow) (defBody sLow) (defScope sLow) .none kV7 dc7 pm7 an7 cd7 ct7), sl7⟩)
    (c7 : PySem.W.codeIn K cd7 "in_lowest_form" = true)
    (k7 : PySem.W.keepIn K (.ref f7) = true)
    (a8 : PySem.W.nsIn K mainGlobals "weight_of_one" = some (some (.ref f8)))
    (l8 : K.lookup f8 = some ⟨oc8, od8, .func (PySem.W.fnOf "weight_of_one" "weight_of_one" (defArgs sUnit) (defBody sUnit) (defScope sUnit) .none kV8 dc8 pm8 an8 cd8 ct8), sl8⟩)
    (c8 : PySem.W.codeIn K cd8 "weight_of_one" = true)
    (k8 : PySem.W.keepIn K (.ref f8) = true)
    (a9 : PySem.W.nsIn K mainGlobals "made_up" = some (some (.ref f9)))
    (l9 : K.lookup f9 = some ⟨oc9, od9, .func (PySem.W.fnOf "made_up" "made_up" (defArgs sMade) (defBody sMade) (defScope sMade) .none kV9 dc9 pm9 an9 cd9 ct9), sl9⟩)
    (c9 : PySem.W.codeIn K cd9 "made_up" = true)
    (k9 : PySem.W.keepIn K (.ref f9) = true)
    (a10 : PySem.W.nsIn K mainGlobals "kept_by" = some (some (.ref f10)))
    (l10 : K.lookup f10 = some ⟨oc10, od10, .func (PySem.W.fnOf "kept_by" "kept_by" (defArgs sKept) (defBody sKept) (defScope sKept) .none kV10 dc10 pm10 an10 cd10 ct10), sl10⟩)
    (c10 : PySem.W.codeIn K cd10 "kept_by" = true)
    (k10 : PySem.W.keepIn K (.ref f10) = true)
    (a11 : PySem.W.nsIn K mainGlobals "sums" = some (some (.ref f11)))
    (l11 : K.lookup f11 = some ⟨oc11, od11, .func (PySem.W.fnOf "sums" "sums" (defArgs sSums) (defBody sSums) (defScope sSums) .none kV11 dc11 pm11 an11 cd11 ct11), sl11⟩)
    (c11 : PySem.W.codeIn K cd11 "sums" = true)
    (k11 : PySem.W.keepIn K (.ref f11) = true)
    (a12 : PySem.W.nsIn K mainGlobals "_law_whole" = some (some (.ref f12)))
    (l12 : K.lookup f12 = some ⟨oc12, od12, .func (PySem.W.fnOf "_law_whole" "_law_whole" (defArgs sWhole) (defBody sWhole) (defScope sWhole) .none kV12 dc12 pm12 an12 cd12 ct12), sl12⟩)
    (c12 : PySem.W.codeIn K cd12 "_law_whole" = true)
    (k12 : PySem.W.keepIn K (.ref f12) = true)
    (a13 : PySem.W.nsIn K mainGlobals "_law_at" = some (some (.ref f13)))
    (l13 : K.lookup f13 = some ⟨oc13, od13, .func (PySem.W.fnOf "_law_at" "_law_at" (defArgs sAt) (defBody sAt) (defScope sAt) .none kV13 dc13 pm13 an13 cd13 ct13), sl13⟩)
    (c13 : PySem.W.codeIn K cd13 "_law_at" = true)
    (k13 : PySem.W.keepIn K (.ref f13) = true)
    (a14 : PySem.W.nsIn K mainGlobals "_law_same" = some (some (.ref f14)))
    (l14 : K.lookup f14 = some ⟨oc14, od14, .func (PySem.W.fnOf "_law_same" "_law_same" (defArgs sSame) (defBody sSame) (defScope sSame) .none kV14 dc14 pm14 an14 cd14 ct14), sl14⟩)
    (c14 : PySem.W.codeIn K cd14 "_law_same" = true)
    (k14 : PySem.W.keepIn K (.ref f14) = true)
    (a15 : PySem.W.nsIn K mainGlobals "_law_are_numbers" = some (some (.ref f15)))
    (l15 : K.lookup f15 = some ⟨oc15, od15, .func (PySem.W.fnOf "_law_are_numbers" "_law_are_numbers" (defArgs sAreN) (defBody sAreN) (defScope sAreN) .none kV15 dc15 pm15 an15 cd15 ct15), sl15⟩)
    (c15 : PySem.W.codeIn K cd15 "_law_are_numbers" = true)
    (k15 : PySem.W.keepIn K (.ref f15) = true)
    (a16 : PySem.W.nsIn K mainGlobals "_law_number_of" = some (some (.ref f16)))
    (l16 : K.lookup f16 = some ⟨oc16, od16, .func (PySem.W.fnOf "_law_number_of" "_law_number_of" (defArgs sNumOf) (defBody sNumOf) (defScope sNumOf) .none kV16 dc16 pm16 an16 cd16 ct16), sl16⟩)
    (c16 : PySem.W.codeIn K cd16 "_law_number_of" = true)
    (k16 : PySem.W.keepIn K (.ref f16) = true)
    (a17 : PySem.W.nsIn K mainGlobals "_law_moves_of" = some (some (.ref f17)))
    (l17 : K.lookup f17 = some ⟨oc17, od17, .func (PySem.W.fnOf "_law_moves_of" "_law_moves_of" (defArgs sMovesOf) (defBody sMovesOf) (defScope sMovesOf) .none kV17 dc17 pm17 an17 cd17 ct17), sl17⟩)
    (c17 : PySem.W.codeIn K cd17 "_law_moves_of" = true)
    (k17 : PySem.W.keepIn K (.ref f17) = true)
    (a18 : PySem.W.nsIn K mainGlobals "_law_cleared" = some (some (.ref f18)))
    (l18 : K.lookup f18 = some ⟨oc18, od18, .func (PySem.W.fnOf "_law_cleared" "_law_cleared" (defArgs sCleared) (defBody sCleared) (defScope sCleared) .none kV18 dc18 pm18 an18 cd18 ct18), sl18⟩)
    (c18 : PySem.W.codeIn K cd18 "_law_cleared" = true)
    (k18 : PySem.W.keepIn K (.ref f18) = true)
    (a19 : PySem.W.nsIn K mainGlobals "_law_rank_of" = some (some (.ref f19)))
    (l19 : K.lookup f19 = some ⟨oc19, od19, .func (PySem.W.fnOf "_law_rank_of" "_law_rank_of" (defArgs sRankOf) (defBody sRankOf) (defScope sRankOf) .none kV19 dc19 pm19 an19 cd19 ct19), sl19⟩)
    (c19 : PySem.W.codeIn K cd19 "_law_rank_of" = true)
    (k19 : PySem.W.keepIn K (.ref f19) = true)
    (a20 : PySem.W.nsIn K mainGlobals "_law_common_of" = some (some (.ref f20)))
    (l20 : K.lookup f20 = some ⟨oc20, od20, .func (PySem.W.fnOf "_law_common_of" "_law_common_of" (defArgs sCommon) (defBody sCommon) (defScope sCommon) .none kV20 dc20 pm20 an20 cd20 ct20), sl20⟩)
    (c20 : PySem.W.codeIn K cd20 "_law_common_of" = true)
    (k20 : PySem.W.keepIn K (.ref f20) = true)
    (a21 : PySem.W.nsIn K mainGlobals "_law_is_weight" = some (some (.ref f21)))
    (l21 : K.lookup f21 = some ⟨oc21, od21, .func (PySem.W.fnOf "_law_is_weight" "_law_is_weight" (defArgs sIsW) (defBody sIsW) (defScope sIsW) .none kV21 dc21 pm21 an21 cd21 ct21), sl21⟩)
    (c21 : PySem.W.codeIn K cd21 "_law_is_weight" = true)
    (k21 : PySem.W.keepIn K (.ref f21) = true)
    (a22 : PySem.W.nsIn K mainGlobals "law" = some (some (.ref f22)))
    (l22 : K.lookup f22 = some ⟨oc22, od22, .func (PySem.W.fnOf "law" "law" (defArgs sLaw) (defBody sLaw) (defScope sLaw) .none kV22 dc22 pm22 an22 cd22 ct22), sl22⟩)
    (c22 : PySem.W.codeIn K cd22 "law" = true)
    (k22 : PySem.W.keepIn K (.ref f22) = true)
    (z0 : PySem.W.nsIn K mainGlobals "len" = some none)
    (z1 : PySem.W.nsIn K mainGlobals "any" = some none)
    (z2 : PySem.W.nsIn K mainGlobals "list" = some none)
    (z3 : PySem.W.nsIn K mainGlobals "tuple" = some none)
    (z4 : PySem.W.nsIn K mainGlobals "int" = some none)
    (z5 : PySem.W.nsIn K mainGlobals "bool" = some none)
    (z6 : PySem.W.nsIn K mainGlobals "isinstance" = some none)
    (z7 : PySem.W.nsIn K mainGlobals "range" = some none)
    (z8 : PySem.W.nsIn K mainGlobals "abs" = some none)
    (z9 : PySem.W.nsIn K mainGlobals "sum" = some none)
    (z10 : PySem.W.nsIn K mainGlobals "zip" = some none)
    (z11 : PySem.W.nsIn K mainGlobals "enumerate" = some none)
    : ∃ fd : FuncData, (∀ (s : Shared) (v : Value), BindsTo s fd ⟨[v], []⟩ [("_law_script", v)]) ∧ ∀ base : Heap, K.In base → base.Ns mainGlobals mg → FnOk l.prog w K mg base CX0 7 fa fd ["_law_script"] (spLaw (K := K)) := by
  have e := hfa.symm.trans (PySem.W.mg_of X G a22)
  cases e
  have F1 := fun_mk (st := sCheckB) l1 c1 k1
  have b1 := F1.binds (ps := ["beads", "places"]) fun _ _ _ _ _ _ us hl => match us, hl with | [_, _], _ => rfl
  have D1 : Df K mg "check_beads" sCheckB ["beads", "places"] f1 _ := ⟨F1, b1, PySem.W.mg_of X G a1⟩
  have F2 := fun_mk (st := sCheckN) l2 c2 k2
  have b2 := F2.binds (ps := ["moves", "start"]) fun _ _ _ _ _ _ us hl => match us, hl with | [_, _], _ => rfl
  have D2 : Df K mg "check_net" sCheckN ["moves", "start"] f2 _ := ⟨F2, b2, PySem.W.mg_of X G a2⟩
  have F3 := fun_mk (st := sSumBy) l3 c3 k3
  have b3 := F3.binds (ps := ["weights", "beads"]) fun _ _ _ _ _ _ us hl => match us, hl with | [_, _], _ => rfl
  have D3 : Df K mg "sum_by" sSumBy ["weights", "beads"] f3 _ := ⟨F3, b3, PySem.W.mg_of X G a3⟩
  have F4 := fun_mk (st := sChgBy) l4 c4 k4
  have b4 := F4.binds (ps := ["weights", "move"]) fun _ _ _ _ _ _ us hl => match us, hl with | [_, _], _ => rfl
  have D4 : Df K mg "change_by" sChgBy ["weights", "move"] f4 _ := ⟨F4, b4, PySem.W.mg_of X G a4⟩
  have F5 := fun_mk (st := sCdiv) l5 c5 k5
  have b5 := F5.binds (ps := ["numbers"]) fun _ _ _ _ _ _ us hl => match us, hl with | [_], _ => rfl
  have D5 : Df K mg "common_divisor" sCdiv ["numbers"] f5 _ := ⟨F5, b5, PySem.W.mg_of X G a5⟩
  have F6 := fun_mk (st := sFirst) l6 c6 k6
  have b6 := F6.binds (ps := ["numbers"]) fun _ _ _ _ _ _ us hl => match us, hl with | [_], _ => rfl
  have D6 : Df K mg "first_not_nought" sFirst ["numbers"] f6 _ := ⟨F6, b6, PySem.W.mg_of X G a6⟩
  have F7 := fun_mk (st := sLow) l7 c7 k7
  have b7 := F7.binds (ps := ["weights"]) fun _ _ _ _ _ _ us hl => match us, hl with | [_], _ => rfl
  have D7 : Df K mg "in_lowest_form" sLow ["weights"] f7 _ := ⟨F7, b7, PySem.W.mg_of X G a7⟩
  have F8 := fun_mk (st := sUnit) l8 c8 k8
  have b8 := F8.binds (ps := ["places", "place"]) fun _ _ _ _ _ _ us hl => match us, hl with | [_, _], _ => rfl
  have D8 : Df K mg "weight_of_one" sUnit ["places", "place"] f8 _ := ⟨F8, b8, PySem.W.mg_of X G a8⟩
  have F9 := fun_mk (st := sMade) l9 c9 k9
  have b9 := F9.binds (ps := ["weights", "change", "others", "change_of_others"]) fun _ _ _ _ _ _ us hl => match us, hl with | [_, _, _, _], _ => rfl
  have D9 : Df K mg "made_up" sMade ["weights", "change", "others", "change_of_others"] f9 _ := ⟨F9, b9, PySem.W.mg_of X G a9⟩
  have F10 := fun_mk (st := sKept) l10 c10 k10
  have b10 := F10.binds (ps := ["move", "told"]) fun _ _ _ _ _ _ us hl => match us, hl with | [_, _], _ => rfl
  have D10 : Df K mg "kept_by" sKept ["move", "told"] f10 _ := ⟨F10, b10, PySem.W.mg_of X G a10⟩
  have F11 := fun_mk (st := sSums) l11 c11 k11
  have b11 := F11.binds (ps := ["moves", "start"]) fun _ _ _ _ _ _ us hl => match us, hl with | [_, _], _ => rfl
  have D11 : Df K mg "sums" sSums ["moves", "start"] f11 _ := ⟨F11, b11, PySem.W.mg_of X G a11⟩
  have F12 := fun_mk (st := sWhole) l12 c12 k12
  have b12 := F12.binds (ps := ["_law_found"]) fun _ _ _ _ _ _ us hl => match us, hl with | [_], _ => rfl
  have D12 : Df K mg "_law_whole" sWhole ["_law_found"] f12 _ := ⟨F12, b12, PySem.W.mg_of X G a12⟩
  have F13 := fun_mk (st := sAt) l13 c13 k13
  have b13 := F13.binds (ps := ["_law_script", "_law_k"]) fun _ _ _ _ _ _ us hl => match us, hl with | [_, _], _ => rfl
  have D13 : Df K mg "_law_at" sAt ["_law_script", "_law_k"] f13 _ := ⟨F13, b13, PySem.W.mg_of X G a13⟩
  have F14 := fun_mk (st := sSame) l14 c14 k14
  have b14 := F14.binds (ps := ["_law_found", "_law_due"]) fun _ _ _ _ _ _ us hl => match us, hl with | [_, _], _ => rfl
  have D14 : Df K mg "_law_same" sSame ["_law_found", "_law_due"] f14 _ := ⟨F14, b14, PySem.W.mg_of X G a14⟩
  have F15 := fun_mk (st := sAreN) l15 c15 k15
  have b15 := F15.binds (ps := ["_law_found"]) fun _ _ _ _ _ _ us hl => match us, hl with | [_], _ => rfl
  have D15 : Df K mg "_law_are_numbers" sAreN ["_law_found"] f15 _ := ⟨F15, b15, PySem.W.mg_of X G a15⟩
  have F16 := fun_mk (st := sNumOf) l16 c16 k16
  have b16 := F16.binds (ps := ["_law_cell"]) fun _ _ _ _ _ _ us hl => match us, hl with | [_], _ => rfl
  have D16 : Df K mg "_law_number_of" sNumOf ["_law_cell"] f16 _ := ⟨F16, b16, PySem.W.mg_of X G a16⟩
  have F17 := fun_mk (st := sMovesOf) l17 c17 k17
  have b17 := F17.binds (ps := ["_law_script", "_law_places"]) fun _ _ _ _ _ _ us hl => match us, hl with | [_, _], _ => rfl
  have D17 : Df K mg "_law_moves_of" sMovesOf ["_law_script", "_law_places"] f17 _ := ⟨F17, b17, PySem.W.mg_of X G a17⟩
  have F18 := fun_mk (st := sCleared) l18 c18 k18
  have b18 := F18.binds (ps := ["_law_other", "_law_row", "_law_spot"]) fun _ _ _ _ _ _ us hl => match us, hl with | [_, _, _], _ => rfl
  have D18 : Df K mg "_law_cleared" sCleared ["_law_other", "_law_row", "_law_spot"] f18 _ := ⟨F18, b18, PySem.W.mg_of X G a18⟩
  have F19 := fun_mk (st := sRankOf) l19 c19 k19
  have b19 := F19.binds (ps := ["_law_rows"]) fun _ _ _ _ _ _ us hl => match us, hl with | [_], _ => rfl
  have D19 : Df K mg "_law_rank_of" sRankOf ["_law_rows"] f19 _ := ⟨F19, b19, PySem.W.mg_of X G a19⟩
  have F20 := fun_mk (st := sCommon) l20 c20 k20
  have b20 := F20.binds (ps := ["_law_row"]) fun _ _ _ _ _ _ us hl => match us, hl with | [_], _ => rfl
  have D20 : Df K mg "_law_common_of" sCommon ["_law_row"] f20 _ := ⟨F20, b20, PySem.W.mg_of X G a20⟩
  have F21 := fun_mk (st := sIsW) l21 c21 k21
  have b21 := F21.binds (ps := ["_law_row", "_law_places", "_law_moves"]) fun _ _ _ _ _ _ us hl => match us, hl with | [_, _, _], _ => rfl
  have D21 : Df K mg "_law_is_weight" sIsW ["_law_row", "_law_places", "_law_moves"] f21 _ := ⟨F21, b21, PySem.W.mg_of X G a21⟩
  have F22 := fun_mk (st := sLaw) l22 c22 k22
  have b22 := F22.binds (ps := ["_law_script"]) fun _ _ _ _ _ _ us hl => match us, hl with | [_], _ => rfl
  have D22 : Df K mg "law" sLaw ["_law_script"] fa _ := ⟨F22, b22, PySem.W.mg_of X G a22⟩
  have B : Bn mg := ⟨PySem.W.mg_none_of X G z0, PySem.W.mg_none_of X G z1, PySem.W.mg_none_of X G z2, PySem.W.mg_none_of X G z3, PySem.W.mg_none_of X G z4, PySem.W.mg_none_of X G z5, PySem.W.mg_none_of X G z6, PySem.W.mg_none_of X G z7, PySem.W.mg_none_of X G z8, PySem.W.mg_none_of X G z9, PySem.W.mg_none_of X G z10, PySem.W.mg_none_of X G z11⟩
  have L : Lw K mg f12 f13 f14 f15 f16 f17 f18 f19 f20 f21 _ _ _ _ _ _ _ _ _ _ := ⟨D12, D13, D14, D15, D16, D17, D18, D19, D20, D21⟩
  exact ⟨PySem.W.fnOf "law" "law" (defArgs sLaw) (defBody sLaw) (defScope sLaw) .none kV22 dc22 pm22 an22 cd22 ct22, fun s v => .of_eq rfl, fun base _ _ => ok_law L D22.fn B D11 (ok_sums B D1 D2 D3 D4 D5 D6 D7 D8 D9 D10 D11)⟩
theorem walk_law {l : PySem.W.OpenLaw} {q : Program} {loose : List Str} {XP : (Str → Option Value) → Heap → Prop} {YP : World → Heap → Prop} {d : DefRec} {K : Params → PySem.W.Frag} (hn : l.most = some 63) (hdf : d.params.defaults = [])
    (hY : ∀ (w : World) (h : Heap), YP w h → (K w.params).In h)
    (F : ∀ (w : World) (mg : Str → Option Value) (fa : Addr) (h : Heap), (K w.params).In h → h.Ns mainGlobals mg → mg d.name = some (.ref fa) →
      ∃ fd : FuncData, (∀ (s : Shared) (u : Value), BindsTo s fd ⟨[u], []⟩ [("_law_script", u)]) ∧ ∀ base : Heap, (K w.params).In base → base.Ns mainGlobals mg → FnOk l.prog w (K w.params) mg base CX0 7 fa fd ["_law_script"] (spLaw (K := K w.params))) :
    PySem.W.WalkO q loose XP YP l.row.toRowW d [] (fun f vs => PySem.call f vs) :=
  L2.walk_of (n := 63) (k := 7) (x := "_law_script") (CX := fun _ => CX0) (sp := fun w => spLaw (K := K w.params)) hn (by decide) hdf ⟨rfl, by decide, by decide⟩ hY F (fun _ _ a ns hl _ hS => ⟨a, ns, rfl, hS, hl, fun _ _ => rfl⟩) fun _ _ _ _ _ z => z
end Bd

open PySem PySem.W PyProof.Rows
set_option maxRecDepth 100000 in
set_option maxHeartbeats 0 in
theorem PySem.Challenge.cw_beadnets_k02_whole_sums_holds : PySem.Challenge.rw_beadnets_k02_whole_sums.Holds := by
  w_on; o_law; k_head; (case hw => w_witness2)
  k_fill
  refine Bd.walk_law (l := PySem.Challenge.rw_beadnets_k02_whole_sums) rfl rfl (fun w h Y => PySem.W.kIn_of Y) ?F
  case F =>
    intro w mg fa h KX G hmg
    refine' Bd.all_mk KX G hmg ?a1 ?l1 ?c1 ?k1 ?a2 ?l2 ?c2 ?k2 ?a3 ?l3 ?c3 ?k3 ?a4 ?l4 ?c4 ?k4 ?a5 ?l5 ?c5 ?k5 ?a6 ?l6 ?c6 ?k6 ?a7 ?l7 ?c7 ?k7 ?a8 ?l8 ?c8 ?k8 ?a9 ?l9 ?c9 ?k9 ?a10 ?l10 ?c10 ?k10 ?a11 ?l11 ?c11 ?k11 ?a12 ?l12 ?c12 ?k12 ?a13 ?l13 ?c13 ?k13 ?a14 ?l14 ?c14 ?k14 ?a15 ?l15 ?c15 ?k15 ?a16 ?l16 ?c16 ?k16 ?a17 ?l17 ?c17 ?k17 ?a18 ?l18 ?c18 ?k18 ?a19 ?l19 ?c19 ?k19 ?a20 ?l20 ?c20 ?k20 ?a21 ?l21 ?c21 ?k21 ?a22 ?l22 ?c22 ?k22 ?z0 ?z1 ?z2 ?z3 ?z4 ?z5 ?z6 ?z7 ?z8 ?z9 ?z10 ?z11
    (case a1 => k_is)
    (case l1 => k_is)
    (case c1 => k_is)
    (case k1 => k_is)
    (case a2 => k_is)
    (case l2 => k_is)
    (case c2 => k_is)
    (case k2 => k_is)
    (case a3 => k_is)
    (case l3 => k_is)
    (case c3 => k_is)
    (case k3 => k_is)
    (case a4 => k_is)
    (case l4 => k_is)
    (case c4 => k_is)
    (case k4 => k_is)
    (case a5 => k_is)
    (case l5 => k_is)
    (case c5 => k_is)
    (case k5 => k_is)
    (case a6 => k_is)
    (case l6 => k_is)
    (case c6 => k_is)
    (case k6 => k_is)
    (case a7 => k_is)
    (case l7 => k_is)
    (case c7 => k_is)
    (case k7 => k_is)
    (case a8 => k_is)
    (case l8 => k_is)
    (case c8 => k_is)
    (case k8 => k_is)
    (case a9 => k_is)
    (case l9 => k_is)
    (case c9 => k_is)
    (case k9 => k_is)
    (case a10 => k_is)
    (case l10 => k_is)
    (case c10 => k_is)
    (case k10 => k_is)
    (case a11 => k_is)
    (case l11 => k_is)
    (case c11 => k_is)
    (case k11 => k_is)
    (case a12 => k_is)
    (case l12 => k_is)
    (case c12 => k_is)
    (case k12 => k_is)
    (case a13 => k_is)
    (case l13 => k_is)
    (case c13 => k_is)
    (case k13 => k_is)
    (case a14 => k_is)
    (case l14 => k_is)
    (case c14 => k_is)
    (case k14 => k_is)
    (case a15 => k_is)
    (case l15 => k_is)
    (case c15 => k_is)
    (case k15 => k_is)
    (case a16 => k_is)
    (case l16 => k_is)
    (case c16 => k_is)
    (case k16 => k_is)
    (case a17 => k_is)
    (case l17 => k_is)
    (case c17 => k_is)
    (case k17 => k_is)
    (case a18 => k_is)
    (case l18 => k_is)
    (case c18 => k_is)
    (case k18 => k_is)
    (case a19 => k_is)
    (case l19 => k_is)
    (case c19 => k_is)
    (case k19 => k_is)
    (case a20 => k_is)
    (case l20 => k_is)
    (case c20 => k_is)
    (case k20 => k_is)
    (case a21 => k_is)
    (case l21 => k_is)
    (case c21 => k_is)
    (case k21 => k_is)
    (case a22 => k_is)
    (case l22 => k_is)
    (case c22 => k_is)
    (case k22 => k_is)
    (case z0 => k_is)
    (case z1 => k_is)
    (case z2 => k_is)
    (case z3 => k_is)
    (case z4 => k_is)
    (case z5 => k_is)
    (case z6 => k_is)
    (case z7 => k_is)
    (case z8 => k_is)
    (case z9 => k_is)
    (case z10 => k_is)
    (case z11 => k_is)

