import PyProof.Rows.All
import Wide.All
import OpenK.AllK
import Wide.FinOn
import Lean
import PyProof.EqAt
import PyProof.EqKinds
import PyProof.TupleCall
import PySem.Challenge.RW_evenbeats_k05_whole_folds
set_option Elab.async false
set_option linter.all false
set_option maxRecDepth 100000
/-! THE HAND LAYER, for ints, bools, texts, own classes, LISTS and tuples (index, slices, in, append, pop ..), calls, loops. Paste it whole ahead of your own text; what your proof does not reach may be deleted. -/
namespace L2
open PySem PySem.Spec PyProof.Rows

/-- a key: an int or a str -/
abbrev Key := Sum Int Str
def keyIs : Key → Value → Bool
  | .inl k, v => Value.isInt k v
  | .inr x, v => Value.isStrOf x v
def keyH (w : World) : Key → Int
  | .inl k => hashInt k
  | .inr x => hashStr w x
theorem keyIs_shape : ∀ {k : Key} {v : Value}, keyIs k v = true → (∃ i t, k = Sum.inl i ∧ v = Value.int i t) ∨ (∃ x t, k = Sum.inr x ∧ v = Value.str x t)
  | .inl i, v, h => by
    obtain ⟨t, e⟩ := Value.isInt_shape (k := i) (v := v) h
    exact .inl ⟨i, t, rfl, e⟩
  | .inr x, v, h => by
    obtain ⟨t, e⟩ := Value.isStrOf_shape (x := x) (v := v) h
    exact .inr ⟨x, t, rfl, e⟩
theorem keyIs_int (i : Int) (t : Tok) : keyIs (.inl i) (.int i t) = true := by simp [keyIs, Value.isInt]
theorem keyIs_str (x : Str) (t : Tok) : keyIs (.inr x) (.str x t) = true := by simp [keyIs, Value.isStrOf]
theorem key_ll (a b : Int) : decide ((Sum.inl a : Key) = Sum.inl b) = (a == b) := by
  by_cases e : a = b
  · subst e; simp
  · have h : ¬ (Sum.inl a : Key) = Sum.inl b := fun q => e (Sum.inl.inj q)
    rw [decide_eq_false h]
    exact (beq_eq_false_iff_ne.mpr e).symm
theorem key_rr (a b : Str) : decide ((Sum.inr a : Key) = Sum.inr b) = decide (a = b) := by
  by_cases e : a = b
  · subst e; simp
  · have h : ¬ (Sum.inr a : Key) = Sum.inr b := fun q => e (Sum.inr.inj q)
    rw [decide_eq_false h, decide_eq_false e]
theorem key_lr (a : Int) (b : Str) : decide ((Sum.inl a : Key) = Sum.inr b) = false := decide_eq_false (fun q => nomatch q)
theorem key_rl (a : Str) (b : Int) : decide ((Sum.inr a : Key) = Sum.inl b) = false := decide_eq_false (fun q => nomatch q)

def mixKind (prog : Program) (w : World) : PySem.KeyKind prog w Key where
  is := keyIs
  hash := keyH w
  inj := fun v a b ha hb => by
    rcases keyIs_shape ha with ⟨i, t, rfl, rfl⟩ | ⟨x, t, rfl, rfl⟩
    · rcases keyIs_shape hb with ⟨j, u, rfl, e⟩ | ⟨y, u, rfl, e⟩
      · injection e with e1 _; rw [e1]
      · exact nomatch e
    · rcases keyIs_shape hb with ⟨j, u, rfl, e⟩ | ⟨y, u, rfl, e⟩
      · exact nomatch e
      · injection e with e1 _; rw [e1]
  byValue := fun k v h => by
    rcases keyIs_shape h with ⟨i, t, rfl, rfl⟩ | ⟨x, t, rfl, rfl⟩ <;> rfl
  pyHash := fun hv h => by
    rcases keyIs_shape hv with ⟨i, t, rfl, rfl⟩ | ⟨x, t, rfl, rfl⟩
    · exact wpAny_pyHash_int h
    · exact wpAny_pyHash_str h
  eqBool := fun hu hv h => by
    rcases keyIs_shape hu with ⟨i, t, rfl, rfl⟩ | ⟨x, t, rfl, rfl⟩
    · rcases keyIs_shape hv with ⟨j, u, rfl, rfl⟩ | ⟨y, u, rfl, rfl⟩
      · rw [key_ll] at h; exact wpAny_eqBool_int h
      · rw [key_lr] at h; exact SeqAt.EqAt.int_str i t y u _ _ _ _ h
    · rcases keyIs_shape hv with ⟨j, u, rfl, rfl⟩ | ⟨y, u, rfl, rfl⟩
      · rw [key_rl] at h; exact SeqAt.EqAt.str_int x t j u _ _ _ _ h
      · rw [key_rr] at h; exact wpAny_eqBool_str h
  «strs» := fun k x t v h => by
    rcases keyIs_shape h with ⟨i, u, rfl, e⟩ | ⟨y, u, rfl, e⟩
    · exact nomatch e
    · injection e with e1 _
      subst e1
      cases v <;> rfl

theorem mixKind_is (prog : Program) (w : World) (k : Key) (v : Value) : (mixKind prog w).is k v = keyIs k v := rfl
theorem mixKind_int (prog : Program) (w : World) (i : Int) (t : Tok) : (mixKind prog w).is (.inl i) (.int i t) = true := keyIs_int i t
theorem mixKind_str (prog : Program) (w : World) (x : Str) (t : Tok) : (mixKind prog w).is (.inr x) (.str x t) = true := keyIs_str x t
end L2

namespace L2
open PySem PySem.Spec PyProof.Rows

/-- a value, without the heap -/
inductive V where
  | non | bl (b : Bool) | int (i : Int) | str (x : Str) | byt (b : Array UInt8) | flt (b : UInt64) | ref (a : Addr) | ty (n : String)
  deriving DecidableEq

def RelV : V → Value → Prop
  | .non, u => u = Value.none
  | .bl b, u => u = Value.bool b
  | .int i, u => ∃ t, u = Value.int i t
  | .str x, u => ∃ t, u = Value.str x t
  | .byt b, u => ∃ t, u = Value.bytes b t
  | .flt b, u => ∃ t, u = Value.float b t
  | .ref a, u => u = Value.ref a
  | .ty n, u => u = Value.type n

abbrev Vals : List V → List Value → Prop := Paired RelV
theorem Vals.length {xs : List V} {us : List Value} (r : Vals xs us) : xs.length = us.length := Paired.length r
theorem Vals.get : ∀ {xs : List V} {us : List Value} {i : Nat} {x : V}, Vals xs us → xs[i]? = some x → ∃ u, us[i]? = some u ∧ RelV x u
  | _, _, _, _, .nil, e => by simp at e
  | _, _, 0, _, .cons r _, e => by simp at e; subst e; exact ⟨_, rfl, r⟩
  | _, _, i + 1, x, .cons _ t, e => by
    obtain ⟨u, h1, h2⟩ := Vals.get (i := i) (x := x) t (by simpa using e)
    exact ⟨u, by simpa using h1, h2⟩
theorem Vals.set {x : V} {u : Value} (r : RelV x u) : ∀ {xs : List V} {us : List Value} (i : Nat), Vals xs us → Vals (xs.set i x) (us.set i u)
  | _, _, _, .nil => .nil
  | _, _, 0, .cons _ t => .cons r t
  | _, _, i + 1, .cons q t => .cons q (Vals.set r i t)
theorem Vals.append : ∀ {xs ys : List V} {us ws : List Value}, Vals xs us → Vals ys ws → Vals (xs ++ ys) (us ++ ws)
  | _, _, _, _, .nil, s => s
  | _, _, _, _, .cons r t, s => .cons r (Vals.append t s)
theorem Vals.take : ∀ {xs : List V} {us : List Value} (n : Nat), Vals xs us → Vals (xs.take n) (us.take n)
  | _, _, 0, _ => .nil
  | _, _, _ + 1, .nil => .nil
  | _, _, n + 1, .cons r t => .cons r (Vals.take n t)
theorem Vals.drop : ∀ {xs : List V} {us : List Value} (n : Nat), Vals xs us → Vals (xs.drop n) (us.drop n)
  | _, _, 0, r => r
  | _, _, _ + 1, .nil => .nil
  | _, _, n + 1, .cons _ t => Vals.drop n t
theorem Vals.none_of : ∀ {xs : List V} {us : List Value} {i : Nat}, Vals xs us → xs[i]? = none → us[i]? = none := fun {xs us i} r e => by
  have h1 := r.length
  have h2 : xs.length ≤ i := List.getElem?_eq_none_iff.mp e
  exact List.getElem?_eq_none_iff.mpr (by omega)

def RelO : Option V → Option Value → Prop
  | some v, some u => RelV v u
  | none, none => True
  | _, _ => False
def KV {κ : Type} : List (κ × V) → List (κ × Value) → Prop := Paired fun (p : κ × V) (q : κ × Value) => p.1 = q.1 ∧ RelV p.2 q.2

/-- a key of a dict (00_mix): an int or a text -/
def kV : Key → V
  | .inl i => .int i
  | .inr x => .str x

/-- what stands at a tracked address -/
inductive HO where
  /-- a list -/
  | lst (xs : List V)
  /-- a tuple (never changes) -/
  | tup (xs : List V)
  /-- a dict whose keys are ints and texts; one whose keys are tuples of ints and texts (the empty one is both) -/
  | dK (kvs : List (Key × V)) | dT (kvs : List (List Key × V))
  /-- a set of ints: its members, its size -/
  | set (S : Int → Bool) (n : Nat)
  /-- an instance of the class at C, its dict at dx, its attributes -/
  | ins (C dx : Addr) (fs : List (Str × V))
  /-- the dict of the instance at x -/
  | own (x : Addr)
  /-- the dict of an exception -/
  | xd (fs : List (Str × V))
  /-- a bound method, f of x -/
  | met (f x : Addr)
  /-- a range object lo, lo + 1, .. below hi -/
  | rng (lo hi : Int)
  /-- a thing that is known to the object (the script; a dict while a loop walks it): read, never written while it is so -/
  | frz (o : Obj) (u : HO)
  /-- a code object's table -/
  | tbl (ps : Array Value)
  /-- any other thing, by what is true of its one object (a def of one's own: SetO a S n := HO.ext fun h => ..) -/
  | ext (φ : Heap → Prop)

abbrev Hp := Addr → Option HO
def upd (H : Hp) (a : Addr) (o : HO) : Hp := fun b => if b = a then some o else H b
theorem upd_same {H : Hp} {a : Addr} {o : HO} : upd H a o a = some o := by unfold upd; rw [if_pos rfl]
theorem upd_ne {H : Hp} {a b : Addr} {o : HO} (h : b ≠ a) : upd H a o b = H b := by unfold upd; rw [if_neg h]
theorem upd_upd {H : Hp} {a : Addr} {o u : HO} : upd (upd H a o) a u = upd H a u := by
  funext b; unfold upd; split <;> rfl
/-- two objects of different content stand apart -/
theorem ne_of {H : Hp} {a b : Addr} {o u : HO} (h : H a = some o) (h' : H b = some u) (d : o ≠ u) : a ≠ b := by
  intro e; subst e; rw [h] at h'; exact d (Option.some.inj h')
theorem ne_of_none {H : Hp} {a b : Addr} {o : HO} (h : H a = some o) (h' : H b = none) : a ≠ b := by
  intro e; subst e; rw [h] at h'; cases h'

section
variable (P : Program) (w : World)
def ObjOk (H : Hp) (h : Heap) (a : Addr) : HO → Prop
  | .lst xs => xs.length ≤ sizeLine ∧ ∃ (its : List Value) (n : Nat), Vals xs its ∧ h.get? a = some { cls := .type "list", data := .seq its.toArray n }
  | .tup xs => xs.length ≤ sizeLine ∧ ∃ its : List Value, Vals xs its ∧ IsTup h a its.toArray
  | .dK kvs => kvs.length ≤ sizeLine ∧ (a == sysModules) = false ∧ ∃ vs, KV kvs vs ∧ h.DictOf (mixKind P w) a vs
  | .dT kvs => kvs.length ≤ sizeLine ∧ (a == sysModules) = false ∧ ∃ xs : List (List Key × Addr × Value),
      Paired (fun (p : List Key × V) (q : List Key × Addr × Value) => p.1 = q.1 ∧ H q.2.1 = some (.tup (p.1.map kV)) ∧ RelV p.2 q.2.2) kvs xs ∧
      ∃ o es ep, h.get? a = some o ∧ o.ExactDict ∧ o.data = .dict es ep ∧ es.toList = xs.map (entryOfKey (tupleKind (mixKind P w))) ∧ (xs.map (·.1)).Nodup
  | .set S n => h.SetOf (intKind P w) a S n
  | .ins C dx fs => H dx = some (.own a) ∧ fs.length ≤ 1000 ∧ dx ≠ a ∧ h.get? a = some (PySem.W.instObj C dx) ∧
      ∃ mA, h.Ns1 dx mA ∧ (∀ f, RelO (fs.lookup f) (mA f)) ∧ PySem.Within mA (fs.map (·.1))
  | .own _ => ∃ o, h.get? a = some o
  | .xd fs => ∃ mA, h.Ns1 a mA ∧ ∀ f, RelO (fs.lookup f) (mA f)
  | .rng lo hi => ∃ t u v, h.get? a = some { cls := .type "range", data := .fields #[.int lo t, .int hi u, .int 1 v] }
  | .frz o u => h.get? a = some o ∧ ObjOk H h a u
  | .tbl ps => h.get? a = some { cls := .none, data := .fields ps }
  | .met f x => h.get? a = some (PySem.W.methodObj (.ref f) (.ref x))
  | .ext φ => φ h ∧ (∃ o, h.get? a = some o) ∧ ∀ h1 h2 : Heap, φ h1 → (∀ o, h1.get? a = some o → h2.get? a = some o) → φ h2
/-- the abstract heap is held -/
def HOk (H : Hp) (h : Heap) : Prop := ∀ a o, H a = some o → ObjOk P w H h a o
end

section
variable {P : Program} {w : World} {H H' : Hp} {h h' : Heap} {a : Addr} {o : HO}
theorem ObjOk.lt (x : ObjOk P w H h a o) : a < h.objs.size := by
  cases o with
  | lst xs => obtain ⟨_, _, _, _, e⟩ := x; exact Heap.lt_size e
  | tup xs => obtain ⟨_, _, _, p⟩ := x; exact p.lt
  | dK kvs => obtain ⟨_, _, _, _, o, _, _, e, _⟩ := x; exact Heap.lt_size e
  | dT kvs => obtain ⟨_, _, _, _, o, _, _, e, _⟩ := x; exact Heap.lt_size e
  | set S n => obtain ⟨o, _, _, _, e, _⟩ := x; exact Heap.lt_size e
  | ins C dx fs => obtain ⟨_, _, _, e, _⟩ := x; exact Heap.lt_size e
  | own y => obtain ⟨_, e⟩ := x; exact Heap.lt_size e
  | xd fs => obtain ⟨_, ⟨_, _, _, e, _⟩, _⟩ := x; exact Heap.lt_size e
  | rng lo hi => obtain ⟨_, _, _, e⟩ := x; exact Heap.lt_size e
  | frz ob u => obtain ⟨e, _⟩ := x; exact Heap.lt_size e
  | tbl ps => exact Heap.lt_size (show h.get? a = some _ from x)
  | met f y => exact Heap.lt_size (show h.get? a = some _ from x)
  | ext φ => obtain ⟨_, ⟨_, e⟩, _⟩ := x; exact Heap.lt_size e
theorem Paired.mapP {α β : Type} {F G : α → β → Prop} : ∀ {l₁ : List α} {l₂ : List β}, Paired F l₁ l₂ → (∀ a b, F a b → G a b) → Paired G l₁ l₂
  | _, _, .nil, _ => .nil
  | _, _, .cons r t, f => .cons (f _ _ r) (Paired.mapP t f)
theorem Paired.imp' {α β : Type} {F G : α → β → Prop} (f : ∀ a b, F a b → G a b) {l₁ : List α} {l₂ : List β} (r : Paired F l₁ l₂) : Paired G l₁ l₂ := Paired.mapP r f
/-- what an object's description leans on: its own object, its own dict, the tuples -/
theorem ObjOk.stay (x : ObjOk P w H h a o) (k : ∀ b u, (b = a ∨ H b = some (.own a)) → h.get? b = some u → h'.get? b = some u)
    (ho : ∀ b, H b = some (.own a) → H' b = some (.own a)) (ht : ∀ b xs, H b = some (.tup xs) → H' b = some (.tup xs)) : ObjOk P w H' h' a o := by
  induction o with
  | lst xs => obtain ⟨z, its, n, r, e⟩ := x; exact ⟨z, its, n, r, k _ _ (.inl rfl) e⟩
  | tup xs => obtain ⟨z, its, r, ob, e, c⟩ := x; exact ⟨z, its, r, ob, k _ _ (.inl rfl) e, c⟩
  | dK kvs => obtain ⟨z, y, vs, r, ob, es, ep, e, c⟩ := x; exact ⟨z, y, vs, r, ob, es, ep, k _ _ (.inl rfl) e, c⟩
  | dT kvs =>
    obtain ⟨z, y, xs, r, ob, es, ep, e, c⟩ := x
    exact ⟨z, y, xs, Paired.mapP r fun p q z => ⟨z.1, ht _ _ z.2.1, z.2.2⟩, ob, es, ep, k _ _ (.inl rfl) e, c⟩
  | set S n => obtain ⟨ob, es, ep, t, e, c⟩ := x; exact ⟨ob, es, ep, t, k _ _ (.inl rfl) e, c⟩
  | ins C dx fs =>
    obtain ⟨d, z, ne, e, mA, ⟨od, es, ep, e2, c⟩, r⟩ := x
    exact ⟨ho _ d, z, ne, k _ _ (.inl rfl) e, mA, ⟨od, es, ep, k _ _ (.inr d) e2, c⟩, r⟩
  | own y => obtain ⟨ob, e⟩ := x; exact ⟨ob, k _ _ (.inl rfl) e⟩
  | xd fs => obtain ⟨mA, ⟨od, es, ep, e, c⟩, r⟩ := x; exact ⟨mA, ⟨od, es, ep, k _ _ (.inl rfl) e, c⟩, r⟩
  | rng lo hi => obtain ⟨t, u, v, e⟩ := x; exact ⟨t, u, v, k _ _ (.inl rfl) e⟩
  | frz ob u ih => obtain ⟨e, q⟩ := x; exact ⟨k _ _ (.inl rfl) e, ih q⟩
  | tbl ps =>
    have e : h.get? a = some { cls := .none, data := .fields ps } := x
    show h'.get? a = some { cls := .none, data := .fields ps }
    exact k a _ (.inl rfl) e
  | met f y =>
    have e : h.get? a = some (PySem.W.methodObj (.ref f) (.ref y)) := x
    show h'.get? a = some (PySem.W.methodObj (.ref f) (.ref y))
    exact k a _ (.inl rfl) e
  | ext φ => obtain ⟨p, ⟨o, e⟩, st⟩ := x; exact ⟨st _ _ p fun o q => k _ _ (.inl rfl) q, ⟨o, k _ _ (.inl rfl) e⟩, st⟩
theorem HOk.lt (x : HOk P w H h) (e : H a = some o) : a < h.objs.size := (x a o e).lt
theorem HOk.fresh (x : HOk P w H h) (e : h.objs.size ≤ a) : H a = none := by
  cases q : H a with
  | none => rfl
  | some u => exact absurd (Nat.lt_of_lt_of_le (x.lt q) e) (Nat.lt_irrefl _)
/-- every object of the heap is kept -/
theorem HOk.kept (x : HOk P w H h) (k : ∀ b u, h.get? b = some u → h'.get? b = some u) : HOk P w H h' := fun a o e =>
  (x a o e).stay (fun b u _ q => k b u q) (fun _ q => q) fun _ _ q => q
/-- a new object is laid and tracked -/
theorem HOk.laid (x : HOk P w H h) (k : ∀ b u, h.get? b = some u → h'.get? b = some u) (hp : h.objs.size ≤ a) (new : ObjOk P w (upd H a o) h' a o) : HOk P w (upd H a o) h' := fun b u e => by
  have hn := x.fresh hp
  by_cases hb : b = a
  · subst hb; rw [upd_same] at e; cases e; exact new
  · rw [upd_ne hb] at e
    exact (x b u e).stay (fun c v _ q => k c v q) (fun c q => by rw [upd_ne (ne_of_none q hn)]; exact q) fun c xs q => by rw [upd_ne (ne_of_none q hn)]; exact q
end

/-- what may be read as u: it is u, or a known u -/
def Rd (H : Hp) (a : Addr) (u : HO) : Prop := H a = some u ∨ ∃ o, H a = some (.frz o u)
theorem Rd.of {H : Hp} {a : Addr} {u : HO} (h : H a = some u) : Rd H a u := .inl h
theorem Rd.ok {P : Program} {w : World} {H : Hp} {h : Heap} {a : Addr} {u : HO} (r : Rd H a u) (x : HOk P w H h) : ObjOk P w H h a u := by
  rcases r with r | ⟨o, r⟩
  · exact x a u r
  · obtain ⟨_, q⟩ := x a _ r
    exact q
/-- what may be written -/
def Mut : Option HO → Prop
  | some (.lst _) => True
  | some (.dK _) => True
  | some (.dT _) => True
  | some (.set _ _) => True
  | some (.ins _ _ _) => True
  | some (.ext _) => True
  | _ => False
section
variable {P : Program} {w : World} {H : Hp} {h h' : Heap} {x e : Addr} {o' : HO}
/-- the object at e is changed: x itself, or the dict of the instance x -/
theorem HOk.write (ok : HOk P w H h) (mu : Mut (H x)) (he : e = x ∨ H e = some (.own x)) (k : ∀ b u, b ≠ e → h.get? b = some u → h'.get? b = some u) (heo : ∃ u, h'.get? e = some u)
    (new : ObjOk P w (upd H x o') h' x o') : HOk P w (upd H x o') h' := fun b u q => by
  have nown : ∀ c y, H c = some (.own y) → c ≠ x := fun c y r z => by subst z; rw [r] at mu; exact mu
  have ntup : ∀ c xs, H c = some (.tup xs) → c ≠ x := fun c xs r z => by subst z; rw [r] at mu; exact mu
  by_cases hb : b = x
  · subst hb; rw [upd_same] at q; cases q; exact new
  · rw [upd_ne hb] at q
    by_cases hbe : b = e
    · have q' : H b = some (.own x) := by
        rcases he with z | z
        · exact absurd (hbe.trans z) hb
        · rw [hbe]; exact z
      rw [q] at q'; cases q'
      obtain ⟨v, hv⟩ := heo
      exact ⟨v, by rw [hbe]; exact hv⟩
    · refine (ok b u q).stay (fun c v hc r => k c v ?_ r) (fun c r => by rw [upd_ne (nown c b r)]; exact r) fun c xs r => by rw [upd_ne (ntup c xs r)]; exact r
      rcases hc with rfl | hc
      · exact hbe
      · rintro rfl
        rcases he with z | z
        · exact nown c b hc z
        · rw [hc] at z; cases z; exact hb rfl
end

/-! ### kept unless tracked; of the frames at fs (the callers') the slots may change (an exception that passes writes there); of the records at ex (iterators) nothing is said -/
structure Un (fs ex : List Addr) (H H' : Hp) (h h' : Heap) : Prop where
  keep : ∀ b o, h.get? b = some o → H b = none → b ∉ fs → b ∉ ex → h'.get? b = some o
  slot : ∀ b o, h.get? b = some o → H b = none → b ∈ fs → b ∉ ex → ∃ sl, h'.get? b = some { o with slots := sl }
  free : ∀ b o, h.get? b = some o → H b = none → b ∉ ex → H' b = none
  there : ∀ b o, h.get? b = some o → b ∉ ex → ∃ o', h'.get? b = some o'
  tups : ∀ b xs, H b = some (.tup xs) → H' b = some (.tup xs)
  frzs : ∀ b o u, H b = some (.frz o u) → H' b = some (.frz o u)
  tbls : ∀ b ps, H b = some (.tbl ps) → ∃ more, H' b = some (.tbl (ps ++ more))
section
variable {fs fs' ex ex' : List Addr} {H H1 H2 : Hp} {h h1 h2 h' : Heap} {a x e : Addr} {o : HO}
theorem Un.any (u : Un fs ex H H1 h h1) {b : Addr} {ob : Obj} (q : h.get? b = some ob) (n : H b = none) (hx : b ∉ ex) : ∃ sl, h1.get? b = some { ob with slots := sl } := by
  by_cases hb : b ∈ fs
  · exact u.slot b ob q n hb hx
  · exact ⟨ob.slots, u.keep b ob q n hb hx⟩
theorem Un.trans (a : Un fs ex H H1 h h1) (b : Un fs ex H1 H2 h1 h2) : Un fs ex H H2 h h2 where
  keep := fun c ob q n hc hx => b.keep c ob (a.keep c ob q n hc hx) (a.free c ob q n hx) hc hx
  slot := fun c ob q n hc hx => by
    obtain ⟨sl, e1⟩ := a.slot c ob q n hc hx
    obtain ⟨sl', e2⟩ := b.slot c _ e1 (a.free c ob q n hx) hc hx
    exact ⟨sl', e2⟩
  free := fun c ob q n hx => by
    obtain ⟨o', e1⟩ := a.there c ob q hx
    exact b.free c o' e1 (a.free c ob q n hx) hx
  there := fun c ob q hx => by
    obtain ⟨o', e1⟩ := a.there c ob q hx
    exact b.there c o' e1 hx
  tups := fun c xs q => b.tups c xs (a.tups c xs q)
  frzs := fun c ob xs q => b.frzs c ob xs (a.frzs c ob xs q)
  tbls := fun c ps q => by
    obtain ⟨m1, e1⟩ := a.tbls c ps q
    obtain ⟨m2, e2⟩ := b.tbls c _ e1
    exact ⟨m1 ++ m2, by rw [e2, Array.append_assoc]⟩
theorem Un.kept (k : ∀ b u, h.get? b = some u → h'.get? b = some u) : Un fs ex H H h h' :=
  ⟨fun b ob q _ _ _ => k b ob q, fun b ob q _ _ _ => ⟨ob.slots, k b ob q⟩, fun _ _ _ n _ => n, fun b ob q _ => ⟨ob, k b ob q⟩, fun _ _ q => q, fun _ _ _ q => q, fun _ ps q => ⟨#[], by rw [q]; simp⟩⟩
theorem Un.refl : Un fs ex H H h h := Un.kept fun _ _ q => q
theorem Un.laid (k : ∀ b u, h.get? b = some u → h'.get? b = some u) (hp : h.objs.size ≤ a) (hn : H a = none) : Un fs ex H (upd H a o) h h' where
  keep := fun b u q _ _ _ => k b u q
  slot := fun b u q _ _ _ => ⟨u.slots, k b u q⟩
  free := fun b u q n _ => by rw [upd_ne (Nat.ne_of_lt (Nat.lt_of_lt_of_le (Heap.lt_size q) hp))]; exact n
  there := fun b u q _ => ⟨u, k b u q⟩
  tups := fun b xs q => by rw [upd_ne (ne_of_none q hn)]; exact q
  frzs := fun b u xs q => by rw [upd_ne (ne_of_none q hn)]; exact q
  tbls := fun b ps q => ⟨#[], by rw [upd_ne (ne_of_none q hn), q]; simp⟩
theorem Un.write (mu : Mut (H x)) (he : e = x ∨ H e = some (.own x)) (k : ∀ b u, b ≠ e → h.get? b = some u → h'.get? b = some u) (heo : ∃ u, h'.get? e = some u) : Un fs ex H (upd H x o) h h' := by
  have hx : ∀ b, H b = none → b ≠ x := fun b n z => by subst z; rw [n] at mu; exact mu
  have hb : ∀ b, H b = none → b ≠ e := fun b n z => by
    subst z
    rcases he with r | r
    · exact hx b n r
    · rw [n] at r; cases r
  have hm : ∀ b u, H b = some u → ¬ Mut (some u) → b ≠ x := fun b u q nm z => by subst z; rw [q] at mu; exact nm mu
  refine ⟨fun b u q n _ _ => k b u (hb b n) q, fun b u q n _ _ => ⟨u.slots, k b u (hb b n) q⟩, fun b u q n _ => by rw [upd_ne (hx b n)]; exact n, fun b u q _ => ?_,
    fun b xs q => by rw [upd_ne (hm b _ q fun z => z)]; exact q, fun b u xs q => by rw [upd_ne (hm b _ q fun z => z)]; exact q, fun b ps q => ⟨#[], by rw [upd_ne (hm b _ q fun z => z), q]; simp⟩⟩
  by_cases hbe : b = e
  · subst hbe; exact heo
  · exact ⟨u, k b u hbe q⟩
theorem Un.mono (u : Un fs ex H H1 h h1) (hs : ∀ b ∈ fs, b ∈ fs') (hx : ∀ b ∈ ex, b ∈ ex') : Un fs' ex' H H1 h h1 :=
  ⟨fun b ob q n hb he => u.keep b ob q n (fun z => hb (hs b z)) fun z => he (hx b z), fun _ _ q n _ he => u.any q n fun z => he (hx _ z), fun b ob q n he => u.free b ob q n fun z => he (hx b z), fun b ob q he => u.there b ob q fun z => he (hx b z), u.tups, u.frzs, u.tbls⟩
end

/-! ### the heap without what is tracked -/
def trk (h : Heap) (H : Hp) : List Addr := (List.range h.objs.size).filter fun a => (H a).isSome
def hidT (h : Heap) (H : Hp) : Heap := PySem.W.hideAll h (trk h H)
theorem hidT_size (h : Heap) (H : Hp) : (hidT h H).objs.size = h.objs.size := PySem.W.hideAll_size _ _
theorem hidT_get {h : Heap} {H : Hp} {b : Addr} {o : Obj} (e : h.get? b = some o) (n : H b = none) : (hidT h H).get? b = some o :=
  PySem.W.hideAll_get _ e fun hm => by
    have q : (H b).isSome = true := (List.mem_filter.mp hm).2
    rw [n] at q; simp at q
theorem of_hidT {h : Heap} {H : Hp} {b : Addr} {o : Obj} (e : (hidT h H).get? b = some o) : h.get? b = some o ∧ H b = none := by
  have e' : h.get? b = some o := PySem.W.of_hideAll (trk h H) e
  refine ⟨e', ?_⟩
  cases q : H b with
  | none => rfl
  | some x =>
    have hm : b ∈ trk h H := List.mem_filter.mpr ⟨List.mem_range.mpr (Heap.lt_size e'), by simp [q]⟩
    have z : (hidT h H).get? b = none := PySem.W.hideAll_none (trk h H) hm
    rw [z] at e; cases e

/-! ### OpenK's ledger, filled with every new object but one -/
def allNews (g h : Heap) (L : Addr) : List (Addr × Obj) := (List.range h.objs.size).filterMap fun a => if a = L ∨ (g.get? a).isSome = true then none else (h.get? a).map fun o => (a, o)
theorem mem_allNews {g h : Heap} {L a : Addr} {o : Obj} (h1 : a ≠ L) (h2 : g.get? a = none) (h3 : h.get? a = some o) : (a, o) ∈ allNews g h L :=
  List.mem_filterMap.mpr ⟨a, List.mem_range.mpr (Heap.lt_size h3), by simp [h1, h2, h3]⟩
theorem of_mem_allNews {g h : Heap} {L : Addr} {p : Addr × Obj} (hp : p ∈ allNews g h L) : p.1 ≠ L ∧ g.get? p.1 = none ∧ h.get? p.1 = some p.2 := by
  obtain ⟨b, _, e⟩ := List.mem_filterMap.mp hp
  split at e
  · cases e
  · rename_i hn
    cases q : h.get? b with
    | none => rw [q] at e; simp at e
    | some u =>
      rw [q] at e
      simp only [Option.map_some, Option.some.injEq] at e
      subst e
      refine ⟨fun z => hn (.inl z), ?_, q⟩
      show g.get? b = none
      cases r : g.get? b with
      | none => rfl
      | some v => exact (hn (.inr (by simp [r]))).elim
def rest (g h : Heap) (L d : Addr) : List (Addr × Obj) := (allNews g h L).filter fun p => decide (p.1 ≠ d)
theorem rest_ne {g h : Heap} {L d : Addr} : ∀ p ∈ rest g h L d, p.1 ≠ d := fun p hp => of_decide_eq_true (List.mem_filter.mp hp).2
theorem mem_rest {g h : Heap} {L d a : Addr} {o : Obj} (h1 : a ≠ L) (h2 : g.get? a = none) (h3 : h.get? a = some o) (h4 : a ≠ d) : (a, o) ∈ rest g h L d :=
  List.mem_filter.mpr ⟨mem_allNews h1 h2 h3, decide_eq_true h4⟩
theorem news_all {g h : Heap} {L : Addr} : News g L h (allNews g h L) := fun p hp => let ⟨a, b, c⟩ := of_mem_allNews hp; ⟨c, a, b⟩
theorem news_at {g h : Heap} {L d : Addr} {o : Obj} (h1 : d ≠ L) (h2 : g.get? d = none) (h3 : h.get? d = some o) : News g L h ((d, o) :: rest g h L d) := fun p hp => by
  rcases List.mem_cons.mp hp with rfl | hp
  · exact ⟨h3, h1, h2⟩
  · exact news_all p (List.mem_filter.mp hp).1
/-- behind a rule that changed d alone: all else but the frame is kept -/
theorem kept_of_news {g h h' : Heap} {L d : Addr} {m : Str → Option Value} (k : ∀ b o, g.get? b = some o → h.get? b = some o) (F : Fr g L h' m) (N : News g L h' (rest g h L d)) :
    ∀ b o, b ≠ L → b ≠ d → h.get? b = some o → h'.get? b = some o := fun b o h1 h2 e => by
  cases q : g.get? b with
  | some u =>
    have := k b u q
    rw [e] at this; cases this
    exact F.keep b _ q
  | none => exact (N (b, o) (mem_rest h1 q e h2)).1
end L2

namespace L2
open PySem PySem.Spec PyProof.Rows

/-- the module's facts, over the base: the heap at the law's entry without what is tracked there -/
structure Mod (K : PySem.W.Frag) (mg : Str → Option Value) (base : Heap) : Prop where
  kin : K.In base
  glob : base.Ns mainGlobals mg
  blt : ∃ mb, base.Ns builtinsNs mb ∧ ∀ x : Str, x ≠ "__name__" → mb x = bootBuiltins x
  nolimit : base.NoLimit

/-- the context: a def's body (or a comprehension's block) running. base: fixed through the whole law; s₀, H₀: the entry; outer: the frames whose slots others may change (a def's callers); stack: all frames that run;
   ex: iterators that were made ahead of the entry and are walked here (a comprehension's); fn: the names whose cells were made at the entry (a def: all; a comprehension's block: its own); calm: not within an except suite; pn: pins that every state bears; xe: what is wanted of an exception that leaves the code -/
structure Cx where
  prog : Program
  w : World
  K : PySem.W.Frag
  mg : Str → Option Value
  base : Heap
  A : Around
  N : List Str
  s₀ : Shared
  H₀ : Hp
  env : Env
  outer : List Env
  stack : List Env
  ex : List Addr
  fn : Str → Bool
  calm : Bool
  pn : List (Addr × Obj)
  xe : Value → Shared → Prop
/-- the callers' frames -/
def frs (l : List Env) : List Addr := l.filterMap (·.frame)
abbrev Cx.fs (X : Cx) : List Addr := frs X.outer

def Vis (sc : Scope) (x : Str) : Prop := sc.names.lookup x = some .local ∨ sc.names.lookup x = some .cell ∨ sc.names.lookup x = some .free
def Loc (sc : Scope) (x : Str) : Prop := sc.names.lookup x = some .local ∨ sc.names.lookup x = some .cell
def Look (env : Env) (h : Heap) (m : Str → Option Value) (x : Str) (u : Value) : Prop :=
  (env.kindOf x = some .local ∧ m x = some u) ∨ ((env.kindOf x = some .cell ∨ env.kindOf x = some .free) ∧ ∃ c, env.cells.lookup x = some c ∧ h.IsCell c (some u))

structure Cx.Ok (X : Cx) : Prop where
  mod : Mod X.K X.mg X.base
  kind : X.env.scope.kind = .function
  glob : X.env.globals = mainGlobals
  blt : X.env.builtins = builtinsNs
  above : X.s₀.heap.objs.size ≤ X.env.locals
  inj : ∀ x y c, X.env.cells.lookup x = some c → X.env.cells.lookup y = some c → x = y
  has : ∀ x, (X.env.kindOf x = some .cell ∨ X.env.kindOf x = some .free) → ∃ c, X.env.cells.lookup x = some c
  cab : ∀ x c, X.fn x = true → X.env.cells.lookup x = some c → X.s₀.heap.objs.size ≤ c
  hd : X.calm = true → X.A.handled = none
  frames : X.A.frames = some X.stack
  stk : X.stack = X.outer ∨ (X.stack = X.env :: X.outer ∧ X.env.frame = some X.env.locals)
  exf : ∀ b ∈ X.ex, b ≠ X.env.locals ∧ ∀ x c, X.env.cells.lookup x = some c → c ≠ b
  bs : ∀ b o, X.base.get? b = some o → X.s₀.heap.get? b = some o ∧ X.H₀ b = none
  bsz : X.base.objs.size ≤ X.s₀.heap.objs.size
  noex : ∀ b o, X.base.get? b = some o → b ∉ X.ex
  exfs : ∀ b ∈ X.ex, b ∉ X.fs
  funs : X.s₀.heap.FunFrames X.base X.outer
  frf : ∀ b ∈ X.fs, X.H₀ b = none

structure Inv (X : Cx) (pins : List (Addr × Obj)) (σ : List (Option V)) (H : Hp) (s : Shared) : Prop where
  ok : X.Ok
  os : s.os = X.s₀.os
  bare : AllBare s.gens
  base : Un X.fs X.ex X.H₀ H X.s₀.heap s.heap
  loc : ∃ m, s.heap.Ns X.env.locals m ∧ ∀ (i : Nat) (x : Str) (v : V), X.N[i]? = some x → σ[i]? = some (some v) → Vis X.env.scope x → ∃ u, RelV v u ∧ Look X.env s.heap m x u
  cell : ∀ x c, X.env.cells.lookup x = some c → ∃ v, s.heap.IsCell c v
  free : H X.env.locals = none
  freeC : ∀ x c, X.env.cells.lookup x = some c → H c = none
  pin : ∀ p ∈ X.pn ++ pins, s.heap.get? p.1 = some p.2 ∧ H p.1 = none ∧ p.1 ≠ X.env.locals ∧ p.1 ∉ X.fs ∧ ∀ v, p.2.data ≠ .cell v
  hok : HOk X.prog X.w H s.heap
  len : σ.length = X.N.length

section
variable {X : Cx} {pins : List (Addr × Obj)} {σ : List (Option V)} {H H' : Hp} {s : Shared} {h' : Heap}

theorem Cx.Ok.nofr (ok : X.Ok) {b : Addr} {o : Obj} (e : X.base.get? b = some o) : b ∉ X.fs := fun hb => by
  have := (ok.funs.mem hb).1
  rw [e] at this; cases this
theorem Inv.bs (I : Inv X pins σ H s) : ∀ b o, X.base.get? b = some o → s.heap.get? b = some o ∧ H b = none := fun b o e =>
  ⟨I.base.keep b o (I.ok.bs b o e).1 (I.ok.bs b o e).2 (I.ok.nofr e) (I.ok.noex b o e), I.base.free b o (I.ok.bs b o e).1 (I.ok.bs b o e).2 (I.ok.noex b o e)⟩
theorem Inv.bk (I : Inv X pins σ H s) : ∀ b o, X.base.get? b = some o → s.heap.get? b = some o := fun b o e => (I.bs b o e).1
theorem Inv.mod (I : Inv X pins σ H s) : Mod X.K X.mg X.base := I.ok.mod
theorem Inv.kIn (I : Inv X pins σ H s) : X.K.In s.heap := I.ok.mod.kin.keeps I.bk
theorem Inv.nolimit (I : Inv X pins σ H s) : s.heap.NoLimit := I.ok.mod.nolimit.keeps I.bk
/-- the frame over the base: for OpenK's rules (K.In X.base is I.mod.kin) -/
theorem Inv.fr (I : Inv X pins σ H s) : ∃ m, Fr X.base X.env.locals s.heap m :=
  let ⟨m, hn, _⟩ := I.loc
  ⟨m, hn, I.bk, Nat.le_trans I.ok.bsz I.ok.above⟩
theorem Inv.lt (I : Inv X pins σ H s) : X.env.locals < s.heap.objs.size := let ⟨_, hn, _⟩ := I.loc; hn.lt
theorem Inv.sz (I : Inv X pins σ H s) : X.s₀.heap.objs.size ≤ s.heap.objs.size := Nat.le_trans I.ok.above (Nat.le_of_lt I.lt)
theorem Inv.nofs (I : Inv X pins σ H s) {a : Addr} (h : s.heap.objs.size ≤ a) : a ∉ X.fs := fun hb => by
  obtain ⟨_, o, ho, _⟩ := I.ok.funs.mem hb
  exact absurd (Nat.lt_of_lt_of_le (Heap.lt_size ho) (Nat.le_trans I.sz h)) (Nat.lt_irrefl _)
theorem Inv.cne (I : Inv X pins σ H s) : ∀ x c, X.env.cells.lookup x = some c → c ≠ X.env.locals := fun x c e z => by
  obtain ⟨v, o, ho, hd⟩ := I.cell x c e
  obtain ⟨m, ⟨o', es, ep, ho', hd', _⟩, _⟩ := I.loc
  rw [z, ho'] at ho; cases ho; rw [hd'] at hd; cases hd
theorem Inv.funs (I : Inv X pins σ H s) : s.heap.FunFrames X.base X.outer := by
  have all : ∀ (l : List Env), (∀ b ∈ frs l, b ∈ X.fs) → X.s₀.heap.FunFrames X.base l → s.heap.FunFrames X.base l := by
    intro l
    induction l with
    | nil => intro _ _; trivial
    | cons env r ih =>
      intro hs hl
      obtain ⟨hk, ⟨L, o, hf, hn, ho, hd⟩, hr⟩ := hl
      have hL : L ∈ X.fs := hs L (by unfold frs; rw [List.filterMap_cons, hf]; exact List.mem_cons_self)
      obtain ⟨sl, e⟩ := I.base.slot L o ho (I.ok.frf L hL) hL fun z => I.ok.exfs L z hL
      exact ⟨hk, ⟨L, _, hf, hn, e, hd⟩, ih (fun b hb => hs b (by unfold frs; rw [List.filterMap_cons, hf]; exact List.mem_cons_of_mem _ hb)) hr⟩
  exact all X.outer (fun _ hb => hb) I.ok.funs

/-- the frames that run, for a call -/
theorem Inv.stack (I : Inv X pins σ H s) : s.heap.FunFrames X.base X.stack := by
  rcases I.ok.stk with e | ⟨e, hf⟩
  · rw [e]; exact I.funs
  · rw [e]
    obtain ⟨m, hn, _⟩ := I.loc
    refine .cons (by rw [I.ok.kind]; decide) hf hn ?_ I.funs
    exact Heap.get?_none_of_le (Nat.le_trans I.ok.bsz I.ok.above)
theorem Inv.stkSub (I : Inv X pins σ H s) : ∀ b ∈ frs X.stack, b ∈ X.env.locals :: X.fs := fun b hb => by
  rcases I.ok.stk with e | ⟨e, hf⟩
  · rw [e] at hb; exact List.mem_cons_of_mem _ hb
  · rw [e] at hb
    unfold frs at hb
    rw [List.filterMap_cons, hf] at hb
    exact hb
theorem Inv.stkFree (I : Inv X pins σ H s) : ∀ b ∈ frs X.stack, H b = none := fun b hb => by
  rcases List.mem_cons.mp (I.stkSub b hb) with e | hb
  · rw [e]; exact I.free
  · obtain ⟨_, o, ho, _⟩ := I.ok.funs.mem hb
    exact I.base.free b o ho (I.ok.frf b hb) fun z => I.ok.exfs b z hb

/-- THE STEP: the untracked objects but the frame and the records at ch are kept (the callers' frames up to slots), the frame's map is kept, the new abstract heap is held -/
theorem Inv.step {g' : Array GenState} {t' : Nat} {d' : Drawn} {ch : List Addr} (I : Inv X pins σ H s)
    (hch : ∀ b ∈ ch, (b ∈ X.ex ∨ X.s₀.heap.objs.size ≤ b) ∧ b ≠ X.env.locals ∧ (∀ x c, X.env.cells.lookup x = some c → c ≠ b) ∧ ∀ p ∈ X.pn ++ pins, p.1 ≠ b)
    (keep : ∀ b o, b ≠ X.env.locals → b ∉ X.fs → b ∉ ch → s.heap.get? b = some o → H b = none → h'.get? b = some o)
    (slot : ∀ b o, b ≠ X.env.locals → b ∈ X.fs → b ∉ ch → s.heap.get? b = some o → H b = none → ∃ sl, h'.get? b = some { o with slots := sl }) (free : ∀ b o, b ∉ ch → s.heap.get? b = some o → H b = none → H' b = none)
    (there : ∀ b o, b ∉ ch → s.heap.get? b = some o → ∃ o', h'.get? b = some o')
    (tups : ∀ b xs, H b = some (.tup xs) → H' b = some (.tup xs)) (frzs : ∀ b o u, H b = some (.frz o u) → H' b = some (.frz o u)) (tbls : ∀ b ps, H b = some (.tbl ps) → ∃ more, H' b = some (.tbl (ps ++ more)))
    (ns : ∀ m, s.heap.Ns X.env.locals m → h'.Ns X.env.locals m) (hok : HOk X.prog X.w H' h') (hg : AllBare g') :
    Inv X pins σ H' { s with heap := h', gens := g', drawn := d', toks := t' } := by
  have neL : ∀ b o, X.s₀.heap.get? b = some o → b ≠ X.env.locals := fun b o e => Nat.ne_of_lt (Nat.lt_of_lt_of_le (Heap.lt_size e) I.ok.above)
  have neC : ∀ b o, X.s₀.heap.get? b = some o → b ∉ X.ex → b ∉ ch := fun b o e hx hb => by
    rcases (hch b hb).1 with z | z
    · exact hx z
    · exact absurd (Nat.lt_of_lt_of_le (Heap.lt_size e) z) (Nat.lt_irrefl _)
  have cellK : ∀ x c, X.env.cells.lookup x = some c → ∀ v, s.heap.IsCell c v → h'.IsCell c v := fun x c e v ⟨o, ho, hd⟩ => by
    have nch : c ∉ ch := fun z => (hch c z).2.2.1 x c e rfl
    by_cases hc : c ∈ X.fs
    · obtain ⟨sl, q⟩ := slot c o (I.cne x c e) hc nch ho (I.freeC x c e)
      exact ⟨_, q, hd⟩
    · exact ⟨o, keep c o (I.cne x c e) hc nch ho (I.freeC x c e), hd⟩
  refine ⟨I.ok, I.os, hg, ⟨fun b o e n hb hx => ?_, fun b o e n hb hx => ?_, fun b o e n hx => ?_, fun b o e hx => ?_, fun b xs e => tups b xs (I.base.tups b xs e), fun b o xs e => frzs b o xs (I.base.frzs b o xs e), fun b ps e => ?_⟩, ?_, fun x c e => ?_, ?_, fun x c e => ?_, fun p hp => ?_, hok, I.len⟩
  · exact keep b o (neL b o e) hb (neC b o e hx) (I.base.keep b o e n hb hx) (I.base.free b o e n hx)
  · obtain ⟨sl, e1⟩ := I.base.slot b o e n hb hx
    obtain ⟨sl', e2⟩ := slot b _ (neL b o e) hb (neC b o e hx) e1 (I.base.free b o e n hx)
    exact ⟨sl', e2⟩
  · obtain ⟨o', e1⟩ := I.base.there b o e hx
    exact free b o' (neC b o e hx) e1 (I.base.free b o e n hx)
  · obtain ⟨o', e1⟩ := I.base.there b o e hx
    exact there b o' (neC b o e hx) e1
  · obtain ⟨m1, e1⟩ := I.base.tbls b ps e
    obtain ⟨m2, e2⟩ := tbls b _ e1
    exact ⟨m1 ++ m2, by rw [e2, Array.append_assoc]⟩
  · obtain ⟨m, hn, hl⟩ := I.loc
    refine ⟨m, ns m hn, fun i x v e1 e2 e3 => ?_⟩
    obtain ⟨u, r, l⟩ := hl i x v e1 e2 e3
    refine ⟨u, r, ?_⟩
    rcases l with l | ⟨k, c, e, z⟩
    · exact .inl l
    · exact .inr ⟨k, c, e, cellK x c e _ z⟩
  · obtain ⟨v, z⟩ := I.cell x c e
    exact ⟨v, cellK x c e v z⟩
  · obtain ⟨m, ⟨o, _, _, ho, _⟩, _⟩ := I.loc
    exact free _ o (fun z => (hch _ z).2.1 rfl) ho I.free
  · obtain ⟨v, o, ho, hd⟩ := I.cell x c e
    exact free c o (fun z => (hch c z).2.2.1 x c e rfl) ho (I.freeC x c e)
  · obtain ⟨e, n, ne, nf, d⟩ := I.pin p hp
    have nch : p.1 ∉ ch := fun z => (hch p.1 z).2.2.2 p hp rfl
    exact ⟨keep p.1 p.2 ne nf nch e n, free p.1 p.2 nch e n, ne, nf, d⟩
/-- .. where the frame's own object is kept too -/
theorem Inv.un {t' : Nat} (I : Inv X pins σ H s) (u : Un X.fs [] H H' s.heap h') (hok : HOk X.prog X.w H' h') : Inv X pins σ H' { s with heap := h', toks := t' } := by
  obtain ⟨m, ⟨o, es, ep, ho, r⟩, _⟩ := id I.loc
  obtain ⟨sl, hL⟩ := u.any ho I.free (by simp)
  exact I.step (g' := s.gens) (d' := s.drawn) (ch := []) (fun _ z => nomatch z) (fun b o _ hb _ e n => u.keep b o e n hb (by simp)) (fun b o _ hb _ e n => u.slot b o e n hb (by simp)) (fun b o _ e n => u.free b o e n (by simp)) (fun b o _ e => u.there b o e (by simp)) u.tups u.frzs u.tbls (fun m' hm => by
    obtain ⟨o', es', ep', ho', r'⟩ := hm
    rw [ho] at ho'; cases ho'
    exact ⟨_, es', ep', hL, r'⟩) hok I.bare
/-- behind a call (or a comprehension's block): the slots of this frame may have changed too, the records at ch may have turned -/
theorem Inv.call {g' : Array GenState} {t' : Nat} {d' : Drawn} {ch : List Addr} (I : Inv X pins σ H s) (u : Un (frs X.stack) ch H H' s.heap h') (hok : HOk X.prog X.w H' h') (hg : AllBare g')
    (hch : ∀ b ∈ ch, (b ∈ X.ex ∨ X.s₀.heap.objs.size ≤ b) ∧ b ≠ X.env.locals ∧ (∀ x c, X.env.cells.lookup x = some c → c ≠ b) ∧ ∀ p ∈ X.pn ++ pins, p.1 ≠ b) :
    Inv X pins σ H' { s with heap := h', gens := g', drawn := d', toks := t' } := by
  obtain ⟨m, ⟨o, es, ep, ho, r⟩, _⟩ := id I.loc
  obtain ⟨sl, hL⟩ := u.any ho I.free fun z => (hch _ z).2.1 rfl
  exact I.step (ch := ch) hch (fun b o hL hb hc e n => u.keep b o e n (fun z => (List.mem_cons.mp (I.stkSub b z)).elim hL hb) hc) (fun b o _ _ hc e n => u.any e n hc) (fun b o hc e n => u.free b o e n hc) (fun b o hc e => u.there b o e hc) u.tups u.frzs u.tbls (fun m' hm => by
    obtain ⟨o', es', ep', ho', r'⟩ := hm
    rw [ho] at ho'; cases ho'
    exact ⟨_, es', ep', hL, r'⟩) hok hg
/-- an untracked record of ours (an iterator) has turned -/
theorem Inv.turned {t' : Nat} {it : Addr} (I : Inv X pins σ H s) (k : ∀ b o, b ≠ it → s.heap.get? b = some o → h'.get? b = some o) (hn : H it = none) (hL : it ≠ X.env.locals)
    (h1 : it ∈ X.ex ∨ X.s₀.heap.objs.size ≤ it) (h2 : ∀ x c, X.env.cells.lookup x = some c → c ≠ it) (h3 : ∀ p ∈ X.pn ++ pins, p.1 ≠ it) : Inv X pins σ H { s with heap := h', toks := t' } := by
  have nit : ∀ b u, H b = some u → b ≠ it := fun b u e z => by rw [z, hn] at e; cases e
  refine I.step (g' := s.gens) (d' := s.drawn) (ch := [it]) (fun b hb => ?_) (fun b o _ _ hc e _ => k b o (fun z => hc (by simp [z])) e) (fun b o _ _ hc e _ => ⟨o.slots, k b o (fun z => hc (by simp [z])) e⟩) (fun _ _ _ _ n => n)
    (fun b o hc e => ⟨o, k b o (fun z => hc (by simp [z])) e⟩) (fun _ _ e => e) (fun _ _ _ e => e) (fun b ps e => ⟨#[], by rw [e]; simp⟩) (fun m hm => ?_) (fun b u e => ?_) I.bare
  · have e : b = it := by simpa using hb
    subst e
    exact ⟨h1, hL, h2, h3⟩
  · obtain ⟨o, es, ep, ho, r⟩ := hm
    exact ⟨o, es, ep, k _ o (Ne.symm hL) ho, r⟩
  · refine (I.hok b u e).stay (fun c v hc q => k c v ?_ q) (fun _ q => q) fun _ _ q => q
    rcases hc with z | z
    · rw [z]; exact nit b u e
    · exact nit c _ z
theorem Inv.tok (I : Inv X pins σ H s) (t : Nat) : Inv X pins σ H { s with toks := t } := I.un (h' := s.heap) (t' := t) Un.refl I.hok
/-- all objects kept -/
theorem Inv.kept {t' : Nat} (I : Inv X pins σ H s) (k : ∀ b u, s.heap.get? b = some u → h'.get? b = some u) : Inv X pins σ H { s with heap := h', toks := t' } := I.un (Un.kept k) (I.hok.kept k)
/-- a new object laid and tracked -/
theorem Inv.laid {a : Addr} {o : HO} {t' : Nat} (I : Inv X pins σ H s) (k : ∀ b u, s.heap.get? b = some u → h'.get? b = some u) (hp : s.heap.objs.size ≤ a) (new : ObjOk X.prog X.w (upd H a o) h' a o) :
    Inv X pins σ (upd H a o) { s with heap := h', toks := t' } := I.un (Un.laid k hp (I.hok.fresh hp)) (I.hok.laid k hp new)
/-- an object written -/
theorem Inv.write {x e : Addr} {o : HO} {t' : Nat} (I : Inv X pins σ H s) (mu : Mut (H x)) (he : e = x ∨ H e = some (.own x)) (k : ∀ b u, b ≠ e → s.heap.get? b = some u → h'.get? b = some u) (heo : ∃ u, h'.get? e = some u)
    (new : ObjOk X.prog X.w (upd H x o) h' x o) : Inv X pins σ (upd H x o) { s with heap := h', toks := t' } := I.un (Un.write mu he k heo) (I.hok.write mu he k heo new)
/-- forgetting slots, pins -/
theorem Inv.weak {σ' : List (Option V)} (I : Inv X pins σ H s) (hl : σ'.length = σ.length) (w : ∀ (i : Nat) v, σ'[i]? = some (some v) → σ[i]? = some (some v)) : Inv X pins σ' H s :=
  ⟨I.ok, I.os, I.bare, I.base, let ⟨m, hn, hl'⟩ := I.loc; ⟨m, hn, fun i x v e1 e2 e3 => hl' i x v e1 (w i v e2) e3⟩, I.cell, I.free, I.freeC, I.pin, I.hok, hl.trans I.len⟩
theorem Inv.pins_of {pins' : List (Addr × Obj)} (I : Inv X pins σ H s) (h : ∀ p ∈ pins', s.heap.get? p.1 = some p.2 ∧ H p.1 = none ∧ p.1 ≠ X.env.locals ∧ p.1 ∉ X.fs ∧ ∀ v, p.2.data ≠ .cell v) : Inv X pins' σ H s :=
  ⟨I.ok, I.os, I.bare, I.base, I.loc, I.cell, I.free, I.freeC, fun p hp => (List.mem_append.mp hp).elim (fun z => I.pin p (List.mem_append_left _ z)) (h p), I.hok, I.len⟩

theorem nodup_ix {N : List Str} (hN : N.Nodup) {i j : Nat} {x : Str} (a : N[i]? = some x) (b : N[j]? = some x) : i = j := by
  obtain ⟨h1, e1⟩ := List.getElem?_eq_some_iff.mp a
  obtain ⟨h2, e2⟩ := List.getElem?_eq_some_iff.mp b
  exact (List.getElem_inj hN).mp (e1.trans e2.symm)

/-- a name is stored; what changed -/
theorem store_ok2 {M : Model} {A : Around} {E : Value → Shared → Prop} {i : Nat} {x : Str} {v : V} {u : Value} {Q : Unit → Shared → Prop} (I : Inv X pins σ H s) (hN : X.N.Nodup) (hi : X.N[i]? = some x) (hx : Loc X.env.scope x) (r : RelV v u)
    (h : ∀ s', Inv X pins (σ.set i (some v)) H s' → (∃ a, Heap.SameBut a s.heap s'.heap ∧ (a = X.env.locals ∨ X.env.cells.lookup x = some a)) → Q () s') (hf : X.fn x = true ∨ X.env.scope.names.lookup x = some .local := by first | exact .inl rfl | exact .inr rfl | assumption) : wpAny M A (storeName X.env x u) Q E s := by
  obtain ⟨m, hn, hl⟩ := id I.loc
  have hcls : (X.env.scope.kind == .class || (X.env.scope.kind == .module && X.env.locals != X.env.globals)) = false := by rw [I.ok.kind]; rfl
  have hiσ : i < σ.length := by rw [I.len]; exact (List.getElem?_eq_some_iff.mp hi).1
  have cne := I.cne
  have tracked : ∀ {a : Addr} {h' : Heap}, (∃ o, s.heap.get? a = some o ∧ H a = none) → Heap.SameBut a s.heap h' → HOk X.prog X.w H h' := fun {a h'} ha hs b ob e => by
    obtain ⟨_, _, hfree⟩ := ha
    refine (I.hok b ob e).stay (fun c w' hc q => (hs.2 c ?_).trans q) (fun _ q => q) fun _ _ q => q
    rintro rfl
    rcases hc with rfl | hc
    · rw [hfree] at e; cases e
    · rw [hfree] at hc; cases hc
  rcases hx with hk | hk
  · refine wpAny_storeName_local hk hn (fun h' hn' hs => ?_) hcls
    obtain ⟨oL, _, _, hoL, _⟩ := id hn
    refine h _ ⟨I.ok, I.os, I.bare, ⟨fun b o e n hb hx => ?_, fun b o e n hb hx => ?_, I.base.free, fun b o e hx => ?_, I.base.tups, I.base.frzs, I.base.tbls⟩, ⟨_, hn', fun j y v' e1 e2 e3 => ?_⟩, fun y c e => ?_, I.free, I.freeC, fun p hp => ?_, tracked ⟨oL, hoL, I.free⟩ hs, by simpa using I.len⟩ ⟨_, hs, .inl rfl⟩
    · exact (hs.2 b (Nat.ne_of_lt (Nat.lt_of_lt_of_le (Heap.lt_size e) I.ok.above))).trans (I.base.keep b o e n hb hx)
    · obtain ⟨sl, e1⟩ := I.base.slot b o e n hb hx
      exact ⟨sl, (hs.2 b (Nat.ne_of_lt (Nat.lt_of_lt_of_le (Heap.lt_size e) I.ok.above))).trans e1⟩
    · obtain ⟨o', e1⟩ := I.base.there b o e hx
      exact ⟨o', (hs.2 b (Nat.ne_of_lt (Nat.lt_of_lt_of_le (Heap.lt_size e) I.ok.above))).trans e1⟩
    · by_cases hj : j = i
      · subst hj
        rw [hi] at e1; cases e1
        rw [List.getElem?_set_self hiσ] at e2
        cases e2
        exact ⟨u, r, .inl ⟨hk, by simp⟩⟩
      · rw [List.getElem?_set_ne (Ne.symm hj)] at e2
        obtain ⟨u', r', q⟩ := hl j y v' e1 e2 e3
        refine ⟨u', r', ?_⟩
        rcases q with ⟨k, e⟩ | ⟨k, c, e, z⟩
        · refine .inl ⟨k, ?_⟩
          have : y ≠ x := fun e => hj (nodup_ix hN e1 (e ▸ hi))
          simp [this, e]
        · exact .inr ⟨k, c, e, z.sameBut hs (cne y c e)⟩
    · obtain ⟨w', z⟩ := I.cell y c e
      exact ⟨w', z.sameBut hs (cne y c e)⟩
    · obtain ⟨e, n, ne, nf, d⟩ := I.pin p hp
      exact ⟨(hs.2 p.1 ne).trans e, n, ne, nf, d⟩
  · have hfn : X.fn x = true := by
      rcases hf with z | z
      · exact z
      · rw [z] at hk; cases hk
    obtain ⟨c, hc⟩ := I.ok.has x (.inl hk)
    obtain ⟨w', z⟩ := I.cell x c hc
    refine wpAny_storeName_cell I.ok.kind hk hc z (fun h' hc' hs => ?_)
    obtain ⟨oc, hoc, hocd⟩ := id z
    refine h { s with heap := h' } ⟨I.ok, I.os, I.bare, ⟨fun b o e n hb hx => ?_, fun b o e n hb hx => ?_, I.base.free, fun b o e hx => ?_, I.base.tups, I.base.frzs, I.base.tbls⟩, ⟨m, hn.sameBut hs (Ne.symm (cne x c hc)), fun j y v' e1 e2 e3 => ?_⟩, fun y c' e => ?_, I.free, I.freeC, fun p hp => ?_, tracked ⟨oc, hoc, I.freeC x c hc⟩ hs, by simpa using I.len⟩ ⟨c, hs, .inr hc⟩
    · exact (hs.2 b (Nat.ne_of_lt (Nat.lt_of_lt_of_le (Heap.lt_size e) (I.ok.cab x c hfn hc)))).trans (I.base.keep b o e n hb hx)
    · obtain ⟨sl, e1⟩ := I.base.slot b o e n hb hx
      exact ⟨sl, (hs.2 b (Nat.ne_of_lt (Nat.lt_of_lt_of_le (Heap.lt_size e) (I.ok.cab x c hfn hc)))).trans e1⟩
    · obtain ⟨o', e1⟩ := I.base.there b o e hx
      exact ⟨o', (hs.2 b (Nat.ne_of_lt (Nat.lt_of_lt_of_le (Heap.lt_size e) (I.ok.cab x c hfn hc)))).trans e1⟩
    · by_cases hj : j = i
      · subst hj
        rw [hi] at e1; cases e1
        rw [List.getElem?_set_self hiσ] at e2
        cases e2
        exact ⟨u, r, .inr ⟨.inl hk, c, hc, hc'⟩⟩
      · rw [List.getElem?_set_ne (Ne.symm hj)] at e2
        obtain ⟨u', r', q⟩ := hl j y v' e1 e2 e3
        refine ⟨u', r', ?_⟩
        rcases q with q | ⟨k, c', e, z'⟩
        · exact .inl q
        · refine .inr ⟨k, c', e, z'.sameBut hs ?_⟩
          rintro rfl
          exact hj (nodup_ix hN e1 (I.ok.inj _ _ _ e hc ▸ hi))
    · by_cases hcc : c' = c
      · subst hcc; exact ⟨_, hc'⟩
      · obtain ⟨w2, z2⟩ := I.cell y c' e
        exact ⟨w2, z2.sameBut hs hcc⟩
    · obtain ⟨e, n, ne, nf, d⟩ := I.pin p hp
      refine ⟨(hs.2 p.1 ?_).trans e, n, ne, nf, d⟩
      intro q
      rw [q, hoc] at e
      have q' : oc = p.2 := Option.some.inj e
      exact d w' (by rw [← q']; exact hocd)
theorem store_ok {M : Model} {A : Around} {E : Value → Shared → Prop} {i : Nat} {x : Str} {v : V} {u : Value} {Q : Unit → Shared → Prop} (I : Inv X pins σ H s) (hN : X.N.Nodup) (hi : X.N[i]? = some x) (hx : Loc X.env.scope x) (r : RelV v u)
    (h : ∀ s', Inv X pins (σ.set i (some v)) H s' → Q () s') (hf : X.fn x = true ∨ X.env.scope.names.lookup x = some .local := by first | exact .inl rfl | exact .inr rfl | assumption) : wpAny M A (storeName X.env x u) Q E s :=
  store_ok2 I hN hi hx r (fun s' I' _ => h s' I') hf
/-- behind a call or a block, the state as it is -/
theorem Inv.call' {s' : Shared} {ch : List Addr} (I : Inv X pins σ H s) (ho : s'.os = s.os) (u : Un (frs X.stack) ch H H' s.heap s'.heap) (hok : HOk X.prog X.w H' s'.heap) (hg : AllBare s'.gens)
    (hch : ∀ b ∈ ch, (b ∈ X.ex ∨ X.s₀.heap.objs.size ≤ b) ∧ b ≠ X.env.locals ∧ (∀ x c, X.env.cells.lookup x = some c → c ≠ b) ∧ ∀ p ∈ X.pn ++ pins, p.1 ≠ b) : Inv X pins σ H' s' := by
  obtain ⟨h', g', d', t', o'⟩ := s'
  have e : o' = s.os := ho
  subst e
  exact I.call (g' := g') (t' := t') (d' := d') u hok hg hch
end

/-! ### the judgements -/
/-- an exception: its class, its own dict's address (where it has one), the abstract heap behind it -/
abbrev XK := Value → Option Addr → Hp → Prop
abbrev St := List (Option V)
abbrev VK := V → Hp → Prop
/-- an expression's reading; a test's; an argument list's -/
abbrev TE := St → Hp → VK → Prop
abbrev TT := St → Hp → (Bool → Hp → Prop) → Prop
abbrev TA := St → Hp → (List V → Hp → Prop) → Prop
/-- what is wanted behind a statement -/
structure Ends where
  nx : St → Hp → Prop
  rt : VK
  bk : St → Hp → Prop := fun _ _ => False
  ct : St → Hp → Prop := fun _ _ => False
abbrev TS := Ends → St → Hp → Prop

def EP (X : Cx) (pins : List (Addr × Obj)) (σ : St) (Q : VK) (u : Value) (s' : Shared) : Prop := ∃ v H', Inv X pins σ H' s' ∧ RelV v u ∧ Q v H'
def TP (X : Cx) (pins : List (Addr × Obj)) (σ : St) (Q : Bool → Hp → Prop) (b : Bool) (s' : Shared) : Prop := ∃ H', Inv X pins σ H' s' ∧ Q b H'
def AP (X : Cx) (pins : List (Addr × Obj)) (σ : St) (Q : List V → Hp → Prop) (us : List Value) (s' : Shared) : Prop := ∃ vs H', Inv X pins σ H' s' ∧ Vals vs us ∧ Q vs H'
def SP (X : Cx) (pins : List (Addr × Obj)) (D : Ends) (f : Flow) (s' : Shared) : Prop :=
  match f with
  | .next => ∃ σ' H', Inv X pins σ' H' s' ∧ D.nx σ' H'
  | .brk => ∃ σ' H', Inv X pins σ' H' s' ∧ D.bk σ' H'
  | .cont => ∃ σ' H', Inv X pins σ' H' s' ∧ D.ct σ' H'
  | .ret u => ∃ v σ' H', Inv X pins σ' H' s' ∧ RelV v u ∧ D.rt v H'

def PE (X : Cx) (e : Expr) (t : TE) : Prop :=
  ∀ (pins : List (Addr × Obj)) (s : Shared) (σ : St) (H : Hp) (Q : VK), Inv X pins σ H s → t σ H Q → wpAny (model X.prog X.w) X.A (eval e X.env) (EP X pins σ Q) X.xe s
def PT (X : Cx) (e : Expr) (t : TT) : Prop :=
  ∀ (pins : List (Addr × Obj)) (s : Shared) (σ : St) (H : Hp) (Q : Bool → Hp → Prop), Inv X pins σ H s → t σ H Q → wpAny (model X.prog X.w) X.A (isTrue e X.env (eval e X.env)) (TP X pins σ Q) X.xe s
/-- a test whatever its 'whole' is (and, or) -/
def PW (X : Cx) (e : Expr) (t : TT) : Prop :=
  ∀ (whole : Sem Value) (pins : List (Addr × Obj)) (s : Shared) (σ : St) (H : Hp) (Q : Bool → Hp → Prop), Inv X pins σ H s → t σ H Q → wpAny (model X.prog X.w) X.A (isTrue e X.env whole) (TP X pins σ Q) X.xe s
theorem PW.pt {X : Cx} {e : Expr} {t : TT} (h : PW X e t) : PT X e t := h _
/-- an argument list (no star), from the left -/
def PA (X : Cx) (es : List Expr) (t : TA) : Prop :=
  ∀ (pos : Pos) (pins : List (Addr × Obj)) (s : Shared) (σ : St) (H : Hp) (Q : List V → Hp → Prop), Inv X pins σ H s → t σ H Q → wpAny (model X.prog X.w) X.A (spliced (backTo pos (starEach es X.env))) (AP X pins σ Q) X.xe s
def PS (X : Cx) (st : Stmt) (t : TS) : Prop :=
  ∀ (pins : List (Addr × Obj)) (s : Shared) (σ : St) (H : Hp) (D : Ends), Inv X pins σ H s → t D σ H → wpAny (model X.prog X.w) X.A (exec st X.env) (SP X pins D) X.xe s
def PSs (X : Cx) (st : List Stmt) (t : TS) : Prop :=
  ∀ (pins : List (Addr × Obj)) (s : Shared) (σ : St) (H : Hp) (D : Ends), Inv X pins σ H s → t D σ H → wpAny (model X.prog X.w) X.A (execs st X.env) (SP X pins D) X.xe s
/-- weaken the end -/
theorem thn {α : Type} {t : Sem α} {Q Q' : α → Shared → Prop} {M : Model} {A : Around} {E : Value → Shared → Prop} {s : Shared} (h : wpAny M A t Q E s) (hQ : ∀ a s, Q a s → Q' a s) : wpAny M A t Q' E s := wpAny_mono h hQ fun _ _ x => x
end L2

namespace L2
open PySem PySem.Spec PyProof.Rows
section
variable {X : Cx}

/-- two expressions in a row -/
theorem bin {a b : Expr} {ta tb : TE} (ha : PE X a ta) (hb : PE X b tb) {pins : List (Addr × Obj)} {s : Shared} {σ : St} {H : Hp} {R : V → V → Hp → Prop} (I : Inv X pins σ H s) (h : ta σ H fun x H1 => tb σ H1 fun y H2 => R x y H2)
    {α : Type} {Q : α → Shared → Prop} {f : Value → Value → Sem α}
    (hf : ∀ v u s2 x y H2, Inv X pins σ H2 s2 → RelV x v → RelV y u → R x y H2 → wpAny (model X.prog X.w) X.A (f v u) Q X.xe s2) :
    wpAny (model X.prog X.w) X.A (eval a X.env) (fun v s₁ => wpAny (model X.prog X.w) X.A (eval b X.env) (fun u s₂ => wpAny (model X.prog X.w) X.A (f v u) Q X.xe s₂) X.xe s₁) X.xe s := by
  refine thn (ha pins s σ H _ I h) fun v s1 ⟨x, H1, I1, r1, q1⟩ => ?_
  refine thn (hb pins s1 σ H1 _ I1 q1) fun u s2 ⟨y, H2, I2, r2, q2⟩ => ?_
  exact hf v u s2 x y H2 I2 r1 r2 q2

/-! ### names and constants -/
def tVar (i : Nat) : TE := fun σ H Q => ∃ v, σ[i]? = some (some v) ∧ Q v H
def tC (v : V) : TE := fun _ H Q => Q v H
theorem pe_var {i : Nat} {x : Str} {pos : Pos} (hN : X.N[i]? = some x) (hv : Vis X.env.scope x) (hd : (x == ("__debug__" : Str)) = false := by decide) (hcd : (x == ("__classdict__" : Str)) = false := by decide) : PE X (.Name x pos) (tVar i) := by
  intro pins s σ H Q I h
  obtain ⟨v, e, h⟩ := h
  obtain ⟨m, hn, hl⟩ := I.loc
  obtain ⟨u, r, l⟩ := hl i x v hN e hv
  have fin : EP X pins σ Q u s := ⟨v, H, I, r, h⟩
  rcases l with ⟨hk, hm⟩ | ⟨hk, c, hc, hcell⟩
  · exact wpAny_Name (wpAny_loadName_local I.ok.kind hk hn hm fin) hd
  · rcases hk with hk | hk
    · exact wpAny_Name (wpAny_loadName_cell I.ok.kind hk hc hcell fin) hd
    · exact wpAny_Name (wpAny_loadName_free I.ok.kind hk hc hcell fin hcd) hd
theorem pe_int {i j pos} : PE X (.Constant (.int i) j pos) (tC (.int i)) := fun _ _ _ H _ I h => wpAny_Constant_int ⟨.int i, H, I.tok _, ⟨_, rfl⟩, h⟩
theorem pe_bl {b j pos} : PE X (.Constant (.bool b) j pos) (tC (.bl b)) := fun _ _ _ H _ I h => Constant_bool ⟨.bl b, H, I, rfl, h⟩
theorem pe_non {j pos} : PE X (.Constant .none j pos) (tC .non) := fun _ _ _ H _ I h => Constant_none ⟨.non, H, I, rfl, h⟩
theorem pe_str {x j pos} : PE X (.Constant (.str x) j pos) (tC (.str x)) := fun _ _ _ H _ I h => Calls.Constant_str ⟨.str x, H, I.tok _, ⟨_, rfl⟩, h⟩

/-- a global name of the def -/
def Gl (X : Cx) (x : Str) : Prop := X.env.kindOf x = some .globalImplicit
theorem ld_glob {E : Value → Shared → Prop} {pins : List (Addr × Obj)} {s : Shared} {σ : St} {H : Hp} {x : Str} {u : Value} {pos : Pos} {Q : Value → Shared → Prop} (I : Inv X pins σ H s) (hg : Gl X x) (hm : X.mg x = some u) (h : Q u s)
    (hd : (x == ("__debug__" : Str)) = false := by decide) : wpAny (model X.prog X.w) X.A (eval (.Name x pos) X.env) Q E s :=
  Calls.Name_function_global I.ok.kind hg (Calls.loadGlobal_global (by rw [I.ok.glob]; exact I.mod.glob.keeps I.bk) hm h) hd
theorem ld_blt {E : Value → Shared → Prop} {pins : List (Addr × Obj)} {s : Shared} {σ : St} {H : Hp} {x : Str} {u : Value} {pos : Pos} {Q : Value → Shared → Prop} (I : Inv X pins σ H s) (hg : Gl X x) (hm : X.mg x = none) (hv : bootBuiltins x = some u) (h : Q u s)
    (hn : x ≠ "__name__" := by decide) (hd : (x == ("__debug__" : Str)) = false := by decide) : wpAny (model X.prog X.w) X.A (eval (.Name x pos) X.env) Q E s := by
  obtain ⟨mb, h1, h2⟩ := I.mod.blt
  exact Calls.Name_function_global I.ok.kind hg (Calls.loadGlobal_builtin (by rw [I.ok.glob]; exact I.mod.glob.keeps I.bk) hm (by rw [I.ok.blt]; exact h1.keeps I.bk) ((h2 x hn).trans hv) h) hd
/-- a module's constant, a class, a function, as a value -/
theorem pe_glob {x : Str} {v : V} {u : Value} {pos : Pos} (hg : Gl X x) (hm : X.mg x = some u) (r : RelV v u) (hd : (x == ("__debug__" : Str)) = false := by decide) : PE X (.Name x pos) (tC v) :=
  fun _ _ _ H _ I h => ld_glob I hg hm ⟨v, H, I, r, h⟩ hd
theorem pe_bltn {x : Str} {v : V} {u : Value} {pos : Pos} (hg : Gl X x) (hm : X.mg x = none) (hv : bootBuiltins x = some u) (r : RelV v u) (hn : x ≠ "__name__" := by decide) (hd : (x == ("__debug__" : Str)) = false := by decide) : PE X (.Name x pos) (tC v) :=
  fun _ _ _ H _ I h => ld_blt I hg hm hv ⟨v, H, I, r, h⟩ hn hd

/-! ### arithmetic -/
/-- two ints -/
def t2I (ta tb : TE) (k : Int → Int → Hp → Prop) : St → Hp → Prop := fun σ H => ta σ H fun x H1 => tb σ H1 fun y H2 => ∃ i j, x = .int i ∧ y = .int j ∧ k i j H2
def tAdd (ta tb : TE) : TE := fun σ H Q => t2I ta tb (fun i j H2 => Q (.int (i + j)) H2) σ H
def tSub (ta tb : TE) : TE := fun σ H Q => t2I ta tb (fun i j H2 => Q (.int (i - j)) H2) σ H
/-- the left factor below 2^64 -/
def tMul (ta tb : TE) : TE := fun σ H Q => t2I ta tb (fun i j H2 => (-(2 ^ 64) < i ∧ i < 2 ^ 64) ∧ Q (.int (i * j)) H2) σ H
variable {a b : Expr} {ta tb : TE} {pos : Pos}
theorem pe_add (ha : PE X a ta) (hb : PE X b tb) : PE X (.BinOp a .Add b pos) (tAdd ta tb) := by
  intro pins s σ H Q I h
  refine wpAny_BinOp (bin ha hb I h fun v u s2 x y H2 I2 rx ry q => ?_)
  obtain ⟨i, j, rfl, rfl, q⟩ := q
  obtain ⟨t, rfl⟩ := rx
  obtain ⟨t', rfl⟩ := ry
  exact add_int ⟨.int _, H2, I2.tok _, ⟨_, rfl⟩, q⟩
theorem pe_sub (ha : PE X a ta) (hb : PE X b tb) : PE X (.BinOp a .Sub b pos) (tSub ta tb) := by
  intro pins s σ H Q I h
  refine wpAny_BinOp (bin ha hb I h fun v u s2 x y H2 I2 rx ry q => ?_)
  obtain ⟨i, j, rfl, rfl, q⟩ := q
  obtain ⟨t, rfl⟩ := rx
  obtain ⟨t', rfl⟩ := ry
  exact sub_int ⟨.int _, H2, I2.tok _, ⟨_, rfl⟩, q⟩
theorem pe_mul (ha : PE X a ta) (hb : PE X b tb) : PE X (.BinOp a .Mult b pos) (tMul ta tb) := by
  intro pins s σ H Q I h
  refine wpAny_BinOp (bin ha hb I h fun v u s2 x y H2 I2 rx ry q => ?_)
  obtain ⟨i, j, rfl, rfl, ⟨q1, q2⟩, q⟩ := q
  obtain ⟨t, rfl⟩ := rx
  obtain ⟨t', rfl⟩ := ry
  exact mul_int ⟨.int _, H2, I2.tok _, ⟨_, rfl⟩, q⟩ (.of_left (intBits_le_64 q1 q2))

/-! ### comparisons -/
def PC (X : Cx) (op : CmpOp) (a b : Expr) (t : TE) : Prop :=
  ∀ (pins : List (Addr × Obj)) (s : Shared) (σ : St) (H : Hp) (Q : VK), Inv X pins σ H s → t σ H Q →
    wpAny (model X.prog X.w) X.A (eval a X.env) (fun v s₁ => wpAny (model X.prog X.w) X.A (eval b X.env) (fun u s₂ => wpAny (model X.prog X.w) X.A (compareOp op v u) (EP X pins σ Q) X.xe s₂) X.xe s₁) X.xe s
theorem nobehind (b : Expr) {op : CmpOp} (h : op ≠ .In) (h2 : op ≠ .NotIn) : behindInMarks op b = false := by
  have e1 : (op == CmpOp.In) = false := by cases op <;> first | rfl | exact absurd rfl h
  have e2 : (op == CmpOp.NotIn) = false := by cases op <;> first | rfl | exact absurd rfl h2
  cases b <;> simp [behindInMarks, e1, e2]
def tCmp (p : Int → Int → Bool) (ta tb : TE) : TE := fun σ H Q => t2I ta tb (fun i j H2 => Q (.bl (p i j)) H2) σ H
abbrev tLt : TE → TE → TE := tCmp fun i j => decide (i < j)
abbrev tLe : TE → TE → TE := tCmp fun i j => decide (i ≤ j)
abbrev tGt : TE → TE → TE := tCmp fun i j => decide (j < i)
abbrev tGe : TE → TE → TE := tCmp fun i j => decide (j ≤ i)
abbrev tEqI : TE → TE → TE := tCmp fun i j => decide (i = j)
abbrev tNeI : TE → TE → TE := tCmp fun i j => !decide (i = j)
/-- a comparison of two ints, by its rule -/
theorem pc_int {op : CmpOp} {p : Int → Int → Bool} (ha : PE X a ta) (hb : PE X b tb)
    (rule : ∀ (i j : Int) (t u : Tok) (Q : Value → Shared → Prop) (s : Shared), Q (.bool (p i j)) s → wpAny (model X.prog X.w) X.A (compareOp op (.int i t) (.int j u)) Q X.xe s) : PC X op a b (tCmp p ta tb) := by
  intro pins s σ H Q I h
  refine bin ha hb I h fun v u s2 x y H2 I2 rx ry q => ?_
  obtain ⟨i, j, rfl, rfl, q⟩ := q
  obtain ⟨t, rfl⟩ := rx
  obtain ⟨t', rfl⟩ := ry
  exact rule i j t t' _ s2 ⟨.bl _, H2, I2, rfl, q⟩
theorem pc_lt (ha : PE X a ta) (hb : PE X b tb) : PC X .Lt a b (tLt ta tb) := pc_int ha hb fun _ _ _ _ _ _ h => lt_int h
theorem pc_le (ha : PE X a ta) (hb : PE X b tb) : PC X .LtE a b (tLe ta tb) := pc_int ha hb fun _ _ _ _ _ _ h => le_int h
theorem pc_gt (ha : PE X a ta) (hb : PE X b tb) : PC X .Gt a b (tGt ta tb) := pc_int ha hb fun _ _ _ _ _ _ h => gt_int h
theorem pc_ge (ha : PE X a ta) (hb : PE X b tb) : PC X .GtE a b (tGe ta tb) := pc_int ha hb fun _ _ _ _ _ _ h => ge_int h
theorem pc_eqI (ha : PE X a ta) (hb : PE X b tb) : PC X .Eq a b (tEqI ta tb) := pc_int ha hb fun _ _ _ _ _ _ h => eq_int (by rw [Bool.beq_eq_decide_eq]; exact h)
theorem pc_neI (ha : PE X a ta) (hb : PE X b tb) : PC X .NotEq a b (tNeI ta tb) := pc_int ha hb fun _ _ _ _ _ _ h => ne_int (by rw [bne, Bool.beq_eq_decide_eq]; exact h)
/-- is None -/
def tIsN (ta : TE) : TE := fun σ H Q => ta σ H fun x H1 => Q (.bl (decide (x = .non))) H1
def tNotN (ta : TE) : TE := fun σ H Q => ta σ H fun x H1 => Q (.bl (!decide (x = .non))) H1
theorem RelV.none_iff {x : V} {v : Value} (r : RelV x v) : (v == Value.none) = decide (x = .non) := by
  cases x with
  | non => cases r; rfl
  | bl _ => cases r; rfl
  | int _ => obtain ⟨t, rfl⟩ := r; rfl
  | str _ => obtain ⟨t, rfl⟩ := r; rfl
  | byt _ => obtain ⟨t, rfl⟩ := r; rfl
  | flt _ => obtain ⟨t, rfl⟩ := r; rfl
  | ref _ => cases r; rfl
  | ty _ => cases r; rfl
theorem pc_isN {j pos'} (ha : PE X a ta) : PC X .Is a (.Constant .none j pos') (tIsN ta) := by
  intro pins s σ H Q I h
  refine thn (ha pins s σ H _ I h) fun v s1 ⟨x, H1, I1, r1, q1⟩ => ?_
  exact Constant_none (is_none_gen ⟨.bl _, H1, I1, by rw [r1.none_iff]; rfl, q1⟩)
theorem pc_notN {j pos'} (ha : PE X a ta) : PC X .IsNot a (.Constant .none j pos') (tNotN ta) := by
  intro pins s σ H Q I h
  refine thn (ha pins s σ H _ I h) fun v s1 ⟨x, H1, I1, r1, q1⟩ => ?_
  exact Constant_none (isnot_none_gen ⟨.bl _, H1, I1, by rw [r1.none_iff]; rfl, q1⟩)
/-- a comparison as a value, as a test -/
def tB (t : TE) : TT := fun σ H Q => t σ H fun x H1 => ∃ c, x = .bl c ∧ Q c H1
theorem pe_cmp {op : CmpOp} {t : TE} (h : PC X op a b t) (h1 : behindInMarks op b = false := by first | exact nobehind _ (by decide) (by decide) | rfl) : PE X (.Compare a [op] [b] pos) t := fun pins s σ H Q I hw => wpAny_Compare1 (h pins s σ H Q I hw) h1
theorem pt_cmp {op : CmpOp} {t : TE} (h : PC X op a b t) (h1 : behindInMarks op b = false := by first | exact nobehind _ (by decide) (by decide) | rfl) : PT X (.Compare a [op] [b] pos) (tB t) := by
  intro pins s σ H Q I hw
  refine wpAny_isTrue_Compare1 (thn (h pins s σ H _ I hw) fun v s1 h1 => thn h1 fun u s2 h2 => thn h2 fun c s3 ⟨x, H1, I1, r1, q1⟩ => ?_) h1
  obtain ⟨d, rfl, q⟩ := q1
  cases r1
  exact wpAny_truthy_bool ⟨H1, I1, q⟩
/-- an expression whose value is a bool, as a test -/
theorem pt_val {e : Expr} {t : TE} (h : PE X e t) (he : ∀ whole, isTrue e X.env whole = (do let v ← whole; standAt e.pos; holding [v] (truthy v)) := by intro _; rfl) : PT X e (tB t) := by
  intro pins s σ H Q I hw
  refine isTrue_plain (thn (h pins s σ H _ I hw) fun v s1 ⟨x, H1, I1, r1, q1⟩ => ?_) (he _)
  obtain ⟨d, rfl, q⟩ := q1
  cases r1
  exact wpAny_truthy_bool ⟨H1, I1, q⟩

/-! ### and, or, not -/
variable {tA tB' : TT} {rest : List Expr}
def tAnd (t u : TT) : TT := fun σ H Q => t σ H fun c H1 => if c = true then u σ H1 Q else Q false H1
def tOr (t u : TT) : TT := fun σ H Q => t σ H fun c H1 => if c = true then Q true H1 else u σ H1 Q
def tNot (t : TT) : TT := fun σ H Q => t σ H fun c H1 => Q (!c) H1
theorem pw_and1 (ha : PT X a tA) : PW X (.BoolOp .And [a] pos) tA := by
  intro wh pins s σ H Q I h
  refine isTrue_and (thn (ha pins s σ H Q I h) fun c s1 e => ?_)
  cases c with
  | true => exact isTrue_and_nil e
  | false => exact e
theorem pw_or1 (ha : PT X a tA) : PW X (.BoolOp .Or [a] pos) tA := by
  intro wh pins s σ H Q I h
  refine isTrue_or (thn (ha pins s σ H Q I h) fun c s1 e => ?_)
  cases c with
  | false => exact isTrue_or_nil e
  | true => exact e
theorem pw_and (ha : PT X a tA) (hb : PW X (.BoolOp .And (b :: rest) pos) tB') : PW X (.BoolOp .And (a :: b :: rest) pos) (tAnd tA tB') := by
  intro wh pins s σ H Q I h
  refine isTrue_and (thn (ha pins s σ H _ I h) fun c s1 ⟨H1, I1, q1⟩ => ?_)
  cases c with
  | true => exact hb wh pins s1 σ H1 Q I1 q1
  | false => exact ⟨H1, I1, q1⟩
theorem pw_or (ha : PT X a tA) (hb : PW X (.BoolOp .Or (b :: rest) pos) tB') : PW X (.BoolOp .Or (a :: b :: rest) pos) (tOr tA tB') := by
  intro wh pins s σ H Q I h
  refine isTrue_or (thn (ha pins s σ H _ I h) fun c s1 ⟨H1, I1, q1⟩ => ?_)
  cases c with
  | true => exact ⟨H1, I1, q1⟩
  | false => exact hb wh pins s1 σ H1 Q I1 q1
theorem pt_not (ha : PT X a tA) : PT X (.UnaryOp .Not a pos) (tNot tA) := by
  intro pins s σ H Q I h
  exact isTrue_not (ha pins s σ H (fun c H1 => Q (!c) H1) I h)
/-- .. as values (bools) -/
def tAndV (ta tb : TE) : TE := fun σ H Q => ta σ H fun x H1 => ∃ c, x = .bl c ∧ if c = true then tb σ H1 Q else Q (.bl false) H1
def tOrV (ta tb : TE) : TE := fun σ H Q => ta σ H fun x H1 => ∃ c, x = .bl c ∧ if c = true then Q (.bl true) H1 else tb σ H1 Q
def tNotV (ta : TE) : TE := fun σ H Q => ta σ H fun x H1 => ∃ c, x = .bl c ∧ Q (.bl (!c)) H1
theorem pe_one {op} {t : TE} (h : PE X a t) : PE X (.BoolOp op [a] pos) t := fun pins s σ H Q I hw => BoolOp_one (h pins s σ H Q I hw)
theorem pe_and (ha : PE X a ta) (hb : PE X (.BoolOp .And (b :: rest) pos) tb) : PE X (.BoolOp .And (a :: b :: rest) pos) (tAndV ta tb) := by
  intro pins s σ H Q I h
  refine BoolOp_and (thn (ha pins s σ H _ I h) fun v s1 ⟨x, H1, I1, r1, q1⟩ => ?_)
  obtain ⟨c, rfl, q1⟩ := q1
  cases r1
  refine wpAny_truthy_bool ?_
  cases c with
  | true => exact hb pins s1 σ H1 Q I1 q1
  | false => exact ⟨.bl false, H1, I1, rfl, q1⟩
theorem pe_or (ha : PE X a ta) (hb : PE X (.BoolOp .Or (b :: rest) pos) tb) : PE X (.BoolOp .Or (a :: b :: rest) pos) (tOrV ta tb) := by
  intro pins s σ H Q I h
  refine BoolOp_or (thn (ha pins s σ H _ I h) fun v s1 ⟨x, H1, I1, r1, q1⟩ => ?_)
  obtain ⟨c, rfl, q1⟩ := q1
  cases r1
  refine wpAny_truthy_bool ?_
  cases c with
  | false => exact hb pins s1 σ H1 Q I1 q1
  | true => exact ⟨.bl true, H1, I1, rfl, q1⟩
theorem pe_not (ha : PE X a ta) : PE X (.UnaryOp .Not a pos) (tNotV ta) := by
  intro pins s σ H Q I h
  refine UnaryOp_ (thn (ha pins s σ H _ I h) fun v s1 ⟨x, H1, I1, r1, q1⟩ => ?_)
  obtain ⟨c, rfl, q1⟩ := q1
  cases r1
  exact not_of (wpAny_truthy_bool ⟨.bl (!c), H1, I1, rfl, q1⟩)
/-- a if t else b -/
def tIf (t : TT) (ta tb : TE) : TE := fun σ H Q => t σ H fun c H1 => if c = true then ta σ H1 Q else tb σ H1 Q
theorem pe_ifExp {c : Expr} (hc : PT X c tA) (ha : PE X a ta) (hb : PE X b tb) : PE X (.IfExp c a b pos) (tIf tA ta tb) := by
  intro pins s σ H Q I h
  refine wpAny_IfExp (thn (hc pins s σ H _ I h) fun d s1 ⟨H1, I1, q1⟩ => ?_)
  cases d with
  | true => exact ha pins s1 σ H1 Q I1 q1
  | false => exact hb pins s1 σ H1 Q I1 q1
end
end L2

namespace L2
open PySem PySem.Spec PyProof.Rows

/-! ### a list, a tuple that is read: tracked, frozen, or an object of the module -/
def SqL (K : PySem.W.Frag) (H : Hp) (a : Addr) (xs : List V) : Prop :=
  Rd H a (.lst xs) ∨
    ∃ (o : Obj) (its : Array Value) (n : Nat), K.lookup a = some o ∧ o.cls = .type "list" ∧ o.dict = none ∧ o.data = .seq its n ∧ its.size ≤ sizeLine ∧ Vals xs its.toList
def SqT (K : PySem.W.Frag) (H : Hp) (a : Addr) (xs : List V) : Prop :=
  Rd H a (.tup xs) ∨
    ∃ (o : Obj) (its : Array Value) (n : Nat), K.lookup a = some o ∧ o.cls = .type "tuple" ∧ o.data = .seq its n ∧ its.size ≤ sizeLine ∧ Vals xs its.toList
def absV : Value → Option V
  | .none => some .non
  | .bool b => some (.bl b)
  | .int i _ => some (.int i)
  | .str x _ => some (.str x)
  | .bytes b _ => some (.byt b)
  | .float b _ => some (.flt b)
  | .ref a => some (.ref a)
  | .type n => some (.ty n)
  | _ => none
theorem RelV.abs {x : V} {u : Value} (r : RelV x u) : absV u = some x := by
  cases x with
  | non => cases r; rfl
  | bl _ => cases r; rfl
  | int _ => obtain ⟨t, rfl⟩ := r; rfl
  | str _ => obtain ⟨t, rfl⟩ := r; rfl
  | byt _ => obtain ⟨t, rfl⟩ := r; rfl
  | flt _ => obtain ⟨t, rfl⟩ := r; rfl
  | ref _ => cases r; rfl
  | ty _ => cases r; rfl
theorem RelV.inj {x y : V} {u : Value} (r : RelV x u) (q : RelV y u) : x = y := Option.some.inj (r.abs.symm.trans q.abs)
theorem Vals.inj : ∀ {xs ys : List V} {us : List Value}, Vals xs us → Vals ys us → xs = ys
  | _, _, _, .nil, .nil => rfl
  | _, _, _, .cons r t, .cons r' t' => by rw [r.inj r', Vals.inj t t']
section
variable {X : Cx} {pins : List (Addr × Obj)} {σ : St} {H : Hp} {s : Shared} {a : Addr} {xs ys : List V}
theorem SqL.of {K : PySem.W.Frag} (h : H a = some (.lst xs)) : SqL K H a xs := .inl (.inl h)
theorem SqT.of {K : PySem.W.Frag} (h : H a = some (.tup xs)) : SqT K H a xs := .inl (.inl h)
theorem Inv.list (I : Inv X pins σ H s) (h : SqL X.K H a xs) : ∃ its : List Value, Vals xs its ∧ PlainL s.heap a its.toArray ∧ xs.length ≤ sizeLine := by
  rcases h with h | ⟨o, its, n, hk, hc, hd, hs, hz, r⟩
  · obtain ⟨z, its, n, r, e⟩ := h.ok I.hok
    exact ⟨its, r, ⟨_, n, e, rfl, rfl, rfl⟩, z⟩
  · refine ⟨its.toList, r, ⟨o, n, I.kIn a o hk, hc, hd, by simpa using hs⟩, ?_⟩
    have e := r.length
    simp only [Array.length_toList] at e
    omega
theorem Inv.tuple (I : Inv X pins σ H s) (h : SqT X.K H a xs) : ∃ its : List Value, Vals xs its ∧ IsTup s.heap a its.toArray ∧ xs.length ≤ sizeLine := by
  rcases h with h | ⟨o, its, n, hk, hc, hs, hz, r⟩
  · obtain ⟨z, its, r, p⟩ := h.ok I.hok
    exact ⟨its, r, p, z⟩
  · refine ⟨its.toList, r, ⟨o, I.kIn a o hk, hc, n, by simpa using hs⟩, ?_⟩
    have e := r.length
    simp only [Array.length_toList] at e
    omega
theorem Inv.list_inj (I : Inv X pins σ H s) (h : SqL X.K H a xs) (h' : SqL X.K H a ys) : xs = ys := by
  obtain ⟨its, r, ⟨o, n, e, _, _, d⟩, _⟩ := I.list h
  obtain ⟨its', r', ⟨o', n', e', _, _, d'⟩, _⟩ := I.list h'
  rw [e] at e'; cases e'
  rw [d] at d'
  injection d' with d1 _
  have : its = its' := by simpa using congrArg Array.toList d1
  subst this
  exact r.inj r'
theorem Inv.tuple_inj (I : Inv X pins σ H s) (h : SqT X.K H a xs) (h' : SqT X.K H a ys) : xs = ys := by
  obtain ⟨its, r, ⟨o, e, _, n, d⟩, _⟩ := I.tuple h
  obtain ⟨its', r', ⟨o', e', _, n', d'⟩, _⟩ := I.tuple h'
  rw [e] at e'; cases e'
  rw [d] at d'
  injection d' with d1 _
  have : its = its' := by simpa using congrArg Array.toList d1
  subst this
  exact r.inj r'
end

/-! ### another wish about exceptions -/
abbrev Cx.wish (X : Cx) (E : Value → Shared → Prop) : Cx := { X with xe := E }
/-- no exception leaves -/
abbrev Cx.nox (X : Cx) : Cx := X.wish fun _ _ => False
theorem Cx.Ok.wish {X : Cx} (ok : X.Ok) (E : Value → Shared → Prop) : (X.wish E).Ok :=
  ⟨ok.mod, ok.kind, ok.glob, ok.blt, ok.above, ok.inj, ok.has, ok.cab, ok.hd, ok.frames, ok.stk, ok.exf, ok.bs, ok.bsz, ok.noex, ok.exfs, ok.funs, ok.frf⟩
theorem Cx.Ok.unwish {X : Cx} {E : Value → Shared → Prop} (ok : (X.wish E).Ok) : X.Ok :=
  ⟨ok.mod, ok.kind, ok.glob, ok.blt, ok.above, ok.inj, ok.has, ok.cab, ok.hd, ok.frames, ok.stk, ok.exf, ok.bs, ok.bsz, ok.noex, ok.exfs, ok.funs, ok.frf⟩
section
variable {X : Cx} {pins : List (Addr × Obj)} {σ : St} {H : Hp} {s : Shared} {E : Value → Shared → Prop}
theorem Inv.wish (I : Inv X pins σ H s) (E : Value → Shared → Prop) : Inv (X.wish E) pins σ H s := ⟨I.ok.wish E, I.os, I.bare, I.base, I.loc, I.cell, I.free, I.freeC, I.pin, I.hok, I.len⟩
theorem Inv.unwish (I : Inv (X.wish E) pins σ H s) : Inv X pins σ H s := ⟨I.ok.unwish, I.os, I.bare, I.base, I.loc, I.cell, I.free, I.freeC, I.pin, I.hok, I.len⟩
theorem SP.unwish {D : Ends} {f : Flow} {s' : Shared} (h : SP (X.wish E) pins D f s') : SP X pins D f s' := by
  cases f with
  | next => obtain ⟨σ', H', I, q⟩ := h; exact ⟨σ', H', I.unwish, q⟩
  | brk => obtain ⟨σ', H', I, q⟩ := h; exact ⟨σ', H', I.unwish, q⟩
  | cont => obtain ⟨σ', H', I, q⟩ := h; exact ⟨σ', H', I.unwish, q⟩
  | ret u => obtain ⟨v, σ', H', I, r, q⟩ := h; exact ⟨v, σ', H', I.unwish, r, q⟩
theorem PE.nox {e : Expr} {t : TE} (h : PE X.nox e t) : PE X e t := fun pins s σ H Q I hw =>
  wpAny_mono (h pins s σ H Q (I.wish _) hw) (fun _ _ ⟨v, H', I', r, q⟩ => ⟨v, H', I'.unwish, r, q⟩) fun _ _ z => False.elim z
theorem PT.nox {e : Expr} {t : TT} (h : PT X.nox e t) : PT X e t := fun pins s σ H Q I hw =>
  wpAny_mono (h pins s σ H Q (I.wish _) hw) (fun _ _ ⟨H', I', q⟩ => ⟨H', I'.unwish, q⟩) fun _ _ z => False.elim z
theorem PSs.nox {st : List Stmt} {t : TS} (h : PSs X.nox st t) : PSs X st t := fun pins s σ H D I hw =>
  wpAny_mono (h pins s σ H D (I.wish _) hw) (fun _ _ q => q.unwish) fun _ _ z => False.elim z
end

/-! ### blocks and small statements -/
section
variable {X : Cx} {st : Stmt} {rest : List Stmt} {t u : TS} {e : Expr} {te : TE} {pos : Pos}
def tNext : TS := fun D σ H => D.nx σ H
def tSeq (t u : TS) : TS := fun D σ H => t { D with nx := u D } σ H
theorem pss_nil : PSs X [] tNext := fun _ _ σ H _ I h => wpAny_execs_nil ⟨σ, H, I, h⟩
theorem pss_cons (h1 : PS X st t) (h2 : PSs X rest u) : PSs X (st :: rest) (tSeq t u) := by
  intro pins s σ H D I h
  refine wpAny_execs_cons (thn (h1 pins s σ H { D with nx := u D } I h) fun f s1 q => ?_)
  cases f with
  | next =>
    obtain ⟨σ', H', I', q⟩ := q
    exact h2 pins s1 σ' H' D I' q
  | ret v => exact q
  | brk => exact q
  | cont => exact q
theorem pss_one (h1 : PS X st t) : PSs X [st] t := by
  intro pins s σ H D I h
  refine wpAny_execs_cons (thn (h1 pins s σ H D I h) fun f s1 q => ?_)
  cases f with
  | next => exact wpAny_execs_nil q
  | ret v => exact q
  | brk => exact q
  | cont => exact q
def tBreak : TS := fun D σ H => D.bk σ H
def tCont : TS := fun D σ H => D.ct σ H
theorem ps_pass : PS X (.Pass pos) tNext := fun _ _ σ H _ I h => wpAny_Pass ⟨σ, H, I, h⟩
theorem ps_break : PS X (.Break pos) tBreak := fun _ _ σ H _ I h => wpAny_Break ⟨σ, H, I, h⟩
theorem ps_continue : PS X (.Continue pos) tCont := fun _ _ σ H _ I h => wpAny_Continue ⟨σ, H, I, h⟩
/-- in a def's body nothing is shown -/
theorem Inv.quiet {pins : List (Addr × Obj)} {σ : St} {H : Hp} {s : Shared} (I : Inv X pins σ H s) : interactive X.env = false := by simp [interactive, I.ok.kind]
/-- a docstring -/
theorem ps_doc {x j pos pos'} : PS X (.Expr (.Constant (.str x) j pos) pos') tNext := fun _ s σ H _ I h => wpAny_Expr (Calls.Constant_str (show SP X _ _ .next { s with toks := s.toks + 1 } from ⟨σ, H, I.tok _, h⟩)) I.quiet
/-- an expression whose value is dropped -/
def tDrop (te : TE) : TS := fun D σ H => te σ H fun _ H1 => D.nx σ H1
theorem ps_expr (he : PE X e te) (hs : swapsWith e none pos.line X.env = pure false := by rfl) : PS X (.Expr e pos) (tDrop te) := by
  intro pins s σ H D I h
  exact wpAny_Expr_any (thn (he pins s σ H _ I h) fun v s1 ⟨x, H1, I1, r1, q1⟩ => ⟨σ, H1, I1, q1⟩) I.quiet hs
def tRet (te : TE) : TS := fun D σ H => te σ H D.rt
theorem ps_ret (he : PE X e te) : PS X (.Return (some e) pos) (tRet te) := by
  intro pins s σ H D I h
  exact wpAny_Return_some (thn (he pins s σ H _ I h) fun v s1 ⟨x, H1, I1, r1, q1⟩ => ⟨x, σ, H1, I1, r1, q1⟩)
def tRetN : TS := fun D _ H => D.rt .non H
theorem ps_retN : PS X (.Return none pos) tRetN := fun _ _ σ H _ I h => wpAny_Return_none ⟨.non, σ, H, I, rfl, h⟩
def tIfS (c : TT) (t u : TS) : TS := fun D σ H => c σ H fun b H1 => if b = true then t D σ H1 else u D σ H1
theorem ps_if {c : Expr} {a b : List Stmt} {tc : TT} (hc : PT X c tc) (ha : PSs X a t) (hb : PSs X b u) : PS X (.If c a b pos) (tIfS tc t u) := by
  intro pins s σ H D I h
  refine wpAny_If (thn (hc pins s σ H _ I h) fun d s1 ⟨H1, I1, q1⟩ => ?_)
  cases d with
  | true => exact ha pins s1 σ H1 D I1 q1
  | false => exact hb pins s1 σ H1 D I1 q1
/-- code that the proof never comes to -/
def tNever : TS := fun _ _ _ => False
theorem ps_never : PS X st tNever := fun _ _ _ _ _ _ h => h.elim
theorem pss_never {sts : List Stmt} : PSs X sts tNever := fun _ _ _ _ _ _ h => h.elim
end

/-! ### targets -/
abbrev TG := V → St → Hp → (St → Hp → Prop) → Prop
abbrev TGs := List V → St → Hp → (St → Hp → Prop) → Prop
def PG (X : Cx) (target : Expr) (t : TG) : Prop :=
  ∀ (pins : List (Addr × Obj)) (s : Shared) (σ : St) (H : Hp) (v : V) (u : Value) (Q : St → Hp → Prop), Inv X pins σ H s → RelV v u → t v σ H Q →
    wpAny (model X.prog X.w) X.A (assign target X.env u) (fun _ s' => ∃ σ' H', Inv X pins σ' H' s' ∧ Q σ' H') X.xe s
/-- several targets, one after another -/
def PGs (X : Cx) (ts : List Expr) (t : TGs) : Prop :=
  ∀ (pins : List (Addr × Obj)) (s : Shared) (σ : St) (H : Hp) (vs : List V) (us : List Value) (Q : St → Hp → Prop), Inv X pins σ H s → Vals vs us → t vs σ H Q →
    wpAny (model X.prog X.w) X.A (assignInOrder ((assignEach ts X.env).map (·.2)) us) (fun _ s' => ∃ σ' H', Inv X pins σ' H' s' ∧ Q σ' H') X.xe s
/-- o[i] = v, by values -/
abbrev TSet := V → V → V → Hp → (Hp → Prop) → Prop
def PSet (X : Cx) (t : TSet) : Prop :=
  ∀ (pins : List (Addr × Obj)) (s : Shared) (σ : St) (H : Hp) (o i v : V) (ov iv u : Value) (Q : Hp → Prop), Inv X pins σ H s → RelV o ov → RelV i iv → RelV v u → t o i v H Q →
    wpAny (model X.prog X.w) X.A (setItem ov iv u) (fun _ s' => ∃ H', Inv X pins σ H' s' ∧ Q H') X.xe s
/-- a op= b, by values -/
abbrev TIp := V → V → Hp → VK → Prop
def PIp (X : Cx) (op : Operator) (t : TIp) : Prop :=
  ∀ (pins : List (Addr × Obj)) (s : Shared) (σ : St) (H : Hp) (x y : V) (v u : Value) (Q : VK), Inv X pins σ H s → RelV x v → RelV y u → t x y H Q →
    wpAny (model X.prog X.w) X.A (inplaceOp op v u) (EP X pins σ Q) X.xe s
section
variable {X : Cx} {pos : Pos}
def gName (i : Nat) : TG := fun v σ H Q => Q (σ.set i (some v)) H
theorem pg_name {i : Nat} {x : Str} (hN : X.N.Nodup) (hi : X.N[i]? = some x) (hx : Loc X.env.scope x) (hf : X.fn x = true ∨ X.env.scope.names.lookup x = some .local := by first | exact .inl rfl | exact .inr rfl | assumption) : PG X (.Name x pos) (gName i) := by
  intro pins s σ H v u Q I r h
  exact wpAny_assign_Name (store_ok I hN hi hx r (fun s' I' => ⟨_, H, I', h⟩) hf)
def gNil : TGs := fun vs σ H Q => vs = [] ∧ Q σ H
def gCons (t : TG) (u : TGs) : TGs := fun vs σ H Q => ∃ v r, vs = v :: r ∧ t v σ H fun σ' H' => u r σ' H' Q
theorem pgs_nil : PGs X [] gNil := by
  intro pins s σ H vs us Q I r h
  obtain ⟨e, h⟩ := h
  subst e
  cases r
  exact assignInOrder_nil ⟨σ, H, I, h⟩
theorem pgs_cons {e : Expr} {es : List Expr} {t : TG} {u : TGs} (h1 : PG X e t) (h2 : PGs X es u)
    (hs : (assignEach (e :: es) X.env).map (·.2) = assign e X.env :: (assignEach es X.env).map (·.2) := by rfl) : PGs X (e :: es) (gCons t u) := by
  intro pins s σ H vs us Q I r h
  obtain ⟨v, vr, e1, h⟩ := h
  subst e1
  cases r with
  | cons r rr =>
    rw [hs]
    refine assignInOrder_cons (thn (h1 pins s σ H _ _ _ I r h) fun _ s1 ⟨σ1, H1, I1, q1⟩ => ?_)
    exact h2 pins s1 σ1 H1 _ _ Q I1 rr q1
/-- (a, b, ..) = a tuple of that length -/
def gTup (K : PySem.W.Frag) (n : Nat) (t : TGs) : TG := fun v σ H Q => ∃ a xs, v = .ref a ∧ SqT K H a xs ∧ xs.length = n ∧ t xs σ H Q
theorem pg_tup {es : List Expr} {k : Nat} {t : TGs} {n : Nat} (hc : X.calm = true) (h : PGs X es t)
    (hn : (assignEach es X.env).length = n := by rfl) (hst : (assignEach es X.env).findIdx? (·.1) = none := by rfl) : PG X (.Tuple es k pos) (gTup X.K n t) := by
  intro pins s σ H v u Q I r hw
  obtain ⟨a, xs, e1, hq, hl, hw⟩ := hw
  subst e1
  cases r
  obtain ⟨its, rv, ht, hz⟩ := I.tuple hq
  refine assign_Tuple_tuple (I.ok.hd hc) ht (by simp [hn, ← hl, rv.length]) hst fun h' hx => ?_
  have I1 : Inv X pins σ H { s with heap := h' } := I.kept (t' := s.toks) fun b o e => hx b o (Nat.ne_of_lt (Heap.lt_size e)) e
  exact h pins _ σ H xs _ Q I1 (by simpa using rv) hw
/-- o[i] = .. -/
def gSub (to ti : TE) (t : TSet) : TG := fun v σ H Q => to σ H fun o H1 => ti σ H1 fun i H2 => t o i v H2 fun H3 => Q σ H3
theorem pg_sub {o i : Expr} {to ti : TE} {t : TSet} (ho : PE X o to) (hi : PE X i ti) (hs : PSet X t)
    (ha : ∀ v, assign (.Subscript o i pos) X.env v = (do
      let ov ← holding [v] (eval o X.env)
      let iv ← holding [v, ov] (eval i X.env)
      standAt pos
      holding [v, ov, iv] (setItem ov iv v)
      release [v, ov, iv] []) := by intro _; rfl) : PG X (.Subscript o i pos) (gSub to ti t) := by
  intro pins s σ H v u Q I r h
  rw [ha]
  refine wpAny_bind (wpAny_holding (thn (ho pins s σ H _ I h) fun ov s1 ⟨x, H1, I1, r1, q1⟩ => ?_))
  refine wpAny_bind (wpAny_holding (thn (hi pins s1 σ H1 _ I1 q1) fun iv s2 ⟨y, H2, I2, r2, q2⟩ => ?_))
  refine wpAny_bind (wpAny_standAt (wpAny_bind (wpAny_holding (thn (hs pins s2 σ H2 x y v ov iv u _ I2 r1 r2 r q2) fun _ s3 ⟨H3, I3, q3⟩ => ?_))))
  exact wpAny_release ⟨σ, H3, I3, q3⟩
/-- target = value -/
def tAsg (te : TE) (g : TG) : TS := fun D σ H => te σ H fun x H1 => g x σ H1 D.nx
theorem ps_asg {tg e : Expr} {te : TE} {g : TG} (he : PE X e te) (hg : PG X tg g) (hs : swapsWithSole [tg] e pos.line X.env = pure false := by rfl) (hw : swappedStores [tg] e X.env = pure none := by rfl)
    (h1 : (assignEach [tg] X.env).map (·.2) = [assign tg X.env] := by rfl) : PS X (.Assign [tg] e pos) (tAsg te g) := by
  intro pins s σ H D I h
  refine wpAny_Assign_stores (thn (he pins s σ H _ I h) fun v s1 ⟨x, H1, I1, r1, q1⟩ => ?_) hs hw
  rw [h1]
  exact thn (hg pins s1 σ H1 x v _ I1 r1 q1) fun _ s2 q => q
/-- name = value -/
theorem ps_set {i : Nat} {x : Str} {e : Expr} {te : TE} {pos' : Pos} (hN : X.N.Nodup) (hi : X.N[i]? = some x) (hx : Loc X.env.scope x) (he : PE X e te) (hs : swapsWith e (some (.Name x pos')) pos.line X.env = pure false := by rfl) (hf : X.fn x = true ∨ X.env.scope.names.lookup x = some .local := by first | exact .inl rfl | exact .inr rfl | assumption) :
    PS X (.Assign [.Name x pos'] e pos) (tAsg te (gName i)) := by
  intro pins s σ H D I h
  refine wpAny_Assign_Name (thn (he pins s σ H _ I h) fun v s1 ⟨y, H1, I1, r1, q1⟩ => ?_) hs
  exact store_ok I1 hN hi hx r1 (fun s2 I2 => ⟨_, H1, I2, q1⟩) hf
/-- a, b = x, y with plain local names: stored from the right; the pair itself is not tracked (the opening rows as in PyProof/Rows/TupAssign.lean:23) -/
def tPar (i j : Nat) (ta : TA) : TS := fun D σ H => ta σ H fun vs H1 => ∃ v w, vs = [v, w] ∧ D.nx ((σ.set i (some v)).set j (some w)) H1
theorem ps_par {i j : Nat} {x y : Str} {a b : Expr} {ta : TA} {px py pt : Pos} {kt k2 pt2} (hc : X.calm = true) (hN : X.N.Nodup) (hi : X.N[i]? = some x) (hj : X.N[j]? = some y) (hij : i ≠ j)
    (hx : X.env.scope.names.lookup x = some .local) (hy : X.env.scope.names.lookup y = some .local) (ha : PA X [a, b] ta)
    (hw : swappedStores [.Tuple [.Name x px, .Name y py] kt pt] (.Tuple [a, b] k2 pt2) X.env = pure (some [x, y]))
    (hs : swapsWithSole [.Tuple [.Name x px, .Name y py] kt pt] (.Tuple [a, b] k2 pt2) pos.line X.env = pure false := by rfl) :
    PS X (.Assign [.Tuple [.Name x px, .Name y py] kt pt] (.Tuple [a, b] k2 pt2) pos) (tPar i j ta) := by
  intro pins s σ H D I h
  rw [exec_Assign_arm]
  refine wpAny_bind (wpAny_standAt ?_)
  rw [hs]
  refine wpAny_bind (wpAny_pure ?_)
  rw [if_neg (by decide)]
  refine wpAny_bind (Tuple_ (thn (ha _ pins s σ H _ I h) fun us s1 ⟨vs, H1, I1, r1, q1⟩ => ?_))
  obtain ⟨v, w, e1, q1⟩ := q1
  subst e1
  obtain ⟨u1, u2, rfl, rv, rw'⟩ : ∃ u1 u2, us = [u1, u2] ∧ RelV v u1 ∧ RelV w u2 := by
    cases r1 with
    | cons p q =>
      cases q with
      | cons p' q' =>
        cases q'
        exact ⟨_, _, rfl, p, p'⟩
  refine wpAny_newObj_type ?_ (by show 2 ≤ sizeLine; decide)
  have I2 : Inv X pins σ H1 { s1 with heap := s1.heap.push { cls := .type "tuple", data := .seq [u1, u2].toArray } } := I1.kept (t' := s1.toks) fun b o e => Heap.get?_push_of_some _ e
  rw [hw]
  refine wpAny_bind (wpAny_pure ?_)
  show wpAny (model X.prog X.w) X.A (do rule "assign.swapped-stores"; let items ← unpackItems (.ref s1.heap.objs.size) 2 none; assignInOrder [fun v => bindName X.env y v, fun v => bindName X.env x v] items.reverse; pure Flow.next) _ _ _
  refine wpAny_bind (wpAny_rule (wpAny_bind (unpackItems_tuple (items := #[u1, u2]) (I.ok.hd hc) (IsTup.new s1.heap _) fun h' hx' => ?_)))
  have I3 := I2.kept (h' := h') (t' := s1.toks) fun b o e => hx' b o (Nat.ne_of_lt (Heap.lt_size e)) e
  show wpAny _ _ (assignInOrder [fun v => bindName X.env y v, fun v => bindName X.env x v] [u2, u1] >>= fun _ => pure Flow.next) _ _ _
  refine wpAny_bind (assignInOrder_cons (wpAny_bindName (store_ok I3 hN hj (.inl hy) rw' (fun s2 I4 => ?_) (.inr hy))))
  refine assignInOrder_cons (wpAny_bindName (store_ok I4 hN hi (.inl hx) rv (fun s3 I5 => assignInOrder_nil (wpAny_pure ?_)) (.inr hx)))
  rw [List.set_comm _ _ (Ne.symm hij)] at I5
  exact ⟨_, H1, I5, q1⟩
/-- name op= e -/
def tAug (i : Nat) (te : TE) (ti : TIp) : TS := fun D σ H => ∃ x, σ[i]? = some (some x) ∧ te σ H fun y H1 => ti x y H1 fun z H2 => D.nx (σ.set i (some z)) H2
theorem ps_aug {i : Nat} {x : Str} {e : Expr} {te : TE} {op : Operator} {ti : TIp} {pos' : Pos} (hN : X.N.Nodup) (hi : X.N[i]? = some x) (hx : Loc X.env.scope x) (he : PE X e te) (ho : PIp X op ti) (hf : X.fn x = true ∨ X.env.scope.names.lookup x = some .local := by first | exact .inl rfl | exact .inr rfl | assumption) :
    PS X (.AugAssign (.Name x pos') op e pos) (tAug i te ti) := by
  intro pins s σ H D I h
  obtain ⟨v, e1, h⟩ := h
  obtain ⟨m, hn, hl⟩ := I.loc
  have vis : Vis X.env.scope x := by rcases hx with k | k; exact .inl k; exact .inr (.inl k)
  obtain ⟨u, r, l⟩ := hl i x v hi e1 vis
  refine wpAny_AugAssign_Name ?_
  have go : wpAny (model X.prog X.w) X.A (eval e X.env) (fun w s₂ => wpAny (model X.prog X.w) X.A (inplaceOp op u w) (fun r s₃ => wpAny (model X.prog X.w) X.A (storeName X.env x r) (fun _ => SP X pins D .next) X.xe s₃) X.xe s₂) X.xe s := by
    refine thn (he pins s σ H _ I h) fun w s1 ⟨y, H1, I1, r1, q1⟩ => ?_
    refine thn (ho pins s1 σ H1 v y u w _ I1 r r1 q1) fun z s2 ⟨zv, H2, I2, r2, q2⟩ => ?_
    exact store_ok I2 hN hi hx r2 (fun s3 I3 => ⟨_, H2, I3, q2⟩) hf
  rcases l with ⟨hk, hm⟩ | ⟨hk, c, hc, hcell⟩
  · exact wpAny_loadName_local I.ok.kind hk hn hm go
  · rcases hk with hk | hk
    · exact wpAny_loadName_cell I.ok.kind hk hc hcell go
    · rcases hx with k | k
      · have : X.env.scope.names.lookup x = some .free := hk
        rw [k] at this; cases this
      · have : X.env.scope.names.lookup x = some .free := hk
        rw [k] at this; cases this
/-- o[i] op= e -/
def tAugS (to ti te : TE) (tget : V → V → Hp → VK → Prop) (tip : TIp) (tset : TSet) : TS := fun D σ H => to σ H fun o H1 => ti σ H1 fun i H2 => tget o i H2 fun x H3 => te σ H3 fun y H4 => tip x y H4 fun z H5 => tset o i z H5 fun H6 => D.nx σ H6
/-- o[i], by values -/
def PGet (X : Cx) (t : V → V → Hp → VK → Prop) : Prop :=
  ∀ (pins : List (Addr × Obj)) (s : Shared) (σ : St) (H : Hp) (o i : V) (ov iv : Value) (Q : VK), Inv X pins σ H s → RelV o ov → RelV i iv → t o i H Q →
    wpAny (model X.prog X.w) X.A (getItem ov iv) (EP X pins σ Q) X.xe s
theorem ps_augS {o i e : Expr} {to ti te : TE} {tget : V → V → Hp → VK → Prop} {tip : TIp} {tset : TSet} {op : Operator} {tpos : Pos} (ho : PE X o to) (hi : PE X i ti) (hg : PGet X tget) (he : PE X e te) (hp : PIp X op tip) (hs : PSet X tset)
    (ha : ∀ ov iv new, augStore i ov iv new = (do holding [new, ov, iv] (setItem ov iv new); release [new, ov, iv] []; pure .next) := by intros; rfl) : PS X (.AugAssign (.Subscript o i tpos) op e pos) (tAugS to ti te tget tip tset) := by
  intro pins s σ H D I h
  refine wpAny_AugAssign_SubscriptAny (thn (ho pins s σ H _ I h) fun ov s1 ⟨x1, H1, I1, r1, q1⟩ => ?_) ha
  refine thn (hi pins s1 σ H1 _ I1 q1) fun iv s2 ⟨x2, H2, I2, r2, q2⟩ => ?_
  refine thn (hg pins s2 σ H2 x1 x2 ov iv _ I2 r1 r2 q2) fun old s3 ⟨x3, H3, I3, r3, q3⟩ => ?_
  refine thn (he pins s3 σ H3 _ I3 q3) fun v s4 ⟨x4, H4, I4, r4, q4⟩ => ?_
  refine thn (hp pins s4 σ H4 x3 x4 old v _ I4 r3 r4 q4) fun new s5 ⟨x5, H5, I5, r5, q5⟩ => ?_
  exact thn (hs pins s5 σ H5 x1 x2 x5 ov iv new _ I5 r1 r2 r5 q5) fun _ s6 ⟨H6, I6, q6⟩ => ⟨σ, H6, I6, q6⟩
/-- ints -/
def ipI (f : Int → Int → Int) : TIp := fun x y H Q => ∃ i j, x = .int i ∧ y = .int j ∧ Q (.int (f i j)) H
theorem ip_add : PIp X .Add (ipI fun i j => i + j) := by
  intro pins s σ H x y v u Q I r1 r2 h
  obtain ⟨i, j, e1, e2, q⟩ := h
  subst e1; subst e2
  obtain ⟨t, rfl⟩ := r1
  obtain ⟨t', rfl⟩ := r2
  exact iadd_int ⟨.int _, H, I.tok _, ⟨_, rfl⟩, q⟩
theorem ip_sub : PIp X .Sub (ipI fun i j => i - j) := by
  intro pins s σ H x y v u Q I r1 r2 h
  obtain ⟨i, j, e1, e2, q⟩ := h
  subst e1; subst e2
  obtain ⟨t, rfl⟩ := r1
  obtain ⟨t', rfl⟩ := r2
  exact isub_int ⟨.int _, H, I.tok _, ⟨_, rfl⟩, q⟩
end

/-! ### while -/
section
variable {X : Cx} {pos : Pos}
/-- the invariant W with its measure -/
def tWhile (c : TT) (tb : TS) : TS := fun D σ H => ∃ W : Nat → St → Hp → Prop, (∃ m, W m σ H) ∧ ∀ m σ H, W m σ H →
  c σ H fun b H1 => if b = true then ∃ N : St → Hp → Prop, (∀ σ' H', N σ' H' → ∃ m', m' < m ∧ W m' σ' H') ∧ tb { D with nx := N, ct := N, bk := D.nx } σ H1 else D.nx σ H1
theorem ps_while {c : Expr} {body : List Stmt} {tc : TT} {tb : TS} (hp : PassesOwn (model X.prog X.w) X.A X.env X.xe) (hc : PT X c tc) (hb : PSs X body tb) : PS X (.While c body [] pos) (tWhile tc tb) := by
  intro pins s σ H D I h
  obtain ⟨W, ⟨m0, w0⟩, turn⟩ := h
  refine wpAny_While (codeAny_whileLoop (fun n s' => ∃ σ' H', Inv X pins σ' H' s' ∧ W n σ' H') ?_ m0 ⟨σ, H, I, w0⟩)
  rintro n s1 ⟨σ1, H1, I1, w1⟩
  refine wpAny_passesOwn hp (thn (hc pins s1 σ1 H1 _ I1 (turn n σ1 H1 w1)) fun b s2 ⟨H2, I2, q2⟩ => ?_)
  cases b with
  | true =>
    obtain ⟨N, hN, q2⟩ := q2
    rw [if_pos rfl]
    refine wpAny_passesOwn hp (thn (hb pins s2 σ1 H2 _ I2 q2) fun f s3 q3 => ?_)
    cases f with
    | next =>
      obtain ⟨σ3, H3, I3, n3⟩ := q3
      obtain ⟨m', hm, w3⟩ := hN σ3 H3 n3
      exact ⟨m', hm, σ3, H3, I3, w3⟩
    | cont =>
      obtain ⟨σ3, H3, I3, n3⟩ := q3
      obtain ⟨m', hm, w3⟩ := hN σ3 H3 n3
      exact ⟨m', hm, σ3, H3, I3, w3⟩
    | brk => exact q3
    | ret v => exact q3
  | false =>
    rw [if_neg Bool.false_ne_true]
    exact wpAny_execs_nil ⟨σ1, H2, I2, q2⟩
end

/-! ### what a loop or a comprehension walks -/
/-- at turn i: it yields x (the heap may grow), or it stops -/
structure It where
  go : Nat → Hp → Prop
  yld : Nat → Hp → V → Hp → Prop
  stop : Nat → Hp → Prop
/-- the iterator's own objects may turn: they are not the frame's, not pinned, younger than the entry (or a comprehension's own) -/
def FpOk (X : Cx) (pins : List (Addr × Obj)) (H : Hp) (b : Addr) : Prop :=
  H b = none ∧ b ≠ X.env.locals ∧ b ∉ X.fs ∧ (b ∈ X.ex ∨ X.s₀.heap.objs.size ≤ b) ∧ (∀ x c, X.env.cells.lookup x = some c → c ≠ b) ∧ ∀ p ∈ X.pn ++ pins, p.1 ≠ b
theorem Inv.fpOk {X : Cx} {pins : List (Addr × Obj)} {σ : St} {H H' : Hp} {s : Shared} {b : Addr} (I : Inv X pins σ H s) (hb : s.heap.objs.size ≤ b) (hn : H' b = none) : FpOk X pins H' b := by
  refine ⟨hn, Nat.ne_of_gt (Nat.lt_of_lt_of_le I.lt hb), I.nofs hb, .inr (Nat.le_trans I.sz hb), fun x c e z => ?_, fun p hp z => ?_⟩
  · obtain ⟨v, q⟩ := I.cell x c e
    exact absurd (Nat.lt_of_lt_of_le q.lt (by rw [z]; exact hb)) (Nat.lt_irrefl _)
  · exact absurd (Nat.lt_of_lt_of_le (Heap.lt_size (I.pin p hp).1) (by rw [z]; exact hb)) (Nat.lt_irrefl _)
structure Turn (P : Program) (w : World) (K : PySem.W.Frag) (tg : Expr) (J : It) (fp : List Addr) (it : Addr) (tn : Nat → Heap → Prop) : Prop where
  mem : it ∈ fp
  obj : ∀ i h, tn i h → ∀ b ∈ fp, ∃ o, h.get? b = some o ∧ ∀ v, o.data ≠ .cell v
  keep : ∀ i h h', tn i h → (∀ b ∈ fp, ∀ o, h.get? b = some o → h'.get? b = some o) → tn i h'
  item : ∀ (X : Cx), X.prog = P → X.w = w → X.K = K → X.calm = true → ∀ (i : Nat) (pins : List (Addr × Obj)) (s : Shared) (σ : St) (H : Hp) (E : Value → Shared → Prop), Inv X pins σ H s → (∀ b ∈ fp, FpOk X pins H b) → tn i s.heap → J.go i H →
    wpAny (model P w) X.A (pyNext (.ref it)) (fun r s1 => ∃ u, r = some u ∧
      wpAny (model P w) X.A (letOwnedTupleGo tg (.ref it) u) (fun _ s2 => ∃ x H', Inv X pins σ H' s2 ∧ RelV x u ∧ J.yld i H x H' ∧ tn (i + 1) s2.heap ∧ ∀ b ∈ fp, H' b = none) E s1) E s
  done : ∀ (X : Cx), X.prog = P → X.w = w → X.K = K → X.calm = true → ∀ (i : Nat) (pins : List (Addr × Obj)) (s : Shared) (σ : St) (H : Hp) (E : Value → Shared → Prop), Inv X pins σ H s → (∀ b ∈ fp, FpOk X pins H b) → tn i s.heap → J.stop i H →
    wpAny (model P w) X.A (pyNext (.ref it)) (fun r s1 => r = none ∧ Inv X pins σ H s1) E s
  self : ∀ (A : Around) (i : Nat) (s : Shared) (Q : Value → Shared → Prop) (E : Value → Shared → Prop), tn i s.heap → Q (.ref it) s → wpAny (model P w) A (pyIter (.ref it)) Q E s
abbrev TI := St → Hp → (It → Hp → Prop) → Prop
/-- an iterator has come -/
def PIE (X : Cx) (pins : List (Addr × Obj)) (σ : St) (tg : Expr) (R : It → Hp → Prop) (itv : Value) (s2 : Shared) : Prop :=
  ∃ (it : Addr) (fp : List Addr) (tn : Nat → Heap → Prop) (J : It) (H' : Hp), itv = .ref it ∧ Inv X pins σ H' s2 ∧ Turn X.prog X.w X.K tg J fp it tn ∧ tn 0 s2.heap ∧ (∀ b ∈ fp, FpOk X pins H' b) ∧ R J H'
def PI (X : Cx) (tg iter : Expr) (wi : TI) : Prop :=
  ∀ (pins : List (Addr × Obj)) (s : Shared) (σ : St) (H : Hp) (R : It → Hp → Prop), Inv X pins σ H s → wi σ H R →
    wpAny (model X.prog X.w) X.A (eval iter X.env) (fun v s1 => wpAny (model X.prog X.w) X.A (pyIter v) (PIE X pins σ tg R) X.xe s1) X.xe s

/-- the step ahead of the store is nothing for an iterator that keeps no tuple -/
theorem go_of {M : Model} {A : Around} {E : Value → Shared → Prop} {s : Shared} {tg : Expr} {it : Addr} {u : Value} {o : Obj} {n : String} {vs : Array Value} {Q : Unit → Shared → Prop} (ho : s.heap.get? it = some o) (hc : o.cls = .type n) (hd : o.data = .fields vs)
    (hn : ["enumerate", "zip", "dict_itemiterator", "dict_reverseitemiterator", "odict_iterator", "itertools.zip_longest", "itertools.pairwise"].contains n = false) (hQ : Q () s) : wpAny M A (letOwnedTupleGo tg (.ref it) u) Q E s := by
  unfold letOwnedTupleGo
  cases tg <;> first
    | exact wpAny_pure hQ
    | (cases u <;> first
        | exact wpAny_pure hQ
        | (refine wpAny_bind (wpAny_load ho ?_)
           rw [hc, hd]
           show wpAny M A (if (["enumerate", "zip", "dict_itemiterator", "dict_reverseitemiterator", "odict_iterator", "itertools.zip_longest", "itertools.pairwise"].contains n && vs[0]? == some (rawInt _)) = true then _ else _) Q E s
           rw [if_neg (by intro h; rw [hn, Bool.false_and] at h; cases h)]
           exact wpAny_pure hQ))

/-- the list at a, as it stands at each turn (a loop may append to it) -/
def Itl (K : PySem.W.Frag) (a : Addr) : It :=
  ⟨fun i H => ∃ xs x, SqL K H a xs ∧ xs[i]? = some x, fun i H x H' => H' = H ∧ ∀ xs, SqL K H a xs → xs[i]? = some x, fun i H => ∃ xs, SqL K H a xs ∧ xs.length ≤ i⟩
def Itt (K : PySem.W.Frag) (a : Addr) : It :=
  ⟨fun i H => ∃ xs x, SqT K H a xs ∧ xs[i]? = some x, fun i H x H' => H' = H ∧ ∀ xs, SqT K H a xs → xs[i]? = some x, fun i H => ∃ xs, SqT K H a xs ∧ xs.length ≤ i⟩
/-- lo, lo + 1, .. (n of them) -/
def Itr (lo : Int) (n : Nat) : It := ⟨fun i _ => i < n, fun i H x H' => H' = H ∧ x = .int (lo + i), fun i _ => n ≤ i⟩
theorem turn_list {P : Program} {w : World} {K : PySem.W.Frag} {tg : Expr} (a it : Addr) : Turn P w K tg (Itl K a) [it] it (fun i h => h.IsListIter it a i) where
  mem := by simp
  obj := fun i h st b hb => by
    have e : b = it := by simpa using hb
    subst e
    obtain ⟨o, e, c, d⟩ := st
    exact ⟨o, e, fun v z => by rw [d] at z; cases z⟩
  keep := fun i h h' st k => st.at fun o e => k it (by simp) o e
  item := by
    intro X hP hw hK hc i pins s σ H E I hf st hg
    subst hP hw hK
    obtain ⟨xs, x, hq, hx⟩ := hg
    obtain ⟨its, rv, p, hz⟩ := I.list hq
    obtain ⟨u, hu, ru⟩ := rv.get hx
    obtain ⟨f0, f1, f2, f3, f4, f5⟩ := hf it (by simp)
    refine wpAny_pyNext_list_item st p.isList (x := u) (by simpa using hu) fun h' st' sb => ?_
    have I1 : Inv X pins σ H { s with heap := h' } := I.turned (t' := s.toks) (fun b o hb e => (sb.2 b hb).trans e) f0 f1 f3 f4 f5
    obtain ⟨o, e, c, d⟩ := id st'
    exact ⟨u, rfl, go_of (s := { s with heap := h' }) e c d (by decide) ⟨x, H, I1, ru, ⟨rfl, fun ys hy => by rw [I.list_inj hy hq]; exact hx⟩, st', fun b hb => (hf b hb).1⟩⟩
  done := by
    intro X hP hw hK hc i pins s σ H E I hf st hg
    subst hP hw hK
    obtain ⟨xs, hq, hx⟩ := hg
    obtain ⟨its, rv, p, hz⟩ := I.list hq
    obtain ⟨f0, f1, f2, f3, f4, f5⟩ := hf it (by simp)
    have hl := rv.length
    exact wpAny_pyNext_list_end (I.ok.hd hc) st p.isList (by simp; omega) fun h' eb => ⟨rfl, I.turned (t' := s.toks) (fun b o hb e => eb b o hb e) f0 f1 f3 f4 f5⟩
  self := fun _ _ _ _ _ st h => wpAny_pyIter_listiter st h
theorem turn_tuple {P : Program} {w : World} {K : PySem.W.Frag} {tg : Expr} (a it : Addr) : Turn P w K tg (Itt K a) [it] it (fun i h => h.IsTupleIter it a i) where
  mem := by simp
  obj := fun i h st b hb => by
    have e : b = it := by simpa using hb
    subst e
    obtain ⟨o, e, c, d⟩ := st
    exact ⟨o, e, fun v z => by rw [d] at z; cases z⟩
  keep := fun i h h' st k => st.at fun o e => k it (by simp) o e
  item := by
    intro X hP hw hK hc i pins s σ H E I hf st hg
    subst hP hw hK
    obtain ⟨xs, x, hq, hx⟩ := hg
    obtain ⟨its, rv, p, hz⟩ := I.tuple hq
    obtain ⟨u, hu, ru⟩ := rv.get hx
    obtain ⟨f0, f1, f2, f3, f4, f5⟩ := hf it (by simp)
    refine wpAny_pyNext_tuple_item st (show s.heap.IsTuple a its.toArray from p) (x := u) (by simpa using hu) fun h' st' sb => ?_
    have I1 : Inv X pins σ H { s with heap := h' } := I.turned (t' := s.toks) (fun b o hb e => (sb.2 b hb).trans e) f0 f1 f3 f4 f5
    obtain ⟨o, e, c, d⟩ := id st'
    exact ⟨u, rfl, go_of (s := { s with heap := h' }) e c d (by decide) ⟨x, H, I1, ru, ⟨rfl, fun ys hy => by rw [I.tuple_inj hy hq]; exact hx⟩, st', fun b hb => (hf b hb).1⟩⟩
  done := by
    intro X hP hw hK hc i pins s σ H E I hf st hg
    subst hP hw hK
    obtain ⟨xs, hq, hx⟩ := hg
    obtain ⟨its, rv, p, hz⟩ := I.tuple hq
    obtain ⟨f0, f1, f2, f3, f4, f5⟩ := hf it (by simp)
    have hl := rv.length
    exact wpAny_pyNext_tuple_end (I.ok.hd hc) st (show s.heap.IsTuple a its.toArray from p) (by simp; omega) fun h' eb => ⟨rfl, I.turned (t' := s.toks) (fun b o hb e => eb b o hb e) f0 f1 f3 f4 f5⟩
  self := fun _ _ _ _ _ st h => wpAny_pyIter_tupleiter st h
theorem turn_range {P : Program} {w : World} {K : PySem.W.Frag} {tg : Expr} (it : Addr) (lo : Int) (n : Nat) : Turn P w K tg (Itr lo n) [it] it (fun i h => IsRangeIter h it (lo + (i : Nat) * 1) ((n : Int) - (i : Nat)) 1) where
  mem := by simp
  obj := fun i h st b hb => by
    have e : b = it := by simpa using hb
    subst e
    exact ⟨_, st, fun v z => by
      have z' : Data.fields _ = Data.cell v := z
      cases z'⟩
  keep := fun i h h' st k => k it (by simp) _ st
  item := by
    intro X hP hw hK hc i pins s σ H E I hf st hg
    subst hP hw hK
    obtain ⟨f0, f1, f2, f3, f4, f5⟩ := hf it (by simp)
    have W := Walks.range (prog := X.prog) (w := X.w) (I.ok.hd hc) it lo 1 n
    refine W.item i s _ _ hg st fun v h' tk hv st' kk => ?_
    obtain ⟨t, rfl⟩ := hv
    have I1 : Inv X pins σ H { s with heap := h', toks := tk } := I.turned (fun b o hb e => kk b o (by simpa using hb) e) f0 f1 f3 f4 f5
    refine ⟨_, rfl, go_of (s := { s with heap := h', toks := tk }) (n := "range_iterator") st' rfl rfl (by decide) ⟨.int (lo + i), H, I1, ⟨t, ?_⟩, ⟨rfl, rfl⟩, st', fun b hb => (hf b hb).1⟩⟩
    rw [Int.mul_one]
  done := by
    intro X hP hw hK hc i pins s σ H E I hf st hg
    subst hP hw hK
    obtain ⟨f0, f1, f2, f3, f4, f5⟩ := hf it (by simp)
    exact wpAny_pyNext_range_end (I.ok.hd hc) st (by have : n ≤ i := hg; omega) fun h' eb => ⟨rfl, I.turned (t' := s.toks) (fun b o hb e => eb b o hb e) f0 f1 f3 f4 f5⟩
  self := fun _ _ _ _ _ st h => wpAny_pyIter_rangeiter st h
end L2

namespace L2
open PySem PySem.Spec PyProof.Rows
section
variable {X : Cx} {tg : Expr}
def iList (K : PySem.W.Frag) (tl : TE) : TI := fun σ H R => tl σ H fun x H1 => ∃ a, x = .ref a ∧ (∃ xs, SqL K H1 a xs) ∧ R (Itl K a) H1
def iTup (K : PySem.W.Frag) (tl : TE) : TI := fun σ H R => tl σ H fun x H1 => ∃ a, x = .ref a ∧ (∃ xs, SqT K H1 a xs) ∧ R (Itt K a) H1
theorem pi_list {l : Expr} {tl : TE} (hl : PE X l tl) : PI X tg l (iList X.K tl) := by
  intro pins s σ H R I h
  refine thn (hl pins s σ H _ I h) fun v s1 ⟨x, H1, I1, r1, q1⟩ => ?_
  obtain ⟨a, e, ⟨xs, hq⟩, q⟩ := q1
  subst e
  cases r1
  obtain ⟨its, rv, p, hz⟩ := I1.list hq
  refine wpAny_pyIter_list p.isList ?_
  refine ⟨s1.heap.objs.size, [s1.heap.objs.size], _, _, H1, rfl, I1.kept (t' := s1.toks) fun b o e => Heap.get?_push_of_some _ e, turn_list a _, ⟨_, Heap.get?_push_size _ rfl, rfl, rfl⟩, fun b hb => ?_, q⟩
  have e : b = s1.heap.objs.size := by simpa using hb
  subst e
  exact I1.fpOk (Nat.le_refl _) (I1.hok.fresh (Nat.le_refl _))
theorem pi_tup {l : Expr} {tl : TE} (hl : PE X l tl) : PI X tg l (iTup X.K tl) := by
  intro pins s σ H R I h
  refine thn (hl pins s σ H _ I h) fun v s1 ⟨x, H1, I1, r1, q1⟩ => ?_
  obtain ⟨a, e, ⟨xs, hq⟩, q⟩ := q1
  subst e
  cases r1
  obtain ⟨its, rv, p, hz⟩ := I1.tuple hq
  refine wpAny_pyIter_tuple (show s1.heap.IsTuple a its.toArray from p) ?_
  refine ⟨s1.heap.objs.size, [s1.heap.objs.size], _, _, H1, rfl, I1.kept (t' := s1.toks) fun b o e => Heap.get?_push_of_some _ e, turn_tuple a _, ⟨_, Heap.get?_push_size _ rfl, rfl, rfl⟩, fun b hb => ?_, q⟩
  have e : b = s1.heap.objs.size := by simpa using hb
  subst e
  exact I1.fpOk (Nat.le_refl _) (I1.hok.fresh (Nat.le_refl _))
/-- a range object just made, walked -/
theorem range_it {pins : List (Addr × Obj)} {σ : St} {H : Hp} {s : Shared} {R : It → Hp → Prop} {E : Value → Shared → Prop} {lo hi : Int} {t u v : Tok} {tk : Nat} (I : Inv X pins σ H s) (h1 : -(2 ^ 62) ≤ lo) (h2 : lo < 2 ^ 62) (h3 : -(2 ^ 62) ≤ hi) (h4 : hi < 2 ^ 62)
    (q : R (Itr lo (hi - lo).toNat) H) : wpAny (model X.prog X.w) X.A (pyIter (.ref s.heap.objs.size)) (PIE X pins σ tg R) E { s with heap := s.heap.push { cls := .type "range", data := .fields #[.int lo t, .int hi u, .int 1 v] }, toks := tk } := by
  refine wpAny_pyIter_range (IsRange.new ..) (small_one h1 h2 h3 h4) ?_
  have I1 : Inv X pins σ H { s with heap := s.heap.push { cls := .type "range", data := .fields #[.int lo t, .int hi u, .int 1 v] }, toks := tk } := I.kept fun b o e => Heap.get?_push_of_some _ e
  refine ⟨(s.heap.push { cls := .type "range", data := .fields #[.int lo t, .int hi u, .int 1 v] }).objs.size, [(s.heap.push { cls := .type "range", data := .fields #[.int lo t, .int hi u, .int 1 v] }).objs.size], _, _, H, rfl,
    I1.kept (t' := tk) fun b o e => Heap.get?_push_of_some _ e, turn_range _ lo (hi - lo).toNat, ?_, fun b hb => ?_, q⟩
  · have e1 : lo + ((0 : Nat) : Int) * 1 = lo := by simp
    have e2 : (((hi - lo).toNat : Nat) : Int) - ((0 : Nat) : Int) = Builtin.Range.rangeSize lo hi 1 := by rw [rangeSize_one]; split <;> omega
    show IsRangeIter _ _ (lo + ((0 : Nat) : Int) * 1) ((((hi - lo).toNat : Nat) : Int) - ((0 : Nat) : Int)) 1
    rw [e1, e2]
    exact Heap.get?_push_size _ rfl
  · have e : b = (s.heap.push { cls := .type "range", data := .fields #[.int lo t, .int hi u, .int 1 v] }).objs.size := by simpa using hb
    subst e
    exact I1.fpOk (Nat.le_refl _) (I1.hok.fresh (Nat.le_refl _))
def iRng1 (ta : TA) : TI := fun σ H R => ta σ H fun vs H1 => ∃ j : Int, vs = [.int j] ∧ -(2 ^ 62) ≤ j ∧ j < 2 ^ 62 ∧ R (Itr 0 j.toNat) H1
def iRng2 (ta : TA) : TI := fun σ H R => ta σ H fun vs H1 => ∃ i j : Int, vs = [.int i, .int j] ∧ (-(2 ^ 62) ≤ i ∧ i < 2 ^ 62 ∧ -(2 ^ 62) ≤ j ∧ j < 2 ^ 62) ∧ R (Itr i (j - i).toNat) H1
theorem pi_range1 {a : Expr} {ta : TA} {p pos : Pos} (hg : Gl X "range") (hm : X.mg "range" = none) (ha : PA X [a] ta) (hs : starEach [a] X.env = [(false, eval a X.env)] := by rfl) : PI X tg (.Call (.Name "range" p) [a] [] pos) (iRng1 ta) := by
  intro pins s σ H R I h
  refine Call_ (ld_blt I hg hm boot_range (PyProof.Rows.callWith_type1 (thn (ha pos pins s σ H _ I h) fun us s1 ⟨vs, H1, I1, r1, q1⟩ => ?_) hs rfl))
  obtain ⟨j, e, q1, q2, q⟩ := q1
  subst e
  cases r1 with
  | cons r rr =>
    cases rr
    obtain ⟨t, rfl⟩ := r
    exact call_range_1 (range_it I1 (by omega) (by omega) q1 q2 (by simpa using q))
theorem pi_range2 {a b : Expr} {ta : TA} {p pos : Pos} (hg : Gl X "range") (hm : X.mg "range" = none) (ha : PA X [a, b] ta) (hs : starEach [a, b] X.env = [(false, eval a X.env), (false, eval b X.env)] := by rfl) (hs2 : starEach [b] X.env = [(false, eval b X.env)] := by rfl) :
    PI X tg (.Call (.Name "range" p) [a, b] [] pos) (iRng2 ta) := by
  intro pins s σ H R I h
  refine Call_ (ld_blt I hg hm boot_range (PyProof.Rows.callWith_type1 (thn (ha pos pins s σ H _ I h) fun us s1 ⟨vs, H1, I1, r1, q1⟩ => ?_) (by rw [hs, hs2]) (by rw [hs2]; rfl)))
  obtain ⟨i, j, e, ⟨q1, q2, q3, q4⟩, q⟩ := q1
  subst e
  cases r1 with
  | cons r rr =>
    cases rr with
    | cons r' rr =>
      cases rr
      obtain ⟨t, rfl⟩ := r
      obtain ⟨t', rfl⟩ := r'
      exact call_range_2 (range_it I1 q1 q2 q3 q4 q)

/-! ### for -/
/-- W: the invariant by the turn and a measure; N: what the body is to reach -/
def tFor (wi : TI) (g : TG) (tb : TS) : TS := fun D σ H => wi σ H fun J H1 => ∃ W : Nat → Nat → St → Hp → Prop, (∃ m, W 0 m σ H1) ∧ ∀ i m σ H, W i m σ H →
  (J.stop i H ∧ D.nx σ H) ∨ (J.go i H ∧ ∃ N : St → Hp → Prop, (∀ σ' H', N σ' H' → ∃ m', m' < m ∧ W (i + 1) m' σ' H') ∧ ∀ x H', J.yld i H x H' → g x σ H' fun σ2 H2 => tb { D with nx := N, ct := N, bk := D.nx } σ2 H2)
/-- the records at fp as they stand -/
def pinsAt (fp : List Addr) (h : Heap) : List (Addr × Obj) := fp.filterMap fun b => (h.get? b).map fun o => (b, o)
theorem mem_pinsAt {fp : List Addr} {h : Heap} {b : Addr} {o : Obj} (hb : b ∈ fp) (e : h.get? b = some o) : (b, o) ∈ pinsAt fp h := List.mem_filterMap.mpr ⟨b, hb, by rw [e]; rfl⟩
theorem of_pinsAt {fp : List Addr} {h : Heap} {p : Addr × Obj} (hp : p ∈ pinsAt fp h) : p.1 ∈ fp ∧ h.get? p.1 = some p.2 := by
  obtain ⟨b, hb, e⟩ := List.mem_filterMap.mp hp
  cases q : h.get? b with
  | none => rw [q] at e; cases e
  | some o =>
    rw [q] at e
    have e' : (b, o) = p := Option.some.inj e
    subst e'
    exact ⟨hb, q⟩
theorem Inv.pinned {pins : List (Addr × Obj)} {σ : St} {H : Hp} {s : Shared} {fp : List Addr} (I : Inv X pins σ H s) (hf : ∀ b ∈ fp, FpOk X pins H b) (ho : ∀ b ∈ fp, ∃ o, s.heap.get? b = some o ∧ ∀ v, o.data ≠ .cell v) : Inv X (pins ++ pinsAt fp s.heap) σ H s :=
  I.pins_of fun p hp => (List.mem_append.mp hp).elim (fun z => I.pin p (List.mem_append_right _ z)) fun z => by
    obtain ⟨hb, e⟩ := of_pinsAt z
    obtain ⟨f0, f1, f2, _⟩ := hf p.1 hb
    obtain ⟨o, e', d⟩ := ho p.1 hb
    rw [e] at e'; cases e'
    exact ⟨e, f0, f1, f2, d⟩
theorem Inv.unpinned {pins pl : List (Addr × Obj)} {σ : St} {H : Hp} {s : Shared} (I : Inv X (pins ++ pl) σ H s) : Inv X pins σ H s := I.pins_of fun p hp => I.pin p (List.mem_append_right _ (List.mem_append_left _ hp))
theorem ps_for {iter : Expr} {body : List Stmt} {wi : TI} {g : TG} {tb : TS} {pos : Pos} (hp : PassesOwn (model X.prog X.w) X.A X.env X.xe) (hc : X.calm = true) (hi : PI X tg iter wi) (hg : PG X tg g) (hb : PSs X body tb)
    (hs : ∀ x, foldedSetIterable iter X.env x = pure x := by intro _; rfl) : PS X (.For tg iter body [] pos) (tFor wi g tb) := by
  intro pins s σ H D I h
  refine wpAny_For (thn (hi pins s σ H _ I h) fun v s1 h1 => thn h1 fun itv s2 h2 => ?_) hs
  obtain ⟨it, fp, tn, J, H2, e, I2, T, st2, f2, W, ⟨m0, w0⟩, turn⟩ := h2
  subst e
  -- what stays true of the iterator's objects through the loop
  have stat : ∀ {H' : Hp}, (∀ b ∈ fp, H' b = none) → ∀ b ∈ fp, FpOk X pins H' b := fun hn b hb => ⟨hn b hb, (f2 b hb).2⟩
  refine codeAny_forLoop_any (fun n s' => ∃ i σ' H', Inv X pins σ' H' s' ∧ tn i s'.heap ∧ (∀ b ∈ fp, H' b = none) ∧ W i n σ' H') ?_ m0 ⟨0, σ, H2, I2, st2, fun b hb => (f2 b hb).1, w0⟩
  rintro n s3 ⟨i, σ3, H3, I3, st3, fr3, w3⟩
  rcases turn i n σ3 H3 w3 with ⟨stop, qn⟩ | ⟨go, N, hN, step⟩
  · refine wpAny_passesOwn hp (thn (T.done X rfl rfl rfl hc i pins s3 σ3 H3 X.xe I3 (stat fr3) st3 stop) fun r s4 ⟨hr, I4⟩ => ?_)
    subst hr
    exact wpAny_execs_nil ⟨σ3, H3, I4, qn⟩
  · refine wpAny_passesOwn hp (thn (T.item X rfl rfl rfl hc i pins s3 σ3 H3 X.xe I3 (stat fr3) st3 go) fun r s4 ⟨u, hr, h4⟩ => ?_)
    subst hr
    refine wpAny_passesOwn hp (thn h4 fun _ s5 ⟨x, H5, I5, r5, y5, st5, fr5⟩ => ?_)
    have I5' := I5.pinned (stat fr5) (T.obj _ _ st5)
    refine wpAny_passesOwn hp (thn (hg _ s5 σ3 H5 x u _ I5' r5 (step x H5 y5)) fun _ s6 ⟨σ6, H6, I6, q6⟩ => ?_)
    refine wpAny_passesOwn hp (thn (hb _ s6 σ6 H6 _ I6 q6) fun f s7 q7 => ?_)
    have again : ∀ {σ7 : St} {H7 : Hp}, Inv X (pins ++ pinsAt fp s5.heap) σ7 H7 s7 → N σ7 H7 → ∃ m, m < n ∧ ∃ i σ' H', Inv X pins σ' H' s7 ∧ tn i s7.heap ∧ (∀ b ∈ fp, H' b = none) ∧ W i m σ' H' := fun {σ7 H7} I7 n7 => by
      obtain ⟨m', hm, w7⟩ := hN σ7 H7 n7
      refine ⟨m', hm, i + 1, σ7, H7, I7.unpinned, T.keep _ _ _ st5 fun b hb o e => (I7.pin (b, o) (List.mem_append_right _ (List.mem_append_right _ (mem_pinsAt hb e)))).1, fun b hb => ?_, w7⟩
      obtain ⟨o, e, d⟩ := T.obj _ _ st5 b hb
      exact (I7.pin (b, o) (List.mem_append_right _ (List.mem_append_right _ (mem_pinsAt hb e)))).2.1
    cases f with
    | next => obtain ⟨σ7, H7, I7, n7⟩ := q7; exact again I7 n7
    | cont => obtain ⟨σ7, H7, I7, n7⟩ := q7; exact again I7 n7
    | brk => obtain ⟨σ7, H7, I7, q7⟩ := q7; exact ⟨σ7, H7, I7.unpinned, q7⟩
    | ret v => obtain ⟨x7, σ7, H7, I7, r7, q7⟩ := q7; exact ⟨x7, σ7, H7, I7.unpinned, r7, q7⟩
end

/-! ### the forms one uses -/
/-- over a list that the body leaves as it is -/
theorem for_list {K : PySem.W.Frag} {a : Addr} {xs : List V} {g : TG} {tb : TS} {D : Ends} {σ : St} {H : Hp} (Pv : Nat → St → Hp → Prop) (h0 : Pv 0 σ H) (hl : ∀ i σ H, i ≤ xs.length → Pv i σ H → SqL K H a xs)
    (hs : ∀ i x σ H, xs[i]? = some x → Pv i σ H → g x σ H fun σ2 H2 => tb { D with nx := Pv (i + 1), ct := Pv (i + 1), bk := D.nx } σ2 H2) (hd : ∀ σ H, Pv xs.length σ H → D.nx σ H) :
    ∃ W : Nat → Nat → St → Hp → Prop, (∃ m, W 0 m σ H) ∧ ∀ i m σ H, W i m σ H →
      ((Itl K a).stop i H ∧ D.nx σ H) ∨ ((Itl K a).go i H ∧ ∃ N : St → Hp → Prop, (∀ σ' H', N σ' H' → ∃ m', m' < m ∧ W (i + 1) m' σ' H') ∧ ∀ x H', (Itl K a).yld i H x H' → g x σ H' fun σ2 H2 => tb { D with nx := N, ct := N, bk := D.nx } σ2 H2) := by
  refine ⟨fun i m σ H => m = xs.length - i ∧ i ≤ xs.length ∧ Pv i σ H, ⟨xs.length, by simp, Nat.zero_le _, h0⟩, ?_⟩
  rintro i m σ H ⟨rfl, hi, p⟩
  have q := hl i σ H hi p
  by_cases hlt : i < xs.length
  · refine .inr ⟨⟨xs, xs[i], q, by simp [hlt]⟩, Pv (i + 1), fun σ' H' p' => ⟨xs.length - (i + 1), by omega, rfl, hlt, p'⟩, fun x H' y => ?_⟩
    obtain ⟨e, y⟩ := y
    subst e
    exact hs i x σ _ (y xs q) p
  · have e : i = xs.length := by omega
    subst e
    exact .inl ⟨⟨xs, q, Nat.le_refl _⟩, hd σ H p⟩
theorem for_tup {K : PySem.W.Frag} {a : Addr} {xs : List V} {g : TG} {tb : TS} {D : Ends} {σ : St} {H : Hp} (Pv : Nat → St → Hp → Prop) (h0 : Pv 0 σ H) (hl : ∀ i σ H, i ≤ xs.length → Pv i σ H → SqT K H a xs)
    (hs : ∀ i x σ H, xs[i]? = some x → Pv i σ H → g x σ H fun σ2 H2 => tb { D with nx := Pv (i + 1), ct := Pv (i + 1), bk := D.nx } σ2 H2) (hd : ∀ σ H, Pv xs.length σ H → D.nx σ H) :
    ∃ W : Nat → Nat → St → Hp → Prop, (∃ m, W 0 m σ H) ∧ ∀ i m σ H, W i m σ H →
      ((Itt K a).stop i H ∧ D.nx σ H) ∨ ((Itt K a).go i H ∧ ∃ N : St → Hp → Prop, (∀ σ' H', N σ' H' → ∃ m', m' < m ∧ W (i + 1) m' σ' H') ∧ ∀ x H', (Itt K a).yld i H x H' → g x σ H' fun σ2 H2 => tb { D with nx := N, ct := N, bk := D.nx } σ2 H2) := by
  refine ⟨fun i m σ H => m = xs.length - i ∧ i ≤ xs.length ∧ Pv i σ H, ⟨xs.length, by simp, Nat.zero_le _, h0⟩, ?_⟩
  rintro i m σ H ⟨rfl, hi, p⟩
  have q := hl i σ H hi p
  by_cases hlt : i < xs.length
  · refine .inr ⟨⟨xs, xs[i], q, by simp [hlt]⟩, Pv (i + 1), fun σ' H' p' => ⟨xs.length - (i + 1), by omega, rfl, hlt, p'⟩, fun x H' y => ?_⟩
    obtain ⟨e, y⟩ := y
    subst e
    exact hs i x σ _ (y xs q) p
  · have e : i = xs.length := by omega
    subst e
    exact .inl ⟨⟨xs, q, Nat.le_refl _⟩, hd σ H p⟩
theorem for_range {lo : Int} {n : Nat} {g : TG} {tb : TS} {D : Ends} {σ : St} {H : Hp} (Pv : Nat → St → Hp → Prop) (h0 : Pv 0 σ H)
    (hs : ∀ i σ H, i < n → Pv i σ H → g (.int (lo + i)) σ H fun σ2 H2 => tb { D with nx := Pv (i + 1), ct := Pv (i + 1), bk := D.nx } σ2 H2) (hd : ∀ σ H, Pv n σ H → D.nx σ H) :
    ∃ W : Nat → Nat → St → Hp → Prop, (∃ m, W 0 m σ H) ∧ ∀ i m σ H, W i m σ H →
      ((Itr lo n).stop i H ∧ D.nx σ H) ∨ ((Itr lo n).go i H ∧ ∃ N : St → Hp → Prop, (∀ σ' H', N σ' H' → ∃ m', m' < m ∧ W (i + 1) m' σ' H') ∧ ∀ x H', (Itr lo n).yld i H x H' → g x σ H' fun σ2 H2 => tb { D with nx := N, ct := N, bk := D.nx } σ2 H2) := by
  refine ⟨fun i m σ H => m = n - i ∧ i ≤ n ∧ Pv i σ H, ⟨n, by simp, Nat.zero_le _, h0⟩, ?_⟩
  rintro i m σ H ⟨rfl, hi, p⟩
  by_cases hlt : i < n
  · refine .inr ⟨hlt, Pv (i + 1), fun σ' H' p' => ⟨n - (i + 1), by omega, rfl, hlt, p'⟩, fun x H' y => ?_⟩
    obtain ⟨e, y⟩ := y
    subst e y
    exact hs i σ _ hlt p
  · have e : i = n := by omega
    subst e
    exact .inl ⟨Nat.le_refl _, hd σ H p⟩
/-- while, by a word and a measure of the state -/
theorem while_by {c : TT} {tb : TS} {D : Ends} {σ : St} {H : Hp} (Pv : St → Hp → Prop) (μ : St → Hp → Nat) (h0 : Pv σ H)
    (hs : ∀ σ H, Pv σ H → c σ H fun b H1 => if b = true then tb { D with nx := fun σ' H' => Pv σ' H' ∧ μ σ' H' < μ σ H, ct := fun σ' H' => Pv σ' H' ∧ μ σ' H' < μ σ H, bk := D.nx } σ H1 else D.nx σ H1)
    (mono : ∀ σ H Q Q', (∀ b H1, Q b H1 → Q' b H1) → c σ H Q → c σ H Q') : tWhile c tb D σ H := by
  refine ⟨fun m σ H => m = μ σ H ∧ Pv σ H, ⟨_, rfl, h0⟩, ?_⟩
  rintro m σ H ⟨rfl, p⟩
  refine mono σ H _ _ (fun b H1 q => ?_) (hs σ H p)
  cases b with
  | true => exact ⟨_, fun σ' H' ⟨p', l⟩ => ⟨_, l, rfl, p'⟩, q⟩
  | false => exact q
end L2

namespace L2
open PySem PySem.Spec PyProof.Rows

abbrev R2 := V → V → Hp → VK → Prop
/-- a two-place operation on values: f is binaryOp op, inplaceOp op or compareOp op -/
def OpR (X : Cx) (f : Value → Value → Sem Value) (r : R2) : Prop :=
  ∀ (pins : List (Addr × Obj)) (s : Shared) (σ : St) (H : Hp) (x y : V) (v u : Value) (Q : VK), Inv X pins σ H s → RelV x v → RelV y u → r x y H Q →
    wpAny (model X.prog X.w) X.A (f v u) (EP X pins σ Q) X.xe s
/-- a one-place operation -/
def UnR (X : Cx) (f : Value → Sem Value) (r : V → Hp → VK → Prop) : Prop :=
  ∀ (pins : List (Addr × Obj)) (s : Shared) (σ : St) (H : Hp) (x : V) (v : Value) (Q : VK), Inv X pins σ H s → RelV x v → r x H Q →
    wpAny (model X.prog X.w) X.A (f v) (EP X pins σ Q) X.xe s
/-- a call of a value that is known (a builtin, a type) with values -/
def CallR (X : Cx) (f : Value) (r : List V → Hp → VK → Prop) : Prop :=
  ∀ (pins : List (Addr × Obj)) (s : Shared) (σ : St) (H : Hp) (xs : List V) (us : List Value) (Q : VK), Inv X pins σ H s → Vals xs us → r xs H Q →
    wpAny (model X.prog X.w) X.A (call f us) (EP X pins σ Q) X.xe s
/-- a value's truth -/
def TruR (X : Cx) (r : V → Hp → (Bool → Hp → Prop) → Prop) : Prop :=
  ∀ (pins : List (Addr × Obj)) (s : Shared) (σ : St) (H : Hp) (x : V) (v : Value) (Q : Bool → Hp → Prop), Inv X pins σ H s → RelV x v → r x H Q →
    wpAny (model X.prog X.w) X.A (truthy v) (TP X pins σ Q) X.xe s

def tOp (r : R2) (ta tb : TE) : TE := fun σ H Q => ta σ H fun x H1 => tb σ H1 fun y H2 => r x y H2 Q
def tUn (r : V → Hp → VK → Prop) (ta : TE) : TE := fun σ H Q => ta σ H fun x H1 => r x H1 Q
/-- ints in, under C, and a value out -/
def rI (C : Int → Int → Prop) (g : Int → Int → V) : R2 := fun x y H Q => ∃ i j, x = .int i ∧ y = .int j ∧ C i j ∧ Q (g i j) H
def rI0 (g : Int → Int → V) : R2 := fun x y H Q => ∃ i j, x = .int i ∧ y = .int j ∧ Q (g i j) H
def rU (g : Int → V) : V → Hp → VK → Prop := fun x H Q => ∃ i, x = .int i ∧ Q (g i) H

section
variable {X : Cx} {a b c : Expr} {ta tb tc : TE} {pos : Pos}

theorem binT (ha : PE X a ta) (hb : PE X b tb) {pins : List (Addr × Obj)} {s : Shared} {σ : St} {H : Hp} {R : V → V → Hp → Prop} (I : Inv X pins σ H s)
    (h : ta σ H fun x H1 => tb σ H1 fun y H2 => R x y H2) {Q : Value → Shared → Prop} {f : Value → Value → Sem Value}
    (hf : ∀ v u s2 x y H2, Inv X pins σ H2 s2 → RelV x v → RelV y u → R x y H2 → wpAny (model X.prog X.w) X.A (f v u) Q X.xe s2) :
    wpAny (model X.prog X.w) X.A (eval a X.env) (fun v s₁ => wpAny (model X.prog X.w) X.A (eval b X.env) (fun u s₂ => wpAny (model X.prog X.w) X.A (f v u) Q X.xe s₂) X.xe s₁) X.xe s := by
  refine thn (ha pins s σ H _ I h) fun v s1 ⟨x, H1, I1, r1, q1⟩ => ?_
  refine thn (hb pins s1 σ H1 _ I1 q1) fun u s2 ⟨y, H2, I2, r2, q2⟩ => ?_
  exact hf v u s2 x y H2 I2 r1 r2 q2

theorem pe_op {op : Operator} {r : R2} (ho : OpR X (binaryOp op) r) (ha : PE X a ta) (hb : PE X b tb) : PE X (.BinOp a op b pos) (tOp r ta tb) := by
  intro pins s σ H Q I h
  exact wpAny_BinOp (binT ha hb I h fun v u s2 x y H2 I2 rx ry q => ho pins s2 σ H2 x y v u Q I2 rx ry q)
theorem pe_un {op : UnaryOp} {r : V → Hp → VK → Prop} (ho : UnR X (unaryOp op) r) (ha : PE X a ta) : PE X (.UnaryOp op a pos) (tUn r ta) := by
  intro pins s σ H Q I h
  exact UnaryOp_ (thn (ha pins s σ H _ I h) fun v s1 ⟨x, H1, I1, r1, q1⟩ => ho pins s1 σ H1 x v Q I1 r1 q1)
/-- a op= e at a name: the name's slot i -/
theorem augR {op : Operator} {r : R2} (ho : OpR X (inplaceOp op) r) {pins : List (Addr × Obj)} {s : Shared} {σ : St} {H : Hp} {x y : V} {v u : Value} {Q : VK} (I : Inv X pins σ H s)
    (rx : RelV x v) (ry : RelV y u) (q : r x y H Q) : wpAny (model X.prog X.w) X.A (inplaceOp op v u) (EP X pins σ Q) X.xe s := ho pins s σ H x y v u Q I rx ry q

/-! ### ints -/
theorem opI {f : Value → Value → Sem Value} {C : Int → Int → Prop} {g : Int → Int → Int}
    (rule : ∀ (i j : Int) (t u : Tok) (s : Shared) (Q : Value → Shared → Prop) (E : Value → Shared → Prop), C i j → Q (.int (g i j) s.toks) { s with toks := s.toks + 1 } → wpAny (model X.prog X.w) X.A (f (.int i t) (.int j u)) Q E s) :
    OpR X f (rI C fun i j => .int (g i j)) := by
  intro pins s σ H x y v u Q I rx ry h
  obtain ⟨i, j, rfl, rfl, hc, q⟩ := h
  obtain ⟨t, rfl⟩ := rx
  obtain ⟨t', rfl⟩ := ry
  exact rule i j t t' s _ _ hc ⟨.int (g i j), H, I.tok _, ⟨_, rfl⟩, q⟩
theorem opI0 {f : Value → Value → Sem Value} {g : Int → Int → Int}
    (rule : ∀ (i j : Int) (t u : Tok) (s : Shared) (Q : Value → Shared → Prop) (E : Value → Shared → Prop), Q (.int (g i j) s.toks) { s with toks := s.toks + 1 } → wpAny (model X.prog X.w) X.A (f (.int i t) (.int j u)) Q E s) :
    OpR X f (rI0 fun i j => .int (g i j)) := by
  intro pins s σ H x y v u Q I rx ry h
  obtain ⟨i, j, rfl, rfl, q⟩ := h
  obtain ⟨t, rfl⟩ := rx
  obtain ⟨t', rfl⟩ := ry
  exact rule i j t t' s _ _ ⟨.int (g i j), H, I.tok _, ⟨_, rfl⟩, q⟩
theorem opB0 {f : Value → Value → Sem Value} {g : Int → Int → Bool}
    (rule : ∀ (i j : Int) (t u : Tok) (s : Shared) (Q : Value → Shared → Prop) (E : Value → Shared → Prop), Q (.bool (g i j)) s → wpAny (model X.prog X.w) X.A (f (.int i t) (.int j u)) Q E s) :
    OpR X f (rI0 fun i j => .bl (g i j)) := by
  intro pins s σ H x y v u Q I rx ry h
  obtain ⟨i, j, rfl, rfl, q⟩ := h
  obtain ⟨t, rfl⟩ := rx
  obtain ⟨t', rfl⟩ := ry
  exact rule i j t t' s _ _ ⟨.bl (g i j), H, I, rfl, q⟩

def CDiv (i j : Int) : Prop := 0 < j ∧ j < 1073741824
def CDivN (i j : Int) : Prop := j ≠ 0 ∧ j.natAbs < 1073741824
def CPow (i j : Int) : Prop := 0 ≤ j ∧ j ≤ 1000000 ∧ i.natAbs < 2 ^ 64
def CMul (i j : Int) : Prop := (-(2 ^ 64) < i ∧ i < 2 ^ 64) ∨ (-(2 ^ 64) < j ∧ j < 2 ^ 64)
theorem CMul.ok {i j : Int} (h : CMul i j) : IntMulOk i j := by
  rcases h with ⟨h1, h2⟩ | ⟨h1, h2⟩
  · exact .of_left (intBits_le_64 h1 h2)
  · exact .of_right (intBits_le_64 h1 h2)
theorem two_pow_nn (k : Nat) : (0 : Int) ≤ 2 ^ k := by
  rw [two_pow_cast]
  exact Int.natCast_nonneg _

theorem op_add : OpR X (binaryOp .Add) (rI0 fun i j => .int (i + j)) := opI0 fun _ _ _ _ _ _ _ q => add_int q
theorem op_sub : OpR X (binaryOp .Sub) (rI0 fun i j => .int (i - j)) := opI0 fun _ _ _ _ _ _ _ q => sub_int q
theorem op_mul : OpR X (binaryOp .Mult) (rI CMul fun i j => .int (i * j)) := opI fun _ _ _ _ _ _ _ hc q => mul_int q hc.ok
/-- // by a positive divisor -/
theorem op_fdiv : OpR X (binaryOp .FloorDiv) (rI CDiv fun i j => .int (i / j)) := opI fun i j _ _ _ _ _ hc q => by
  have h1 : (0 : Int) < j := hc.1
  have h2 : j < 1073741824 := hc.2
  exact floordiv_int (by omega) (by rw [Int.fdiv_eq_ediv_of_nonneg i (by omega)]; exact q) (.inl (PyProof.noPylong_small (by omega)))
theorem op_fdivN : OpR X (binaryOp .FloorDiv) (rI CDivN fun i j => .int (i.fdiv j)) := opI fun _ _ _ _ _ _ _ hc q => floordiv_int hc.1 q (.inl (PyProof.noPylong_small hc.2))
/-- % by a positive divisor of any size -/
theorem op_mod : OpR X (binaryOp .Mod) (rI (fun _ j => 0 < j) fun i j => .int (i % j)) := opI fun i j _ _ _ _ _ hc q => by
  have h1 : (0 : Int) < j := hc
  exact mod_int' (by omega) (by rw [Int.fmod_eq_emod_of_nonneg i (by omega)]; exact q)
theorem op_modN : OpR X (binaryOp .Mod) (rI (fun _ j => j ≠ 0) fun i j => .int (i.fmod j)) := opI fun _ _ _ _ _ _ _ hc q => mod_int' hc q
theorem op_pow : OpR X (binaryOp .Pow) (rI CPow fun i j => .int (i ^ j.toNat)) := opI fun _ _ _ _ _ _ _ hc q => pow_int_small hc.1 hc.2.1 hc.2.2 q
theorem op_shl : OpR X (binaryOp .LShift) (rI CPow fun i j => .int (i * 2 ^ j.toNat)) := opI fun _ _ _ _ _ _ _ hc q => lshift_int_small hc.1 hc.2.1 hc.2.2 q
theorem op_shr : OpR X (binaryOp .RShift) (rI (fun _ j => 0 ≤ j) fun i j => .int (i / 2 ^ j.toNat)) := opI fun i j _ _ _ _ _ hc q =>
  rshift_int hc (by rw [Int.fdiv_eq_ediv_of_nonneg i (two_pow_nn _)]; exact q)
theorem op_and : OpR X (binaryOp .BitAnd) (rI0 fun i j => .int (Builtin.bitAnd i j)) := opI0 fun _ _ _ _ _ _ _ q => and_int q
theorem op_or : OpR X (binaryOp .BitOr) (rI0 fun i j => .int (Builtin.bitOr i j)) := opI0 fun _ _ _ _ _ _ _ q => or_int q
theorem op_xor : OpR X (binaryOp .BitXor) (rI0 fun i j => .int (Builtin.bitXor i j)) := opI0 fun _ _ _ _ _ _ _ q => xor_int q

theorem iop_add : OpR X (inplaceOp .Add) (rI0 fun i j => .int (i + j)) := opI0 fun _ _ _ _ _ _ _ q => iadd_int q
theorem iop_sub : OpR X (inplaceOp .Sub) (rI0 fun i j => .int (i - j)) := opI0 fun _ _ _ _ _ _ _ q => isub_int q
theorem iop_mul : OpR X (inplaceOp .Mult) (rI CMul fun i j => .int (i * j)) := opI fun _ _ _ _ _ _ _ hc q => imul_int q hc.ok
theorem iop_fdiv : OpR X (inplaceOp .FloorDiv) (rI CDiv fun i j => .int (i / j)) := opI fun i j _ _ _ _ _ hc q => by
  have h1 : (0 : Int) < j := hc.1
  have h2 : j < 1073741824 := hc.2
  exact ifloordiv_int (by omega) (by rw [Int.fdiv_eq_ediv_of_nonneg i (by omega)]; exact q) (.inl (PyProof.noPylong_small (by omega)))
theorem iop_mod : OpR X (inplaceOp .Mod) (rI (fun _ j => 0 < j) fun i j => .int (i % j)) := opI fun i j _ _ _ _ _ hc q => by
  have h1 : (0 : Int) < j := hc
  exact imod_int (by omega) (by rw [Int.fmod_eq_emod_of_nonneg i (by omega)]; exact q)
theorem iop_shl : OpR X (inplaceOp .LShift) (rI CPow fun i j => .int (i * 2 ^ j.toNat)) := opI fun _ _ _ _ _ _ _ hc q => ilshift_int_small hc.1 hc.2.1 hc.2.2 q
theorem iop_shr : OpR X (inplaceOp .RShift) (rI (fun _ j => 0 ≤ j) fun i j => .int (i / 2 ^ j.toNat)) := opI fun i j _ _ _ _ _ hc q =>
  irshift_int hc (by rw [Int.fdiv_eq_ediv_of_nonneg i (two_pow_nn _)]; exact q)
theorem iop_and : OpR X (inplaceOp .BitAnd) (rI0 fun i j => .int (Builtin.bitAnd i j)) := opI0 fun _ _ _ _ _ _ _ q => iand_int q
theorem iop_or : OpR X (inplaceOp .BitOr) (rI0 fun i j => .int (Builtin.bitOr i j)) := opI0 fun _ _ _ _ _ _ _ q => ior_int q
theorem iop_xor : OpR X (inplaceOp .BitXor) (rI0 fun i j => .int (Builtin.bitXor i j)) := opI0 fun _ _ _ _ _ _ _ q => ixor_int q

theorem unI {f : Value → Sem Value} {g : Int → Int}
    (rule : ∀ (i : Int) (t : Tok) (s : Shared) (Q : Value → Shared → Prop) (E : Value → Shared → Prop), Q (.int (g i) s.toks) { s with toks := s.toks + 1 } → wpAny (model X.prog X.w) X.A (f (.int i t)) Q E s) :
    UnR X f (rU fun i => .int (g i)) := by
  intro pins s σ H x v Q I rx h
  obtain ⟨i, rfl, q⟩ := h
  obtain ⟨t, rfl⟩ := rx
  exact rule i t s _ _ ⟨.int (g i), H, I.tok _, ⟨_, rfl⟩, q⟩
theorem un_neg : UnR X (unaryOp .USub) (rU fun i => .int (-i)) := unI fun _ _ _ _ _ q => neg_int q
theorem un_inv : UnR X (unaryOp .Invert) (rU fun i => .int (Builtin.bitNot i)) := unI fun _ _ _ _ _ q => invert_int q

/-! ### bools among ints: n += (a < b) -/
theorem op_add_ib : OpR X (binaryOp .Add) (fun x y H Q => ∃ i k, x = .int i ∧ y = .bl k ∧ Q (.int (i + b2i k)) H) := by
  intro pins s σ H x y v u Q I rx ry h
  obtain ⟨i, k, rfl, rfl, q⟩ := h
  obtain ⟨t, rfl⟩ := rx
  cases ry
  exact add_int_bool ⟨.int (i + b2i k), H, I.tok _, ⟨_, rfl⟩, q⟩
end

/-! ### comparisons -/
/-- the scalars that == tells apart as data does -/
def scal : V → V → Bool
  | .non, .non => true | .non, .int _ => true | .int _, .non => true | .non, .bl _ => true | .bl _, .non => true | .non, .str _ => true | .str _, .non => true
  | .int _, .int _ => true | .bl _, .bl _ => true | .str _, .str _ => true | .byt _, .byt _ => true
  | .int _, .str _ => true | .str _, .int _ => true | .bl _, .str _ => true | .str _, .bl _ => true
  | _, _ => false
def rEq : R2 := fun x y H Q => scal x y = true ∧ Q (.bl (decide (x = y))) H
def rNe : R2 := fun x y H Q => scal x y = true ∧ Q (.bl (!decide (x = y))) H

theorem dec_int {i j : Int} : decide (V.int i = V.int j) = (i == j) := by
  rw [Bool.eq_iff_iff]
  simp
theorem dec_bl {i j : Bool} : decide (V.bl i = V.bl j) = (i == j) := by
  rw [Bool.eq_iff_iff]
  simp
theorem dec_str {i j : Str} : decide (V.str i = V.str j) = (i == j) := by
  rw [Bool.eq_iff_iff]
  simp
theorem dec_byt {i j : Array UInt8} : decide (V.byt i = V.byt j) = (i.toList == j.toList) := by
  rw [Bool.eq_iff_iff]
  cases i
  cases j
  simp

section
variable {X : Cx} {a b c : Expr} {ta tb tc : TE} {pos : Pos}
theorem fin_bl {pins : List (Addr × Obj)} {σ : St} {H : Hp} {s : Shared} {Q : VK} {k k' : Bool} (I : Inv X pins σ H s) (q : Q (.bl k) H) (e : k = k') : EP X pins σ Q (.bool k') s := by
  subst e
  exact ⟨.bl k, H, I, rfl, q⟩
theorem op_eq : OpR X (compareOp .Eq) rEq := by
  intro pins s σ H x y v u Q I rx ry h
  obtain ⟨hs, q⟩ := h
  cases x with
  | non =>
    cases rx
    cases y with
    | non => cases ry; exact PySem.EqNone.eq_none_none (fin_bl I q (by simp))
    | bl j => cases ry; exact PySem.EqNone.eq_none_bool (fin_bl I q (by simp))
    | int j => obtain ⟨t', rfl⟩ := ry; exact PySem.EqNone.eq_none_int (fin_bl I q (by simp))
    | str j => obtain ⟨t', rfl⟩ := ry; exact PySem.EqNone.eq_none_str (fin_bl I q (by simp))
    | _ => exact absurd (show false = true from hs) Bool.false_ne_true
  | bl i =>
    cases rx
    cases y with
    | non => cases ry; exact PySem.EqNone.eq_bool_none (fin_bl I q (by simp))
    | bl j => cases ry; exact eq_bool (fin_bl I q dec_bl)
    | str j => obtain ⟨t', rfl⟩ := ry; exact PySem.EqMixed.eq_bool_str (fin_bl I q (by simp))
    | _ => exact absurd (show false = true from hs) Bool.false_ne_true
  | int i =>
    obtain ⟨t, rfl⟩ := rx
    cases y with
    | non => cases ry; exact PySem.EqNone.eq_int_none (fin_bl I q (by simp))
    | int j => obtain ⟨t', rfl⟩ := ry; exact eq_int (fin_bl I q dec_int)
    | str j => obtain ⟨t', rfl⟩ := ry; exact PySem.EqMixed.eq_int_str (fin_bl I q (by simp))
    | _ => exact absurd (show false = true from hs) Bool.false_ne_true
  | str i =>
    obtain ⟨t, rfl⟩ := rx
    cases y with
    | non => cases ry; exact PySem.EqNone.eq_str_none (fin_bl I q (by simp))
    | bl j => cases ry; exact PySem.EqMixed.eq_str_bool (fin_bl I q (by simp))
    | int j => obtain ⟨t', rfl⟩ := ry; exact PySem.EqMixed.eq_str_int (fin_bl I q (by simp))
    | str j => obtain ⟨t', rfl⟩ := ry; exact eq_str (fin_bl I q dec_str)
    | _ => exact absurd (show false = true from hs) Bool.false_ne_true
  | byt i =>
    obtain ⟨t, rfl⟩ := rx
    cases y with
    | byt j => obtain ⟨t', rfl⟩ := ry; exact PySem.W.eq_bytes (fin_bl I q dec_byt)
    | _ => exact absurd (show false = true from hs) Bool.false_ne_true
  | _ => cases y <;> exact absurd (show false = true from hs) Bool.false_ne_true
theorem op_ne : OpR X (compareOp .NotEq) rNe := by
  intro pins s σ H x y v u Q I rx ry h
  obtain ⟨hs, q⟩ := h
  cases x with
  | non =>
    cases rx
    cases y with
    | non => cases ry; exact PySem.EqNone.ne_none_none (fin_bl I q (by simp))
    | bl j => cases ry; exact PySem.EqNone.ne_none_bool (fin_bl I q (by simp))
    | int j => obtain ⟨t', rfl⟩ := ry; exact PySem.EqNone.ne_none_int (fin_bl I q (by simp))
    | str j => obtain ⟨t', rfl⟩ := ry; exact PySem.EqNone.ne_none_str (fin_bl I q (by simp))
    | _ => exact absurd (show false = true from hs) Bool.false_ne_true
  | bl i =>
    cases rx
    cases y with
    | non => cases ry; exact PySem.EqNone.ne_bool_none (fin_bl I q (by simp))
    | bl j => cases ry; exact ne_bool (fin_bl I q (congrArg not dec_bl))
    | str j => obtain ⟨t', rfl⟩ := ry; exact PySem.EqMixed.ne_bool_str (fin_bl I q (by simp))
    | _ => exact absurd (show false = true from hs) Bool.false_ne_true
  | int i =>
    obtain ⟨t, rfl⟩ := rx
    cases y with
    | non => cases ry; exact PySem.EqNone.ne_int_none (fin_bl I q (by simp))
    | int j => obtain ⟨t', rfl⟩ := ry; exact ne_int (fin_bl I q (congrArg not dec_int))
    | str j => obtain ⟨t', rfl⟩ := ry; exact PySem.EqMixed.ne_int_str (fin_bl I q (by simp))
    | _ => exact absurd (show false = true from hs) Bool.false_ne_true
  | str i =>
    obtain ⟨t, rfl⟩ := rx
    cases y with
    | non => cases ry; exact PySem.EqNone.ne_str_none (fin_bl I q (by simp))
    | bl j => cases ry; exact PySem.EqMixed.ne_str_bool (fin_bl I q (by simp))
    | int j => obtain ⟨t', rfl⟩ := ry; exact PySem.EqMixed.ne_str_int (fin_bl I q (by simp))
    | str j => obtain ⟨t', rfl⟩ := ry; exact ne_str (fin_bl I q (congrArg not dec_str))
    | _ => exact absurd (show false = true from hs) Bool.false_ne_true
  | byt i =>
    obtain ⟨t, rfl⟩ := rx
    cases y with
    | byt j => obtain ⟨t', rfl⟩ := ry; exact PySem.W.ne_bytes (fin_bl I q (congrArg not dec_byt))
    | _ => exact absurd (show false = true from hs) Bool.false_ne_true
  | _ => cases y <;> exact absurd (show false = true from hs) Bool.false_ne_true

theorem op_lt : OpR X (compareOp .Lt) (rI0 fun i j => .bl (decide (i < j))) := opB0 fun _ _ _ _ _ _ _ q => lt_int q
theorem op_le : OpR X (compareOp .LtE) (rI0 fun i j => .bl (decide (i ≤ j))) := opB0 fun _ _ _ _ _ _ _ q => le_int q
theorem op_gt : OpR X (compareOp .Gt) (rI0 fun i j => .bl (decide (j < i))) := opB0 fun _ _ _ _ _ _ _ q => gt_int q
theorem op_ge : OpR X (compareOp .GtE) (rI0 fun i j => .bl (decide (j ≤ i))) := opB0 fun _ _ _ _ _ _ _ q => ge_int q
theorem op_lt_str : OpR X (compareOp .Lt) (fun x y H Q => ∃ i j, x = .str i ∧ y = .str j ∧ Q (.bl (decide (i.cps.toList < j.cps.toList))) H) := by
  intro pins s σ H x y v u Q I rx ry h
  obtain ⟨i, j, rfl, rfl, q⟩ := h
  obtain ⟨t, rfl⟩ := rx
  obtain ⟨t', rfl⟩ := ry
  exact lt_str (fin_bl I q rfl)
/-- the one string within the other -/
theorem op_in_str : OpR X (compareOp .In) (fun x y H Q => ∃ i j, x = .str i ∧ y = .str j ∧ Q (.bl (!(Builtin.Str.occurrences j i 0 j.length 1).isEmpty)) H) := by
  intro pins s σ H x y v u Q I rx ry h
  obtain ⟨i, j, rfl, rfl, q⟩ := h
  obtain ⟨t, rfl⟩ := rx
  obtain ⟨t', rfl⟩ := ry
  exact in_str (fin_bl I q rfl)

/-- is None, is not None: the right side a value none -/
theorem op_isN : OpR X (compareOp .Is) (fun x y H Q => y = .non ∧ Q (.bl (decide (x = .non))) H) := by
  intro pins s σ H x y v u Q I rx ry h
  obtain ⟨rfl, q⟩ := h
  cases ry
  refine is_none_gen (fin_bl I q ?_)
  cases x <;> first
    | (cases rx; rfl)
    | (obtain ⟨t, rfl⟩ := rx; rfl)
theorem op_notN : OpR X (compareOp .IsNot) (fun x y H Q => y = .non ∧ Q (.bl (!decide (x = .non))) H) := by
  intro pins s σ H x y v u Q I rx ry h
  obtain ⟨rfl, q⟩ := h
  cases ry
  refine isnot_none_gen (fin_bl I q ?_)
  cases x <;> first
    | (cases rx; rfl)
    | (obtain ⟨t, rfl⟩ := rx; rfl)

theorem op_notin_str : OpR X (compareOp .NotIn) (fun x y H Q => ∃ i j, x = .str i ∧ y = .str j ∧ Q (.bl (!(!(Builtin.Str.occurrences j i 0 j.length 1).isEmpty))) H) := by
  intro pins s σ H x y v u Q I rx ry h
  obtain ⟨i, j, rfl, rfl, q⟩ := h
  obtain ⟨t, rfl⟩ := rx
  obtain ⟨t', rfl⟩ := ry
  exact notIn_str (fin_bl I q rfl)
/-- is, is not of two objects that are tracked lists or instances -/
def isObj : HO → Bool
  | .lst _ => true
  | .ins _ _ _ => true
  | _ => false
theorem obj_there {pins : List (Addr × Obj)} {s : Shared} {σ : St} {H : Hp} {a : Addr} {o : HO} (I : Inv X pins σ H s) (h : H a = some o) (p : isObj o = true) : ∃ ob, s.heap.get? a = some ob ∧ ob.cls ≠ .type "tuple" := by
  cases o with
  | lst xs =>
    obtain ⟨_, its, n, _, e⟩ : xs.length ≤ sizeLine ∧ ∃ (its : List Value) (n : Nat), Vals xs its ∧ s.heap.get? a = some { cls := .type "list", data := .seq its.toArray n } := I.hok a _ h
    exact ⟨_, e, (by show Value.type "list" ≠ .type "tuple"; decide +kernel)⟩
  | ins C dx fs =>
    have x := I.hok a _ h
    obtain ⟨_, _, _, e, _⟩ := x
    exact ⟨_, e, (by show Value.ref C ≠ .type "tuple"; exact fun z => by cases z)⟩
  | _ => exact absurd (show false = true from p) Bool.false_ne_true
theorem op_is_ref : OpR X (compareOp .Is) (fun x y H Q => ∃ a b oa ob, x = .ref a ∧ y = .ref b ∧ H a = some oa ∧ isObj oa = true ∧ H b = some ob ∧ isObj ob = true ∧ Q (.bl (decide (a = b))) H) := by
  intro pins s σ H x y v u Q I rx ry h
  obtain ⟨a, b, oa, ob, rfl, rfl, ha, pa, hb, pb, q⟩ := h
  cases rx
  cases ry
  obtain ⟨o1, e1, n1⟩ := obj_there I ha pa
  obtain ⟨o2, e2, _⟩ := obj_there I hb pb
  by_cases z : a = b
  · subst z
    exact wpAny_is_ref_self (fin_bl I q (by simp))
  · exact wpAny_is_ref_other z e1 e2 n1 (fin_bl I q (by simp [z]))
theorem op_isnot_ref : OpR X (compareOp .IsNot) (fun x y H Q => ∃ a b oa ob, x = .ref a ∧ y = .ref b ∧ H a = some oa ∧ isObj oa = true ∧ H b = some ob ∧ isObj ob = true ∧ Q (.bl (!decide (a = b))) H) := by
  intro pins s σ H x y v u Q I rx ry h
  obtain ⟨a, b, oa, ob, rfl, rfl, ha, pa, hb, pb, q⟩ := h
  cases rx
  cases ry
  obtain ⟨o1, e1, n1⟩ := obj_there I ha pa
  obtain ⟨o2, e2, _⟩ := obj_there I hb pb
  by_cases z : a = b
  · subst z
    exact wpAny_isNot_ref_self (fin_bl I q (by simp))
  · exact wpAny_isNot_ref_other z e1 e2 n1 (fin_bl I q (by simp [z]))

/-- two rules for one operation: by cases -/
theorem OpR.or {f : Value → Value → Sem Value} {r r' : R2} (h : OpR X f r) (h' : OpR X f r') : OpR X f (fun x y H Q => r x y H Q ∨ r' x y H Q) := by
  intro pins s σ H x y v u Q I rx ry q
  rcases q with q | q
  · exact h pins s σ H x y v u Q I rx ry q
  · exact h' pins s σ H x y v u Q I rx ry q

theorem nomark (b : Expr) {op : CmpOp} (h : op ≠ .In := by decide) (h2 : op ≠ .NotIn := by decide) : behindInMarks op b = false := by
  have e1 : (op == CmpOp.In) = false := by cases op <;> first | rfl | exact absurd rfl h
  have e2 : (op == CmpOp.NotIn) = false := by cases op <;> first | rfl | exact absurd rfl h2
  cases b <;> simp [behindInMarks, e1, e2]
/-- a comparison as a value; hm: nomark b, or (for in, not in) by with_unfolding_all rfl -/
theorem pe_cmpR {op : CmpOp} {r : R2} (ho : OpR X (compareOp op) r) (ha : PE X a ta) (hb : PE X b tb) (hm : behindInMarks op b = false) : PE X (.Compare a [op] [b] pos) (tOp r ta tb) := by
  intro pins s σ H Q I h
  exact wpAny_Compare1 (binT ha hb I h fun v u s2 x y H2 I2 rx ry q => ho pins s2 σ H2 x y v u Q I2 rx ry q) hm
/-- a reading of a value as a test -/
def tTest (t : TE) : TT := fun σ H Q => t σ H fun x H' => ∃ k, x = .bl k ∧ Q k H'
theorem pt_cmpR {op : CmpOp} {r : R2} (ho : OpR X (compareOp op) r) (ha : PE X a ta) (hb : PE X b tb) (hm : behindInMarks op b = false) : PT X (.Compare a [op] [b] pos) (tTest (tOp r ta tb)) := by
  intro pins s σ H Q I h
  refine wpAny_isTrue_Compare1 (thn (ha pins s σ H _ I h) fun v s1 ⟨x, H1, I1, r1, q1⟩ => thn (hb pins s1 σ H1 _ I1 q1) fun u s2 ⟨y, H2, I2, r2, q2⟩ =>
    thn (ho pins s2 σ H2 x y v u _ I2 r1 r2 q2) fun c s3 ⟨z, H3, I3, r3, k, e, q3⟩ => ?_) hm
  subst e
  cases r3
  exact wpAny_truthy_bool ⟨H3, I3, q3⟩
/-- a op1 b op2 c -/
def tChain (r r' : R2) (ta tb tc : TE) : TE := fun σ H Q => ta σ H fun x H1 => tb σ H1 fun y H2 => r x y H2 fun z H3 => ∃ k, z = .bl k ∧
  (if k = true then tc σ H3 fun w' H4 => r' y w' H4 Q else Q (.bl false) H3)
theorem pe_chain {op op' : CmpOp} {r r' : R2} (ho : OpR X (compareOp op) r) (ho' : OpR X (compareOp op') r') (ha : PE X a ta) (hb : PE X b tb) (hc : PE X c tc)
    (hm : lastMarks [op, op'] [b, c] = false := by with_unfolding_all rfl) : PE X (.Compare a [op, op'] [b, c] pos) (tChain r r' ta tb tc) := by
  intro pins s σ H Q I h
  refine Compare_chain (thn (ha pins s σ H _ I h) fun v s1 ⟨x, H1, I1, r1, q1⟩ => chain_link (thn (hb pins s1 σ H1 _ I1 q1) fun u s2 ⟨y, H2, I2, r2, q2⟩ =>
    thn (ho pins s2 σ H2 x y v u _ I2 r1 r2 q2) fun d s3 ⟨z, H3, I3, r3, k, e, q3⟩ => ?_)) hm
  subst e
  cases r3
  refine wpAny_truthy_bool ?_
  cases k with
  | false => exact ite_ff ⟨.bl false, H3, I3, rfl, q3⟩
  | true => exact ite_tt (chain_last (thn (hc pins s3 σ H3 _ I3 q3) fun w' s4 ⟨z', H4, I4, r4, q4⟩ => ho' pins s4 σ H4 y z' u w' Q I4 r2 r4 q4))
theorem pt_chain {op op' : CmpOp} {r r' : R2} (ho : OpR X (compareOp op) r) (ho' : OpR X (compareOp op') r') (ha : PE X a ta) (hb : PE X b tb) (hc : PE X c tc)
    (hm : lastMarks [op, op'] [b, c] = false := by with_unfolding_all rfl) : PT X (.Compare a [op, op'] [b, c] pos) (tTest (tChain r r' ta tb tc)) := by
  intro pins s σ H Q I h
  refine isTrue_chain (thn (ha pins s σ H _ I h) fun v s1 ⟨x, H1, I1, r1, q1⟩ => test_link (thn (hb pins s1 σ H1 _ I1 q1) fun u s2 ⟨y, H2, I2, r2, q2⟩ =>
    thn (ho pins s2 σ H2 x y v u _ I2 r1 r2 q2) fun d s3 ⟨z, H3, I3, r3, k, e, q3⟩ => ?_)) hm
  subst e
  cases r3
  refine wpAny_truthy_bool ?_
  cases k with
  | false =>
    obtain ⟨k', e', q'⟩ := q3
    cases e'
    exact ite_ff ⟨H3, I3, q'⟩
  | true =>
    refine ite_tt (test_last (thn (hc pins s3 σ H3 _ I3 q3) fun w' s4 ⟨z', H4, I4, r4, q4⟩ => thn (ho' pins s4 σ H4 y z' u w' _ I4 r2 r4 q4) fun d' s5 ⟨z2, H5, I5, r5, k2, e2, q5⟩ => ?_))
    subst e2
    cases r5
    exact wpAny_truthy_bool ⟨H5, I5, q5⟩

/-! ### truth -/
/-- a value's truth by the abstract heap -/
def TruV (K : PySem.W.Frag) (x : V) (H : Hp) (k : Bool) : Prop :=
  match x with
  | .non => k = false
  | .bl b => k = b
  | .int i => k = (i != 0)
  | .str y => y.length ≤ sizeLine ∧ k = ((y.length : Int) != 0)
  | .byt y => y.size ≤ sizeLine ∧ k = ((y.size : Int) != 0)
  | .ref p => (∃ xs, SqL K H p xs ∧ k = !xs.isEmpty) ∨ (∃ xs, SqT K H p xs ∧ k = !xs.isEmpty) ∨ ∃ kvs, H p = some (.dK kvs) ∧ k = !kvs.isEmpty
  | _ => False
theorem isEmpty_kv {κ : Type} {kvs : List (κ × V)} {vs : List (κ × Value)} (r : KV kvs vs) : (!vs.isEmpty) = !kvs.isEmpty := by
  cases r <;> rfl
theorem isEmpty_of {xs : List V} {its : List Value} (r : Vals xs its) : (!its.toArray.isEmpty) = !xs.isEmpty := by
  cases r <;> simp
theorem line63 : (sizeLine : Nat) < 2 ^ 63 := by rw [sizeLine_eq]; decide
theorem tru_ok : TruR X (fun x H Q => ∃ k, TruV X.K x H k ∧ Q k H) := by
  intro pins s σ H x v Q I rx h
  obtain ⟨k, e, q⟩ := h
  have hl := line63
  have hs : sizeLine = 16777216 := sizeLine_eq
  cases x with
  | non =>
    cases rx
    have e' : k = false := e
    subst e'
    exact truthy_none ⟨H, I, q⟩
  | bl b =>
    cases rx
    have e' : k = b := e
    subst e'
    exact wpAny_truthy_bool ⟨H, I, q⟩
  | int i =>
    obtain ⟨t, rfl⟩ := rx
    have e' : k = (i != 0) := e
    subst e'
    exact PySem.P.truthy_int ⟨H, I, q⟩
  | str y =>
    obtain ⟨t, rfl⟩ := rx
    obtain ⟨hy, e'⟩ : y.length ≤ sizeLine ∧ k = ((y.length : Int) != 0) := e
    subst e'
    exact PySem.P.truthy_str (by omega) ⟨H, I.tok _, q⟩
  | byt y =>
    obtain ⟨t, rfl⟩ := rx
    obtain ⟨hy, e'⟩ : y.size ≤ sizeLine ∧ k = ((y.size : Int) != 0) := e
    subst e'
    exact PySem.W.truthy_bytes (by omega) ⟨H, I.tok _, q⟩
  | ref p =>
    cases rx
    have e' : (∃ xs, SqL X.K H p xs ∧ k = !xs.isEmpty) ∨ (∃ xs, SqT X.K H p xs ∧ k = !xs.isEmpty) ∨ ∃ kvs, H p = some (.dK kvs) ∧ k = !kvs.isEmpty := e
    rcases e' with ⟨xs, hx, e'⟩ | ⟨xs, hx, e'⟩ | ⟨kvs, hx, e'⟩
    · subst e'
      obtain ⟨its, r, pl, hz⟩ := I.list hx
      have hlen := r.length
      exact wpAny_truthy_list pl.isList (by simp only [List.size_toArray]; omega) ⟨H, I.tok _, by rw [isEmpty_of r]; exact q⟩
    · subst e'
      obtain ⟨its, r, pl, hz⟩ := I.tuple hx
      have hlen := r.length
      exact truthy_tuple pl (by simp only [List.size_toArray]; omega) ⟨H, I.tok _, by rw [isEmpty_of r]; exact q⟩
    · subst e'
      obtain ⟨hz, hS, vs, r, m⟩ : kvs.length ≤ sizeLine ∧ (p == sysModules) = false ∧ ∃ vs, KV kvs vs ∧ s.heap.DictOf (mixKind X.prog X.w) p vs := I.hok p _ hx
      have hlen : kvs.length = vs.length := Paired.length r
      exact wpAny_truthy_dict hS m (by omega) ⟨H, I.tok _, by rw [isEmpty_kv r]; exact q⟩
  | _ => exact (show False from e).elim
/-- any expression whose test is its value's truth (a name, a call, a subscript, a field ..: he by fun _ => rfl) -/
theorem pt_truth (ha : PE X a ta) (he : ∀ whole, isTrue a X.env whole = (do let v ← whole; standAt a.pos; holding [v] (truthy v))) :
    PT X a (fun σ H Q => ta σ H fun x H' => ∃ k, TruV X.K x H' k ∧ Q k H') := by
  intro pins s σ H Q I h
  exact isTrue_plain (thn (ha pins s σ H _ I h) fun v s1 ⟨x, H1, I1, r1, q1⟩ => tru_ok pins s1 σ H1 x v Q I1 r1 q1) (he _)

/-! ### strs and bytes -/
theorem pe_byt {x : List UInt8} {k : Nat} : PE X (.Constant (.bytes x) k pos) (fun _ H Q => Q (.byt x.toArray) H) := fun _ _ _ H _ I h => PySem.W.Constant_bytes ⟨.byt x.toArray, H, I.tok _, ⟨_, rfl⟩, h⟩
theorem op_add_str : OpR X (binaryOp .Add) (fun x y H Q => ∃ i j, x = .str i ∧ y = .str j ∧ i.length + j.length ≤ sizeLine ∧ Q (.str (i ++ j)) H) := by
  intro pins s σ H x y v u Q I rx ry h
  obtain ⟨i, j, rfl, rfl, hz, q⟩ := h
  obtain ⟨t, rfl⟩ := rx
  obtain ⟨t', rfl⟩ := ry
  exact add_str (fun t' tk => ⟨.str (i ++ j), H, I.tok _, ⟨_, rfl⟩, q⟩) hz
theorem iop_add_str : OpR X (inplaceOp .Add) (fun x y H Q => ∃ i j, x = .str i ∧ y = .str j ∧ i.length + j.length ≤ sizeLine ∧ Q (.str (i ++ j)) H) := by
  intro pins s σ H x y v u Q I rx ry h
  obtain ⟨i, j, rfl, rfl, hz, q⟩ := h
  obtain ⟨t, rfl⟩ := rx
  obtain ⟨t', rfl⟩ := ry
  exact iadd_str (fun t' tk => ⟨.str (i ++ j), H, I.tok _, ⟨_, rfl⟩, q⟩) hz
theorem op_add_byt : OpR X (binaryOp .Add) (fun x y H Q => ∃ i j, x = .byt i ∧ y = .byt j ∧ i.size + j.size ≤ 16777216 ∧ Q (.byt (i ++ j)) H) := by
  intro pins s σ H x y v u Q I rx ry h
  obtain ⟨i, j, rfl, rfl, hz, q⟩ := h
  obtain ⟨t, rfl⟩ := rx
  obtain ⟨t', rfl⟩ := ry
  exact PySem.W.KBy.add_bytes hz (fun t' tk => ⟨.byt (i ++ j), H, I.tok _, ⟨_, rfl⟩, q⟩)

def PlainIxT (b : Expr) : Prop := ∀ o i, subscripted b false o i = operate [o, i] (getItem o i)
/-- s[i], 0 ≤ i < len -/
theorem pe_item_str (ha : PE X a ta) (hb : PE X b tb) (hs : PlainIxT b) :
    PE X (.Subscript a b pos) (tOp (fun x y H Q => ∃ z i c, x = .str z ∧ y = .int i ∧ 0 ≤ i ∧ i < 2 ^ 63 ∧ i < z.length ∧ z.cps[i.toNat]? = some c ∧ Q (.str ⟨#[c]⟩) H) ta tb) := by
  intro pins s σ H Q I h
  refine Subscript_ (binT ha hb I h fun v u s2 x y H2 I2 rx ry q => ?_)
  obtain ⟨z, i, c, rfl, rfl, h0, h63, h1, hc, q⟩ := q
  obtain ⟨t, rfl⟩ := rx
  obtain ⟨t', rfl⟩ := ry
  have e : seqIndex? i z.length = some i.toNat := PySem.StrLaws.seqIndex_nonneg h0 h1
  exact tail_any (typeIs_str s2 z t) slot_str_getitem.lookup (getItem_str (c := c) (by
    have e1 : decide (i < -(2 ^ 63 : Int)) = false := decide_eq_false (by omega)
    have e2 : decide (i ≥ 2 ^ 63) = false := decide_eq_false (by omega)
    rw [e1, e2] <;> rfl) (by rw [e]; exact hc) ⟨.str ⟨#[c]⟩, H2, I2.tok _, ⟨_, rfl⟩, q⟩) (hs _ _)
/-- b[i], 0 ≤ i < len -/
theorem pe_item_byt (ha : PE X a ta) (hb : PE X b tb) (hs : PlainIxT b) :
    PE X (.Subscript a b pos) (tOp (fun x y H Q => ∃ (z : List UInt8) (i : Int), x = .byt z.toArray ∧ y = .int i ∧ z.length ≤ sizeLine ∧ 0 ≤ i ∧ i < z.length ∧ Q (.int ((z.getD i.toNat 0).toNat : Nat)) H) ta tb) := by
  intro pins s σ H Q I h
  refine Subscript_ (binT ha hb I h fun v u s2 x y H2 I2 rx ry q => ?_)
  obtain ⟨z, i, rfl, rfl, hz, h0, h1, q⟩ := q
  obtain ⟨t, rfl⟩ := rx
  obtain ⟨t', rfl⟩ := ry
  have hl : sizeLine = 16777216 := sizeLine_eq
  exact tail_any (PySem.W.typeIs_bytes s2 z.toArray t) PySem.W.FB.slot_bytes_getitem.lookup (PySem.W.getItem_bytes (by omega) h0 h1 ⟨.int ((z.getD i.toNat 0).toNat : Nat), H2, I2.tok _, ⟨_, rfl⟩, q⟩) (hs _ _)

/-! ### scalar builtins, by CallR -/
theorem vals1 {x : V} {us : List Value} (r : Vals [x] us) : ∃ u, us = [u] ∧ RelV x u := by
  cases r with
  | cons r1 r2 => cases r2; exact ⟨_, rfl, r1⟩
theorem vals2 {x y : V} {us : List Value} (r : Vals [x, y] us) : ∃ u w', us = [u, w'] ∧ RelV x u ∧ RelV y w' := by
  cases r with
  | cons r1 r2 =>
    cases r2 with
    | cons r3 r4 => cases r4; exact ⟨_, _, rfl, r1, r3⟩
theorem call_abs : CallR X (.builtin "abs") (fun xs H Q => ∃ i, xs = [.int i] ∧ Q (.int (if i < 0 then -i else i)) H) := by
  intro pins s σ H xs us Q I r h
  obtain ⟨i, rfl, q⟩ := h
  obtain ⟨u, rfl, t, rfl⟩ := vals1 r
  exact call_abs_int fun u tk => ⟨.int (if i < 0 then -i else i), H, I.tok _, ⟨_, rfl⟩, q⟩
theorem call_max2 (hc : X.calm = true) : CallR X (.builtin "max") (fun xs H Q => ∃ i j, xs = [.int i, .int j] ∧ Q (.int (if j > i then j else i)) H) := by
  intro pins s σ H xs us Q I r h
  obtain ⟨i, j, rfl, q⟩ := h
  obtain ⟨u, w', rfl, ⟨t, rfl⟩, ⟨t', rfl⟩⟩ := vals2 r
  refine max_two_ints (I.ok.hd hc) fun h' tk k => ⟨_, H, I.kept k, ?_, q⟩
  by_cases hj : j > i
  · rw [if_pos hj, if_pos hj]; exact ⟨_, rfl⟩
  · rw [if_neg hj, if_neg hj]; exact ⟨_, rfl⟩
theorem call_min2 (hc : X.calm = true) : CallR X (.builtin "min") (fun xs H Q => ∃ i j, xs = [.int i, .int j] ∧ Q (.int (if j < i then j else i)) H) := by
  intro pins s σ H xs us Q I r h
  obtain ⟨i, j, rfl, q⟩ := h
  obtain ⟨u, w', rfl, ⟨t, rfl⟩, ⟨t', rfl⟩⟩ := vals2 r
  refine min_two_ints (I.ok.hd hc) fun h' tk k => ⟨_, H, I.kept k, ?_, q⟩
  by_cases hj : j < i
  · rw [if_pos hj, if_pos hj]; exact ⟨_, rfl⟩
  · rw [if_neg hj, if_neg hj]; exact ⟨_, rfl⟩
theorem call_int1 : CallR X (.type "int") (fun xs H Q => (∃ i, xs = [.int i] ∧ Q (.int i) H) ∨ ∃ k, xs = [.bl k] ∧ Q (.int (if k then 1 else 0)) H) := by
  intro pins s σ H xs us Q I r h
  rcases h with ⟨i, rfl, q⟩ | ⟨k, rfl, q⟩
  · obtain ⟨u, rfl, t, rfl⟩ := vals1 r
    exact call_int_int ⟨.int i, H, I, ⟨_, rfl⟩, q⟩
  · obtain ⟨u, rfl, r1⟩ := vals1 r
    cases r1
    exact call_int_bool ⟨.int (if k then 1 else 0), H, I.tok _, ⟨_, rfl⟩, q⟩
theorem call_bool1 : CallR X (.type "bool") (fun xs H Q => (∃ i, xs = [.int i] ∧ Q (.bl (i != 0)) H) ∨ ∃ k, xs = [.bl k] ∧ Q (.bl k) H) := by
  intro pins s σ H xs us Q I r h
  rcases h with ⟨i, rfl, q⟩ | ⟨k, rfl, q⟩
  · obtain ⟨u, rfl, t, rfl⟩ := vals1 r
    exact call_bool_int ⟨.bl (i != 0), H, I, rfl, q⟩
  · obtain ⟨u, rfl, r1⟩ := vals1 r
    cases r1
    exact call_bool_bool ⟨.bl k, H, I, rfl, q⟩
theorem call_str_int : CallR X (.type "str") (fun xs H Q => ∃ i, xs = [.int i] ∧ i.natAbs.log2 < 1920 ∧ Q (.str (toString i)) H) := by
  intro pins s σ H xs us Q I r h
  obtain ⟨i, rfl, hz, q⟩ := h
  obtain ⟨u, rfl, t, rfl⟩ := vals1 r
  exact PySem.P.str_of_int hz ⟨.str _, H, I.tok _, ⟨_, rfl⟩, q⟩
theorem call_ord : CallR X (.builtin "ord") (fun xs H Q => ∃ x, xs = [.str x] ∧ x.length = 1 ∧ Q (.int (x.cps.getD 0 0 : Nat)) H) := by
  intro pins s σ H xs us Q I r h
  obtain ⟨x, rfl, hz, q⟩ := h
  obtain ⟨u, rfl, t, rfl⟩ := vals1 r
  exact ord_of_one hz ⟨.int _, H, I.tok _, ⟨_, rfl⟩, q⟩
theorem call_chr : CallR X (.builtin "chr") (fun xs H Q => ∃ i, xs = [.int i] ∧ 0 ≤ i ∧ i ≤ 1114111 ∧ Q (.str ⟨#[i.toNat]⟩) H) := by
  intro pins s σ H xs us Q I r h
  obtain ⟨i, rfl, h0, h1, q⟩ := h
  obtain ⟨u, rfl, t, rfl⟩ := vals1 r
  exact chr_of_range h0 h1 ⟨.str _, H, I.tok _, ⟨_, rfl⟩, q⟩
/-- len of a str, a bytes, a list, a tuple -/
def LenV (K : PySem.W.Frag) (x : V) (H : Hp) (n : Nat) : Prop :=
  match x with
  | .str y => y.length ≤ sizeLine ∧ n = y.length
  | .byt y => y.size ≤ sizeLine ∧ n = y.size
  | .ref p => (∃ xs, SqL K H p xs ∧ n = xs.length) ∨ ∃ xs, SqT K H p xs ∧ n = xs.length
  | _ => False
theorem call_len : CallR X (.builtin "len") (fun xs H Q => ∃ x n, xs = [x] ∧ LenV X.K x H n ∧ Q (.int n) H) := by
  intro pins s σ H xs us Q I r h
  obtain ⟨x, n, rfl, e, q⟩ := h
  obtain ⟨u, rfl, rx⟩ := vals1 r
  have hl := line63
  have hs : sizeLine = 16777216 := sizeLine_eq
  cases x with
  | str y =>
    obtain ⟨t, rfl⟩ := rx
    obtain ⟨hy, e'⟩ : y.length ≤ sizeLine ∧ n = y.length := e
    subst e'
    exact len_str (by omega) ⟨.int _, H, I.tok _, ⟨_, rfl⟩, q⟩
  | byt y =>
    obtain ⟨t, rfl⟩ := rx
    obtain ⟨hy, e'⟩ : y.size ≤ sizeLine ∧ n = y.size := e
    subst e'
    exact PySem.W.len_bytes (by omega) ⟨.int _, H, I.tok _, ⟨_, rfl⟩, q⟩
  | ref p =>
    cases rx
    have e' : (∃ xs, SqL X.K H p xs ∧ n = xs.length) ∨ ∃ xs, SqT X.K H p xs ∧ n = xs.length := e
    rcases e' with ⟨xs, hx, e'⟩ | ⟨xs, hx, e'⟩
    · subst e'
      obtain ⟨its, r', pl, hz⟩ := I.list hx
      have hlen := r'.length
      exact Calls.call_len_list pl.isList (by simp only [List.size_toArray]; omega) ⟨.int xs.length, H, I.tok _, ⟨_, by simp only [List.size_toArray]; rw [hlen]⟩, q⟩
    · subst e'
      obtain ⟨its, r', pl, hz⟩ := I.tuple hx
      have hlen := r'.length
      exact len_tuple pl (by simp only [List.size_toArray]; omega) ⟨.int xs.length, H, I.tok _, ⟨_, by simp only [List.size_toArray]; rw [hlen]⟩, q⟩
  | _ => exact (show False from e).elim
/-- divmod: a new tuple -/
theorem call_divmod : CallR X (.builtin "divmod") (fun xs H Q => ∃ i j, xs = [.int i, .int j] ∧ CDiv i j ∧ ∀ p, H p = none → Q (.ref p) (upd H p (.tup [.int (i / j), .int (i % j)]))) := by
  intro pins s σ H xs us Q I r h
  obtain ⟨i, j, rfl, ⟨h1, h2⟩, q⟩ := h
  obtain ⟨u, w', rfl, ⟨t, rfl⟩, ⟨t', rfl⟩⟩ := vals2 r
  refine divmod_int (by omega) ?_ (.inl (PyProof.noPylong_small (by omega)))
  rw [Int.fdiv_eq_ediv_of_nonneg i (by omega), Int.fmod_eq_emod_of_nonneg i (by omega)]
  have hn : H s.heap.objs.size = none := I.hok.fresh (Nat.le_refl _)
  refine ⟨.ref s.heap.objs.size, _, ?_, rfl, q _ hn⟩
  refine I.laid (fun b o e => Heap.get?_push_of_some _ e) (Nat.le_refl _) ⟨by simp only [List.length_cons, List.length_nil]; rw [sizeLine_eq]; decide, [.int (i / j) s.toks, .int (i % j) (s.toks + 1)], .cons ⟨_, rfl⟩ (.cons ⟨_, rfl⟩ .nil), ?_⟩
  exact ⟨_, Heap.get?_push_size s.heap rfl, rfl, 0, rfl⟩
end
end L2

namespace L2
open PySem PySem.Spec PyProof.Rows

/-! ### an instance, its attributes a map -/
structure ObjM (h : Heap) (x dx C : Addr) (mA : Str → Option Value) : Prop where
  obj : h.get? x = some (PySem.W.instObj C dx)
  ns : h.Ns1 dx mA
  ne : dx ≠ x

theorem lookIn_ns {h : Heap} {dx : Addr} {mA : Str → Option Value} (n : h.Ns1 dx mA) : ∃ od, h.get? dx = some od ∧ ∀ name, PySem.W.lookIn name od = some (mA name) := by
  obtain ⟨o, es, ep, ho, hd, hk, _, hm⟩ := n
  refine ⟨o, ho, fun name => ?_⟩
  have e := hm name
  unfold nsFind findBy at e
  rw [← Array.find?_toList] at e
  unfold PySem.W.lookIn
  rw [hd]
  dsimp only
  split
  · rename_i y q
    rw [q] at e
    exact congrArg some e
  · rename_i q
    rw [q] at e
    have a : es.toList.any (·.refKey) = false := by
      rw [List.any_eq_false]
      intro y hy
      obtain ⟨z, t, hkey⟩ := hk y (Array.mem_toList_iff.mp hy)
      simp [DictEntry.refKey, hkey]
    have a' : ¬ es.toList.any (·.refKey) = true := by rw [a]; exact Bool.false_ne_true
    rw [if_neg a']
    exact congrArg some e

theorem ObjM.look {h : Heap} {x dx C : Addr} {mA : Str → Option Value} (I : ObjM h x dx C mA) : ∃ od, PySem.W.InstAt h x (PySem.W.instObj C dx) C (some od) ∧ ∀ name, PySem.W.lookIn name od = some (mA name) :=
  let ⟨od, ho, hl⟩ := lookIn_ns I.ns
  ⟨od, ⟨I.obj, rfl, rfl, ho⟩, hl⟩

section
variable {prog : Program} {w : World} {A : Around} {E : Value → Shared → Prop} {s : Shared} {K : PySem.W.Frag} {x dx C f : Addr} {mA : Str → Option Value} {name : Str} {v : Value}

theorem get_map {expr : Bool} {Q : Value → Shared → Prop} (X : K.In s.heap) (I : ObjM s.heap x dx C mA) (hg : PySem.W.plainGet K C name = true) (hh : PySem.W.hasDictIn K C = true)
    (ha : PySem.W.findIn K (.ref C) name = some none) (hv : mA name = some v) (hv' : PySem.W.handedIn v = true) (h : Q v { s with toks := s.toks + 1 }) :
    wpAny (model prog w) A (getAttr (.ref x) name expr) Q E s := by
  obtain ⟨od, J, hl⟩ := I.look
  exact PySem.W.get_value X J (PySem.W.plainGet_of hg).1 (PySem.W.findObj_own hh ha rfl (by rw [hl, hv])) hv' h

theorem get_const {expr : Bool} {a : Value} {Q : Value → Shared → Prop} (X : K.In s.heap) (I : ObjM s.heap x dx C mA) (hg : PySem.W.plainGet K C name = true) (hh : PySem.W.hasDictIn K C = true)
    (ha : PySem.W.findIn K (.ref C) name = some (some a)) (hn : PySem.W.specialIn K a "__get__" = some none) (hc : PySem.W.copiedNames.contains name = false) (hv : mA name = none) (hv' : PySem.W.handedIn a = true)
    (h : Q a { s with toks := s.toks + 1 }) : wpAny (model prog w) A (getAttr (.ref x) name expr) Q E s := by
  obtain ⟨od, J, hl⟩ := I.look
  exact PySem.W.get_value X J (PySem.W.plainGet_of hg).1 (PySem.W.findObj_cls hh ha hn hv' hc (by rw [hl, hv])) hv' h

theorem get_meth {pl : Sem Bool} {Q : Value × List Value → Shared → Prop} (X : K.In s.heap) (I : ObjM s.heap x dx C mA) (hg : PySem.W.plainGet K C name = true)
    (hf : PySem.W.findIn K (.ref C) name = some (some (.ref f))) (ht : PySem.W.isFn K (.ref f) = true) (hv : mA name = none) (h : Q (.ref f, [.ref x]) s) :
    wpAny (model prog w) A (getMethod (.ref x) name pl) Q E s := by
  obtain ⟨od, J, hl⟩ := I.look
  exact PySem.W.method_fn X J (PySem.W.plainGet_of hg).1 (PySem.W.plainGet_of hg).2 hf (beq_iff_eq.mp ht) (by show (PySem.W.lookIn name od).map (·.isSome) = some false; rw [hl, hv]; rfl) h

theorem set_map {ns : List Str} {Q : Unit → Shared → Prop} (X : K.In s.heap) (I : ObjM s.heap x dx C mA)
    (hs : PySem.W.findIn K (.ref C) "__setattr__" = some (some (.builtin "object.__setattr__"))) (hp : PySem.W.plainOver K C = true) (ht : PySem.W.takerIn K C name = some none) (hh : PySem.W.hasDictIn K C = true)
    (hw : PySem.Within mA ns) (hsz : ns.length ≤ sizeLine)
    (h : ∀ h', ObjM h' x dx C (fun y => if y = name then some v else mA y) → Heap.SameBut dx s.heap h' → Q () { s with heap := h', toks := s.toks + 2 }) :
    wpAny (model prog w) A (setAttr (.ref x) name v) Q E s := by
  obtain ⟨od, J, hl⟩ := I.look
  refine PySem.W.set_plain X J hs (PySem.W.osa_open (s := { s with toks := s.toks + 1 }) (r := none) X J hp ht fun b => ?_)
  obtain ⟨cd, hc, hd'⟩ := PySem.W.any_some hh
  have hx : s.heap.get? x = some ⟨.ref C, some dx, .plain, #[]⟩ := I.obj
  refine wpAny_bind (wpAny_pure (wpAny_bind (wpAny_bind (wpAny_loadPart hx (wpAny_bind (PySem.W.Looks.here (s := { s with toks := s.toks + 1 }) (PySem.W.looks_clsIn X hc) ?_))))))
  rw [hd']
  refine wpAny_pure (a := some dx) (wpAny_bind (wpAny_pure (wpAny_bind ?_)))
  refine wpAny_nsSet1 (s := { s with toks := s.toks + 1 }) I.ns fun h' hn2 hs2 => ?_
  obtain ⟨oD, esD, epD, hoD, hdD, hcD⟩ := hn2.count (PySem.Within.cons name v hw)
  refine wpAny_bind (wpAny_lookBehind hoD (by rw [hdD]; exact pastItsLine_dict (Nat.le_trans hcD (by rw [List.length_cons]; omega))) ?_)
  exact wpAny_pure (h _ ⟨(hs2.2 _ (Ne.symm I.ne)).trans I.obj, hn2, I.ne⟩ hs2)

/-- C(..): the dict at the heap's end, the instance behind it; then its __init__ -/
theorem make_map {R : Result → Shared → Prop} {vs : List Value} {kw : List (Str × Value)} (X : K.In s.heap) (hm : PySem.W.makesIn K C = true)
    (hi : PySem.W.findIn K (.ref C) "__init__" = some (some (.ref f))) (hf : PySem.W.typeIn K (.ref f) = some (.type "function"))
    (h : codeAny (model prog w) (A.under (.builtin "type.__call__" ⟨.ref C :: vs, kw⟩)) (.call (.ref f) ⟨.ref (s.heap.objs.size + 1) :: vs, kw⟩) (PySem.W.InitBack (s.heap.objs.size + 1) R)
      { s with heap := (s.heap.push PySem.W.emptyDict).push (PySem.W.instObj C s.heap.objs.size) }) :
    codeAny (model prog w) A (.call (.ref C) ⟨vs, kw⟩) R s := by
  obtain ⟨hh, g, d, t, os⟩ := s
  exact PySem.W.make_core (PySem.W.makes_of X hm) (PySem.W.looks_findIn X hi) (fun self => PySem.W.bind_fn X self hf) (.inl rfl) h
/-- C() where there is no __init__ but object's -/
theorem make_map0 {R : Result → Shared → Prop} (X : K.In s.heap) (hm : PySem.W.makesIn K C = true)
    (hi : PySem.W.findIn K (.ref C) "__init__" = some (some (.builtin "object.__init__")))
    (hb : ∀ self, PySem.W.Looks (model prog w) s.heap (bindSpecial (.builtin "object.__init__") self) (.builtin "object.__init__", [self]))
    (h : codeAny (model prog w) (A.under (.builtin "type.__call__" ⟨[.ref C], []⟩)) (.call (.builtin "object.__init__") ⟨[.ref (s.heap.objs.size + 1)], []⟩) (PySem.W.InitBack (s.heap.objs.size + 1) R)
      { s with heap := (s.heap.push PySem.W.emptyDict).push (PySem.W.instObj C s.heap.objs.size) }) :
    codeAny (model prog w) A (.call (.ref C) ⟨[], []⟩) R s := by
  obtain ⟨hh, g, d, t, os⟩ := s
  exact PySem.W.make_core (PySem.W.makes_of X hm) (PySem.W.looks_findIn X hi) hb (.inr ⟨rfl, rfl⟩) h
end

/-! ### the attributes as a list of pairs -/
def putF (f : Str) (v : V) : List (Str × V) → List (Str × V)
  | [] => [(f, v)]
  | (g, x) :: r => if g = f then (g, v) :: r else (g, x) :: putF f v r
theorem lookup_putF (f g : Str) (v : V) : ∀ fs : List (Str × V), (putF f v fs).lookup g = if g = f then some v else fs.lookup g
  | [] => by
    show List.lookup g [(f, v)] = _
    by_cases h : g = f
    · have hb : (g == f) = true := beq_iff_eq.mpr h
      simp only [List.lookup, hb, if_pos h]
    · have hb : (g == f) = false := beq_eq_false_iff_ne.mpr h
      simp only [List.lookup, hb, if_neg h]
  | (k, x) :: r => by
    have ih := lookup_putF f g v r
    rw [show putF f v ((k, x) :: r) = (if k = f then (k, v) :: r else (k, x) :: putF f v r) from rfl]
    by_cases hk : k = f
    · rw [if_pos hk]
      by_cases h : g = k
      · have hb : (g == k) = true := beq_iff_eq.mpr h
        simp only [List.lookup, hb, if_pos (h.trans hk)]
      · have hb : (g == k) = false := beq_eq_false_iff_ne.mpr h
        simp only [List.lookup, hb, if_neg (fun e : g = f => h (e.trans hk.symm))]
    · rw [if_neg hk]
      by_cases h : g = k
      · have hb : (g == k) = true := beq_iff_eq.mpr h
        simp only [List.lookup, hb, if_neg (fun e : g = f => hk (h.symm.trans e))]
      · have hb : (g == k) = false := beq_eq_false_iff_ne.mpr h
        simp only [List.lookup, hb]
        exact ih
theorem keys_putF (f : Str) (v : V) : ∀ fs : List (Str × V), f ∈ (putF f v fs).map (·.1) ∧ ∀ g, g ∈ fs.map (·.1) → g ∈ (putF f v fs).map (·.1)
  | [] => ⟨by simp [putF], fun g h => by simp at h⟩
  | (k, x) :: r => by
    obtain ⟨i1, i2⟩ := keys_putF f v r
    rw [show putF f v ((k, x) :: r) = (if k = f then (k, v) :: r else (k, x) :: putF f v r) from rfl]
    by_cases hk : k = f
    · rw [if_pos hk]
      subst hk
      exact ⟨by simp, fun g h => by simpa using h⟩
    · rw [if_neg hk]
      refine ⟨?_, fun g h => ?_⟩
      · rw [List.map_cons]
        exact List.mem_cons_of_mem _ i1
      · rw [List.map_cons] at h ⊢
        rcases List.mem_cons.mp h with e | e
        · exact List.mem_cons.mpr (.inl e)
        · exact List.mem_cons_of_mem _ (i2 g e)
theorem length_putF (f : Str) (v : V) : ∀ fs : List (Str × V), (putF f v fs).length ≤ fs.length + 1
  | [] => by simp [putF]
  | (k, x) :: r => by
    have ih := length_putF f v r
    rw [show putF f v ((k, x) :: r) = (if k = f then (k, v) :: r else (k, x) :: putF f v r) from rfl]
    by_cases hk : k = f
    · rw [if_pos hk, List.length_cons, List.length_cons]; omega
    · rw [if_neg hk, List.length_cons, List.length_cons]; omega

theorem RelO.some_of {v : V} {o : Option Value} (r : RelO (some v) o) : ∃ u, o = some u ∧ RelV v u := by
  cases o with
  | none => exact (show False from r).elim
  | some u => exact ⟨u, rfl, r⟩
theorem RelO.none_of {o : Option Value} (r : RelO none o) : o = none := by
  cases o with
  | none => rfl
  | some u => exact (show False from r).elim
theorem handed_of {v : V} {u : Value} (r : RelV v u) : PySem.W.handedIn u = true := by
  cases v with
  | non => cases (show u = Value.none from r); rfl
  | bl b => cases (show u = Value.bool b from r); rfl
  | int i => obtain ⟨t, e⟩ := (show ∃ t, u = Value.int i t from r); cases e; rfl
  | str x => obtain ⟨t, e⟩ := (show ∃ t, u = Value.str x t from r); cases e; rfl
  | byt b => obtain ⟨t, e⟩ := (show ∃ t, u = Value.bytes b t from r); cases e; rfl
  | flt b => obtain ⟨t, e⟩ := (show ∃ t, u = Value.float b t from r); cases e; rfl
  | ref a => cases (show u = Value.ref a from r); rfl
  | ty n => cases (show u = Value.type n from r); rfl

section
variable {P : Program} {w : World} {H H' : Hp} {h h' : Heap} {a C dx : Addr} {fs fs' : List (Str × V)}
theorem ins_get (hok : HOk P w H h) (e : H a = some (.ins C dx fs)) : ∃ mA, ObjM h a dx C mA ∧ (∀ f, RelO (fs.lookup f) (mA f)) ∧ PySem.Within mA (fs.map (·.1)) ∧ fs.length ≤ 1000 ∧ H dx = some (.own a) := by
  obtain ⟨d, z, ne, ob, mA, n, r, q⟩ := (show ObjOk P w H h a (.ins C dx fs) from hok a _ e)
  exact ⟨mA, ⟨ob, n, ne⟩, r, q, z, d⟩
end

/-! ### what of the text a class must have -/
structure Cls (K : PySem.W.Frag) (C : Addr) : Prop where
  pg : PySem.W.plainGet K C Str.empty = true
  hd : PySem.W.hasDictIn K C = true
  po : PySem.W.plainOver K C = true
  sa : PySem.W.findIn K (.ref C) "__setattr__" = some (some (.builtin "object.__setattr__"))
theorem Cls.get {K : PySem.W.Frag} {C : Addr} (c : Cls K C) (f : Str) : PySem.W.plainGet K C f = true := c.pg
/-- no class of it has the name -/
def NoAttr (K : PySem.W.Frag) (C : Addr) (f : Str) : Prop := PySem.W.findIn K (.ref C) f = some none
theorem NoAttr.taker {K : PySem.W.Frag} {C : Addr} {f : Str} (n : NoAttr K C f) : PySem.W.takerIn K C f = some none := by
  unfold PySem.W.takerIn
  rw [show PySem.W.findIn K (.ref C) f = some none from n]
  rfl
/-- a constant of the class -/
structure Con (K : PySem.W.Frag) (C : Addr) (f : Str) (v : V) (u : Value) : Prop where
  at_ : PySem.W.findIn K (.ref C) f = some (some u)
  rel : RelV v u
  get : PySem.W.specialIn K u "__get__" = some none
  cp : PySem.W.copiedNames.contains f = false
/-- a method: a plain def of the class or of one above it -/
structure Meth (K : PySem.W.Frag) (C : Addr) (m : Str) (f : Addr) : Prop where
  at_ : PySem.W.findIn K (.ref C) m = some (some (.ref f))
  fn : PySem.W.isFn K (.ref f) = true
  kp : PySem.W.keepIn K (.ref f) = true

section
variable {X : Cx} {pins : List (Addr × Obj)} {σ : St} {H : Hp} {s : Shared} {a C dx : Addr} {fs : List (Str × V)} {f : Str} {v : V} {A : Around} {E : Value → Shared → Prop}

theorem getattr_ok {b : Bool} {Q : Value → Shared → Prop} (I : Inv X pins σ H s) (e : H a = some (.ins C dx fs)) (c : Cls X.K C) (n : NoAttr X.K C f) (l : fs.lookup f = some v)
    (h : ∀ u s', Inv X pins σ H s' → RelV v u → Q u s') : wpAny (model X.prog X.w) A (getAttr (.ref a) f b) Q E s := by
  obtain ⟨mA, O, r, _, _, _⟩ := ins_get I.hok e
  obtain ⟨u, hu, ru⟩ := RelO.some_of (v := v) (o := mA f) (by rw [← l]; exact r f)
  exact get_map I.kIn O (c.get f) c.hd n hu (handed_of ru) (h u _ (I.tok _) ru)

theorem getcon_ok {b : Bool} {u : Value} {Q : Value → Shared → Prop} (I : Inv X pins σ H s) (e : H a = some (.ins C dx fs)) (c : Cls X.K C) (k : Con X.K C f v u) (l : fs.lookup f = none)
    (h : ∀ s', Inv X pins σ H s' → Q u s') : wpAny (model X.prog X.w) A (getAttr (.ref a) f b) Q E s := by
  obtain ⟨mA, O, r, _, _, _⟩ := ins_get I.hok e
  have hn : mA f = none := RelO.none_of (by rw [← l]; exact r f)
  exact get_const I.kIn O (c.get f) c.hd k.at_ k.get k.cp hn (handed_of k.rel) (h _ (I.tok _))

theorem getmeth_ok {m : Str} {g : Addr} {pl : Sem Bool} {Q : Value × List Value → Shared → Prop} (I : Inv X pins σ H s) (e : H a = some (.ins C dx fs)) (c : Cls X.K C) (k : Meth X.K C m g) (l : fs.lookup m = none)
    (h : Q (.ref g, [.ref a]) s) : wpAny (model X.prog X.w) A (getMethod (.ref a) m pl) Q E s := by
  obtain ⟨mA, O, r, _, _, _⟩ := ins_get I.hok e
  have hn : mA m = none := RelO.none_of (by rw [← l]; exact r m)
  exact get_meth I.kIn O (c.get m) k.at_ k.fn hn h

theorem setattr_ok {y : V} {u : Value} {Q : Unit → Shared → Prop} (I : Inv X pins σ H s) (e : H a = some (.ins C dx fs)) (c : Cls X.K C) (n : NoAttr X.K C f) (hl : fs.length < 1000) (ry : RelV y u)
    (h : ∀ s', Inv X pins σ (upd H a (.ins C dx (putF f y fs))) s' → Q () s') : wpAny (model X.prog X.w) A (setAttr (.ref a) f u) Q E s := by
  obtain ⟨mA, O, r, wi, _, ho⟩ := ins_get I.hok e
  have hz : (fs.map (·.1)).length ≤ sizeLine := by rw [List.length_map, sizeLine_eq]; omega
  refine set_map I.kIn O c.sa c.po n.taker c.hd wi hz fun h' O' sb => h _ ?_
  have hd : ∃ o, h'.get? dx = some o := let ⟨o, _, _, e', _⟩ := O'.ns; ⟨o, e'⟩
  refine I.write (x := a) (e := dx) (by rw [e]; exact True.intro) (.inr ho) (fun b q hb z => (sb.2 b hb).trans z) hd ?_
  refine ⟨by rw [upd_ne O.ne]; exact ho, ?_, O.ne, O'.obj, _, O'.ns, fun g => ?_, fun g hg => ?_⟩
  · have := length_putF f y fs; omega
  · show RelO ((putF f y fs).lookup g) (if g = f then some u else mA g)
    rw [lookup_putF]
    by_cases q : g = f
    · rw [if_pos q, if_pos q]; exact ry
    · rw [if_neg q, if_neg q]; exact r g
  · by_cases q : g = f
    · rw [q]; exact (keys_putF f y fs).1
    · refine (keys_putF f y fs).2 g (wi g fun z => hg ?_)
      show (if g = f then some u else mA g) = none
      rw [if_neg q]; exact z

/-- a new instance, tracked, without attributes -/
theorem Inv.made (I : Inv X pins σ H s) : Inv X pins σ (upd (upd H s.heap.objs.size (.own (s.heap.objs.size + 1))) (s.heap.objs.size + 1) (.ins C s.heap.objs.size []))
    { s with heap := (s.heap.push PySem.W.emptyDict).push (PySem.W.instObj C s.heap.objs.size) } := by
  have e1 : (s.heap.push PySem.W.emptyDict).get? s.heap.objs.size = some PySem.W.emptyDict := Heap.get?_push_size s.heap rfl
  have e2 : ((s.heap.push PySem.W.emptyDict).push (PySem.W.instObj C s.heap.objs.size)).get? (s.heap.objs.size + 1) = some (PySem.W.instObj C s.heap.objs.size) := by
    have := Heap.get?_push_size (s.heap.push PySem.W.emptyDict) (o := PySem.W.instObj C s.heap.objs.size) rfl
    rwa [Heap.size_push] at this
  have e3 : (s.heap.push PySem.W.emptyDict).Ns s.heap.objs.size (fun _ => none) := ⟨PySem.W.emptyDict, #[], _, e1, rfl, (fun e he => absurd he (by simp)), fun _ => rfl⟩
  have I1 := I.laid (a := s.heap.objs.size) (o := .own (s.heap.objs.size + 1)) (h' := s.heap.push PySem.W.emptyDict) (t' := s.toks) (fun b u q => Heap.get?_push_of_some _ q) (Nat.le_refl _) ⟨_, e1⟩
  refine I1.laid (a := s.heap.objs.size + 1) (o := .ins C s.heap.objs.size []) (t' := s.toks) (fun b u q => Heap.get?_push_of_some _ q) (Nat.le_of_eq (Heap.size_push _ _)) ?_
  have ne : s.heap.objs.size ≠ s.heap.objs.size + 1 := Nat.ne_of_lt (Nat.lt_succ_self _)
  refine ⟨by rw [upd_ne ne, upd_same], Nat.zero_le _, ne, e2, fun _ => none, (Heap.Ns1.of_empty e3).at fun o q => Heap.get?_push_of_some _ q, fun _ => True.intro, fun y hy => absurd rfl hy⟩

/-- e.f where nothing but the object is asked: through attributeBase (super) and the last hold -/
theorem attr_of {prog : Program} {w : World} {env : Env} {e : Expr} {f : Str} {pos : Pos} {s : Shared} {Q : Value → Shared → Prop} (hb : attributeBase e f env (eval e env) = eval e env)
    (h : wpAny (model prog w) A (eval e env) (fun o s₁ => wpAny (model prog w) A (getAttr o f true) Q E s₁) E s) : wpAny (model prog w) A (eval (.Attribute e f pos) env) Q E s :=
  Attribute_any_ h (by rw [arm_eval_Attribute, hb])
end

/-! ### readings and rules -/
/-- e.f, an attribute of the instance -/
def tFld (K : PySem.W.Frag) (ta : TE) (f : Str) : TE := fun σ H Q => ta σ H fun x H1 => ∃ a C dx fs v, x = .ref a ∧ H1 a = some (.ins C dx fs) ∧ Cls K C ∧ NoAttr K C f ∧ fs.lookup f = some v ∧ Q v H1
/-- e.f, a constant of the class -/
def tCon (K : PySem.W.Frag) (ta : TE) (f : Str) : TE := fun σ H Q => ta σ H fun x H1 => ∃ a C dx fs v u, x = .ref a ∧ H1 a = some (.ins C dx fs) ∧ Cls K C ∧ Con K C f v u ∧ fs.lookup f = none ∧ Q v H1
/-- e.f = value -/
def sFld (K : PySem.W.Frag) (ta tv : TE) (f : Str) : TS := fun D σ H => tv σ H fun y H1 => ta σ H1 fun x H2 => ∃ a C dx fs, x = .ref a ∧ H2 a = some (.ins C dx fs) ∧ Cls K C ∧ NoAttr K C f ∧ fs.length < 1000 ∧
  D.nx σ (upd H2 a (.ins C dx (putF f y fs)))
/-- an augmented operator on two values -/
def InOp (X : Cx) (op : Operator) (rd : V → V → Hp → VK → Prop) : Prop :=
  ∀ (pins : List (Addr × Obj)) (s : Shared) (σ : St) (H : Hp) (x y : V) (u v : Value) (Q : VK), Inv X pins σ H s → RelV x u → RelV y v → rd x y H Q → wpAny (model X.prog X.w) X.A (inplaceOp op u v) (EP X pins σ Q) X.xe s
/-- e.f op= value -/
def sFldAug (K : PySem.W.Frag) (ta tv : TE) (rd : V → V → Hp → VK → Prop) (f : Str) : TS := fun D σ H => ta σ H fun x H1 => ∃ a C dx fs v, x = .ref a ∧ H1 a = some (.ins C dx fs) ∧ Cls K C ∧ NoAttr K C f ∧ fs.lookup f = some v ∧
  tv σ H1 fun y H2 => rd v y H2 fun z H3 => ∃ dx' fs', H3 a = some (.ins C dx' fs') ∧ fs'.length < 1000 ∧ D.nx σ (upd H3 a (.ins C dx' (putF f z fs')))

section
variable {X : Cx} {o e value : Expr} {f : Str} {pos pos' tpos : Pos} {ta tv : TE}
theorem pe_fld (he : PE X e ta) (hb : attributeBase e f X.env (eval e X.env) = eval e X.env) : PE X (.Attribute e f pos) (tFld X.K ta f) := by
  intro pins s σ H Q I h
  refine attr_of hb (thn (he pins s σ H _ I h) fun u s1 ⟨x, H1, I1, rx, a, C, dx, fs, v, ex, ea, c, n, l, q⟩ => ?_)
  subst ex
  obtain rfl : u = Value.ref a := rx
  exact getattr_ok I1 ea c n l fun u' s2 I2 ru => ⟨v, H1, I2, ru, q⟩
theorem pe_con (he : PE X e ta) (hb : attributeBase e f X.env (eval e X.env) = eval e X.env) : PE X (.Attribute e f pos) (tCon X.K ta f) := by
  intro pins s σ H Q I h
  refine attr_of hb (thn (he pins s σ H _ I h) fun u s1 ⟨x, H1, I1, rx, a, C, dx, fs, v, u0, ex, ea, c, k, l, q⟩ => ?_)
  subst ex
  obtain rfl : u = Value.ref a := rx
  exact getcon_ok I1 ea c k l fun s2 I2 => ⟨v, H1, I2, k.rel, q⟩
theorem ps_fld (ha : PE X o ta) (hv : PE X value tv) (hs : swapsWith value (some (.Attribute o f pos')) pos.line X.env = pure false) : PS X (.Assign [.Attribute o f pos'] value pos) (sFld X.K ta tv f) := by
  intro pins s σ H D I h
  refine plainObj_wpAny_Assign_Attribute (thn (hv pins s σ H _ I h) fun u s1 ⟨y, H1, I1, ry, q⟩ => thn (ha pins s1 σ H1 _ I1 q) fun ov s2 ⟨x, H2, I2, rx, a, C, dx, fs, ex, ea, c, n, l, q2⟩ => ?_) hs
  subst ex
  obtain rfl : ov = Value.ref a := rx
  exact setattr_ok I2 ea c n l ry fun s3 I3 => ⟨σ, _, I3, q2⟩
theorem ps_fldaug {op : Operator} {rd : V → V → Hp → VK → Prop} (ha : PE X o ta) (hv : PE X value tv) (hop : InOp X op rd) : PS X (.AugAssign (.Attribute o f tpos) op value pos) (sFldAug X.K ta tv rd f) := by
  intro pins s σ H D I h
  refine wpAny_AugAssign_AttributeAny (thn (ha pins s σ H _ I h) fun ov s1 ⟨x, H1, I1, rx, a, C, dx, fs, v, ex, ea, c, n, l, q⟩ => ?_)
  subst ex
  obtain rfl : ov = Value.ref a := rx
  refine getattr_ok I1 ea c n l fun u s2 I2 ru => thn (hv pins s2 σ H1 _ I2 q) fun w3 s3 ⟨y, H2, I3, ry, q3⟩ => thn (hop pins s3 σ H2 v y u w3 _ I3 ru ry q3) fun w4 s4 ⟨z, H3, I4, rz, dx', fs', ea', l', q4⟩ => ?_
  exact setattr_ok I4 ea' c n l' rz fun s5 I5 => ⟨σ, _, I5, q4⟩
def rAdd : V → V → Hp → VK → Prop := fun x y H Q => ∃ i j, x = .int i ∧ y = .int j ∧ Q (.int (i + j)) H
def rSub : V → V → Hp → VK → Prop := fun x y H Q => ∃ i j, x = .int i ∧ y = .int j ∧ Q (.int (i - j)) H
theorem in_add : InOp X .Add rAdd := by
  rintro pins s σ H x y u v Q I rx ry ⟨i, j, rfl, rfl, q⟩
  obtain ⟨t, rfl⟩ := (show ∃ t, u = Value.int i t from rx)
  obtain ⟨t', rfl⟩ := (show ∃ t', v = Value.int j t' from ry)
  exact PyProof.Rows.iadd_int ⟨.int (i + j), H, I.tok _, ⟨_, rfl⟩, q⟩
theorem in_sub : InOp X .Sub rSub := by
  rintro pins s σ H x y u v Q I rx ry ⟨i, j, rfl, rfl, q⟩
  obtain ⟨t, rfl⟩ := (show ∃ t, u = Value.int i t from rx)
  obtain ⟨t', rfl⟩ := (show ∃ t', v = Value.int j t' from ry)
  exact PyProof.Rows.isub_int ⟨.int (i - j), H, I.tok _, ⟨_, rfl⟩, q⟩

/-- what is between an instance and its method: the tree of a method call -/
theorem methcall_of {pl : Sem Bool} {m : Str} {apos : Pos} {args : List Expr} {pins : List (Addr × Obj)} {s : Shared} {σ : St} {H : Hp} {Q : Value → Shared → Prop} {te : TE} (he : PE X e te) (I : Inv X pins σ H s)
    (h : te σ H fun x H1 => ∃ a C dx fs g, x = .ref a ∧ H1 a = some (.ins C dx fs) ∧ Cls X.K C ∧ Meth X.K C m g ∧ fs.lookup m = none ∧
      ∀ s1, Inv X pins σ H1 s1 → wpAny (model X.prog X.w) X.A (callWith pos (.ref g) [.ref a] (backTo pos (starEach args X.env)) (backToKw pos (keywordEach [] X.env))) Q X.xe s1)
    (ht : eval (.Call (.Attribute e m apos) args [] pos) X.env = (do
      let ov ← eval e X.env
      standAt apos.atName
      let (f, first) ← holding [ov] (getMethod ov m pl)
      callWith pos f first (backTo pos (starEach args X.env)) (backToKw pos (keywordEach [] X.env)))) :
    wpAny (model X.prog X.w) X.A (eval (.Call (.Attribute e m apos) args [] pos) X.env) Q X.xe s := by
  refine PySem.W.methodCall_KW (pl := pl) (thn (he pins s σ H _ I h) fun u s1 ⟨x, H1, I1, rx, a, C, dx, fs, g, ex, ea, c, k, l, q⟩ => ?_) ht
  subst ex
  obtain rfl : u = Value.ref a := rx
  exact getmeth_ok I1 ea c k l (q s1 I1)
end

/-! ### isinstance -/
section
variable {X : Cx} {pins : List (Addr × Obj)} {σ : St} {H : Hp} {s : Shared} {A : Around} {E : Value → Shared → Prop} {Q : Value → Shared → Prop} {c : Value} {b : Bool}
/-- the type of a value, as the fragment's deciders take it; for an instance its class -/
inductive TyOf (K : PySem.W.Frag) (H : Hp) : V → Value → Prop where
  | non : TyOf K H .non (.type "NoneType")
  | bl (x : Bool) : TyOf K H (.bl x) (.type "bool")
  | int (i : Int) : TyOf K H (.int i) (.type "int")
  | str (x : Str) : TyOf K H (.str x) (.type "str")
  | flt (x : UInt64) : TyOf K H (.flt x) (.type "float")
  | lst {a : Addr} {xs : List V} (e : H a = some (.lst xs)) : TyOf K H (.ref a) (.type "list")
  | frz {a : Addr} {o : Obj} {xs : List V} (e : H a = some (.frz o (.lst xs))) : TyOf K H (.ref a) (.type "list")
  | tup {a : Addr} {xs : List V} (e : H a = some (.tup xs)) : TyOf K H (.ref a) (.type "tuple")
  | dK {a : Addr} {kvs : List (Key × V)} (e : H a = some (.dK kvs)) : TyOf K H (.ref a) (.type "dict")
  | dT {a : Addr} {kvs : List (List Key × V)} (e : H a = some (.dT kvs)) : TyOf K H (.ref a) (.type "dict")
  | ins {a C dx : Addr} {fs : List (Str × V)} (e : H a = some (.ins C dx fs)) (cl : Cls K C) (ha : PySem.W.findIn K (.ref C) "__class__" = some (some (.builtin "object.__class__")))
      (hn : PySem.W.specialIn K (.builtin "object.__class__") "__get__" = some (some (.builtin "getset_descriptor.__get__"))) (htk : PySem.W.takesIn K (.builtin "object.__class__") = some true)
      (hm : PySem.W.mroIn K C (.type "object") = some true) : TyOf K H (.ref a) (.ref C)
/-- isinstance(x, c) for one class c, a built-in or an own one: kitOne's answer -/
theorem isinst_ok {x : V} {u t : Value} (I : Inv X pins σ H s) (rx : RelV x u) (ty : TyOf X.K H x t) (e : PySem.W.kitOne X.K t c = some b) (h : ∀ tk, Q (.bool b) { s with toks := tk }) :
    wpAny (model X.prog X.w) A (call (.builtin "isinstance") [u, c]) Q E s := by
  cases ty with
  | non => cases (show u = Value.none from rx); exact PySem.W.kia_one PySem.W.kitx_none I.kIn True.intro e (fun z => nomatch z) h
  | bl y => cases (show u = Value.bool y from rx); exact PySem.W.kia_one PySem.W.kitx_bool I.kIn True.intro e (fun z => nomatch z) h
  | int i => obtain ⟨t, q⟩ := (show ∃ t, u = Value.int i t from rx); cases q; exact PySem.W.kia_one PySem.W.kitx_int I.kIn True.intro e (fun z => nomatch z) h
  | str y => obtain ⟨t, q⟩ := (show ∃ t, u = Value.str y t from rx); cases q; exact PySem.W.kia_one PySem.W.kitx_str I.kIn True.intro e (fun z => nomatch z) h
  | flt y => obtain ⟨t, q⟩ := (show ∃ t, u = Value.float y t from rx); cases q; exact PySem.W.kia_one PySem.W.kitx_float I.kIn True.intro e (fun z => nomatch z) h
  | @lst a xs ea =>
    cases (show u = Value.ref a from rx)
    obtain ⟨_, _, n, _, h1⟩ := (show ObjOk X.prog X.w H s.heap a (.lst xs) from I.hok a _ ea)
    exact PySem.W.kia_one PySem.W.kitx_list I.kIn ⟨_, h1, rfl⟩ e (fun z => nomatch z) h
  | @frz a ob xs ea =>
    cases (show u = Value.ref a from rx)
    obtain ⟨_, _, _, n, _, h1⟩ := (show ObjOk X.prog X.w H s.heap a (.frz ob (.lst xs)) from I.hok a _ ea)
    exact PySem.W.kia_one PySem.W.kitx_list I.kIn ⟨_, h1, rfl⟩ e (fun z => nomatch z) h
  | @tup a xs ea =>
    cases (show u = Value.ref a from rx)
    obtain ⟨_, _, _, p⟩ := (show ObjOk X.prog X.w H s.heap a (.tup xs) from I.hok a _ ea)
    obtain ⟨o, h1, h2, _⟩ := p
    exact PySem.W.kia_one PySem.W.kitx_tuple I.kIn ⟨o, h1, h2⟩ e (fun z => nomatch z) h
  | @dK a kvs ea =>
    cases (show u = Value.ref a from rx)
    obtain ⟨_, _, vs, _, p⟩ := (show ObjOk X.prog X.w H s.heap a (.dK kvs) from I.hok a _ ea)
    obtain ⟨o, es, ep, h1, h2, _⟩ := p
    exact PySem.W.kia_one PySem.W.kitx_dict I.kIn ⟨o, h1, h2.1⟩ e (fun z => nomatch z) h
  | @dT a kvs ea =>
    cases (show u = Value.ref a from rx)
    obtain ⟨_, _, xs, _, o, es, ep, h1, h2, _⟩ := (show ObjOk X.prog X.w H s.heap a (.dT kvs) from I.hok a _ ea)
    exact PySem.W.kia_one PySem.W.kitx_dict I.kIn ⟨o, h1, h2.1⟩ e (fun z => nomatch z) h
  | @ins a C dx fs ea cl ha hn htk hm =>
    cases (show u = Value.ref a from rx)
    obtain ⟨mA, O, _⟩ := ins_get I.hok ea
    obtain ⟨od, J, _⟩ := O.look
    exact PySem.W.kia_one (PySem.W.kitx_own (cl.get _) cl.hd ha hn htk hm) I.kIn J e (fun z => nomatch z) h
end
end L2

namespace L2
open PySem PySem.Spec PyProof.Rows

/-! ### room -/
structure Room (k : Nat) (A : Around) : Prop where
  hd : A.handled = none
  dp : A.depth + 3 * k + 5 < recursionLimit
  un : A.units + 16 * k + 200 < cLine
theorem Room.mono {j k : Nat} {A : Around} (r : Room k A) (h : j ≤ k) : Room j A := ⟨r.hd, by have := r.dp; omega, by have := r.un; omega⟩
theorem Room.deeper {k : Nat} {A : Around} (r : Room (k + 1) A) (env : Env) : Room k (A.deeper env) :=
  ⟨r.hd, by have := r.dp; show A.depth + 1 + 3 * k + 5 < _; omega, by have := r.un; show A.units + 3 + 16 * k + 200 < _; omega⟩
theorem Room.in1 {k : Nat} {A : Around} (r : Room (k + 1) A) : Room k A.in1 :=
  ⟨r.hd, by have := r.dp; show A.depth + 3 * k + 5 < _; omega, by have := r.un; show A.units + 1 + 16 * k + 200 < _; omega⟩
theorem make_depth {A : Around} {C : Addr} {us : List Value} {kw : List (Str × Value)} : (A.under (.builtin "type.__call__" ⟨.ref C :: us, kw⟩)).depth = A.depth + 1 := by
  first | rfl | simp [Around.under, Code.weight, Code.isCreation, Code.isGuard, Code.isCaller, Code.frames, Code.isFrame, guardIds]
theorem make_units {A : Around} {C : Addr} {us : List Value} {kw : List (Str × Value)} : (A.under (.builtin "type.__call__" ⟨.ref C :: us, kw⟩)).units = A.units + 1 := by
  first | rfl | simp [Around.under, Code.cUnits, Code.frames, Code.isFrame]
theorem Room.make {k : Nat} {A : Around} (r : Room (k + 1) A) (C : Addr) (us : List Value) (kw : List (Str × Value)) : Room k (A.under (.builtin "type.__call__" ⟨.ref C :: us, kw⟩)) :=
  ⟨r.hd, by have := r.dp; rw [make_depth]; omega, by have := r.un; rw [make_units]; omega⟩
theorem Room.depth {k : Nat} {A : Around} (r : Room k A) : A.depth < recursionLimit := by have := r.dp; omega
theorem Room.units {k : Nat} {A : Around} (r : Room k A) : A.units + 64 < cLine := by have := r.un; omega
theorem Room.units0 {k : Nat} {A : Around} (r : Room k A) : A.units < cLine := by have := r.un; omega

/-! ### argument lists and displays -/
def tNil : TA := fun _ H Q => Q [] H
def tCons (ta : TE) (tr : TA) : TA := fun σ H Q => ta σ H fun x H1 => tr σ H1 fun xs H2 => Q (x :: xs) H2
section
variable {X : Cx} {e : Expr} {es : List Expr} {te : TE} {t : TA} {pos : Pos}
theorem pa_nil : PA X [] tNil := fun _ _ _ _ H Q I h => Calls.spliced_nil ⟨[], H, I, .nil, h⟩
theorem pa_cons (ha : PE X e te) (hr : PA X es t) (hs : starEach (e :: es) X.env = (false, eval e X.env) :: starEach es X.env := by rfl) : PA X (e :: es) (tCons te t) := by
  intro pos pins s σ H Q I h
  rw [hs]
  show wpAny _ _ (spliced ((false, eval e X.env) :: backTo pos (starEach es X.env))) _ _ s
  refine Calls.spliced_cons (thn (ha pins s σ H _ I h) fun u s1 ⟨x, H1, I1, r1, q1⟩ => ?_)
  exact thn (hr pos pins s1 σ H1 _ I1 q1) fun us s2 ⟨xs, H2, I2, r2, q2⟩ => ⟨x :: xs, H2, I2, .cons r1 r2, q2⟩

/-- a tuple, a list of written items -/
def tTup (t : TA) : TE := fun σ H Q => t σ H fun xs H1 => xs.length ≤ sizeLine ∧ ∀ p, H1 p = none → Q (.ref p) (upd H1 p (.tup xs))
def tLst (t : TA) : TE := fun σ H Q => t σ H fun xs H1 => xs.length ≤ sizeLine ∧ ∀ p, H1 p = none → Q (.ref p) (upd H1 p (.lst xs))
theorem pe_tup {x1} (h : PA X es t) : PE X (.Tuple es x1 pos) (tTup t) := by
  intro pins s σ H Q I hq
  refine wpAny_Tuple_spliced (thn (h pos pins s σ H _ I hq) fun us s1 ⟨xs, H1, I1, r, z, q⟩ => ⟨by rw [← r.length]; exact z, ?_⟩)
  have hf : H1 s1.heap.objs.size = none := I1.hok.fresh (Nat.le_refl _)
  refine ⟨.ref s1.heap.objs.size, upd H1 s1.heap.objs.size (.tup xs), I1.laid (t' := s1.toks) (fun b u e => Heap.get?_push_of_some _ e) (Nat.le_refl _) ?_, rfl, q _ hf⟩
  exact ⟨z, us, r, ⟨_, Heap.get?_push_size _ rfl, rfl, _, rfl⟩⟩
theorem pe_lst (h : PA X es t) : PE X (.List es pos) (tLst t) := by
  intro pins s σ H Q I hq
  refine wpAny_List_spliced (thn (h pos pins s σ H _ I hq) fun us s1 ⟨xs, H1, I1, r, z, q⟩ => ⟨by rw [← r.length]; exact z, ?_⟩)
  have hf : H1 s1.heap.objs.size = none := I1.hok.fresh (Nat.le_refl _)
  refine ⟨.ref s1.heap.objs.size, upd H1 s1.heap.objs.size (.lst xs), I1.laid (t' := s1.toks) (fun b u e => Heap.get?_push_of_some _ e) (Nat.le_refl _) ?_, rfl, q _ hf⟩
  exact ⟨z, us, 0, r, Heap.get?_push_size _ rfl⟩
end

/-! ### what a def promises -/
/-- a def's promise: the bound arguments in the parameters' order, the heap, the wanted end, the wanted exception -/
abbrev Sp := List V → Hp → VK → XK → Prop
/-- how an exception lies behind a call (file 08 gives it): the callers' frames, abstract heap and state ahead of the call, the wish, the exception, the state -/
abbrev CXT := List Env → Hp → Shared → XK → Value → Shared → Prop

/-- the state at a call -/
structure Env0 (P : Program) (w : World) (K : PySem.W.Frag) (mg : Str → Option Value) (base : Heap) (A : Around) (outer : List Env) (s : Shared) (H : Hp) : Prop where
  frames : A.frames = some outer
  mod : Mod K mg base
  bs : ∀ b o, base.get? b = some o → s.heap.get? b = some o ∧ H b = none
  bsz : base.objs.size ≤ s.heap.objs.size
  funs : s.heap.FunFrames base outer
  frf : ∀ b ∈ frs outer, H b = none
  hok : HOk P w H s.heap
  bare : AllBare s.gens
/-- a call's end -/
def CE (outer : List Env) (P : Program) (w : World) (H : Hp) (s : Shared) (Q : VK) (u : Value) (s' : Shared) : Prop :=
  ∃ v H', s'.os = s.os ∧ AllBare s'.gens ∧ Un (frs outer) [] H H' s.heap s'.heap ∧ HOk P w H' s'.heap ∧ RelV v u ∧ Q v H'
def CR (CX : CXT) (outer : List Env) (P : Program) (w : World) (H : Hp) (s : Shared) (Q : VK) (E : XK) (r : Result) (s' : Shared) : Prop :=
  match r with
  | .ok (.ret u) => CE outer P w H s Q u s'
  | .ok _ => False
  | .error e => CX outer H s E e s'
structure FnOk (P : Program) (w : World) (K : PySem.W.Frag) (mg : Str → Option Value) (base : Heap) (CX : CXT) (k : Nat) (f : Addr) (fd : FuncData) (ps : List Str) (sp : Sp) : Prop where
  len : ∀ vs H Q E, sp vs H Q E → vs.length = ps.length
  run : ∀ (A : Around) (outer : List Env) (s : Shared) (H : Hp) (args : Args) (us : List Value) (vs : List V) (Q : VK) (E : XK), Room k A → Env0 P w K mg base A outer s H → BindsTo s fd args (ps.zip us) → Vals vs us → sp vs H Q E →
    codeAny (model P w) A (.call (.ref f) args) (CR CX outer P w H s Q E) s
theorem FnOk.mono {P : Program} {w : World} {K : PySem.W.Frag} {mg : Str → Option Value} {base : Heap} {CX : CXT} {j k : Nat} {f : Addr} {fd : FuncData} {ps : List Str} {sp : Sp} (F : FnOk P w K mg base CX j f fd ps sp) (h : j ≤ k) :
    FnOk P w K mg base CX k f fd ps sp := ⟨F.len, fun A outer s H args us vs Q E hr => F.run A outer s H args us vs Q E (hr.mono h)⟩
/-- a weaker promise -/
theorem FnOk.imp {P : Program} {w : World} {K : PySem.W.Frag} {mg : Str → Option Value} {base : Heap} {CX : CXT} {k : Nat} {f : Addr} {fd : FuncData} {ps : List Str} {sp sp' : Sp} (F : FnOk P w K mg base CX k f fd ps sp)
    (h : ∀ vs H Q E, sp' vs H Q E → sp vs H Q E) : FnOk P w K mg base CX k f fd ps sp' :=
  ⟨fun vs H Q E q => F.len vs H Q E (h _ _ _ _ q), fun A outer s H args us vs Q E hr he hb hv hs => F.run A outer s H args us vs Q E hr he hb hv (h _ _ _ _ hs)⟩

theorem Env0.make {P : Program} {w : World} {K : PySem.W.Frag} {mg : Str → Option Value} {base : Heap} {A : Around} {outer : List Env} {s : Shared} {H : Hp} (e : Env0 P w K mg base A outer s H) (C : Addr) (us : List Value) (kw : List (Str × Value)) :
    Env0 P w K mg base (A.under (.builtin "type.__call__" ⟨.ref C :: us, kw⟩)) outer s H := ⟨by first | exact e.frames | (simpa [Around.under, Code.envs, Code.isFrame, pushEnvs] using e.frames), e.mod, e.bs, e.bsz, e.funs, e.frf, e.hok, e.bare⟩
theorem Env0.in1 {P : Program} {w : World} {K : PySem.W.Frag} {mg : Str → Option Value} {base : Heap} {A : Around} {outer : List Env} {s : Shared} {H : Hp} (e : Env0 P w K mg base A outer s H) :
    Env0 P w K mg base A.in1 outer s H := ⟨e.frames, e.mod, e.bs, e.bsz, e.funs, e.frf, e.hok, e.bare⟩

section
variable {X : Cx} {pins : List (Addr × Obj)} {σ : St} {H : Hp} {s s' : Shared}
/-- from a body: what a callee wants -/
theorem Inv.env0 (I : Inv X pins σ H s) : Env0 X.prog X.w X.K X.mg X.base X.A X.stack s H :=
  ⟨I.ok.frames, I.ok.mod, I.bs, Nat.le_trans I.ok.bsz I.sz, I.stack, I.stkFree, I.hok, I.bare⟩
/-- behind a call -/
theorem Inv.after {Q : VK} {u : Value} (I : Inv X pins σ H s) (h : CE X.stack X.prog X.w H s Q u s') : EP X pins σ Q u s' := by
  obtain ⟨v, H', os, bare, un, hok, r, q⟩ := h
  obtain ⟨hh, g, d, t, os'⟩ := s'
  obtain rfl : os' = s.os := os
  exact ⟨v, H', I.call (h' := hh) (g' := g) (d' := d) (t' := t) (ch := []) un hok bare (fun b z => absurd z (by simp)), r, q⟩
end

/-! ### calls -/
/-- f(..): the written arguments, then the defaults dvs; E: what is wanted of an exception -/
def tCall (sp : Sp) (dvs : List V) (E : XK) (t : TA) : TE := fun σ H Q => t σ H fun vs H1 => sp (vs ++ dvs) H1 Q E
/-- o.m(..) of an instance of the class at C -/
def tMeth (C : Addr) (m : Str) (sp : Sp) (dvs : List V) (E : XK) (ta : TE) (t : TA) : TE := fun σ H Q => ta σ H fun x H1 => ∃ a dx fs, x = .ref a ∧ H1 a = some (.ins C dx fs) ∧ fs.lookup m = none ∧
  t σ H1 fun vs H2 => sp (x :: (vs ++ dvs)) H2 Q E
/-- C(..): a new instance and its dict, then __init__ -/
def tMake (C : Addr) (sp : Sp) (dvs : List V) (E : XK) (t : TA) : TE := fun σ H Q => t σ H fun vs H1 => ∀ x dx, H1 x = none → H1 dx = none → dx ≠ x →
  sp (.ref x :: (vs ++ dvs)) (upd (upd H1 dx (.own x)) x (.ins C dx [])) (fun v H2 => v = .non ∧ Q (.ref x) H2) E

/-- how the parameters are bound: us the positional arguments, kw the keywords' values by name, ds the defaults that fill up -/
def Binds (K : PySem.W.Frag) (fd : FuncData) (ps : List Str) (ds : List Value) : Prop :=
  ∀ (s : Shared) (us : List Value), K.In s.heap → (us ++ ds).length = ps.length → BindsTo s fd ⟨us, []⟩ (ps.zip (us ++ ds))
/-- every parameter is given -/
theorem Binds.all {K : PySem.W.Frag} {fd : FuncData} {ps : List Str} (h : ∀ us : List Value, us.length = ps.length → bindArgs fd ⟨us, []⟩ = pure (ps.zip us)) : Binds K fd ps [] := fun s us _ hl => by
  rw [List.append_nil] at hl ⊢
  exact .of_eq (h us hl)

/-- an exception of a callee reaches what this body wants of exceptions -/
def Passes (CX : CXT) (X : Cx) (E : XK) : Prop := ∀ (pins : List (Addr × Obj)) (σ : St) (H : Hp) (s : Shared) (e : Value) (s' : Shared), Inv X pins σ H s → CX X.stack H s E e s' → X.xe e s'

section
variable {X : Cx} {CX : CXT} {k : Nat} {f C : Addr} {fd : FuncData} {ps : List Str} {sp : Sp} {dvs : List V} {ds : List Value} {E : XK} {x m : Str} {p pos apos : Pos} {e o : Expr} {es : List Expr} {ta : TE} {t : TA}

/-- the callee runs -/
theorem run_fn {pins : List (Addr × Obj)} {σ : St} {H : Hp} {s : Shared} {Q : VK} {us : List Value} {vs : List V} (F : FnOk X.prog X.w X.K X.mg X.base CX k f fd ps sp) (hr : Room k X.A) (hb : Binds X.K fd ps ds) (hd : Vals dvs ds) (hx : Passes CX X E)
    (I : Inv X pins σ H s) (r : Vals vs us) (h : sp (vs ++ dvs) H Q E) : wpAny (model X.prog X.w) X.A (call (.ref f) us) (EP X pins σ Q) X.xe s := by
  have r2 : Vals (vs ++ dvs) (us ++ ds) := r.append hd
  have hl : (us ++ ds).length = ps.length := by rw [← r2.length]; exact F.len _ _ _ _ h
  refine wpAny_call (codeAny_mono (F.run X.A X.stack s H ⟨us, []⟩ (us ++ ds) (vs ++ dvs) Q E hr I.env0 (hb s us I.kIn hl) r2 h) fun r s' hq => ?_)
  cases r with
  | error e => exact hx pins σ H s e s' I hq
  | ok fl =>
    cases fl with
    | ret u => exact I.after hq
    | next => exact False.elim hq
    | brk => exact False.elim hq
    | cont => exact False.elim hq

theorem pe_call (F : FnOk X.prog X.w X.K X.mg X.base CX k f fd ps sp) (hr : Room k X.A) (hg : Gl X x) (hm : X.mg x = some (.ref f)) (hk : PySem.W.keepIn X.K (.ref f) = true) (hb : Binds X.K fd ps ds) (hd : Vals dvs ds) (hx : Passes CX X E)
    (ha : PA X (e :: es) t) (hdb : (x == ("__debug__" : Str)) = false := by decide) (he : starEach (e :: es) X.env = (false, eval e X.env) :: starEach es X.env := by rfl) (hpl : (backTo pos (starEach es X.env)).any (·.1) = false := by rfl) :
    PE X (.Call (.Name x p) (e :: es) [] pos) (tCall sp dvs E t) := by
  intro pins s σ H Q I h
  refine wpAny_Call_Name_kw (ld_glob I hg hm ?_ hdb)
  refine PySem.W.callWith_K (h₀ := X.base) I.ok.mod.kin hk (thn (ha pos pins s σ H _ I h) fun us s1 ⟨vs, H1, I1, r, q⟩ => ⟨I1.kIn, ?_⟩) he hpl
  exact run_fn F hr hb hd hx I1 r q
theorem pe_call0 (F : FnOk X.prog X.w X.K X.mg X.base CX k f fd ps sp) (hr : Room k X.A) (hg : Gl X x) (hm : X.mg x = some (.ref f)) (hk : PySem.W.keepIn X.K (.ref f) = true) (hb : Binds X.K fd ps ds) (hd : Vals dvs ds) (hx : Passes CX X E)
    (hdb : (x == ("__debug__" : Str)) = false := by decide) : PE X (.Call (.Name x p) [] [] pos) (tCall sp dvs E tNil) := by
  intro pins s σ H Q I h
  refine wpAny_Call_Name_kw (ld_glob I hg hm ?_ hdb)
  exact PySem.W.callWith_K0 I.kIn hk (run_fn (us := []) F hr hb hd hx I .nil h)

/-- o.m(e, ..) -/
theorem pe_meth {pl : Sem Bool} (he : PE X o ta) (c : Cls X.K C) (hm : Meth X.K C m f) (F : FnOk X.prog X.w X.K X.mg X.base CX k f fd ps sp) (hr : Room k X.A) (hb : Binds X.K fd ps ds) (hd : Vals dvs ds) (hx : Passes CX X E) (ha : PA X (e :: es) t)
    (hst : starEach (e :: es) X.env = (false, eval e X.env) :: starEach es X.env := by rfl) (hpl : (backTo pos (starEach es X.env)).any (·.1) = false := by rfl)
    (ht : eval (.Call (.Attribute o m apos) (e :: es) [] pos) X.env = (do
      let ov ← eval o X.env
      standAt apos.atName
      let (f, first) ← holding [ov] (getMethod ov m pl)
      callWith pos f first (backTo pos (starEach (e :: es) X.env)) (backToKw pos (keywordEach [] X.env))) := by rfl) :
    PE X (.Call (.Attribute o m apos) (e :: es) [] pos) (tMeth C m sp dvs E ta t) := by
  intro pins s σ H Q I h
  refine PySem.W.methodCall_KW (pl := pl) (thn (he pins s σ H _ I h) fun u s1 ⟨x, H1, I1, rx, a, dx, fs, ex, ea, l, q⟩ => ?_) ht
  subst ex
  obtain rfl : u = Value.ref a := rx
  refine getmeth_ok I1 ea c hm l ?_
  refine PySem.W.callWith_K (first := [.ref a]) (h₀ := X.base) I.ok.mod.kin hm.kp (thn (ha pos pins s1 σ H1 _ I1 q) fun us s2 ⟨vs, H2, I2, r, q2⟩ => ⟨I2.kIn, ?_⟩) hst hpl
  exact run_fn (us := .ref a :: us) (vs := .ref a :: vs) F hr hb hd hx I2 (.cons rfl r) q2
/-- o.m() -/
theorem pe_meth0 {pl : Sem Bool} (he : PE X o ta) (c : Cls X.K C) (hm : Meth X.K C m f) (F : FnOk X.prog X.w X.K X.mg X.base CX k f fd ps sp) (hr : Room k X.A) (hb : Binds X.K fd ps ds) (hd : Vals dvs ds) (hx : Passes CX X E)
    (ht : eval (.Call (.Attribute o m apos) [] [] pos) X.env = (do
      let ov ← eval o X.env
      standAt apos.atName
      let (f, first) ← holding [ov] (getMethod ov m pl)
      callWith pos f first (backTo pos (starEach [] X.env)) (backToKw pos (keywordEach [] X.env))) := by rfl) :
    PE X (.Call (.Attribute o m apos) [] [] pos) (tMeth C m sp dvs E ta tNil) := by
  intro pins s σ H Q I h
  refine PySem.W.methodCall_KW (pl := pl) (thn (he pins s σ H _ I h) fun u s1 ⟨x, H1, I1, rx, a, dx, fs, ex, ea, l, q⟩ => ?_) ht
  subst ex
  obtain rfl : u = Value.ref a := rx
  refine getmeth_ok I1 ea c hm l ?_
  exact PySem.W.callWith_K0 (first := [.ref a]) I1.kIn hm.kp (run_fn (us := [.ref a]) (vs := [.ref a]) F hr hb hd hx I1 (.cons rfl .nil) q)

/-- what a class must have to be made -/
structure Mk (K : PySem.W.Frag) (C f : Addr) : Prop where
  makes : PySem.W.makesIn K C = true
  init : PySem.W.findIn K (.ref C) "__init__" = some (some (.ref f))
  fn : PySem.W.isFn K (.ref f) = true
  kp : PySem.W.keepIn K (.ref C) = true

theorem run_make {pins : List (Addr × Obj)} {σ : St} {H : Hp} {s : Shared} {Q : VK} {us : List Value} {vs : List V} (M : Mk X.K C f) (F : FnOk X.prog X.w X.K X.mg X.base CX k f fd ps sp) (hr : Room (k + 1) X.A) (hb : Binds X.K fd ps ds) (hd : Vals dvs ds)
    (hx : Passes CX X E) (I : Inv X pins σ H s) (r : Vals vs us)
    (h : ∀ x dx, H x = none → H dx = none → dx ≠ x → sp (.ref x :: (vs ++ dvs)) (upd (upd H dx (.own x)) x (.ins C dx [])) (fun v H2 => v = .non ∧ Q (.ref x) H2) E) :
    wpAny (model X.prog X.w) X.A (call (.ref C) us) (EP X pins σ Q) X.xe s := by
  have hq := h (s.heap.objs.size + 1) s.heap.objs.size (I.hok.fresh (Nat.le_succ _)) (I.hok.fresh (Nat.le_refl _)) (Nat.ne_of_lt (Nat.lt_succ_self _))
  have I2 := Inv.made (C := C) I
  have r2 : Vals (V.ref (s.heap.objs.size + 1) :: (vs ++ dvs)) (Value.ref (s.heap.objs.size + 1) :: (us ++ ds)) := .cons rfl (r.append hd)
  have hl : (Value.ref (s.heap.objs.size + 1) :: us ++ ds).length = ps.length := by
    have e := r2.length
    rw [F.len _ _ _ _ hq] at e
    exact e.symm
  refine wpAny_call (make_map (f := f) I.kIn M.makes M.init (beq_iff_eq.mp M.fn) (codeAny_mono (F.run _ X.stack _ _ ⟨Value.ref (s.heap.objs.size + 1) :: us, []⟩ (Value.ref (s.heap.objs.size + 1) :: (us ++ ds)) _ _ E (hr.make C us [])
    (I2.env0.make C us []) (hb _ (Value.ref (s.heap.objs.size + 1) :: us) I2.kIn hl) r2 hq) fun r s' hq' => ?_))
  cases r with
  | error e => exact hx pins σ _ _ e s' I2 hq'
  | ok fl =>
    cases fl with
    | ret u =>
      obtain ⟨v, H', I3, rv, ev, q3⟩ := I2.after hq'
      subst ev
      exact ⟨rv, ⟨V.ref (s.heap.objs.size + 1), H', I3, rfl, q3⟩⟩
    | next => exact False.elim hq'
    | brk => exact False.elim hq'
    | cont => exact False.elim hq'
theorem pe_make (M : Mk X.K C f) (F : FnOk X.prog X.w X.K X.mg X.base CX k f fd ps sp) (hr : Room (k + 1) X.A) (hg : Gl X x) (hm : X.mg x = some (.ref C)) (hb : Binds X.K fd ps ds) (hd : Vals dvs ds) (hx : Passes CX X E)
    (ha : PA X (e :: es) t) (hdb : (x == ("__debug__" : Str)) = false := by decide) (he : starEach (e :: es) X.env = (false, eval e X.env) :: starEach es X.env := by rfl) (hpl : (backTo pos (starEach es X.env)).any (·.1) = false := by rfl) :
    PE X (.Call (.Name x p) (e :: es) [] pos) (tMake C sp dvs E t) := by
  intro pins s σ H Q I h
  refine wpAny_Call_Name_kw (ld_glob I hg hm ?_ hdb)
  refine PySem.W.callWith_K (h₀ := X.base) I.ok.mod.kin M.kp (thn (ha pos pins s σ H _ I h) fun us s1 ⟨vs, H1, I1, r, q⟩ => ⟨I1.kIn, ?_⟩) he hpl
  exact run_make M F hr hb hd hx I1 r q
theorem pe_make0 (M : Mk X.K C f) (F : FnOk X.prog X.w X.K X.mg X.base CX k f fd ps sp) (hr : Room (k + 1) X.A) (hg : Gl X x) (hm : X.mg x = some (.ref C)) (hb : Binds X.K fd ps ds) (hd : Vals dvs ds) (hx : Passes CX X E)
    (hdb : (x == ("__debug__" : Str)) = false := by decide) : PE X (.Call (.Name x p) [] [] pos) (tMake C sp dvs E tNil) := by
  intro pins s σ H Q I h
  refine wpAny_Call_Name_kw (ld_glob I hg hm ?_ hdb)
  exact PySem.W.callWith_K0 I.kIn M.kp (run_make (us := []) M F hr hb hd hx I .nil h)
end

/-! ### keywords -/
/-- the values of the keywords, from the left -/
def PK (X : Cx) (kws : List Keyword) (t : TA) : Prop :=
  ∀ (pos : Pos) (pins : List (Addr × Obj)) (s : Shared) (σ : St) (H : Hp) (Q : List V → Hp → Prop), Inv X pins σ H s → t σ H Q → wpAny (model X.prog X.w) X.A (evalAll ((backToKw pos (keywordEach kws X.env)).map (·.2))) (AP X pins σ Q) X.xe s
section
variable {X : Cx} {CX : CXT} {k : Nat} {f C : Addr} {fd : FuncData} {ps ks : List Str} {sp : Sp} {E : XK} {x m : Str} {p pos apos kpos : Pos} {e o : Expr} {es : List Expr} {kws : List Keyword} {te ta : TE} {t tk : TA} {nm : Option Str}
theorem pk_nil : PK X [] tNil := fun _ _ _ _ H Q I h => wpAny_evalAll_nil ⟨[], H, I, .nil, h⟩
theorem pk_cons (ha : PE X e te) (hr : PK X kws t) : PK X (⟨nm, e, kpos⟩ :: kws) (tCons te t) := by
  intro pos pins s σ H Q I h
  show wpAny _ _ (evalAll ((do let v ← eval e X.env; standAt pos; pure v) :: (backToKw pos (keywordEach kws X.env)).map (·.2))) _ _ s
  refine wpAny_evalAll_cons (wpAny_bind (thn (ha pins s σ H _ I h) fun u s1 ⟨x, H1, I1, r1, q1⟩ => wpAny_bind (wpAny_standAt (wpAny_pure ?_))))
  exact thn (hr pos pins s1 σ H1 _ I1 q1) fun us s2 ⟨xs, H2, I2, r2, q2⟩ => ⟨x :: xs, H2, I2, .cons r1 r2, q2⟩

/-- how a call with keywords binds: g puts the positional values us and the keywords' values ws (names ks) in the parameters' order, defaults among them -/
structure KBinds (K : PySem.W.Frag) (fd : FuncData) (ps ks : List Str) (g : List Value → List Value → List Value) (gV : List V → List V → List V) : Prop where
  to : ∀ (s : Shared) (us ws : List Value), K.In s.heap → (g us ws).length = ps.length → BindsTo s fd ⟨us, ks.zip ws⟩ (ps.zip (g us ws))
  rel : ∀ {vs : List V} {us : List Value} {zs : List V} {ws : List Value}, Vals vs us → Vals zs ws → Vals (gV vs zs) (g us ws)
def tCallK (sp : Sp) (gV : List V → List V → List V) (E : XK) (t tk : TA) : TE := fun σ H Q => t σ H fun vs H1 => tk σ H1 fun zs H2 => sp (gV vs zs) H2 Q E
variable {g : List Value → List Value → List Value} {gV : List V → List V → List V}
theorem run_fnk {pins : List (Addr × Obj)} {σ : St} {H : Hp} {s : Shared} {Q : VK} {us ws : List Value} {vs zs : List V} (F : FnOk X.prog X.w X.K X.mg X.base CX k f fd ps sp) (hr : Room k X.A) (hb : KBinds X.K fd ps ks g gV) (hx : Passes CX X E)
    (I : Inv X pins σ H s) (r : Vals vs us) (rz : Vals zs ws) (h : sp (gV vs zs) H Q E) : wpAny (model X.prog X.w) X.A (call (.ref f) us (ks.zip ws)) (EP X pins σ Q) X.xe s := by
  have r2 := hb.rel r rz
  have hl : (g us ws).length = ps.length := by rw [← r2.length]; exact F.len _ _ _ _ h
  refine wpAny_call (codeAny_mono (F.run X.A X.stack s H ⟨us, ks.zip ws⟩ (g us ws) (gV vs zs) Q E hr I.env0 (hb.to s us ws I.kIn hl) r2 h) fun r s' hq => ?_)
  cases r with
  | error e => exact hx pins σ H s e s' I hq
  | ok fl =>
    cases fl with
    | ret u => exact I.after hq
    | next => exact False.elim hq
    | brk => exact False.elim hq
    | cont => exact False.elim hq
/-- f(e, .., k = v, ..) -/
theorem pe_callK (F : FnOk X.prog X.w X.K X.mg X.base CX k f fd ps sp) (hr : Room k X.A) (hg : Gl X x) (hm : X.mg x = some (.ref f)) (hk : PySem.W.keepIn X.K (.ref f) = true) (hb : KBinds X.K fd ps ks g gV) (hx : Passes CX X E)
    (ha : PA X (e :: es) t) (hkw : PK X kws tk) (hall : (backToKw pos (keywordEach kws X.env)).all (·.1.isSome) = true := by rfl) (hks : (backToKw pos (keywordEach kws X.env)).filterMap (·.1) = ks := by rfl)
    (hdb : (x == ("__debug__" : Str)) = false := by decide) (he : starEach (e :: es) X.env = (false, eval e X.env) :: starEach es X.env := by rfl)
    (hpl : ((backTo pos (starEach (e :: es) X.env)).any (·.1) || (backToKw pos (keywordEach kws X.env)).any (·.1.isNone)) = false := by rfl) :
    PE X (.Call (.Name x p) (e :: es) kws pos) (tCallK sp gV E t tk) := by
  intro pins s σ H Q I h
  refine wpAny_Call_Name_kw (ld_glob I hg hm ?_ hdb)
  refine PySem.W.callWith_KW (h₀ := X.base) I.ok.mod.kin hk hall (thn (ha pos pins s σ H _ I h) fun us s1 ⟨vs, H1, I1, r, q⟩ => ?_) hpl he
  refine thn (hkw pos pins s1 σ H1 _ I1 q) fun ws s2 ⟨zs, H2, I2, rz, q2⟩ => ⟨I2.kIn, ?_⟩
  rw [hks]
  exact run_fnk F hr hb hx I2 r rz q2
end

/-! ### a def's body keeps its promise -/
/-- names: the parameters first -/
structure FnScope (N P : List Str) (sc : Scope) : Prop where
  kind : sc.kind = .function
  co : sc.isCoroutine = false
  gen : sc.isGenerator = false
  nd : N.Nodup
  pre : N.take P.length = P
  par : ∀ x ∈ P, sc.names.lookup x = some .local ∨ sc.names.lookup x = some .cell
  nofree : ∀ y ∈ sc.names, y.2 ≠ .free

theorem bindL_out {kindOf : Str → Option NameKind} {x : Str} : ∀ {binds : List (Str × Value)} {m : Str → Option Value}, (∀ v, (x, v) ∉ binds) → bindL kindOf binds m x = m x
  | [], _, _ => rfl
  | (n, v) :: r, m, h => by
    unfold bindL
    rw [bindL_out fun w hw => h w (List.mem_cons_of_mem _ hw)]
    split
    · have : x ≠ n := by rintro rfl; exact h v List.mem_cons_self
      simp [this]
    · rfl
theorem bindC_out {kindOf : Str → Option NameKind} {x : Str} : ∀ {binds : List (Str × Value)} {m : Str → Option Value}, (∀ v, (x, v) ∉ binds) → bindC kindOf binds m x = m x
  | [], _, _ => rfl
  | (n, v) :: r, m, h => by
    unfold bindC
    rw [bindC_out fun w hw => h w (List.mem_cons_of_mem _ hw)]
    split
    · rfl
    · have : x ≠ n := by rintro rfl; exact h v List.mem_cons_self
      simp [this]
theorem bindL_get {kindOf : Str → Option NameKind} {x : Str} {v : Value} : ∀ {P : List Str} {vs : List Value} {i : Nat} {m : Str → Option Value}, P.Nodup → P[i]? = some x → vs[i]? = some v → kindOf x = some .local →
    bindL kindOf (P.zip vs) m x = some v
  | [], _, _, _, _, h, _, _ => by simp at h
  | _ :: _, [], _, _, _, _, h, _ => by simp at h
  | p :: P, w :: vs, 0, m, nd, h1, h2, hk => by
    simp at h1 h2; subst h1; subst h2
    show bindL kindOf ((p, w) :: P.zip vs) m p = _
    unfold bindL
    rw [bindL_out fun v hv => (List.nodup_cons.mp nd).1 (List.of_mem_zip hv).1, if_pos hk]
    simp
  | p :: P, w :: vs, i + 1, m, nd, h1, h2, hk => by
    show bindL kindOf ((p, w) :: P.zip vs) m x = _
    unfold bindL
    exact bindL_get (i := i) (List.nodup_cons.mp nd).2 (by simpa using h1) (by simpa using h2) hk
theorem bindC_get {kindOf : Str → Option NameKind} {x : Str} {v : Value} : ∀ {P : List Str} {vs : List Value} {i : Nat} {m : Str → Option Value}, P.Nodup → P[i]? = some x → vs[i]? = some v → kindOf x ≠ some .local →
    bindC kindOf (P.zip vs) m x = some v
  | [], _, _, _, _, h, _, _ => by simp at h
  | _ :: _, [], _, _, _, _, h, _ => by simp at h
  | p :: P, w :: vs, 0, m, nd, h1, h2, hk => by
    simp at h1 h2; subst h1; subst h2
    show bindC kindOf ((p, w) :: P.zip vs) m p = _
    unfold bindC
    rw [bindC_out fun v hv => (List.nodup_cons.mp nd).1 (List.of_mem_zip hv).1, if_neg hk]
    simp
  | p :: P, w :: vs, i + 1, m, nd, h1, h2, hk => by
    show bindC kindOf ((p, w) :: P.zip vs) m x = _
    unfold bindC
    exact bindC_get (i := i) (List.nodup_cons.mp nd).2 (by simpa using h1) (by simpa using h2) hk

/-- the names' values at the entry -/
def start (N : List Str) (vs : List V) : St := vs.map some ++ List.replicate (N.length - vs.length) none

/-- the context of a def's body, at its entry; an exception leaves the frame, then lies as CX says -/
def cxOf (CX : CXT) (P : Program) (w : World) (K : PySem.W.Frag) (mg : Str → Option Value) (base : Heap) (N : List Str) (qual : Str) (scope : Scope) (f : Addr) (cd : Value) (A : Around) (outer : List Env) (s : Shared) (H : Hp) (E : XK) : Cx where
  prog := P
  w := w
  K := K
  mg := mg
  base := base
  A := A.deeper (envOfC qual scope s.heap.objs.size f cd)
  N := N
  s₀ := s
  H₀ := H
  env := envOfC qual scope s.heap.objs.size f cd
  outer := outer
  stack := envOfC qual scope s.heap.objs.size f cd :: outer
  ex := []
  calm := true
  fn := fun _ => true
  pn := []
  xe := fun e s' => wpAny (model P w) (A.deeper (envOfC qual scope s.heap.objs.size f cd)) (leaving (envOfC qual scope s.heap.objs.size f cd) e) (fun _ s'' => CX outer H s E e s'') (fun e' s'' => CX outer H s E e' s'') s'

theorem cell_has {sc : Scope} {n : Nat} {x : Str} (h : sc.names.lookup x = some .cell) : ∃ c, (cellsFrom n sc.names []).lookup x = some c := by
  have q := PySem.W.cellsFrom_some sc.names n [] (.inl h)
  exact Option.isSome_iff_exists.mp q

theorem inv_start {CX : CXT} {P : Program} {w : World} {K : PySem.W.Frag} {mg : Str → Option Value} {base : Heap} {N ps : List Str} {qual : Str} {scope : Scope} {f : Addr} {cd : Value} {A : Around} {outer : List Env} {s s1 : Shared} {H : Hp} {E : XK} {us : List Value} {vs : List V}
    (S : FnScope N ps scope) (hd : A.handled = none) (e0 : Env0 P w K mg base A outer s H) (hl : vs.length = ps.length) (r : Vals vs us)
    (x : InCallC s s.heap.objs.size (bindL (envOfC qual scope s.heap.objs.size f cd).kindOf (ps.zip us) fun _ => none) (cellsFrom (s.heap.objs.size + 1) scope.names []) (bindC (envOfC qual scope s.heap.objs.size f cd).kindOf (ps.zip us) fun _ => none) s1) :
    Inv (cxOf CX P w K mg base N qual scope f cd A outer s H E) [] (start N vs) H s1 := by
  have hpl : ps.length ≤ N.length := by have := congrArg List.length S.pre; rw [List.length_take] at this; omega
  obtain ⟨h1, tk, rfl, hk⟩ := x.done
  have noA : ∀ b : Addr, b ∉ (cxOf CX P w K mg base N qual scope f cd A outer s H E).ex := fun b z => absurd (show b ∈ ([] : List Addr) from z) (by simp)
  refine ⟨⟨e0.mod, S.kind, rfl, rfl, Nat.le_refl _, fun y z c h1 h2 => ?_, fun y hy => ?_, fun y c _ h => ?_, fun _ => hd, Around.frames_deeper e0.frames, .inr ⟨rfl, rfl⟩, fun b z => absurd z (noA b), e0.bs, e0.bsz, fun b _ _ => noA b, fun b z => absurd z (noA b), e0.funs, e0.frf⟩,
    rfl, e0.bare, Un.kept hk, ⟨_, x.toInCall.ns, fun i y v h1 h2 h3 => ?_⟩, fun y c h => ⟨_, x.cell y c h⟩, e0.hok.fresh (Nat.le_refl _), fun y c h => ?_, fun p hp => absurd (show p ∈ ([] : List (Addr × Obj)) from hp) (by simp), e0.hok.kept hk, ?_⟩
  · exact name_of_addr x.apart (PySem.mem_of_lookup h1) (PySem.mem_of_lookup h2)
  · have hy : scope.names.lookup y = some .cell ∨ scope.names.lookup y = some .free := hy
    rcases hy with hy | hy
    · exact cell_has hy
    · exact absurd rfl (S.nofree _ (PySem.mem_of_lookup hy))
  · exact Nat.le_of_lt (x.above y c (PySem.mem_of_lookup h))
  · have hi : i < vs.length := by
      unfold start at h2
      by_cases hi : i < vs.length
      · exact hi
      · rw [List.getElem?_append_right (by simpa using hi)] at h2
        rw [List.getElem?_replicate] at h2
        split at h2 <;> cases h2
    have ha : vs[i]? = some v := by
      unfold start at h2
      rw [List.getElem?_append_left (by simpa using hi), List.getElem?_map] at h2
      cases e : vs[i]? with
      | none => rw [e] at h2; cases h2
      | some a => rw [e] at h2; cases h2; rfl
    obtain ⟨u, hu, rv⟩ := r.get ha
    have hp : ps[i]? = some y := by
      rw [← S.pre, List.getElem?_take_of_lt (by omega)]; exact h1
    have ndP : ps.Nodup := by rw [← S.pre]; exact S.nd.sublist (List.take_sublist _ _)
    refine ⟨u, rv, ?_⟩
    rcases S.par y (List.mem_of_getElem? hp) with k | k
    · exact .inl ⟨k, bindL_get ndP hp hu k⟩
    · obtain ⟨c, e⟩ := cell_has (n := s.heap.objs.size + 1) k
      refine .inr ⟨.inl k, c, e, ?_⟩
      have q := x.cell y c e
      rw [bindC_get ndP hp hu (by show scope.names.lookup y ≠ _; rw [k]; decide)] at q
      exact q
  · exact e0.hok.fresh (Nat.le_of_lt (x.above y c (PySem.mem_of_lookup h)))
  · unfold start
    show _ = N.length
    rw [List.length_append, List.length_map, List.length_replicate]
    omega

/-- THE RULE: a def (or a method) of the text, by its body. The body's reading t is chosen for each entry; it is run at the parameters' values -/
theorem fn_of {CX : CXT} {P : Program} {w : World} {K : PySem.W.Frag} {mg : Str → Option Value} {base : Heap} {k : Nat} {f : Addr} {name qual : Str} {params : Arguments} {body : List Stmt} {scope : Scope} {dV kV doc pm cdv ct oc : Value} {an od : Option Addr}
    {osl : Array (Option Value)} {N ps : List Str} {sp : Sp} (lk : K.lookup f = some ⟨oc, od, .func (PySem.W.fnOf name qual params body scope dV kV doc pm an cdv ct), osl⟩) (hcd : PySem.W.codeIn K cdv qual = true) (S : FnScope N ps scope)
    (len : ∀ vs H Q E, sp vs H Q E → vs.length = ps.length)
    (hbody : ∀ (A : Around) (outer : List Env) (s : Shared) (H : Hp) (vs : List V) (Q : VK) (E : XK), Room k (A.deeper (envOfC qual scope s.heap.objs.size f cdv)) → sp vs H Q E →
      ∃ t, PSs (cxOf CX P w K mg base N qual scope f cdv A outer s H E) body t ∧ t { nx := fun _ H' => Q .non H', rt := Q } (start N vs) H) :
    FnOk P w K mg base CX (k + 1) f (PySem.W.fnOf name qual params body scope dV kV doc pm an cdv ct) ps sp := by
  refine ⟨len, fun A outer s H args us vs Q E hr e0 hb r hsp => ?_⟩
  have hl := len _ _ _ _ hsp
  have KX : K.In s.heap := e0.mod.kin.keeps fun b o e => (e0.bs b o e).1
  have lim : s.heap.NoLimit := e0.mod.nolimit.keeps fun b o e => (e0.bs b o e).1
  have hkind : ∀ y ∈ ps.zip us, scope.names.lookup y.1 = some .local ∨ (scope.names.lookup y.1 = some .cell ∧ ((cellsFrom (s.heap.objs.size + 1) scope.names []).lookup y.1).isSome = true) := fun ⟨n, v⟩ hy => by
    rcases S.par n (List.of_mem_zip hy).1 with q | q
    · exact .inl q
    · exact .inr ⟨q, PySem.W.cellsFrom_some _ _ _ (.inl q)⟩
  refine codeAny_call_function hr.depth (KX _ _ lk) rfl S.co S.gen rfl (PySem.W.codeRec_of KX hcd) (hb _ _ _ _ ?_)
  refine wpAny_newFunctionEnv_cells S.kind hkind fun env he s1 x => ?_
  subst he
  refine ⟨lim.keeps x.toInCall.keep, codeAny_func ?_⟩
  obtain ⟨t, ht, hq⟩ := hbody A outer s H vs Q E (hr.deeper _) hsp
  have I : Inv (cxOf CX P w K mg base N qual scope f cdv A outer s H E) [] (start N vs) H s1 := inv_start S hr.hd e0 hl r x
  refine wpAny_mono (ht [] s1 (start N vs) H _ I hq) (fun fl s' hs => ?_) fun e s' hs => hs
  have fin : ∀ {σ' : St} {H' : Hp} {v : V} {u : Value}, Inv (cxOf CX P w K mg base N qual scope f cdv A outer s H E) [] σ' H' s' → RelV v u → Q v H' → CE outer P w H s Q u s' :=
    fun {σ' H' v u} J rv q => ⟨v, H', J.os, J.bare, J.base, J.hok, rv, q⟩
  cases fl with
  | ret u =>
    obtain ⟨v, σ', H', J, rv, q⟩ := hs
    exact fin J rv q
  | next =>
    obtain ⟨σ', H', J, q⟩ := hs
    exact fin (v := V.non) (u := Value.none) J rfl q
  | brk =>
    obtain ⟨_, _, _, q⟩ := hs
    exact False.elim q
  | cont =>
    obtain ⟨_, _, _, q⟩ := hs
    exact False.elim q
end L2

namespace L2
open PySem PySem.Spec PyProof.Rows
section
variable {X : Cx} {x : Str} {p pos : Pos} {e : Expr} {es : List Expr} {t : TA} {id T : String} {r : List V → Hp → VK → Prop}

def tCB (r : List V → Hp → VK → Prop) (t : TA) : TE := fun σ H Q => t σ H fun vs H1 => r vs H1 Q
/-- f(e, ..), f a built-in function -/
theorem pe_callB (hc : CallR X (.builtin id) r) (hg : Gl X x) (hm : X.mg x = none) (hv : bootBuiltins x = some (.builtin id)) (ha : PA X (e :: es) t) (hn : x ≠ "__name__" := by decide) (hdb : (x == ("__debug__" : Str)) = false := by decide)
    (he : starEach (e :: es) X.env = (false, eval e X.env) :: starEach es X.env := by rfl) (hpl : (backTo pos (starEach es X.env)).any (·.1) = false := by rfl) : PE X (.Call (.Name x p) (e :: es) [] pos) (tCB r t) := by
  intro pins s σ H Q I h
  refine wpAny_Call_Name_kw (ld_blt I hg hm hv ?_ hn hdb)
  exact PyProof.Rows.callWith_builtin1 (thn (ha pos pins s σ H _ I h) fun us s1 ⟨vs, H1, I1, r1, q1⟩ => hc pins s1 σ H1 vs us Q I1 r1 q1) he hpl
/-- T(e, ..), T a built-in type -/
theorem pe_callTy (hc : CallR X (.type T) r) (hg : Gl X x) (hm : X.mg x = none) (hv : bootBuiltins x = some (.type T)) (ha : PA X (e :: es) t) (hn : x ≠ "__name__" := by decide) (hdb : (x == ("__debug__" : Str)) = false := by decide)
    (he : starEach (e :: es) X.env = (false, eval e X.env) :: starEach es X.env := by rfl) (hpl : (backTo pos (starEach es X.env)).any (·.1) = false := by rfl) : PE X (.Call (.Name x p) (e :: es) [] pos) (tCB r t) := by
  intro pins s σ H Q I h
  refine wpAny_Call_Name_kw (ld_blt I hg hm hv ?_ hn hdb)
  exact PyProof.Rows.callWith_type1 (thn (ha pos pins s σ H _ I h) fun us s1 ⟨vs, H1, I1, r1, q1⟩ => hc pins s1 σ H1 vs us Q I1 r1 q1) he hpl
/-- T() -/
theorem pe_callTy0 (hc : CallR X (.type T) r) (hg : Gl X x) (hm : X.mg x = none) (hv : bootBuiltins x = some (.type T)) (hn : x ≠ "__name__" := by decide) (hdb : (x == ("__debug__" : Str)) = false := by decide) :
    PE X (.Call (.Name x p) [] [] pos) (tCB r tNil) := by
  intro pins s σ H Q I h
  refine wpAny_Call_Name_kw (ld_blt I hg hm hv ?_ hn hdb)
  exact PyProof.Rows.callWith_type0 (hc pins s σ H [] [] Q I .nil h)
end
end L2

namespace HT
open PySem PyProof.Rows

/-- t < u of tuples of ints -/
def lexLt : List Int → List Int → Bool
  | [], [] => false
  | [], _ :: _ => true
  | _ :: _, [] => false
  | x :: xs, y :: ys => if x = y then lexLt xs ys else decide (x < y)
theorem lexLt_cons (x y : Int) (xs ys : List Int) : lexLt (x :: xs) (y :: ys) = if x = y then lexLt xs ys else decide (x < y) := rfl
theorem lexLt_nil_nil : lexLt [] [] = false := rfl
theorem lexLt_nil_cons (y : Int) (ys : List Int) : lexLt [] (y :: ys) = true := rfl
theorem lexLt_cons_nil (x : Int) (xs : List Int) : lexLt (x :: xs) [] = false := rfl

theorem eqAt_int (A : Around) (s : Shared) (a : Int) (t : Tok) (c : Int) (u : Tok) : ∃ e, SeqAt.EqAt A s (.int a t) (.int c u) e ∧ (e = true ↔ a = c) :=
  ⟨(a == c), SeqAt.EqAt.int_int a t c u, by simp⟩
theorem rcLt_int (A : Around) (s : Shared) (a : Int) (t : Tok) (c : Int) (u : Tok) (prog : Program) (w : World) (E : Value → Shared → Prop) (Q : Value → Shared → Prop) (h : Q (.bool (decide (a < c))) s) :
    wpAny (model prog w) A (richCompare .Lt (.int a t) (.int c u)) Q E s :=
  (PyProof.Rows.lt_int h : wpAny (model prog w) A (compareOp .Lt (.int a t) (.int c u)) Q E s)

section
open PySem.SeqAt
open PySem.AutoSeq1 (wpAny_loadPart')
open PySem.MeetsSeq PySem.MeetsSeq2 PySem.MeetsSeq3

theorem tuple_lt_ints (l b : Addr) (items items2 : Array Value) (n n2 : Nat) (dd dd2 : Option Addr) (sl sl2 : Array (Option Value)) (ns ms : List Int) (hi : IntsAre items.toList ns) (hj : IntsAre items2.toList ms) :
    Meets (Builtin.«tuple.__lt__» ⟨[.ref l, .ref b], []⟩)
      (fun _ R s => s.heap.get? l = some { cls := .type "tuple", dict := dd, data := .seq items n, slots := sl } ∧ s.heap.get? b = some { cls := .type "tuple", dict := dd2, data := .seq items2 n2, slots := sl2 } ∧
        R (.ok (.ret (.bool (lexLt ns ms)))) s) :=
  .of_wp fun prog w A R s h => by
    obtain ⟨hp, g, d, tk, os⟩ := s; obtain ⟨hl, hb, h⟩ := h
    have f2 := AutoSeq1.sub_tuple_tuple
    have z1 : items.size = ns.length := by rw [← hi.length]; simp
    have z2 : items2.size = ms.length := by rw [← hj.length]; simp
    wp_walk using wpAny_loadPart' hl, wpAny_loadPart' hb, wpAny_forIn_list _ (fun rest b s' => b.1 = none ∧ s' = ⟨hp, g, d, tk, os⟩ ∧ ∃ (vs ws : List Value) (ns' ms' : List Int), rest = vs.zip ws ∧
      IntsAre vs ns' ∧ IntsAre ws ms' ∧ ns'.length + items2.size = ms'.length + items.size ∧ R (.ok (.ret (.bool (lexLt ns' ms')))) ⟨hp, g, d, tk, os⟩) _
    case turn =>
      rintro ⟨y, x⟩ rest b s' ⟨hb', rfl, vs, ws, ns', ms', hz, hvi, hwi, hlen, hR⟩
      cases hvi with
      | nil => rw [List.zip_nil_left] at hz; cases hz
      | cons a t hvi' =>
        cases hwi with
        | nil => rw [List.zip_nil_right] at hz; cases hz
        | cons c u hwi' =>
          rw [List.zip_cons_cons] at hz
          injection hz with hyx hrest
          injection hyx with hy hx
          subst hy hx
          rw [lexLt_cons] at hR
          simp only [List.length_cons] at hlen
          obtain ⟨e, he, hiff⟩ := eqAt_int A.in1 ⟨hp, g, d, tk, os⟩ a t c u
          refine wpAny_bind (he prog w _ _ ?_)
          cases e with
          | true =>
            rw [if_pos (hiff.mp rfl)] at hR
            wp_walk
            exact ⟨rfl, rfl, _, _, _, _, hrest, hvi', hwi', by omega, hR⟩
          | false =>
            rw [if_neg (fun q => absurd (hiff.mpr q) Bool.false_ne_true)] at hR
            have hri := rcLt_int A.in1 ⟨hp, g, d, tk, os⟩ a t c u prog w
            wp_walk using hri
            exact ⟨_, rfl, by simpa using hR⟩
    case fin =>
      rintro ⟨b1, b2⟩ s' ⟨hb', rfl, vs, ws, ns', ms', hz, hvi, hwi, hlen, hR⟩
      simp only at hb'
      subst hb'
      have hv : lexLt ns' ms' = decide (items.size < items2.size) := by
        cases hvi with
        | nil =>
          cases hwi with
          | nil =>
            simp only [List.length_nil] at hlen
            rw [lexLt_nil_nil]
            exact (decide_eq_false (by omega)).symm
          | cons c u hw =>
            simp only [List.length_nil, List.length_cons] at hlen
            rw [lexLt_nil_cons]
            exact (decide_eq_true (by omega)).symm
        | cons a t hv =>
          cases hwi with
          | nil =>
            simp only [List.length_nil, List.length_cons] at hlen
            rw [lexLt_cons_nil]
            exact (decide_eq_false (by omega)).symm
          | cons c u hw =>
            rw [List.zip_cons_cons] at hz
            cases hz
      rw [hv] at hR
      wp_walk
      exact ⟨_, rfl, by simpa [Builtin.Tuple.tupleCompareSizes] using hR⟩
    case h =>
      exact ⟨rfl, rfl, items.toList, items2.toList, ns, ms, rfl, hi, hj, by omega, h⟩
end

section
variable {prog : Program} {w : World} {A : Around} {E : Value → Shared → Prop} {s : Shared}

theorem lt_tupInts {l b : Addr} {items items2 : Array Value} {ns ms : List Int} {Q : Value → Shared → Prop} (hl : IsTup s.heap l items) (hb : IsTup s.heap b items2) (hi : IntsAre items.toList ns) (hj : IntsAre items2.toList ms)
    (hu : A.units < cLine) (h : Q (.bool (lexLt ns ms)) s) : wpAny (model prog w) A (compareOp .Lt (.ref l) (.ref b)) Q E s := by
  obtain ⟨⟨cls, dd, data, sl⟩, ho, hc, n, hd⟩ := id hl
  obtain ⟨⟨cls2, dd2, data2, sl2⟩, ho2, hc2, n2, hd2⟩ := id hb
  simp only at hc hd hc2 hd2
  subst hc hd hc2 hd2
  exact richCompare_meets_room (op := .Lt) ⟨_, ho, rfl⟩ ⟨_, ho2, rfl⟩ PySem.F.slot_tuple_lt PySem.F.entry_tuple_lt (PySem.F.args_tuple_lt_2 _ _) (tuple_lt_ints l b items items2 n n2 dd dd2 sl sl2 ns ms hi hj)
    ⟨ho, ho2, show Value.bool (lexLt ns ms) ≠ Value.notImplemented ∧ Q (.bool (lexLt ns ms)) s from ⟨(fun x => nomatch x), h⟩⟩ hu

/-- t + u, t not empty -/
theorem cat_tup {t b : Addr} {vs ws : List Value} {Q : Value → Shared → Prop} (ht : IsTup s.heap t vs.toArray) (hb : IsTup s.heap b ws.toArray) (hv : vs ≠ [])
    (h1 : ws = [] → Q (.ref t) s) (h2 : ws ≠ [] → Q (.ref s.heap.objs.size) { s with heap := s.heap.push { cls := .type "tuple", data := .seq (vs ++ ws).toArray } })
    (hsz : vs.length + ws.length ≤ sizeLine) : wpAny (model prog w) A (binaryOp .Add (.ref t) (.ref b)) Q E s := by
  obtain ⟨⟨cls, dd, data, sl⟩, ho, hc, n, hd⟩ := id ht
  obtain ⟨⟨cls2, dd2, data2, sl2⟩, ho2, hc2, n2, hd2⟩ := id hb
  simp only at hc hd hc2 hd2
  subst hc hd hc2 hd2
  have e : vs.toArray ++ ws.toArray = (vs ++ ws).toArray := by simp
  by_cases hw : ws = []
  · exact concat_meets ⟨_, ho, rfl⟩ ⟨_, ho2, rfl⟩ noFill_tuple_add seq_tuple_add PySem.F.slot_tuple_add PySem.F.entry_tuple_add (PySem.F.args_tuple_add_2 _ _)
      (tuple_addW1 t b vs.toArray ws.toArray n n2 dd dd2 sl sl2 (by simpa using hv) (by simp [hw])) ⟨ho, ho2, h1 hw⟩
  · refine concat_meets ⟨_, ho, rfl⟩ ⟨_, ho2, rfl⟩ noFill_tuple_add seq_tuple_add PySem.F.slot_tuple_add PySem.F.entry_tuple_add (PySem.F.args_tuple_add_2 _ _)
      (tuple_addW2 t b vs.toArray ws.toArray n n2 dd dd2 sl sl2 (by simpa using hv) (by simpa using hw) (by rw [List.size_toArray, List.size_toArray]; exact hsz)) ⟨ho, ho2, ?_⟩
    rw [e]
    exact h2 hw

/-! ### t[a:b], not the whole -/
/-- a slice's bound as a place among n (d where it is left out) -/
def sIx (n d : Nat) : Option Int → Nat
  | none => d
  | some v => if v < 0 then (v + (n : Int)).toNat else min v.toNat n
theorem sIx_none (n d : Nat) : sIx n d none = d := rfl
theorem sIx_nat (n d k : Nat) : sIx n d (some (k : Int)) = min k n := by
  show (if (k : Int) < 0 then ((k : Int) + (n : Int)).toNat else min (k : Int).toNat n) = min k n
  rw [if_neg (by omega), Int.toNat_natCast]
theorem sIx_le (n d : Nat) (hd : d ≤ n) (o : Option Int) : sIx n d o ≤ n := by
  cases o with
  | none => exact hd
  | some v =>
    show (if v < 0 then (v + (n : Int)).toNat else min v.toNat n) ≤ n
    by_cases hv : v < 0
    · rw [if_pos hv]; omega
    · rw [if_neg hv]; exact Nat.min_le_right _ _
theorem clip_eq (v : Int) (n d : Nat) : (if v < 0 then max (v + (n : Int)) 0 else min v (n : Int)) = ((sIx n d (some v) : Nat) : Int) := by
  show (if v < 0 then max (v + (n : Int)) 0 else min v (n : Int)) = (((if v < 0 then (v + (n : Int)).toNat else min v.toNat n) : Nat) : Int)
  by_cases hv : v < 0
  · simp only [if_pos hv]; omega
  · simp only [if_neg hv]; omega
theorem adjust_gen (lo hi : Option Int) (n : Nat) : Builtin.Slice.sliceAdjust lo hi 1 (n : Int) = (((sIx n 0 lo : Nat) : Int), ((sIx n n hi : Nat) : Int)) := by
  have h1 : ¬ ((1 : Int) < 0) := by omega
  unfold Builtin.Slice.sliceAdjust
  simp only [h1, if_false]
  refine Prod.ext ?_ ?_
  · cases lo with
    | none => rfl
    | some v => exact clip_eq v n 0
  · cases hi with
    | none => rfl
    | some v => exact clip_eq v n n
theorem places_gen (i j : Nat) : Builtin.Slice.slicePlaces (i : Int) (j : Int) 1 = j - i := by
  unfold Builtin.Slice.slicePlaces
  have h1 : (1 : Int) > 0 := by omega
  simp only [h1, if_true, Int.ediv_one]
  split <;> omega
theorem slicePart_ {v : Value} {o : Option Int} {Q : Option Int → Shared → Prop} (p : IsPart v o) (h : Q o s) : wpAny (model prog w) A (Builtin.Slice.slicePartIndex v) Q E s := by
  cases p with
  | none => exact slicePart_none h
  | int i t => exact slicePart_int h
theorem sliceApplied_gen {sl : Addr} {vl vu : Value} {lo hi : Option Int} {n : Nat} {Q : Int × Int × Nat → Shared → Prop} (hs : s.heap.IsSliceOf sl vl vu .none) (pl : IsPart vl lo) (pu : IsPart vu hi)
    (h : Q (((sIx n 0 lo : Nat) : Int), 1, sIx n n hi - sIx n 0 lo) s) : wpAny (model prog w) A (Builtin.Slice.sliceApplied (.ref sl) (pure (n : Int))) Q E s := by
  obtain ⟨os, hos, hcs, hds⟩ := id hs
  unfold Builtin.Slice.sliceApplied Builtin.Slice.sliceFields
  refine wpAny_bind (wpAny_bind (wpAny_field hos hds (x := vl) rfl (wpAny_bind (wpAny_field hos hds (x := vu) rfl (wpAny_bind (wpAny_field hos hds (x := .none) rfl (wpAny_pure ?_)))))))
  refine wpAny_bind (slicePart_none ?_)
  show wpAny _ _ (if ((1 : Int) == 0) = true then _ else _) _ _ s
  rw [if_neg (by decide)]
  refine wpAny_bind (slicePart_ pl (wpAny_bind (slicePart_ pu (wpAny_bind (wpAny_pure ?_)))))
  show wpAny _ _ (match Builtin.Slice.sliceAdjust lo hi 1 (n : Int) with | (lo, hi) => pure (lo, (1 : Int), Builtin.Slice.slicePlaces lo hi 1)) _ _ s
  rw [adjust_gen lo hi n]
  show wpAny _ _ (pure (((sIx n 0 lo : Nat) : Int), (1 : Int), Builtin.Slice.slicePlaces ((sIx n 0 lo : Nat) : Int) ((sIx n n hi : Nat) : Int) 1)) _ _ s
  rw [places_gen]
  exact wpAny_pure h
theorem pick_gen (xs : Array Value) (i k : Nat) : ((List.range k).filterMap fun (m : Nat) => xs[((i : Int) + (m : Int) * 1).toNat]?).toArray = ((xs.toList.drop i).take k).toArray := by
  have e : (fun (m : Nat) => xs[((i : Int) + (m : Int) * 1).toNat]?) = fun m => xs[i + m]? := by
    funext m
    have : ((i : Int) + (m : Int) * 1).toNat = i + m := by omega
    rw [this]
  rw [e]
  have := pick_run xs i k
  rw [List.filterMap_map] at this
  have e2 : ((fun x => xs[x]?) ∘ fun x => i + x) = fun m => xs[i + m]? := rfl
  rw [e2] at this
  rw [this]

theorem getItem_tuple_cut {t sl : Addr} {items : Array Value} {vl vu : Value} {lo hi : Option Int} {Q : Value → Shared → Prop} (ht : IsTup s.heap t items) (hs : s.heap.IsSliceOf sl vl vu .none) (pl : IsPart vl lo) (pu : IsPart vu hi)
    (hw : ¬ (sIx items.size 0 lo = 0 ∧ sIx items.size items.size hi = items.size))
    (h : Q (.ref s.heap.objs.size) { s with heap := s.heap.push { cls := .type "tuple", data := .seq ((items.toList.drop (sIx items.size 0 lo)).take (sIx items.size items.size hi - sIx items.size 0 lo)).toArray } })
    (hsz : items.size ≤ sizeLine) : wpAny (model prog w) A (getItem (.ref t) (.ref sl)) Q E s := by
  have htake : sizeOk (.seq ((items.toList.drop (sIx items.size 0 lo)).take (sIx items.size items.size hi - sIx items.size 0 lo)).toArray) := by
    show ((items.toList.drop (sIx items.size 0 lo)).take (sIx items.size items.size hi - sIx items.size 0 lo)).toArray.size ≤ sizeLine
    rw [List.size_toArray, List.length_take, List.length_drop, Array.length_toList]
    omega
  have hj : sIx items.size items.size hi ≤ items.size := sIx_le _ _ (Nat.le_refl _) hi
  obtain ⟨os, hos, hcs, hds⟩ := id hs
  have hTs : s.TypeIs (.ref sl) "slice" := ⟨os, hos, hcs⟩
  unfold getItem
  try with_reducible refine wpAny_holding ?_
  first | refine wpAny_bind (wpAny_pure ?_) | skip
  refine wpAny_bind (wpAny_sequenceKey ht.typeIs (by decide) ?_)
  refine wpAny_bind (wpAny_callSpecial?_slot (name := Str.ofString "__getitem__") ht.typeIs PyProof.Rows.slot_tuple_getitem
    (wpAny_call_entry PyProof.Rows.slot_tuple_getitem ht.typeIs entry_tuple_getitem ?_ (args_tuple_getitem _ _)))
  show wpAny _ _ (Builtin.Tuple.tupleItemsOf (.ref t) >>= _) _ _ s
  refine wpAny_bind (tupleItemsOf_ ht ?_)
  refine wpAny_bind (wpAny_typeOf hTs ?_)
  rw [if_pos (by decide)]
  refine wpAny_bind (sliceApplied_gen hs pl pu ?_)
  have hno : ¬ ((((sIx items.size 0 lo : Nat) : Int) == 0 && (1 : Int) == 1 && (sIx items.size items.size hi - sIx items.size 0 lo) == items.size) = true) := by
    intro q
    rw [Bool.and_eq_true, Bool.and_eq_true] at q
    have q1 : ((sIx items.size 0 lo : Nat) : Int) = 0 := eq_of_beq q.1.1
    have q2 : sIx items.size items.size hi - sIx items.size 0 lo = items.size := eq_of_beq q.2
    exact hw ⟨by omega, by omega⟩
  show wpAny _ _ (if (((sIx items.size 0 lo : Nat) : Int) == 0 && (1 : Int) == 1 && (sIx items.size items.size hi - sIx items.size 0 lo) == items.size) = true then _ else _) _ _ s
  rw [if_neg hno, pick_gen]
  first
    | exact wpAny_bind (m := Builtin.Tuple.tupleExact _) (wpAny_newObj_type (wpAny_pure ⟨_, rfl, wpAny_pure h⟩) htake)
    | exact wpAny_bind (m := Builtin.Tuple.tupleExact _) (wpAny_newObj_type (wpAny_bind (wpAny_pure (wpAny_pure ⟨_, rfl, wpAny_pure h⟩))) htake)
    | exact wpAny_bind (wpAny_bind (m := Builtin.Tuple.tupleExact _) (wpAny_newObj_type (wpAny_pure (wpAny_pure ⟨_, rfl, wpAny_pure h⟩)) htake))
    | exact wpAny_bind (wpAny_bind (m := Builtin.Tuple.tupleExact _) (wpAny_newObj_type (wpAny_pure ⟨_, rfl, wpAny_pure h⟩) htake))
end
end HT

namespace L2
open PySem PySem.Spec PyProof.Rows

/-! ### the parts of a slice -/
abbrev TO := St → Hp → (Option Int → Hp → Prop) → Prop
/-- a slice's part (left out, or an int) -/
def PO (X : Cx) (e : Option Expr) (t : TO) : Prop :=
  ∀ (pins : List (Addr × Obj)) (s : Shared) (σ : St) (H : Hp) (Q : Option Int → Hp → Prop), Inv X pins σ H s → t σ H Q →
    wpAny (model X.prog X.w) X.A (evalPart e X.env) (fun u s' => ∃ o H', Inv X pins σ H' s' ∧ IsPart u o ∧ Q o H') X.xe s
def tNoPart : TO := fun _ H Q => Q none H
def tPart (t : TE) : TO := fun σ H Q => t σ H fun x H1 => ∃ i, x = .int i ∧ Q (some i) H1

theorem intsAre_of {ns : List Int} : ∀ {us : List Value}, Vals (ns.map V.int) us → IntsAre us ns := by
  induction ns with
  | nil => intro us r; rw [List.map_nil] at r; cases r; exact .nil
  | cons n ns ih =>
    intro us r
    rw [List.map_cons] at r
    cases r with
    | cons r1 r2 =>
      obtain ⟨t, e⟩ := r1
      subst e
      exact .cons n t (ih r2)

section
variable {X : Cx} {e : Expr} {te : TE} {lo hi : Option Expr} {tl th : TO} {pos p2 : Pos}

theorem po_none : PO X none tNoPart := by
  intro pins s σ H Q I h
  rw [evalPart_none]
  exact wpAny_pure ⟨none, H, I, .none, h⟩
theorem po_some (h : PE X e te) : PO X (some e) (tPart te) := by
  intro pins s σ H Q I hw
  rw [evalPart_some]
  refine thn (h pins s σ H _ I hw) fun u s1 ⟨x, H1, I1, r1, q1⟩ => ?_
  obtain ⟨i, rfl, q⟩ := q1
  obtain ⟨t, rfl⟩ := r1
  exact ⟨some i, H1, I1, .int i t, q⟩

/-- what a slice of a value is, by values: the slice object stands at sl -/
def SlR (X : Cx) (r : V → Option Int → Option Int → Hp → VK → Prop) : Prop :=
  ∀ (pins : List (Addr × Obj)) (s : Shared) (σ : St) (H : Hp) (x : V) (v vl vu : Value) (lo hi : Option Int) (sl : Addr) (Q : VK), Inv X pins σ H s → RelV x v → s.heap.IsSliceOf sl vl vu .none → IsPart vl lo → IsPart vu hi → r x lo hi H Q →
    ∃ T id, typeLookup (.type T) "__getitem__" = pure (some (.builtin id)) ∧ s.TypeIs v T ∧ wpAny (model X.prog X.w) X.A (getItem v (.ref sl)) (EP X pins σ Q) X.xe s
theorem SlR.or {r r' : V → Option Int → Option Int → Hp → VK → Prop} (h : SlR X r) (h' : SlR X r') : SlR X (fun x lo hi H Q => r x lo hi H Q ∨ r' x lo hi H Q) := by
  intro pins s σ H x v vl vu lo hi sl Q I rx hs pl pu q
  rcases q with q | q
  · exact h pins s σ H x v vl vu lo hi sl Q I rx hs pl pu q
  · exact h' pins s σ H x v vl vu lo hi sl Q I rx hs pl pu q
def tSl (r : V → Option Int → Option Int → Hp → VK → Prop) (te : TE) (tl th : TO) : TE := fun σ H Q => te σ H fun x H1 => tl σ H1 fun l H2 => th σ H2 fun u H3 => r x l u H3 Q
/-- a[lo:hi], any a -/
theorem pe_slice {r : V → Option Int → Option Int → Hp → VK → Prop} (hr : SlR X r) (he : PE X e te) (hl : PO X lo tl) (hu : PO X hi th) : PE X (.Subscript e (.Slice lo hi none p2) pos) (tSl r te tl th) := by
  intro pins s σ H Q I h
  refine Subscript_ (thn (he pins s σ H _ I h) fun v s1 ⟨x, H1, I1, r1, q1⟩ => ?_)
  refine wpAny_Slice (thn (hl pins s1 σ H1 _ I1 q1) fun vl s2 ⟨l, H2, I2, pl, q2⟩ => thn (hu pins s2 σ H2 _ I2 q2) fun vu s3 ⟨u, H3, I3, pu, q3⟩ => ?_)
  rw [evalPart_none]
  refine wpAny_pure ?_
  have I4 : Inv X pins σ H3 { s3 with heap := s3.heap.push { cls := .type "slice", data := .fields #[vl, vu, .none] } } := I3.kept (t' := s3.toks) fun b ob q => Heap.get?_push_of_some _ q
  obtain ⟨T, id, hT, ht, hg⟩ := hr pins { s3 with heap := s3.heap.push { cls := .type "slice", data := .fields #[vl, vu, .none] } } σ H3 x v vl vu l u s3.heap.objs.size Q I4 r1 (Heap.IsSliceOf.new ..) pl pu q3
  show wpAny (model X.prog X.w) X.A (subscriptTail e (.Slice lo hi none p2) v (.ref s3.heap.objs.size)) (EP X pins σ Q) X.xe { s3 with heap := s3.heap.push { cls := .type "slice", data := .fields #[vl, vu, .none] } }
  exact tail_any (ops := [.ref s3.heap.objs.size, v]) ht hT hg (by with_unfolding_all rfl)

/-- the items of xs[lo:hi] -/
def cutV (xs : List V) (lo hi : Option Int) : List V := (xs.drop (HT.sIx xs.length 0 lo)).take (HT.sIx xs.length xs.length hi - HT.sIx xs.length 0 lo)
theorem cutV_length (xs : List V) (lo hi : Option Int) : (cutV xs lo hi).length ≤ xs.length := by
  unfold cutV
  rw [List.length_take, List.length_drop]
  omega
/-- t[lo:hi], not the whole of it (the whole would be t itself) -/
def rSlT (K : PySem.W.Frag) : V → Option Int → Option Int → Hp → VK → Prop := fun x lo hi H Q => ∃ a xs, x = .ref a ∧ SqT K H a xs ∧
  ¬ (HT.sIx xs.length 0 lo = 0 ∧ HT.sIx xs.length xs.length hi = xs.length) ∧ ∀ p, H p = none → Q (.ref p) (upd H p (.tup (cutV xs lo hi)))
theorem sl_tup : SlR X (rSlT X.K) := by
  intro pins s σ H x v vl vu lo hi sl Q I rx hs pl pu h
  obtain ⟨a, xs, rfl, hx, hw, q⟩ := h
  cases rx
  obtain ⟨its, r, ht, hz⟩ := I.tuple hx
  have hlen : its.toArray.size = xs.length := by rw [List.size_toArray]; exact r.length.symm
  refine ⟨"tuple", _, PyProof.Rows.slot_tuple_getitem.lookup, ht.typeIs, ?_⟩
  refine HT.getItem_tuple_cut ht hs pl pu (by rw [hlen]; exact hw) ?_ (by rw [hlen]; exact hz)
  rw [hlen]
  refine ⟨.ref s.heap.objs.size, _, I.laid (t' := s.toks) (o := .tup (cutV xs lo hi)) (fun b ob q => Heap.get?_push_of_some _ q) (Nat.le_refl _) ?_, rfl, q _ (I.hok.fresh (Nat.le_refl _))⟩
  exact ⟨Nat.le_trans (cutV_length xs lo hi) hz, _, (r.drop (HT.sIx xs.length 0 lo)).take (HT.sIx xs.length xs.length hi - HT.sIx xs.length 0 lo), IsTup.new _ _⟩

/-! ### t < u, t + u -/
def rLtT (K : PySem.W.Frag) : R2 := fun x y H Q => ∃ a b ns ms, x = .ref a ∧ y = .ref b ∧ SqT K H a (ns.map V.int) ∧ SqT K H b (ms.map V.int) ∧ Q (.bl (HT.lexLt ns ms)) H
theorem op_ltT (hu : X.A.units < cLine) : OpR X (compareOp .Lt) (rLtT X.K) := by
  intro pins s σ H x y v u Q I rx ry h
  obtain ⟨a, b, ns, ms, rfl, rfl, ha, hb, q⟩ := h
  cases rx
  cases ry
  obtain ⟨its, r1, p1, _⟩ := I.tuple ha
  obtain ⟨its2, r2, p2, _⟩ := I.tuple hb
  have i1 : IntsAre its.toArray.toList ns := intsAre_of r1
  have i2 : IntsAre its2.toArray.toList ms := intsAre_of r2
  exact HT.lt_tupInts p1 p2 i1 i2 hu ⟨.bl (HT.lexLt ns ms), H, I, rfl, q⟩
/-- t + u, t not empty: u empty gives t itself -/
def rCatT (K : PySem.W.Frag) : R2 := fun x y H Q => ∃ a b xs ys, x = .ref a ∧ y = .ref b ∧ SqT K H a xs ∧ SqT K H b ys ∧ xs ≠ [] ∧ xs.length + ys.length ≤ sizeLine ∧
  (ys = [] → Q (.ref a) H) ∧ (ys ≠ [] → ∀ p, H p = none → Q (.ref p) (upd H p (.tup (xs ++ ys))))
theorem Vals.nil_iff {xs : List V} {us : List Value} (r : Vals xs us) : us = [] ↔ xs = [] := by
  cases r with
  | nil => simp
  | cons _ _ => simp
theorem op_catT : OpR X (binaryOp .Add) (rCatT X.K) := by
  intro pins s σ H x y v u Q I rx ry h
  obtain ⟨a, b, xs, ys, rfl, rfl, ha, hb, hx, hz, q1, q2⟩ := h
  cases rx
  cases ry
  obtain ⟨its, r1, p1, _⟩ := I.tuple ha
  obtain ⟨its2, r2, p2, _⟩ := I.tuple hb
  refine HT.cat_tup p1 p2 (fun z => hx (r1.nil_iff.mp z)) (fun z => ⟨.ref a, H, I, rfl, q1 (r2.nil_iff.mp z)⟩) (fun z => ?_) (by rw [← r1.length, ← r2.length]; exact hz)
  refine ⟨.ref s.heap.objs.size, _, I.laid (t' := s.toks) (o := .tup (xs ++ ys)) (fun b ob q => Heap.get?_push_of_some _ q) (Nat.le_refl _) ?_, rfl, q2 (fun w => z (r2.nil_iff.mpr w)) _ (I.hok.fresh (Nat.le_refl _))⟩
  exact ⟨by rw [List.length_append]; exact hz, _, r1.append r2, IsTup.new _ _⟩
/-- tuple(t) -/
theorem call_tupleT : CallR X (.type "tuple") (fun xs H Q => ∃ a ys, xs = [.ref a] ∧ SqT X.K H a ys ∧ Q (.ref a) H) := by
  intro pins s σ H xs us Q I r h
  obtain ⟨a, ys, rfl, ha, q⟩ := h
  obtain ⟨u, rfl, ru⟩ := vals1 r
  cases ru
  obtain ⟨its, _, p1, _⟩ := I.tuple ha
  exact call_tuple_same (items := its.toArray) p1 ⟨.ref a, H, I, rfl, q⟩
end
end L2

namespace L2
open PySem PySem.Spec PyProof.Rows

/-! ### places -/
/-- the place that an index of any sign means -/
def ixN (n : Nat) (i : Int) : Option Nat := if 0 ≤ i then (if i < n then some i.toNat else none) else if -(n : Int) ≤ i then some (i + n).toNat else none
def atI {α : Type} (xs : List α) (i : Int) : Option α := (ixN xs.length i).bind fun j => xs[j]?
theorem ixN_seq {n : Nat} {i : Int} {j : Nat} (h : ixN n i = some j) : seqIndex? i n = some j ∧ j < n ∧ -(n : Int) ≤ i ∧ i < n := by
  unfold ixN at h
  by_cases h0 : 0 ≤ i
  · rw [if_pos h0] at h
    by_cases h1 : i < n
    · rw [if_pos h1] at h
      have e : i.toNat = j := Option.some.inj h
      exact ⟨by rw [seqIndex_of h0 h1, e], by omega, by omega, h1⟩
    · rw [if_neg h1] at h; cases h
  · rw [if_neg h0] at h
    by_cases h1 : -(n : Int) ≤ i
    · rw [if_pos h1] at h
      have e : (i + n).toNat = j := Option.some.inj h
      exact ⟨by rw [seqIndex_neg (by omega) h1, e], by omega, h1, by omega⟩
    · rw [if_neg h1] at h; cases h
theorem atI_get {α : Type} {xs : List α} {i : Int} {v : α} (h : atI xs i = some v) : ∃ j, seqIndex? i xs.length = some j ∧ xs[j]? = some v ∧ j < xs.length ∧ -(xs.length : Int) ≤ i ∧ i < xs.length := by
  unfold atI at h
  cases e : ixN xs.length i with
  | none => rw [e] at h; cases h
  | some j =>
    rw [e] at h
    obtain ⟨h1, h2, h3, h4⟩ := ixN_seq e
    exact ⟨j, h1, h, h2, h3, h4⟩
theorem atI_nat {α : Type} {xs : List α} {j : Nat} {v : α} (h : xs[j]? = some v) : atI xs (j : Int) = some v := by
  have hj : j < xs.length := (List.getElem?_eq_some_iff.mp h).1
  have e : ixN xs.length (j : Int) = some j := by
    unfold ixN
    rw [if_pos (by omega), if_pos (by omega)]; simp
  unfold atI; rw [e]; exact h
theorem atI_last {α : Type} (xs : List α) (v : α) : atI (xs ++ [v]) (-1) = some v := by
  have hl : (xs ++ [v]).length = xs.length + 1 := by simp
  have e : ixN (xs ++ [v]).length (-1) = some xs.length := by
    unfold ixN
    rw [hl, if_neg (by decide), if_pos (by omega)]
    congr 1
    omega
  unfold atI
  rw [e]
  show (xs ++ [v])[xs.length]? = some v
  simp

/-! ### what may be subscripted -/
/-- what stands as an index of a plain subscript -/
def PlainIx (b : Expr) : Prop := ∀ o i, subscripted b false o i = operate [o, i] (getItem o i)
/-- a subscript by values -/
def IxR (X : Cx) (r : R2) : Prop :=
  ∀ (value slice : Expr) (pins : List (Addr × Obj)) (s : Shared) (σ : St) (H : Hp) (x y : V) (v u : Value) (Q : VK), Inv X pins σ H s → RelV x v → RelV y u → r x y H Q →
    subscripted slice false v u = operate [v, u] (getItem v u) → wpAny (model X.prog X.w) X.A (subscriptTail value slice v u) (EP X pins σ Q) X.xe s
/-- a call of a builtin's method by values: the receiver, the arguments -/
def MtR (X : Cx) (id : String) (r : V → List V → Hp → VK → Prop) : Prop :=
  ∀ (pins : List (Addr × Obj)) (s : Shared) (σ : St) (H : Hp) (x : V) (xs : List V) (v : Value) (us : List Value) (Q : VK), Inv X pins σ H s → RelV x v → Vals xs us → r x xs H Q →
    wpAny (model X.prog X.w) X.A (call (.builtin id) (v :: us)) (EP X pins σ Q) X.xe s
section
variable {X : Cx} {a b : Expr} {ta tb : TE} {pos : Pos}
theorem IxR.or {r r' : R2} (h : IxR X r) (h' : IxR X r') : IxR X (fun x y H Q => r x y H Q ∨ r' x y H Q) := by
  intro value slice pins s σ H x y v u Q I rx ry q hs
  rcases q with q | q
  · exact h value slice pins s σ H x y v u Q I rx ry q hs
  · exact h' value slice pins s σ H x y v u Q I rx ry q hs
theorem MtR.or {id : String} {r r' : V → List V → Hp → VK → Prop} (h : MtR X id r) (h' : MtR X id r') : MtR X id (fun x xs H Q => r x xs H Q ∨ r' x xs H Q) := by
  intro pins s σ H x xs v us Q I rx rs q
  rcases q with q | q
  · exact h pins s σ H x xs v us Q I rx rs q
  · exact h' pins s σ H x xs v us Q I rx rs q
/-- a[b] -/
theorem pe_ix {r : R2} (hr : IxR X r) (ha : PE X a ta) (hb : PE X b tb) (hs : PlainIx b) : PE X (.Subscript a b pos) (tOp r ta tb) := by
  intro pins s σ H Q I h
  exact Subscript_ (binT ha hb I h fun v u s2 x y H2 I2 rx ry q => hr a b pins s2 σ H2 x y v u Q I2 rx ry q (hs _ _))

def rIxL (K : PySem.W.Frag) : R2 := fun x y H Q => ∃ p xs i v, x = .ref p ∧ y = .int i ∧ SqL K H p xs ∧ atI xs i = some v ∧ Q v H
def rIxT (K : PySem.W.Frag) : R2 := fun x y H Q => ∃ p xs i v, x = .ref p ∧ y = .int i ∧ SqT K H p xs ∧ atI xs i = some v ∧ Q v H
def rIxS : R2 := fun x y H Q => ∃ z i c, x = .str z ∧ y = .int i ∧ z.length ≤ sizeLine ∧ atI z.cps.toList i = some c ∧ Q (.str ⟨#[c]⟩) H
theorem ix_list : IxR X (rIxL X.K) := by
  intro value slice pins s σ H x y v u Q I rx ry h hs
  obtain ⟨p, xs, i, z, rfl, rfl, hq, he, q⟩ := h
  cases rx
  obtain ⟨t, rfl⟩ := ry
  obtain ⟨its, r, pl, hz⟩ := I.list hq
  obtain ⟨j, h1, h2, h3, h4, h5⟩ := atI_get he
  obtain ⟨w, ew, rw'⟩ := r.get h2
  have hl := r.length
  have hn := line63
  have fin : EP X pins σ Q w s := ⟨z, H, I, rw', q⟩
  by_cases h0 : 0 ≤ i
  · have hj : i.toNat = j := by
      rw [seqIndex_of h0 h5] at h1
      exact Option.some.inj h1
    exact item_listR pl.isList h0 (by omega) (by rw [hj]; simpa using ew) fin hs
  · have hj : (i + (its.toArray.size : Int)).toNat = j := by
      rw [seqIndex_neg (by omega) h4] at h1
      rw [List.size_toArray, ← hl]
      exact Option.some.inj h1
    exact subscriptTail_builtinR (x := w) pl.isList.typeIs slot_list_getitem.lookup
      (wpAny_getItem_list_neg (Q := fun r s' => r = w ∧ EP X pins σ Q r s') pl.isList (by omega) (by rw [List.size_toArray] <;> omega) (by omega) (by rw [hj]; simpa using ew) ⟨rfl, fin⟩) hs
theorem ix_tup : IxR X (rIxT X.K) := by
  intro value slice pins s σ H x y v u Q I rx ry h hs
  obtain ⟨p, xs, i, z, rfl, rfl, hq, he, q⟩ := h
  cases rx
  obtain ⟨t, rfl⟩ := ry
  obtain ⟨its, r, pl, hz⟩ := I.tuple hq
  obtain ⟨j, h1, h2, h3, h4, h5⟩ := atI_get he
  obtain ⟨w, ew, rw'⟩ := r.get h2
  have hl := r.length
  have hn := line63
  have fin : EP X pins σ Q w s := ⟨z, H, I, rw', q⟩
  exact subscriptTail_builtinR (x := w) pl.typeIs slot_tuple_getitem.lookup
    (getItem_tuple (j := j) (Q := fun r s' => r = w ∧ EP X pins σ Q r s') pl (by omega) (by omega) (by rw [List.size_toArray, ← hl]; exact h1) (by simpa using ew) ⟨rfl, fin⟩) hs
theorem ix_str : IxR X rIxS := by
  intro value slice pins s σ H x y v u Q I rx ry h hs
  obtain ⟨z, i, c, rfl, rfl, hz, he, q⟩ := h
  obtain ⟨t, rfl⟩ := rx
  obtain ⟨t', rfl⟩ := ry
  obtain ⟨j, h1, h2, h3, h4, h5⟩ := atI_get he
  have hl : z.cps.toList.length = z.length := by simp [Str.length]
  rw [hl] at h1 h4 h5
  have hn := line63
  exact tail_any (typeIs_str s z t) slot_str_getitem.lookup (getItem_str (c := c) (by
    have e1 : decide (i < -(2 ^ 63 : Int)) = false := decide_eq_false (by omega)
    have e2 : decide (i ≥ 2 ^ 63) = false := decide_eq_false (by omega)
    rw [e1, e2, Bool.or_false]) (by rw [h1]; simpa using h2) ⟨.str ⟨#[c]⟩, H, I.tok _, ⟨_, rfl⟩, q⟩) hs
/-- list, tuple or str -/
def rIx (K : PySem.W.Frag) : R2 := fun x y H Q => rIxL K x y H Q ∨ rIxT K x y H Q ∨ rIxS x y H Q
theorem ix_seq : IxR X (rIx X.K) := ix_list.or (ix_tup.or ix_str)

/-! ### xs[i] = v, any sign -/
/-- the list's object behind a store -/
theorem mapSeq_set (its : List Value) (n j : Nat) (u : Value) : Obj.mapSeq (·.setIfInBounds j u) { cls := .type "list", data := .seq its.toArray n } = { cls := .type "list", data := .seq (its.set j u).toArray n } := by
  simp [Obj.mapSeq]
theorem Inv.lst {pins : List (Addr × Obj)} {σ : St} {H : Hp} {s : Shared} {p : Addr} {xs : List V} (I : Inv X pins σ H s) (h : H p = some (.lst xs)) :
    ∃ (its : List Value) (n : Nat), Vals xs its ∧ s.heap.get? p = some { cls := .type "list", data := .seq its.toArray n } ∧ xs.length ≤ sizeLine := by
  obtain ⟨z, its, n, r, e⟩ := I.hok p _ h
  exact ⟨its, n, r, e, z⟩
/-- the list at p is written by an update of its object -/
theorem Inv.lstUpd {pins : List (Addr × Obj)} {σ : St} {H : Hp} {s : Shared} {p : Addr} {xs ys : List V} {its its' : List Value} {n n' : Nat} {f : Obj → Obj} (I : Inv X pins σ H s) (h : H p = some (.lst xs))
    (ho : s.heap.get? p = some { cls := .type "list", data := .seq its.toArray n }) (hf : f { cls := .type "list", data := .seq its.toArray n } = { cls := .type "list", data := .seq its'.toArray n' }) (r : Vals ys its') (hz : ys.length ≤ sizeLine) (t : Nat) :
    Inv X pins σ (upd H p (.lst ys)) { s with heap := s.heap.update p f, toks := t } := by
  have e : (s.heap.update p f).get? p = some { cls := .type "list", data := .seq its'.toArray n' } := by
    rw [Heap.get?_update_self f ho (by rw [hf] <;> rfl), hf]
  refine I.write (x := p) (e := p) (by rw [h]; trivial) (.inl rfl) (fun b u hb q => (Heap.get?_update_other _ _ (Ne.symm hb)).trans q) ⟨_, e⟩ ?_
  exact ⟨hz, its', n', r, e⟩
def rSetL : V → V → V → Hp → (Hp → Prop) → Prop := fun o i v H Q => ∃ p xs k j, o = .ref p ∧ i = .int k ∧ H p = some (.lst xs) ∧ ixN xs.length k = some j ∧ Q (upd H p (.lst (xs.set j v)))
theorem set_list : PSet X rSetL := by
  intro pins s σ H o i v ov iv u Q I ro ri rv h
  obtain ⟨p, xs, k, j, rfl, rfl, hp, hj, q⟩ := h
  cases ro
  obtain ⟨t, rfl⟩ := ri
  obtain ⟨its, n, r, ho, hz⟩ := I.lst hp
  obtain ⟨h1, h2, h3, h4⟩ := ixN_seq hj
  have hl := r.length
  have hn := line63
  have I' : Inv X pins σ (upd H p (.lst (xs.set j v))) { s with heap := s.heap.update p (Obj.mapSeq (·.setIfInBounds j u)) } :=
    I.lstUpd hp ho (mapSeq_set its n j u) (r.set rv j) (by rw [List.length_set]; exact hz) s.toks
  by_cases h0 : 0 ≤ k
  · have hk : k.toNat = j := by
      rw [seqIndex_of h0 h4] at h1
      exact Option.some.inj h1
    exact PySem.W.ki_setAt ho h0 (by omega) (by rw [List.size_toArray, ← hl]; exact h4) (by rw [hk]; exact ⟨_, I', q⟩)
  · have hk : (k + (its.toArray.size : Int)).toNat = j := by
      rw [seqIndex_neg (by omega) h3] at h1
      rw [List.size_toArray, ← hl]
      exact Option.some.inj h1
    exact PySem.W.ki_setBack ho (by omega) (by rw [List.size_toArray, ← hl]; exact h3) (by omega) (by rw [hk]; exact ⟨_, I', q⟩)

/-! ### slices -/
theorem slice_bounds (lo hi : Option Int) (n : Nat) : (sliceBounds lo hi none n).1 = ((HT.sIx n 0 lo : Nat) : Int) ∧ (sliceBounds lo hi none n).2.1 = ((HT.sIx n n hi : Nat) : Int) ∧ (sliceBounds lo hi none n).2.2 = 1 := by
  refine ⟨?_, ?_, rfl⟩
  · cases lo with
    | none => simp [sliceBounds, HT.sIx]
    | some i =>
      simp only [sliceBounds, HT.sIx, Option.getD_none, show (1 : Int) > 0 by decide, if_true]
      by_cases h : i < 0
      · simp only [h, if_true] <;> omega
      · simp only [h, if_false] <;> omega
  · cases hi with
    | none => simp [sliceBounds, HT.sIx]
    | some i =>
      simp only [sliceBounds, HT.sIx, Option.getD_none, show (1 : Int) > 0 by decide, if_true]
      by_cases h : i < 0
      · simp only [h, if_true] <;> omega
      · simp only [h, if_false] <;> omega
theorem slicePick_cut (its : List Value) (lo hi : Option Int) : slicePick its.toArray lo hi none = ((its.drop (HT.sIx its.length 0 lo)).take (HT.sIx its.length its.length hi - HT.sIx its.length 0 lo)).toArray := by
  obtain ⟨h1, h2, h3⟩ := slice_bounds lo hi its.toArray.size
  unfold slicePick
  rw [h1, h2, h3]
  simp only [sliceRange_one, pick_run, List.size_toArray] <;> rfl
/-- xs[lo:hi] of a list: a new list -/
def rSlL (K : PySem.W.Frag) : V → Option Int → Option Int → Hp → VK → Prop := fun x lo hi H Q => ∃ a xs, x = .ref a ∧ SqL K H a xs ∧ ∀ p, H p = none → Q (.ref p) (upd H p (.lst (cutV xs lo hi)))
theorem sl_list : SlR X (rSlL X.K) := by
  intro pins s σ H x v vl vu lo hi sl Q I rx hs pl pu h
  obtain ⟨a, xs, rfl, hx, q⟩ := h
  cases rx
  obtain ⟨its, r, ht, hz⟩ := I.list hx
  have hlen := r.length
  refine ⟨"list", _, slot_list_getitem.lookup, ht.isList.typeIs, ?_⟩
  refine wpAny_getItem_list_slice ht.isList hs pl pu .none (by simp) ?_ (by rw [List.size_toArray] <;> omega)
  rw [slicePick_cut, ← hlen]
  refine ⟨.ref s.heap.objs.size, _, I.laid (t' := s.toks) (o := .lst (cutV xs lo hi)) (fun b ob q => Heap.get?_push_of_some _ q) (Nat.le_refl _) ?_, rfl, q _ (I.hok.fresh (Nat.le_refl _))⟩
  exact ⟨Nat.le_trans (cutV_length xs lo hi) hz, _, 0, (r.drop (HT.sIx xs.length 0 lo)).take (HT.sIx xs.length xs.length hi - HT.sIx xs.length 0 lo), Heap.get?_push_size _ rfl⟩

/-! ### in, not in: flat items -/
def flatV : V → Bool
  | .non => true
  | .bl _ => true
  | .int _ => true
  | .str _ => true
  | _ => false
/-- == of flat values -/
def eqV : V → V → Bool
  | .non, .non => true
  | .bl a, .bl b => a == b
  | .bl a, .int b => (if a then 1 else 0) == b
  | .int a, .bl b => a == (if b then 1 else 0)
  | .int a, .int b => a == b
  | .str a, .str b => a == b
  | _, _ => false
theorem eqAt_V {A : Around} {s : Shared} {y x : V} {u v : Value} (ry : RelV y u) (rx : RelV x v) (fy : flatV y = true) (fx : flatV x = true) : SeqAt.EqAt A s u v (eqV y x) := by
  cases y with
  | non =>
    cases ry
    cases x with
    | non => cases rx; exact SeqAt.EqAt.same _
    | bl b => cases rx; exact SeqAt.EqAt.none_bool b
    | int b => obtain ⟨t, rfl⟩ := rx; exact SeqAt.EqAt.none_int b t
    | str b => obtain ⟨t, rfl⟩ := rx; exact SeqAt.EqAt.none_str b t
    | _ => exact absurd (show false = true from fx) Bool.false_ne_true
  | bl a =>
    cases ry
    cases x with
    | non => cases rx; exact SeqAt.EqAt.bool_none a
    | bl b => cases rx; exact SeqAt.EqAt.bool_bool a b
    | int b => obtain ⟨t, rfl⟩ := rx; exact SeqAt.EqAt.bool_int a b t
    | str b => obtain ⟨t, rfl⟩ := rx; exact SeqAt.EqAt.bool_str a b t
    | _ => exact absurd (show false = true from fx) Bool.false_ne_true
  | int a =>
    obtain ⟨t', rfl⟩ := ry
    cases x with
    | non => cases rx; exact SeqAt.EqAt.int_none a t'
    | bl b => cases rx; exact SeqAt.EqAt.int_bool a t' b
    | int b => obtain ⟨t, rfl⟩ := rx; exact SeqAt.EqAt.int_int a t' b t
    | str b => obtain ⟨t, rfl⟩ := rx; exact SeqAt.EqAt.int_str a t' b t
    | _ => exact absurd (show false = true from fx) Bool.false_ne_true
  | str a =>
    obtain ⟨t', rfl⟩ := ry
    cases x with
    | non => cases rx; exact SeqAt.EqAt.str_none a t'
    | bl b => cases rx; exact SeqAt.EqAt.str_bool a t' b
    | int b => obtain ⟨t, rfl⟩ := rx; exact SeqAt.EqAt.str_int a t' b t
    | str b => obtain ⟨t, rfl⟩ := rx; exact SeqAt.EqAt.str_str a t' b t
    | _ => exact absurd (show false = true from fx) Bool.false_ne_true
  | _ => exact absurd (show false = true from fy) Bool.false_ne_true
/-- the items' answers, read off the values (a value's own answer does not lean on its token) -/
def eqU (x : V) (u : Value) : Bool := match u with
  | .none => eqV .non x
  | .bool b => eqV (.bl b) x
  | .int i _ => eqV (.int i) x
  | .str z _ => eqV (.str z) x
  | _ => false
theorem eqU_of {x y : V} {u : Value} (r : RelV y u) (f : flatV y = true) : eqU x u = eqV y x := by
  cases y with
  | non => cases r; rfl
  | bl b => cases r; rfl
  | int i => obtain ⟨t, rfl⟩ := r; rfl
  | str z => obtain ⟨t, rfl⟩ := r; rfl
  | _ => exact absurd (show false = true from f) Bool.false_ne_true
theorem any_eqU {x : V} : ∀ {xs : List V} {us : List Value}, Vals xs us → xs.all flatV = true → us.any (eqU x) = xs.any fun y => eqV y x
  | _, _, .nil, _ => rfl
  | y :: xs, u :: us, .cons r t, f => by
    rw [List.all_cons, Bool.and_eq_true] at f
    rw [List.any_cons, List.any_cons, eqU_of r f.1, any_eqU t f.2]
theorem mem_eqAt {A : Around} {s : Shared} {x : V} {v : Value} (rx : RelV x v) (fx : flatV x = true) : ∀ {xs : List V} {us : List Value}, Vals xs us → xs.all flatV = true → ∀ u ∈ us, SeqAt.EqAt A s u v (eqU x u)
  | _, _, .nil, _ => fun u hu => by cases hu
  | y :: xs, u :: us, .cons r t, f => fun u' hu => by
    rw [List.all_cons, Bool.and_eq_true] at f
    rcases List.mem_cons.mp hu with rfl | hu
    · rw [eqU_of r f.1]; exact eqAt_V r rx f.1 fx
    · exact mem_eqAt rx fx t f.2 u' hu
def inV (x : V) (xs : List V) : Bool := xs.any fun y => eqV y x
/-- x in a list or tuple of flat items -/
def rIn (K : PySem.W.Frag) (neg : Bool) : R2 := fun x y H Q => ∃ p xs, y = .ref p ∧ (SqL K H p xs ∨ SqT K H p xs) ∧ flatV x = true ∧ xs.all flatV = true ∧ Q (.bl (if neg then !inV x xs else inV x xs)) H
theorem op_in_seq : OpR X (compareOp .In) (rIn X.K false) := by
  intro pins s σ H x y v u Q I rx ry h
  obtain ⟨p, xs, rfl, hq, fx, fs, q⟩ := h
  cases ry
  rcases hq with hq | hq
  · obtain ⟨its, r, pl, hz⟩ := I.list hq
    refine SeqAt.in_listAt (eqU x) pl.isList (fun w hw => mem_eqAt rx fx r fs w (by simpa using hw)) ⟨.bl _, H, I, rfl, ?_⟩
    rw [show its.toArray.any (eqU x) = its.any (eqU x) by simp, any_eqU r fs]
    exact q
  · obtain ⟨its, r, pl, hz⟩ := I.tuple hq
    refine SeqAt.in_tupleAt (eqU x) pl (fun w hw => mem_eqAt rx fx r fs w (by simpa using hw)) ⟨.bl _, H, I, rfl, ?_⟩
    rw [show its.toArray.any (eqU x) = its.any (eqU x) by simp, any_eqU r fs]
    exact q
theorem op_notIn_seq : OpR X (compareOp .NotIn) (rIn X.K true) := by
  intro pins s σ H x y v u Q I rx ry h
  obtain ⟨p, xs, rfl, hq, fx, fs, q⟩ := h
  cases ry
  rcases hq with hq | hq
  · obtain ⟨its, r, pl, hz⟩ := I.list hq
    refine SeqAt.notIn_listAt (eqU x) pl.isList (fun w hw => mem_eqAt rx fx r fs w (by simpa using hw)) ⟨.bl _, H, I, rfl, ?_⟩
    rw [show its.toArray.any (eqU x) = its.any (eqU x) by simp, any_eqU r fs]
    exact q
  · obtain ⟨its, r, pl, hz⟩ := I.tuple hq
    refine SeqAt.notIn_tupleAt (eqU x) pl (fun w hw => mem_eqAt rx fx r fs w (by simpa using hw)) ⟨.bl _, H, I, rfl, ?_⟩
    rw [show its.toArray.any (eqU x) = its.any (eqU x) by simp, any_eqU r fs]
    exact q
theorem op_notIn_str : OpR X (compareOp .NotIn) (fun x y H Q => ∃ i j, x = .str i ∧ y = .str j ∧ Q (.bl (!(!(Builtin.Str.occurrences j i 0 j.length 1).isEmpty))) H) := by
  intro pins s σ H x y v u Q I rx ry h
  obtain ⟨i, j, rfl, rfl, q⟩ := h
  obtain ⟨t, rfl⟩ := rx
  obtain ⟨t', rfl⟩ := ry
  exact notIn_str ⟨.bl _, H, I, rfl, q⟩

/-! ### len, list(x), tuple(x) of any list or tuple that is read -/
theorem call_len_seq : CallR X (.builtin "len") (fun xs H Q => ∃ p ys, xs = [.ref p] ∧ (SqL X.K H p ys ∨ SqT X.K H p ys) ∧ Q (.int ys.length) H) := by
  intro pins s σ H xs us Q I r h
  obtain ⟨p, ys, rfl, hq, q⟩ := h
  obtain ⟨u, rfl, rx⟩ := vals1 r
  cases rx
  have hn := line63
  rcases hq with hq | hq
  · obtain ⟨its, r', pl, hz⟩ := I.list hq
    have hlen := r'.length
    exact Calls.call_len_list pl.isList (by simp only [List.size_toArray] <;> omega) ⟨.int ys.length, H, I.tok _, ⟨s.toks + 1, by rw [List.size_toArray, hlen]⟩, q⟩
  · obtain ⟨its, r', pl, hz⟩ := I.tuple hq
    have hlen := r'.length
    exact len_tuple pl (by simp only [List.size_toArray] <;> omega) ⟨.int ys.length, H, I.tok _, ⟨s.toks + 1, by rw [List.size_toArray, hlen]⟩, q⟩
theorem call_len_str : CallR X (.builtin "len") (fun xs H Q => ∃ z, xs = [.str z] ∧ z.length ≤ sizeLine ∧ Q (.int z.length) H) := by
  intro pins s σ H xs us Q I r h
  obtain ⟨z, rfl, hz, q⟩ := h
  obtain ⟨u, rfl, t, rfl⟩ := vals1 r
  have hn := line63
  exact len_str (by omega) ⟨.int z.length, H, I.tok _, ⟨_, rfl⟩, q⟩
theorem CallR.or {f : Value} {r r' : List V → Hp → VK → Prop} (h : CallR X f r) (h' : CallR X f r') : CallR X f (fun xs H Q => r xs H Q ∨ r' xs H Q) := by
  intro pins s σ H xs us Q I rs q
  rcases q with q | q
  · exact h pins s σ H xs us Q I rs q
  · exact h' pins s σ H xs us Q I rs q
theorem call_list_of : CallR X (.type "list") (fun xs H Q => ∃ p ys, xs = [.ref p] ∧ (SqL X.K H p ys ∨ SqT X.K H p ys) ∧ ∀ l, H l = none → Q (.ref l) (upd H l (.lst ys))) := by
  intro pins s σ H xs us Q I r h
  obtain ⟨p, ys, rfl, hq, q⟩ := h
  obtain ⟨u, rfl, rx⟩ := vals1 r
  cases rx
  have fin : ∀ (its : List Value), Vals ys its → ys.length ≤ sizeLine → ∀ (h' : Heap) (c' : Nat), (∀ b o', s.heap.get? b = some o' → h'.get? b = some o') →
      h'.get? s.heap.objs.size = some { cls := .type "list", dict := none, data := .seq its.toArray c', slots := #[] } → EP X pins σ Q (.ref s.heap.objs.size) { s with heap := h' } := fun its r' hz h' c' kp e =>
    ⟨.ref s.heap.objs.size, _, I.laid (t' := s.toks) kp (Nat.le_refl _) (show ObjOk X.prog X.w _ h' _ (.lst ys) from ⟨hz, its, c', r', e⟩), rfl, q _ (I.hok.fresh (Nat.le_refl _))⟩
  rcases hq with hq | hq
  · obtain ⟨its, r', pl, hz⟩ := I.list hq
    have hlen := r'.length
    obtain ⟨o, ho, hc, n, hd⟩ := pl.isList
    exact call_list_seq p (.inl rfl) ho hc hd (fun h' c' kp e => fin its r' hz h' c' kp e) (by simp only [List.size_toArray] <;> omega)
  · obtain ⟨its, r', pl, hz⟩ := I.tuple hq
    have hlen := r'.length
    obtain ⟨o, ho, hc, n, hd⟩ := pl
    exact call_list_seq p (.inr rfl) ho hc hd (fun h' c' kp e => fin its r' hz h' c' kp e) (by simp only [List.size_toArray] <;> omega)
theorem call_tuple_of : CallR X (.type "tuple") (fun xs H Q => ∃ p ys, xs = [.ref p] ∧ ((SqL X.K H p ys ∧ ∀ l, H l = none → Q (.ref l) (upd H l (.tup ys))) ∨ (SqT X.K H p ys ∧ Q (.ref p) H))) := by
  intro pins s σ H xs us Q I r h
  obtain ⟨p, ys, rfl, h⟩ := h
  obtain ⟨u, rfl, rx⟩ := vals1 r
  cases rx
  rcases h with ⟨hq, q⟩ | ⟨hq, q⟩
  · obtain ⟨its, r', pl, hz⟩ := I.list hq
    have hlen := r'.length
    refine call_tuple_list pl.isList (fun h' kp => ?_) (by simp only [List.size_toArray] <;> omega)
    have I1 : Inv X pins σ H { s with heap := h' } := I.kept (t' := s.toks) kp
    have I2 : Inv X pins σ (upd H h'.objs.size (.tup ys)) { s with heap := h'.push { cls := .type "tuple", data := .seq its.toArray } } :=
      I1.laid (t' := s.toks) (fun b o e => Heap.get?_push_of_some _ e) (Nat.le_refl _) (show ObjOk X.prog X.w _ _ _ (.tup ys) from ⟨hz, its, r', IsTup.new _ _⟩)
    exact ⟨.ref h'.objs.size, _, I2, rfl, q _ (I1.hok.fresh (Nat.le_refl _))⟩
  · obtain ⟨its, r', pl, hz⟩ := I.tuple hq
    exact call_tuple_same pl ⟨.ref p, H, I, rfl, q⟩

/-! ### the call of a builtin's method: o.m(..) -/
/-- the value is of that builtin type -/
def tyV (K : PySem.W.Frag) (T : String) (x : V) (H : Hp) : Prop := match x with
  | .str _ => T = "str"
  | .int _ => T = "int"
  | .ref p => (T = "list" ∧ ∃ xs, SqL K H p xs) ∨ (T = "tuple" ∧ ∃ o, K.lookup p = some o ∧ o.cls = .type "tuple" ∧ o.dict = none) ∨
      (T = "dict" ∧ ((∃ kvs, H p = some (.dK kvs)) ∨ ∃ kvs, H p = some (.dT kvs))) ∨ (T = "set" ∧ ∃ S n, H p = some (.set S n))
  | _ => False
theorem tyV_is {pins : List (Addr × Obj)} {σ : St} {H : Hp} {s : Shared} {T : String} {x : V} {v : Value} (I : Inv X pins σ H s) (r : RelV x v) (ty : tyV X.K T x H) :
    s.TypeIs v T ∧ ∀ a, v = .ref a → ∃ ob, s.heap.get? a = some ob ∧ ob.dict = none := by
  cases x with
  | str z =>
    obtain ⟨t, rfl⟩ := r
    cases (show T = "str" from ty)
    exact ⟨typeIs_str s z t, fun _ e => nomatch e⟩
  | int i =>
    obtain ⟨t, rfl⟩ := r
    cases (show T = "int" from ty)
    exact ⟨typeIs_int s i t, fun _ e => nomatch e⟩
  | ref p =>
    cases r
    rcases ty with ⟨rfl, xs, hq⟩ | ⟨rfl, o, hk, hc, hd⟩ | ⟨rfl, hk⟩ | ⟨rfl, S, n, hk⟩
    · obtain ⟨its, _, pl, _⟩ := I.list hq
      refine ⟨pl.isList.typeIs, fun a e => ?_⟩
      cases e
      obtain ⟨o, n, e, c, hd, _⟩ := pl
      exact ⟨o, e, hd⟩
    · refine ⟨⟨o, I.kIn p o hk, hc⟩, fun a e => ?_⟩
      cases e
      exact ⟨o, I.kIn _ o hk, hd⟩
    · have z : ∃ o, s.heap.get? p = some o ∧ o.ExactDict := by
        rcases hk with ⟨kvs, hk⟩ | ⟨kvs, hk⟩
        · obtain ⟨_, _, _, _, o, _, _, e, ex, _⟩ := I.hok p _ hk
          exact ⟨o, e, ex⟩
        · obtain ⟨_, _, _, _, o, _, _, e, ex, _⟩ := I.hok p _ hk
          exact ⟨o, e, ex⟩
      obtain ⟨o, e, ex⟩ := z
      refine ⟨⟨o, e, ex.1⟩, fun a e2 => ?_⟩
      cases e2
      exact ⟨o, e, ex.2.1⟩
    · obtain ⟨o, _, _, _, e, ex, _⟩ := I.hok p _ hk
      refine ⟨⟨o, e, ex.1⟩, fun a e2 => ?_⟩
      cases e2
      exact ⟨o, e, ex.2.1⟩
  | _ => exact False.elim ty
def tBM0 (K : PySem.W.Frag) (T : String) (r : V → List V → Hp → VK → Prop) (to : TE) : TE := fun σ H Q => to σ H fun x H1 => tyV K T x H1 ∧ r x [] H1 Q
def tBM (K : PySem.W.Frag) (T : String) (r : V → List V → Hp → VK → Prop) (to : TE) (t : TA) : TE := fun σ H Q => to σ H fun x H1 => tyV K T x H1 ∧ t σ H1 fun xs H2 => r x xs H2 Q
variable {o e : Expr} {es : List Expr} {to : TE} {t : TA} {name : Str} {apos cpos : Pos} {T id : String} {r : V → List V → Hp → VK → Prop}
theorem pe_bm0 (pa : PlainAttrs T) (slot : Slot T name id) (hty : typeOf (.builtin id) = pure (.type "method_descriptor")) (hm : MtR X id r) (ho : PE X o to)
    (hbase : attributeBase o name X.env (eval o X.env) = eval o X.env := by rfl) (hline : (apos.endLine == cpos.line) = true := by rfl) : PE X (.Call (.Attribute o name apos) [] [] cpos) (tBM0 X.K T r to) := by
  intro pins s σ H Q I h
  refine wpAny_Call_method0_late hbase hline (thn (ho pins s σ H _ I h) fun v s1 ⟨x, H1, I1, r1, ty, q1⟩ => ?_)
  obtain ⟨h1, h2⟩ := tyV_is I1 r1 ty
  exact ⟨T, id, pa, slot, hty, h1, h2, Calls.callWith_builtin rfl (PySem.evalArgs_none (hm pins s1 σ H1 x [] v [] Q I1 r1 .nil q1))⟩
theorem pe_bm (pa : PlainAttrs T) (slot : Slot T name id) (hty : typeOf (.builtin id) = pure (.type "method_descriptor")) (hm : MtR X id r) (ho : PE X o to) (ha : PA X (e :: es) t)
    (hbase : attributeBase o name X.env (eval o X.env) = eval o X.env := by rfl)
    (hfew : ((backTo cpos (starEach (e :: es) X.env)).all (fun x => !x.1) && (backToKw cpos (keywordEach [] X.env)).all (fun x => x.1.isSome)
      && decide ((e :: es).length + ([] : List Keyword).length + (if ([] : List Keyword).isEmpty then 0 else 1) < 30)) = true := by rfl)
    (hline : (apos.endLine == cpos.line) = true := by rfl) (hs : starEach (e :: es) X.env = (false, eval e X.env) :: starEach es X.env := by rfl) (hplain : (backTo cpos (starEach es X.env)).any (·.1) = false := by rfl) :
    PE X (.Call (.Attribute o name apos) (e :: es) [] cpos) (tBM X.K T r to t) := by
  intro pins s σ H Q I h
  refine wpAny_Call_method_late hbase hfew hline rfl (thn (ho pins s σ H _ I h) fun v s1 ⟨x, H1, I1, r1, ty, q1⟩ => ?_)
  obtain ⟨h1, h2⟩ := tyV_is I1 r1 ty
  refine ⟨T, id, pa, slot, hty, h1, h2, ?_⟩
  have hA := ha cpos pins s1 σ H1 _ I1 q1
  rw [hs] at hA ⊢
  refine Calls.callWith_builtin (by show (false || (backTo cpos (starEach es X.env)).any (·.1)) = false; rw [hplain] <;> rfl) (Calls.evalArgs_plain ?_)
  exact thn hA fun us s2 ⟨vs, H2, I2, r2, q2⟩ => hm pins s2 σ H2 x vs v us Q I2 r1 r2 q2
/- xs.append(e), list.index on a module's tuple .. are MtR facts of 06m -/
end
end L2

namespace L2
open PySem PySem.Spec PyProof.Rows

def MtM (X : Cx) (id : String) (r : V → List V → Hp → VK → Prop) : Prop :=
  ∀ (pins : List (Addr × Obj)) (s : Shared) (σ : St) (H : Hp) (x : V) (xs : List V) (v : Value) (us : List Value) (Q : VK), Inv X pins σ H s → RelV x v → Vals xs us → r x xs H Q →
    wpAny (model X.prog X.w) X.A (call (.builtin id) (v :: us)) (EP X pins σ Q) X.xe s

/-! ### lists of values -/
theorem Vals.one : ∀ {x : V} {us : List Value}, Vals [x] us → ∃ u, us = [u] ∧ RelV x u
  | _, _, .cons r .nil => ⟨_, rfl, r⟩
theorem Vals.two : ∀ {x y : V} {us : List Value}, Vals [x, y] us → ∃ u v, us = [u, v] ∧ RelV x u ∧ RelV y v
  | _, _, _, .cons r (.cons q .nil) => ⟨_, _, rfl, r, q⟩
theorem Vals.zero : ∀ {us : List Value}, Vals [] us → us = []
  | _, .nil => rfl
theorem Vals.dropLast {xs : List V} {us : List Value} (h : Vals xs us) : Vals xs.dropLast us.dropLast := by
  induction h with
  | nil => exact .nil
  | cons r t ih =>
    cases t with
    | nil => exact .nil
    | cons q t' => exact .cons r ih
theorem Vals.eraseIdx : ∀ {xs : List V} {us : List Value} (i : Nat), Vals xs us → Vals (xs.eraseIdx i) (us.eraseIdx i)
  | _, _, _, .nil => .nil
  | _, _, 0, .cons _ t => t
  | _, _, i + 1, .cons r t => .cons r (Vals.eraseIdx i t)
theorem Vals.reverse {xs : List V} {us : List Value} (h : Vals xs us) : Vals xs.reverse us.reverse := by
  induction h with
  | nil => exact .nil
  | cons r t ih => rw [List.reverse_cons, List.reverse_cons]; exact Vals.append ih (.cons r .nil)
theorem Vals.rep {xs : List V} {us : List Value} (h : Vals xs us) : ∀ k : Nat, Vals (List.replicate k xs).flatten (List.replicate k us).flatten
  | 0 => .nil
  | k + 1 => by
    rw [List.replicate_succ, List.replicate_succ, List.flatten_cons, List.flatten_cons]
    exact Vals.append h (Vals.rep h k)
theorem erase_last {α : Type} (l : List α) : l.eraseIdx (l.length - 1) = l.dropLast := by
  induction l with
  | nil => rfl
  | cons a r ih =>
    cases r with
    | nil => rfl
    | cons b r =>
      have e : (a :: b :: r).length - 1 = ((b :: r).length - 1) + 1 := by
        have h1 : (a :: b :: r).length = r.length + 2 := rfl
        have h2 : (b :: r).length = r.length + 1 := rfl
        omega
      rw [e, List.eraseIdx_cons_succ, ih]
      all_goals rfl
theorem len_erase {α : Type} : ∀ (l : List α) (i : Nat), (l.eraseIdx i).length ≤ l.length
  | [], _ => Nat.le_refl _
  | _ :: _, 0 => Nat.le_succ _
  | _ :: r, i + 1 => Nat.succ_le_succ (len_erase r i)
theorem foldl_rep (its : List Value) : ∀ (k : Nat) (acc : List Value),
    List.foldl (fun x1 x2 => x1 ++ x2) acc.toArray (List.replicate k its.toArray) = (acc ++ (List.replicate k its).flatten).toArray
  | 0, acc => by simp
  | k + 1, acc => by
    have e : acc.toArray ++ its.toArray = (acc ++ its).toArray := by simp
    have e2 : (acc ++ its) ++ (List.replicate k its).flatten = acc ++ (List.replicate (k + 1) its).flatten := by
      rw [List.replicate_succ, List.flatten_cons, List.append_assoc]
    rw [← e2, ← foldl_rep its k (acc ++ its), ← e, List.replicate_succ, List.foldl_cons]

section
variable {X : Cx} {pins : List (Addr × Obj)} {σ : St} {H : Hp} {s : Shared} {l b : Addr} {xs ys zs : List V}

/-! ### the two steps: a tracked list is rewritten, a new list is laid -/
theorem Inv.lset {its its' : List Value} {n : Nat} {f : Array Value → Array Value} {t' : Nat} (I : Inv X pins σ H s) (hH : H l = some (.lst xs))
    (e : s.heap.get? l = some { cls := .type "list", data := .seq its.toArray n }) (hf : f its.toArray = its'.toArray) (hv : Vals ys its') (hz : ys.length ≤ sizeLine) :
    Inv X pins σ (upd H l (.lst ys)) { s with heap := s.heap.update l (Obj.mapSeq f), toks := t' } := by
  have q := PySem.IsL.update e f
  rw [hf] at q
  refine I.write (x := l) (e := l) (by rw [hH]; exact trivial) (.inl rfl) (fun b' u hb hu => (Heap.get?_update_other s.heap (Obj.mapSeq f) (Ne.symm hb)).trans hu) ⟨_, q⟩ ?_
  exact ⟨hz, its', _, hv, q⟩
theorem Inv.lnew {its : List Value} {t' : Nat} (I : Inv X pins σ H s) (hv : Vals ys its) (hz : ys.length ≤ sizeLine) :
    Inv X pins σ (upd H s.heap.objs.size (.lst ys)) { s with heap := s.heap.push { cls := .type "list", data := .seq its.toArray }, toks := t' } :=
  I.laid (fun _ _ q => Heap.get?_push_of_some _ q) (Nat.le_refl _) ⟨hz, its, 0, hv, Heap.get?_push_size _ rfl⟩
theorem Inv.fresh (I : Inv X pins σ H s) : H s.heap.objs.size = none := I.hok.fresh (Nat.le_refl _)
theorem Inv.lstM (I : Inv X pins σ H s) (hH : H l = some (.lst xs)) : xs.length ≤ sizeLine ∧ ∃ (its : List Value) (n : Nat), Vals xs its ∧ xs.length = its.length ∧ s.heap.get? l = some { cls := .type "list", data := .seq its.toArray n } := by
  obtain ⟨z, its, n, r, e⟩ := I.hok l _ hH
  exact ⟨z, its, n, r, r.length, e⟩

theorem notLongL {n : Nat} (h : n ≤ sizeLine) : Builtin.List.listTooLong n = false := by
  unfold Builtin.List.listTooLong
  exact decide_eq_false (by omega)
end

section
variable {X : Cx}

/-! ### methods -/
def rAppend : V → List V → Hp → VK → Prop := fun x vs H Q => ∃ l xs y, x = .ref l ∧ vs = [y] ∧ H l = some (.lst xs) ∧ xs.length < sizeLine ∧ Q .non (upd H l (.lst (xs ++ [y])))
theorem mt_append : MtM X "list.append" rAppend := by
  intro pins s σ H x vs v us Q I rx rv h
  obtain ⟨l, xs, y, rfl, rfl, hH, hz, q⟩ := h
  cases rx
  obtain ⟨u, rfl, ru⟩ := rv.one
  obtain ⟨z, its, n, r, hl, e⟩ := I.lstM hH
  refine call_meets F.slot_list_append ⟨_, e, rfl⟩ F.entry_list_append (F.args_list_append_2 _ _) (PySem.list_append l its.toArray n u (by rw [List.size_toArray]; omega)) ⟨e, ?_⟩
  refine ⟨.non, _, I.lset (its' := its ++ [u]) hH e (by simp) (r.append (.cons ru .nil)) ?_, rfl, q⟩
  rw [List.length_append, List.length_singleton]
  omega

def rExtend : V → List V → Hp → VK → Prop := fun x vs H Q => ∃ l b xs zs, x = .ref l ∧ vs = [.ref b] ∧ H l = some (.lst xs) ∧ H b = some (.lst zs) ∧ xs.length + zs.length ≤ sizeLine ∧ Q .non (upd H l (.lst (xs ++ zs)))
theorem mt_extend : MtM X "list.extend" rExtend := by
  intro pins s σ H x vs v us Q I rx rv h
  obtain ⟨l, b, xs, zs, rfl, rfl, hH, hB, hz, q⟩ := h
  cases rx
  obtain ⟨u, rfl, ru⟩ := rv.one
  cases ru
  obtain ⟨z, its, n, r, hl, e⟩ := I.lstM hH
  obtain ⟨z2, its2, n2, r2, hl2, e2⟩ := I.lstM hB
  have hsz : its.toArray.size + its2.toArray.size ≤ sizeLine := by rw [List.size_toArray, List.size_toArray]; omega
  have hlong : ¬ (!its.toArray.isEmpty && Builtin.List.listTooLong (its.toArray.size + its2.toArray.size)) = true := by
    rw [notLongL hsz, Bool.and_false]
    exact Bool.false_ne_true
  refine call_meets F.slot_list_extend ⟨_, e, rfl⟩ F.entry_list_extend (F.args_list_extend_2 _ _)
    (AutoSeq1.list_extend_list_list_0 l its.toArray n b its2.toArray n2 hlong (by rw [List.size_toArray]; omega) (by omega)) ⟨e, e2, ?_⟩
  refine ⟨.non, _, I.lset (its' := its ++ its2) hH e (by simp) (r.append r2) ?_, rfl, q⟩
  rw [List.length_append]
  omega

def rPop : V → List V → Hp → VK → Prop := fun x vs H Q => ∃ l xs y, x = .ref l ∧ vs = [] ∧ H l = some (.lst xs) ∧ xs[xs.length - 1]? = some y ∧ Q y (upd H l (.lst xs.dropLast))
theorem mt_pop : MtM X "list.pop" rPop := by
  intro pins s σ H x vs v us Q I rx rv h
  obtain ⟨l, xs, y, rfl, rfl, hH, hy, q⟩ := h
  cases rx
  have hus := rv.zero
  subst hus
  obtain ⟨z, its, n, r, hl, e⟩ := I.lstM hH
  obtain ⟨u, hu, ru⟩ := r.get hy
  have hy' : its.toArray[its.toArray.size - 1]? = some u := by
    show its.toArray[its.length - 1]? = some u
    rw [← Array.getElem?_toList, ← hl]
    exact hu
  refine call_meets F.slot_list_pop ⟨_, e, rfl⟩ F.entry_list_pop (F.args_list_pop_1 _) (MeetsSeq.list_pop_last l its.toArray n u hy' (by rw [List.size_toArray]; omega)) ⟨e, ?_⟩
  refine ⟨y, _, I.lset (its' := its.dropLast) hH e ?_ r.dropLast ?_, ru, q⟩
  · show its.toArray.eraseIdxIfInBounds (its.toArray.size - 1) = its.dropLast.toArray
    rw [List.size_toArray, List.eraseIdxIfInBounds_toArray, erase_last]
  · rw [List.length_dropLast]
    omega

def rPopAt : V → List V → Hp → VK → Prop := fun x vs H Q => ∃ l xs i k y, x = .ref l ∧ vs = [.int i] ∧ H l = some (.lst xs) ∧ -(2 ^ 63) ≤ i ∧ i < 2 ^ 63 ∧ seqIndex? i xs.length = some k ∧ xs[k]? = some y ∧ Q y (upd H l (.lst (xs.eraseIdx k)))
theorem mt_popAt : MtM X "list.pop" rPopAt := by
  intro pins s σ H x vs v us Q I rx rv h
  obtain ⟨l, xs, i, k, y, rfl, rfl, hH, h1, h2, hk, hy, q⟩ := h
  cases rx
  obtain ⟨u, rfl, ru⟩ := rv.one
  obtain ⟨t, rfl⟩ := ru
  obtain ⟨z, its, n, r, hl, e⟩ := I.lstM hH
  obtain ⟨w, hw, rw'⟩ := r.get hy
  refine call_meets F.slot_list_pop ⟨_, e, rfl⟩ F.entry_list_pop (F.args_list_pop_2 _ _)
    (MeetsSeq.list_pop_at l its.toArray n i t k w (fitsIndex_both h1 h2) (by rw [List.size_toArray, ← hl]; exact hk) (by rw [← Array.getElem?_toList]; exact hw) (by rw [List.size_toArray]; omega)) ⟨e, ?_⟩
  refine ⟨y, _, I.lset (its' := its.eraseIdx k) hH e ?_ (r.eraseIdx k) ?_, rw', q⟩
  · show its.toArray.eraseIdxIfInBounds k = (its.eraseIdx k).toArray
    rw [List.eraseIdxIfInBounds_toArray]
  · have := len_erase xs k
    omega

def rReverse : V → List V → Hp → VK → Prop := fun x vs H Q => ∃ l xs, x = .ref l ∧ vs = [] ∧ H l = some (.lst xs) ∧ Q .non (upd H l (.lst xs.reverse))
theorem mt_reverse : MtM X "list.reverse" rReverse := by
  intro pins s σ H x vs v us Q I rx rv h
  obtain ⟨l, xs, rfl, rfl, hH, q⟩ := h
  cases rx
  have hus := rv.zero
  subst hus
  obtain ⟨z, its, n, r, hl, e⟩ := I.lstM hH
  refine call_meets F.slot_list_reverse ⟨_, e, rfl⟩ F.entry_list_reverse (F.args_list_reverse_1 _) (AutoSeq1.list_reverse_list_0 l its.toArray n (by rw [List.size_toArray]; omega)) ⟨e, ?_⟩
  refine ⟨.non, _, I.lset (its' := its.reverse) hH e (by simp) r.reverse ?_, rfl, q⟩
  rw [List.length_reverse]
  omega

def rClear : V → List V → Hp → VK → Prop := fun x vs H Q => ∃ l xs, x = .ref l ∧ vs = [] ∧ H l = some (.lst xs) ∧ Q .non (upd H l (.lst []))
theorem mt_clear : MtM X "list.clear" rClear := by
  intro pins s σ H x vs v us Q I rx rv h
  obtain ⟨l, xs, rfl, rfl, hH, q⟩ := h
  cases rx
  have hus := rv.zero
  subst hus
  obtain ⟨z, its, n, r, hl, e⟩ := I.lstM hH
  refine call_meets F.slot_list_clear ⟨_, e, rfl⟩ F.entry_list_clear (F.args_list_clear_1 _) (AutoSeq1.list_clear_list_0 l its.toArray n (by rw [List.size_toArray]; omega)) ⟨e, ?_⟩
  exact ⟨.non, _, I.lset (its' := []) (ys := []) hH e rfl .nil (Nat.zero_le _), rfl, q⟩

/-! ### list + list, list += list, list * int -/
def rCat : R2 := fun x y H Q => ∃ l b xs zs, x = .ref l ∧ y = .ref b ∧ H l = some (.lst xs) ∧ H b = some (.lst zs) ∧ xs.length + zs.length ≤ sizeLine ∧ ∀ p, H p = none → Q (.ref p) (upd H p (.lst (xs ++ zs)))
theorem op_cat : OpR X (binaryOp .Add) rCat := by
  intro pins s σ H x y v u Q I rx ry h
  obtain ⟨l, b, xs, zs, rfl, rfl, hH, hB, hz, q⟩ := h
  cases rx
  cases ry
  obtain ⟨z, its, n, r, hl, e⟩ := I.lstM hH
  obtain ⟨z2, its2, n2, r2, hl2, e2⟩ := I.lstM hB
  refine PySem.P.add_list e e2 ?_ (by rw [List.size_toArray, List.size_toArray]; omega)
  have ea : its.toArray ++ its2.toArray = (its ++ its2).toArray := by simp
  rw [ea]
  exact ⟨.ref _, _, I.lnew (t' := s.toks) (r.append r2) (by rw [List.length_append]; omega), rfl, q _ I.fresh⟩
/-- a list times an int (a negative one is nothing) -/
def rRep : R2 := fun x y H Q => ∃ l k xs, x = .ref l ∧ y = .int k ∧ H l = some (.lst xs) ∧ -(2 ^ 63) ≤ k ∧ k < 2 ^ 63 ∧ xs.length * k.toNat ≤ sizeLine ∧
  ∀ p, H p = none → Q (.ref p) (upd H p (.lst (List.replicate k.toNat xs).flatten))
theorem len_rep {α : Type} (xs : List α) (k : Nat) : (List.replicate k xs).flatten.length = k * xs.length := by
  induction k with
  | zero => simp
  | succ k ih => rw [List.replicate_succ, List.flatten_cons, List.length_append, ih, Nat.succ_mul, Nat.add_comm]
theorem op_rep : OpR X (binaryOp .Mult) rRep := by
  intro pins s σ H x y v u Q I rx ry h
  obtain ⟨l, k, xs, rfl, rfl, hH, h1, h2, hz, q⟩ := h
  cases rx
  obtain ⟨t, rfl⟩ := ry
  obtain ⟨z, its, n, r, hl, e⟩ := I.lstM hH
  have hlen : its.toArray.size * k.toNat ≤ sizeLine := by rw [List.size_toArray, ← hl]; exact hz
  have hcap : ¬ its.toArray.size * k.toNat > (2 ^ 63 - 1) / 8 := by
    have : (sizeLine : Nat) ≤ (2 ^ 63 - 1) / 8 := by decide
    omega
  have hfit : ¬ (!Builtin.List.listFitsIndex k) = true := by
    rw [fitsIndex_both h1 h2]
    exact Bool.false_ne_true
  have hlong : ¬ Builtin.List.listTooLong (its.toArray.size * k.toNat) = true := by
    rw [notLongL hlen]
    exact Bool.false_ne_true
  have hnew : List.foldl (fun x1 x2 => x1 ++ x2) #[] (List.replicate (if its.toArray.isEmpty = true then 0 else k.toNat) its.toArray) = (List.replicate k.toNat its).flatten.toArray := by
    have f0 : ∀ m : Nat, List.foldl (fun x1 x2 => x1 ++ x2) #[] (List.replicate m its.toArray) = (List.replicate m its).flatten.toArray := fun m => by
      have := foldl_rep its m []
      rw [List.nil_append] at this
      exact this
    rw [f0]
    cases its with
    | nil => simp
    | cons a r' => rw [if_neg (by simp)]
  refine wpAny_binaryOp_repeat_ref (T := "list") (U := "int") (by decide) ⟨_, e, rfl⟩ (fun s' => typeIs_int s' k t) noFill_list_mul F.fills_int_mul F.slot_int_rmul repeat_list F.slot_int_index.lookup
    (call_meets F.slot_int_rmul (typeIs_int s k t) F.entry_int_rmul (F.args_int_rmul_2 _ _) (int___rmul___int_list k t l its.toArray n)
      ⟨e, rfl, ⟨_, e, rfl⟩, call_meets F.slot_list_mul ⟨_, e, rfl⟩ F.entry_list_mul (F.args_list_mul_2 _ _) (AutoListH.list___mul___list_int_3 l its.toArray n k t hfit hcap hlong) ⟨e, ?_⟩⟩)
  rw [hnew]
  exact ⟨.ref _, _, I.lnew (t' := s.toks) (r.rep k.toNat) (by rw [len_rep, Nat.mul_comm]; exact hz), rfl, q _ I.fresh⟩

/-! ### del xs[i] -/
theorem del_list {pins : List (Addr × Obj)} {s : Shared} {σ : St} {H : Hp} {l : Addr} {xs : List V} {i : Int} {t : Tok} {k : Nat} {Q : Unit → Shared → Prop} (I : Inv X pins σ H s) (hH : H l = some (.lst xs))
    (h1 : -(2 ^ 63) ≤ i) (h2 : i < 2 ^ 63) (hk : seqIndex? i xs.length = some k) (h : ∀ s', Inv X pins σ (upd H l (.lst (xs.eraseIdx k))) s' → Q () s') :
    wpAny (model X.prog X.w) X.A (delItem (.ref l) (.int i t)) Q X.xe s := by
  obtain ⟨z, its, n, r, hl, e⟩ := I.lstM hH
  refine PySem.P.delItem_list (k := k) e (fitsIndex_both h1 h2) (by rw [List.size_toArray, ← hl]; exact hk) (h _ ?_) (by rw [List.size_toArray]; omega)
  refine I.lset (its' := its.eraseIdx k) (t' := s.toks) hH e ?_ (r.eraseIdx k) ?_
  · show its.toArray.eraseIdxIfInBounds k = (its.eraseIdx k).toArray
    rw [List.eraseIdxIfInBounds_toArray]
  · have := len_erase xs k
    omega
end

/-! ### xs[a:b] = ys -/
section
variable {prog : Program} {w : World} {A : Around} {E : Value → Shared → Prop} {s : Shared}
theorem splice_eq (its its2 : List Value) (a c : Nat) : its.toArray.extract 0 a ++ its2.toArray ++ its.toArray.extract c its.toArray.size = (its.take a ++ its2 ++ its.drop c).toArray := by
  apply Array.toList_inj.mp
  first
    | (simp
       exact List.take_of_length_le (by simp))
    | simp [List.take_of_length_le]
    | simp
theorem bounds_run {a c n : Nat} (hac : a ≤ c) (hc : c ≤ n) : sliceBounds (some (a : Int)) (some (c : Int)) none n = ((a : Int), (c : Int), 1) := by
  simp only [sliceBounds, Option.getD_none]
  have h1 : ¬ ((a : Int) < 0) := by omega
  have h2 : ¬ ((c : Int) < 0) := by omega
  simp only [h1, h2, if_false, show (1 : Int) > 0 by decide, if_true]
  congr 1
  · omega
  · congr 1; omega
set_option maxRecDepth 100000 in
/-- list.__setitem__ with a slice of step one and another list -/
theorem setItem_slice {l b sl : Addr} {items new : Array Value} {n n2 : Nat} {vl vu : Value} {a c : Nat} {Q : Unit → Shared → Prop}
    (e : s.heap.get? l = some { cls := .type "list", data := .seq items n }) (e2 : s.heap.get? b = some { cls := .type "list", data := .seq new n2 }) (hne : l ≠ b)
    (hs : s.heap.IsSliceOf sl vl vu .none) (pl : IsPart vl (some (a : Int))) (pu : IsPart vu (some (c : Int))) (hac : a ≤ c) (hc : c ≤ items.size)
    (hsz : items.size + new.size ≤ sizeLine) (h : Q () { s with heap := s.heap.update l (Obj.mapSeq fun xs => xs.extract 0 a ++ new ++ xs.extract c xs.size) }) :
    wpAny (model prog w) A (setItem (.ref l) (.ref sl) (.ref b)) Q E s := by
  have hl : s.heap.IsList l items := PySem.IsL.isList e
  have hb : s.heap.IsList b new := PySem.IsL.isList e2
  obtain ⟨os, hos, hcs, hds⟩ := id hs
  have hTs : s.TypeIs (.ref sl) "slice" := ⟨os, hos, hcs⟩
  have hstep : ¬ ((rawPart none == rawInt 0) = true) := Bool.false_ne_true
  have hsame : Builtin.List.listSameRef (.ref l) (.ref b) = false := by
    unfold Builtin.List.listSameRef
    exact beq_eq_false_iff_ne.mpr hne
  have hmax : (max (a : Int) (c : Int)).toNat = c := by omega
  have hz' : ((fun xs : Array Value => xs.extract 0 a ++ new ++ xs.extract c xs.size) items).size ≤ sizeLine + 1 := by
    simp only [Array.size_append, Array.size_extract]
    omega
  unfold setItem
  try with_reducible refine wpAny_holding ?_
  first | refine wpAny_bind (wpAny_pure ?_) | skip
  refine wpAny_bind (wpAny_sequenceKey hl.typeIs (by decide) ?_)
  refine wpAny_bind (wpAny_callSpecial?_slot (name := Str.ofString "__setitem__") hl.typeIs slot_list_setitem
    (wpAny_call_entry slot_list_setitem hl.typeIs entry_list_setitem ?_ (args_list_setitem _ _ _)))
  show wpAny _ _ (Builtin.List.listSubscript? (.ref sl) >>= _) _ _ s
  refine wpAny_bind ?_
  unfold Builtin.List.listSubscript?
  refine wpAny_bind (wpAny_specialOf hTs slice_no_index ?_)
  simp only [Option.isNone_none, if_true]
  refine wpAny_pure ?_
  show wpAny _ _ (typeOf (.ref sl) >>= _) _ _ s
  refine wpAny_bind (wpAny_typeOf hTs ?_)
  first
    | rw [if_neg (by decide)]
    | refine PySem.W.KFB.if_not (by decide) ?_
  rw [listSliceParts_eq]
  refine wpAny_bind (wpAny_bind (wpAny_field hos hds (x := .none) rfl (wpAny_bind (wpAny_listPart .none ?_))))
  rw [if_neg hstep]
  refine wpAny_bind (wpAny_field hos hds (x := vl) rfl (wpAny_bind (wpAny_listPart pl ?_)))
  refine wpAny_bind (wpAny_field hos hds (x := vu) rfl (wpAny_bind (wpAny_listPart pu (wpAny_pure ?_))))
  first
    | simp only [hsame, Bool.false_eq_true, if_false]
    | refine PySem.W.KFB.if_not hsame ?_
    | (dsimp only
       rw [if_neg (by rw [hsame]; exact Bool.false_ne_true)])
  refine wpAny_bind (m := Builtin.List.listAllItems (.ref b) "must assign iterable to extended slice") ?_
  unfold Builtin.List.listAllItems
  refine wpAny_bind (wpAny_typeOf hb.typeIs ?_)
  first
    | refine PySem.W.KFB.if_so (by decide) ?_
    | rw [if_pos (by decide)]
    | simp only [beq_self_eq_true, Bool.true_or, if_true]
  unfold Builtin.List.listItems
  refine wpAny_bind (wpAny_seqItems e2 rfl (wpAny_pure ?_))
  refine wpAny_bind (wpAny_bind (wpAny_seqItems e rfl (wpAny_pure ?_)))
  refine wpAny_bind (wpAny_of_eq ((sliceIndices_raw (some (a : Int)) (some (c : Int)) none items.size (by simp)).trans (congrArg (pure : Int × Int × Int → Sem (Int × Int × Int)) (bounds_run hac hc))) ?_)
  show wpAny _ _ (if ((1 : Int) == 1) = true then _ else _) _ _ s
  rw [if_pos (by decide)]
  refine wpAny_bind (wpAny_rule ?_)
  first
    | simp only [notLongL hsz, Bool.false_eq_true, if_false]
    | refine PySem.W.KFB.if_not (notLongL hsz) ?_
  first | refine wpAny_bind (wpAny_pure ?_) | skip
  show wpAny _ _ (updateSeq l (fun xs => xs.extract 0 ((a : Int)).toNat ++ new ++ xs.extract (max (a : Int) (c : Int)).toNat xs.size) >>= _) _ _ s
  rw [hmax, Int.toNat_natCast]
  refine wpAny_bind (wpAny_updateSeq (hz := Nat.le_trans (Nat.le_add_right _ _) hsz) (_hz' := hz') e rfl ?_)
  refine wpAny_bind (wpAny_letGo ?_)
  first
    | exact wpAny_bind (wpAny_pure (wpAny_pure ⟨.none, rfl, wpAny_pure h⟩))
    | exact wpAny_pure ⟨.none, rfl, wpAny_pure h⟩
end

section
variable {X : Cx}
/-- xs[a:c] = ys of another list, at the value level: sl is the slice object that was just made -/
theorem set_slice {pins : List (Addr × Obj)} {s : Shared} {σ : St} {H : Hp} {l b sl : Addr} {xs ys : List V} {a c : Int} {vl vu : Value} {Q : Unit → Shared → Prop} (I : Inv X pins σ H s)
    (hH : H l = some (.lst xs)) (hB : H b = some (.lst ys)) (hne : l ≠ b) (hs : s.heap.IsSliceOf sl vl vu .none) (ra : RelV (.int a) vl) (rc : RelV (.int c) vu) (h0 : 0 ≤ a) (hac : a ≤ c) (hc : c ≤ xs.length)
    (hz : xs.length + ys.length ≤ sizeLine) (h : ∀ s', Inv X pins σ (upd H l (.lst (xs.take a.toNat ++ ys ++ xs.drop c.toNat))) s' → Q () s') :
    wpAny (model X.prog X.w) X.A (setItem (.ref l) (.ref sl) (.ref b)) Q X.xe s := by
  obtain ⟨ta, rfl⟩ := ra
  obtain ⟨tc, rfl⟩ := rc
  obtain ⟨z, its, n, r, hl, e⟩ := I.lstM hH
  obtain ⟨z2, its2, n2, r2, hl2, e2⟩ := I.lstM hB
  obtain ⟨a', rfl⟩ := Int.eq_ofNat_of_zero_le h0
  obtain ⟨c', rfl⟩ := Int.eq_ofNat_of_zero_le (Int.le_trans h0 hac)
  simp only [Int.toNat_natCast] at h
  refine setItem_slice (a := a') (c := c') e e2 hne hs (.int _ _) (.int _ _) (by omega) (by rw [List.size_toArray]; omega) (by rw [List.size_toArray, List.size_toArray]; omega) (h _ ?_)
  refine I.lset (its' := its.take a' ++ its2 ++ its.drop c') (t' := s.toks) hH e ?_ (Vals.append (Vals.append (r.take _) r2) (r.drop _)) ?_
  · exact splice_eq its its2 a' c'
  · rw [List.length_append, List.length_append, List.length_take, List.length_drop]
    omega
end
end L2

namespace Att
open PySem PySem.W PySem.Calls PyProof.Rows

/-! ### the script -/
theorem ints_of_wellAll {P : Params} {h : Heap} : ∀ (ns : List Int) (vs : List Value), WellAll P h vs (ns.map WData.int) → IntsAre vs ns := by
  intro ns
  induction ns with
  | nil =>
    intro vs w
    rw [List.map_nil] at w
    cases w
    exact .nil
  | cons n ns ih =>
    intro vs w
    rw [List.map_cons] at w
    cases w with
    | cons a b =>
      cases a
      exact .cons _ _ (ih _ b)

theorem script_of {l : OpenLaw} {n : Nat} (hn : l.most = some n) {P : Params} {h : Heap} {args : List WData} {vals : List Value}
    (hpre : l.row.toRowW.claim.pre args = true) (hwl : WellAll P h vals args) :
    ∃ a vs ns, vals = [Value.ref a] ∧ args = [WData.list (ns.map WData.int)] ∧ h.get? a = some { cls := .type "list", data := .seq vs.toArray } ∧ IntsAre vs ns ∧ ns.length ≤ n := by
  have hsh : WShape.hasAll [] args [.list .int] = true := (pre_splitW hpre).1
  have hc : l.pre.holds [] { args := args } = true := (pre_splitW hpre).2
  obtain ⟨d, r, rfl, h1, h2⟩ := hasAllW_cons hsh
  obtain rfl := hasAllW_nil h2
  obtain ⟨xs, rfl, h3⟩ := hasW_list h1
  obtain ⟨ns, rfl⟩ := items_int h3
  have hlen : ns.length ≤ n := by
    unfold OpenLaw.pre at hc
    have h4 : (WTm.not (.lt (.lit (.int (n : Int))) (.len (.arg 0)))).holds [] { args := [.list (ns.map .int)] } = true := by
      have h4 := (holds_andW hc).1
      rw [hn] at h4
      exact h4
    have h5 := condW_of h4 (w_not (w_lt w_lit (w_len_list (w_arg rfl))))
    rw [List.length_map] at h5
    refine Nat.le_of_not_lt fun q => ?_
    have q' : (n : Int) < ((ns.length : Nat) : Int) := by omega
    first
      | (rw [decide_eq_true q'] at h5; exact absurd h5 (by decide))
      | (simp at h5; omega)
  cases hwl with
  | cons w1 w2 =>
    cases w2
    cases w1 with
    | list ho hall => exact ⟨_, _, ns, rfl, rfl, ho, ints_of_wellAll ns _ hall, hlen⟩

theorem post_true (l : OpenLaw) (args : List WData) : l.row.toRowW.claim.post args (.bool true) args = true :=
  postW_of (r := l.row.toRowW) (X := (true == true))
    (show WShape.has [] (.bool true) .bool = true by first | rfl | decide | simp [WShape.has, WShape.arms, WShape.armsAll])
    (show (WTm.eq .res (.lit (.bool true))).value [] { args := args, res := some (.bool true), after := args } = some (.bool (true == true)) from w_eq_bool (w_res rfl) w_lit) rfl

/-! ### the attachment: holds_open's last premise (the goal 'hc' behind k_head) from a wpAny of the law's body -/
theorem attach {l : OpenLaw} {n : Nat} {q : Program} {loose : List Str} {XP : (Str → Option Value) → Heap → Prop} {YP : World → Heap → Prop} {d : DefRec} {x : Str}
    (hn : l.most = some n) (hdf : d.params.defaults = [])
    (hbind : ∀ pm cd doc v : Value, bindArgs (docDef d.name d.params d.body d.scope pm cd doc) ⟨[v], []⟩ = pure [(x, v)])
    (hx : d.scope.names.lookup x = some .local ∨ d.scope.names.lookup x = some .cell)
    (hk : d.scope.kind = .function) (hco : d.scope.isCoroutine = false) (hgen : d.scope.isGenerator = false)
    (body : ∀ (w : World) (s₀ s₁ s : Shared) (mg mb : Str → Option Value) (fa : Addr) (o : Obj) (pm cd doc : Value) (a : Addr) (vs : List Value) (ns : List Int),
      Ground q loose [] XP w s₀ mg mb s₁.heap → YP w s₁.heap →
      s₁.heap.get? fa = some o → o.data = .func (docDef d.name d.params d.body d.scope pm cd doc) → s₁.heap.CodeRec cd d.name → mg d.name = some (.ref fa) →
      s₁.heap.get? a = some { cls := .type "list", data := .seq vs.toArray } → IntsAre vs ns → ns.length ≤ n →
      s.gens = #[] → s.os = s₁.os →
      Fr s₁.heap s₁.heap.objs.size s.heap (bindL (envOfC d.name d.scope s₁.heap.objs.size fa cd).kindOf [(x, .ref a)] fun _ => none) →
      Cl s₁.heap.objs.size (cellsFrom (s₁.heap.objs.size + 1) d.scope.names []) s.heap (bindC (envOfC d.name d.scope s₁.heap.objs.size fa cd).kindOf [(x, .ref a)] fun _ => none) →
      wpAny (model l.prog w) (callerA.deeper (envOfC d.name d.scope s₁.heap.objs.size fa cd)) (execs d.body (envOfC d.name d.scope s₁.heap.objs.size fa cd))
        (fun f s' => f = .ret (.bool true) ∧ OldK s₁.heap s'.heap ∧ s'.os = s₁.os ∧ AllBare s'.gens) (fun _ _ => False) s) :
    WalkO q loose XP YP l.row.toRowW d [] (fun f vs => PySem.call f vs) := by
  intro w s₀ s₁ mg mb G Y fa o pm cd doc dV kV ho hd hcd hD hmg hg args vals as hpre hlay hrd hwl hlo
  obtain rfl : dV = .none := Dflts.none hD hdf
  obtain rfl : kV = .none := Dflts.noKw hD
  obtain ⟨a, vs, ns, rfl, rfl, hobj, hints, hlen⟩ := script_of hn hpre hwl
  refine enter_call ?_
  refine call_cells_ret (o := o) (by rw [depth_caller]; decide) ho (fd_plain hd) G.T.nolimit hcd (hbind pm cd doc (.ref a)) (fun y hy => ?_) (fun h₁ tk F X => ?_) hco hgen hk
  · obtain rfl : y = (x, Value.ref a) := List.mem_singleton.mp hy
    rcases hx with e | e
    · exact .inl e
    · exact .inr ⟨e, cellsFrom_some _ _ _ (.inl e)⟩
  · refine wpAny_mono (body w s₀ s₁ { s₁ with heap := h₁, toks := tk } mg mb fa o pm cd doc a vs ns G Y ho (fd_plain hd) hcd hmg hobj hints hlen hg rfl F X) (fun f s' hq => ?_) (fun _ _ hq => hq)
    obtain ⟨rfl, h2, h3, h4⟩ := hq
    exact ⟨.inl ⟨.bool true, .bool true, [], rfl, fun _ => rfl, .bool true, post_true l _, fun _ => ⟨List.Pairwise.nil, fun _ hm => (nomatch hm)⟩⟩, h2, h3, h4⟩

/-- the same from a codeAny of the CALL (for a layer whose function contracts speak of calls) -/
theorem attach_call {l : OpenLaw} {n : Nat} {q : Program} {loose : List Str} {XP : (Str → Option Value) → Heap → Prop} {YP : World → Heap → Prop} {d : DefRec}
    (hn : l.most = some n) (hdf : d.params.defaults = [])
    (call : ∀ (w : World) (s₀ s₁ : Shared) (mg mb : Str → Option Value) (fa : Addr) (o : Obj) (pm cd doc : Value) (a : Addr) (vs : List Value) (ns : List Int),
      Ground q loose [] XP w s₀ mg mb s₁.heap → YP w s₁.heap →
      s₁.heap.get? fa = some o → o.data = .func (docDef d.name d.params d.body d.scope pm cd doc) → s₁.heap.CodeRec cd d.name → mg d.name = some (.ref fa) →
      s₁.heap.get? a = some { cls := .type "list", data := .seq vs.toArray } → IntsAre vs ns → ns.length ≤ n → s₁.gens = #[] →
      codeAny (model l.prog w) callerA (.call (.ref fa) ⟨[.ref a], []⟩) (fun r s' => r = .ok (.ret (.bool true)) ∧ OldK s₁.heap s'.heap ∧ s'.os = s₁.os ∧ AllBare s'.gens) s₁) :
    WalkO q loose XP YP l.row.toRowW d [] (fun f vs => PySem.call f vs) := by
  intro w s₀ s₁ mg mb G Y fa o pm cd doc dV kV ho hd hcd hD hmg hg args vals as hpre hlay hrd hwl hlo
  obtain rfl : dV = .none := Dflts.none hD hdf
  obtain rfl : kV = .none := Dflts.noKw hD
  obtain ⟨a, vs, ns, rfl, rfl, hobj, hints, hlen⟩ := script_of hn hpre hwl
  refine enter_call (codeAny_mono (call w s₀ s₁ mg mb fa o pm cd doc a vs ns G Y ho (fd_plain hd) hcd hmg hobj hints hlen hg) fun r s' hq => ?_)
  obtain ⟨rfl, h2, h3, h4⟩ := hq
  exact ⟨.inl ⟨.bool true, .bool true, [], rfl, fun _ => rfl, .bool true, post_true l _, fun _ => ⟨List.Pairwise.nil, fun _ hm => (nomatch hm)⟩⟩, h2, h3, h4⟩

/-- the same where the top left finished generators (o_head chose holds_openN): nothing may have changed at all and no generator may be left -/
theorem attachN {l : OpenLaw} {n : Nat} {q : Program} {loose : List Str} {XP : (Str → Option Value) → Heap → Prop} {YP : World → Heap → Prop} {d : DefRec} {x : Str}
    (hn : l.most = some n) (hdf : d.params.defaults = [])
    (hbind : ∀ pm cd doc v : Value, bindArgs (docDef d.name d.params d.body d.scope pm cd doc) ⟨[v], []⟩ = pure [(x, v)])
    (hx : d.scope.names.lookup x = some .local ∨ d.scope.names.lookup x = some .cell)
    (hk : d.scope.kind = .function) (hco : d.scope.isCoroutine = false) (hgen : d.scope.isGenerator = false)
    (body : ∀ (w : World) (s₀ s₁ s : Shared) (mg mb : Str → Option Value) (fa : Addr) (o : Obj) (pm cd doc : Value) (a : Addr) (vs : List Value) (ns : List Int),
      Ground q loose [] XP w s₀ mg mb s₁.heap → YP w s₁.heap →
      s₁.heap.get? fa = some o → o.data = .func (docDef d.name d.params d.body d.scope pm cd doc) → s₁.heap.CodeRec cd d.name → mg d.name = some (.ref fa) →
      s₁.heap.get? a = some { cls := .type "list", data := .seq vs.toArray } → IntsAre vs ns → ns.length ≤ n →
      s.gens = #[] → s.os = s₁.os →
      Fr s₁.heap s₁.heap.objs.size s.heap (bindL (envOfC d.name d.scope s₁.heap.objs.size fa cd).kindOf [(x, .ref a)] fun _ => none) →
      Cl s₁.heap.objs.size (cellsFrom (s₁.heap.objs.size + 1) d.scope.names []) s.heap (bindC (envOfC d.name d.scope s₁.heap.objs.size fa cd).kindOf [(x, .ref a)] fun _ => none) →
      wpAny (model l.prog w) (callerA.deeper (envOfC d.name d.scope s₁.heap.objs.size fa cd)) (execs d.body (envOfC d.name d.scope s₁.heap.objs.size fa cd))
        (fun f s' => f = .ret (.bool true) ∧ (∀ b o, s₁.heap.get? b = some o → s'.heap.get? b = some o) ∧ s'.os = s₁.os ∧ s'.gens = #[]) (fun _ _ => False) s) :
    WalkN q loose XP YP l.row.toRowW d [] (fun f vs => PySem.call f vs) := by
  intro w s₀ s₁ mg mb G Y fa o pm cd doc dV kV ho hd hcd hD hmg hg args vals as hpre hlay hrd hwl hlo
  obtain rfl : dV = .none := Dflts.none hD hdf
  obtain rfl : kV = .none := Dflts.noKw hD
  obtain ⟨a, vs, ns, rfl, rfl, hobj, hints, hlen⟩ := script_of hn hpre hwl
  refine enter_callW ?_
  refine call_cells_ret (o := o) (by rw [depth_caller]; decide) ho (fd_plain hd) G.T.nolimit hcd (hbind pm cd doc (.ref a)) (fun y hy => ?_) (fun h₁ tk F X => ?_) hco hgen hk
  · obtain rfl : y = (x, Value.ref a) := List.mem_singleton.mp hy
    rcases hx with e | e
    · exact .inl e
    · exact .inr ⟨e, cellsFrom_some _ _ _ (.inl e)⟩
  · refine wpAny_mono (body w s₀ s₁ { s₁ with heap := h₁, toks := tk } mg mb fa o pm cd doc a vs ns G Y ho (fd_plain hd) hcd hmg hobj hints hlen hg rfl F X) (fun f s' hq => ?_) (fun _ _ hq => hq)
    obtain ⟨rfl, h2, h3, h4⟩ := hq
    exact ⟨.inl ⟨.bool true, .bool true, [], rfl, fun _ => rfl, .bool true, post_true l _, fun _ => ⟨List.Pairwise.nil, fun _ hm => (nomatch hm)⟩⟩, h2, h3, h4⟩

/-! ### rules over ANY heap (no ledger) from facts about the written part K: the library's own take a ledger (News) for what they write -/
section
variable {prog : Program} {w : World} {A : Around} {E : Value → Shared → Prop} {s : Shared} {K : Frag}

/-- a def of the module, or a method (qual 'C.m'), entered: the frame is the next address; cells behind it -/
theorem call_fn {R : Result → Shared → Prop} {name qual : Str} {params : Arguments} {body : List Stmt} {scope : Scope} {dV kV doc pm cdv ct oc : Value} {an od : Option Addr} {osl : Array (Option Value)} {f : Addr} {args : Args} {binds : List (Str × Value)}
    (X : K.In s.heap) (hlim : s.heap.NoLimit) (ho : K.lookup f = some ⟨oc, od, .func (fnOf name qual params body scope dV kV doc pm an cdv ct), osl⟩) (hcd : codeIn K cdv qual = true) (hroom : A.depth < recursionLimit)
    (hbind : BindsTo s (fnOf name qual params body scope dV kV doc pm an cdv ct) args binds)
    (hkind : (binds.all fun y => scope.names.lookup y.1 == some .local || scope.names.lookup y.1 == some .cell) = true)
    (h : ∀ s₁, InCallC s s.heap.objs.size (bindL (envOfC qual scope s.heap.objs.size f cdv).kindOf binds fun _ => none) (cellsFrom (s.heap.objs.size + 1) scope.names [])
        (bindC (envOfC qual scope s.heap.objs.size f cdv).kindOf binds fun _ => none) s₁ →
      wpAny (model prog w) (A.deeper (envOfC qual scope s.heap.objs.size f cdv)) (execs body (envOfC qual scope s.heap.objs.size f cdv))
        (fun fl s' => R (.ok (.ret (match fl with | .ret v => v | _ => .none))) s')
        (fun e s' => wpAny (model prog w) (A.deeper (envOfC qual scope s.heap.objs.size f cdv)) (leaving (envOfC qual scope s.heap.objs.size f cdv) e) (fun _ s'' => R (.error e) s'') (fun e' s'' => R (.error e') s'') s') s₁)
    (hco : scope.isCoroutine = false) (hgen : scope.isGenerator = false) (hk : scope.kind = .function) : codeAny (model prog w) A (.call (.ref f) args) R s := by
  refine codeAny_call_function hroom (X _ _ ho) rfl hco hgen rfl (codeRec_of X hcd) (hbind _ _ _ _ ?_)
  refine wpAny_newFunctionEnv_cells hk (kindsX hkind _) fun env he s₁ x => ?_
  subst he
  exact ⟨hlim.keeps x.toInCall.keep, codeAny_func (h s₁ x)⟩

/-- C(..): dict at size, instance at size + 1, then __init__ -/
theorem make_obj {R : Result → Shared → Prop} {C fI : Addr} {rest : List Value} {kw : List (Str × Value)}
    (X : K.In s.heap) (hm : makesIn K C = true) (hi : findIn K (.ref C) "__init__" = some (some (.ref fI))) (hf : isFn K (.ref fI) = true)
    (h : codeAny (model prog w) (A.under (.builtin "type.__call__" ⟨.ref C :: rest, kw⟩)) (.call (.ref fI) ⟨.ref (s.heap.objs.size + 1) :: rest, kw⟩) (InitBack (s.heap.objs.size + 1) R)
      { s with heap := (s.heap.push emptyDict).push (instObj C s.heap.objs.size) }) : codeAny (model prog w) A (.call (.ref C) ⟨rest, kw⟩) R s := by
  obtain ⟨hh, g, d, t, os⟩ := s
  exact make_core (makes_of X hm) (looks_findIn X hi) (fun self => bind_fn X self (beq_iff_eq.mp hf)) (.inl rfl) h

/-- x.name where the instance's dict holds the name and the class does not -/
theorem get_field {x C : Addr} {ox : Obj} {es : List DictEntry} {n : Nat} {name : Str} {expr : Bool} {v : Value} {Q : Value → Shared → Prop}
    (X : K.In s.heap) (I : PySem.W.InstAt s.heap x ox C (some (dictOf es n))) (hg : plainGet K C name = true) (hh : hasDictIn K C = true) (ha : findIn K (.ref C) name = some none)
    (hl : getL name es = some (some v)) (hv : handedIn v = true) (h : Q v { s with toks := s.toks + 1 }) : wpAny (model prog w) A (getAttr (.ref x) name expr) Q E s :=
  get_value X I (plainGet_of hg).1 (findObj_own hh ha rfl hl) hv h

/-- x.m(..): the method found in the class -/
theorem get_method {x C f : Addr} {ox : Obj} {es : List DictEntry} {n : Nat} {name : Str} {pl : Sem Bool} {Q : Value × List Value → Shared → Prop}
    (X : K.In s.heap) (I : PySem.W.InstAt s.heap x ox C (some (dictOf es n))) (hg : plainGet K C name = true) (hf : findIn K (.ref C) name = some (some (.ref f))) (ht : isFn K (.ref f) = true)
    (hl : getL name es = some none) (h : Q (.ref f, [.ref x]) s) : wpAny (model prog w) A (getMethod (.ref x) name pl) Q E s :=
  method_fn X I (plainGet_of hg).1 (plainGet_of hg).2 hf (beq_iff_eq.mp ht) (by show (lookIn name (dictOf es n)).map _ = _; rw [lookIn_dict, hl]; rfl) h

/-! the whole heap as the ledger: makes every rule that writes through a ledger a rule over any heap -/
def noObjs (h : Heap) : Heap := { h with objs := #[] }
theorem noObjs_get (h : Heap) (b : Addr) : (noObjs h).get? b = none := by
  cases e : (noObjs h).get? b with
  | none => rfl
  | some o => exact absurd (Heap.lt_size e) (Nat.not_lt_zero _)
def ledger (h : Heap) (L d : Addr) : List (Addr × Obj) := (List.range h.objs.size).filterMap fun a => if a = L ∨ a = d then none else (h.get? a).map fun o => (a, o)
theorem mem_ledger {h : Heap} {L d a : Addr} {o : Obj} : (a, o) ∈ ledger h L d ↔ a ≠ L ∧ a ≠ d ∧ h.get? a = some o := by
  unfold ledger
  rw [List.mem_filterMap]
  constructor
  · rintro ⟨b, _, e⟩
    split at e
    · cases e
    · rename_i hb
      obtain ⟨o', ho, e'⟩ := Option.map_eq_some_iff.mp e
      cases e'
      exact ⟨fun q => hb (.inl q), fun q => hb (.inr q), ho⟩
  · rintro ⟨n1, n2, ho⟩
    refine ⟨a, List.mem_range.mpr (Heap.lt_size ho), ?_⟩
    rw [if_neg (show ¬ (a = L ∨ a = d) from fun q => q.elim n1 n2), ho] <;> rfl
theorem news_ledger {h : Heap} {L d : Addr} {od : Obj} (hne : d ≠ L) (ho : h.get? d = some od) : News (noObjs h) L h ([] ++ (d, od) :: ledger h L d) := by
  rintro ⟨a, o⟩ hp
  rcases List.mem_cons.mp hp with e | hp
  · cases e
    exact ⟨ho, hne, noObjs_get _ _⟩
  · obtain ⟨n1, n2, e⟩ := mem_ledger.mp hp
    exact ⟨e, n1, noObjs_get _ _⟩
theorem fr_all {h : Heap} {L : Addr} {m : Str → Option Value} (n : h.Ns L m) : Fr (noObjs h) L h m :=
  ⟨n, fun b o e => (by rw [noObjs_get] at e; cases e), Nat.zero_le _⟩
/-- Upd of the head entry (for append_K, setItem_K ..) -/
theorem upd_ledger {h : Heap} {L d : Addr} {o o' : Obj} : Upd d o o' ((d, o) :: ledger h L d) ((d, o') :: ledger h L d) :=
  .head fun ⟨_, _⟩ hp => (mem_ledger.mp hp).2.1

/-- x.name = v over any heap: L is any namespace of the heap (the frame's, say): its map stays, its object is not told; all else but the dict stays -/
theorem set_field {x C dx L : Addr} {ox : Obj} {m : Str → Option Value} {es es' : List DictEntry} {n n' : Nat} {name : Str} {v : Value} {Q : Unit → Shared → Prop}
    (X : K.In s.heap) (I : PySem.W.InstAt s.heap x ox C (some (dictOf es n))) (hd : ox.dict = some dx) (hL : s.heap.Ns L m) (hne : dx ≠ L)
    (hs : findIn K (.ref C) "__setattr__" = some (some (.builtin "object.__setattr__"))) (hp : plainOver K C = true) (ht : takerIn K C name = some none) (hh : hasDictIn K C = true) (hl : (getL name es).isSome = true)
    (e : (putL name (PyData.keyHash w.params name) (.str name (s.toks + 1)) v es, putN name es n) = (es', n')) (hz : es'.length ≤ 1000)
    (h : ∀ h' : Heap, h'.Ns L m → h'.get? dx = some (dictOf es' n') → (∀ b o, b ≠ dx → b ≠ L → s.heap.get? b = some o → h'.get? b = some o) → Q () { s with heap := h', toks := s.toks + 2 }) :
    wpAny (model prog w) A (setAttr (.ref x) name v) Q E s := by
  obtain ⟨e1, e2⟩ := Prod.mk.inj e
  have hdx : s.heap.get? dx = some (dictOf es n) := by
    have := I.dict
    rw [hd] at this
    exact this
  refine set_plain X I hs (osa_dict (s := { s with toks := s.toks + 1 }) (h₀ := noObjs s.heap) (L := L) (m := m) (od := dictOf es n) (od' := dictOf es' n') (es := es') (n := n') (pre := []) (post := ledger s.heap L dx)
    (fr_all hL) (news_ledger hne hdx) X I hd hp ht hh hl (fun _ q => nomatch q) (fun ⟨_, _⟩ q => (mem_ledger.mp q).2.1) (by rw [putName_dict, e1, e2]) rfl hz fun h' F' N' => ?_)
  exact h h' F'.ns (N'.get (List.Mem.head _)) fun b o n1 n2 ho => N'.get (List.Mem.tail _ (mem_ledger.mpr ⟨n2, n1, ho⟩))
end
end Att

namespace L2
open PySem PySem.Spec PyProof.Rows

theorem vals_ints : ∀ {vs : List Value} {ns : List Int}, IntsAre vs ns → Vals (ns.map V.int) vs
  | _, _, .nil => .nil
  | _, _, .cons n t h => .cons ⟨t, rfl⟩ (vals_ints h)

/-- nothing is tracked but the script, known to the object (or it is an object of the module) -/
def Only (H : Hp) : Prop := ∀ b, H b = none ∨ ∃ o xs, H b = some (.frz o (.lst xs))

/-- THE HEAD: the law's promise, at the heap behind the top. F, the promise of the law's def, may use that base is part of the heap (so K.In base, base.Ns mainGlobals mg stand in Mod) -/
theorem law_call {P : Program} {w : World} {K : PySem.W.Frag} {mg mb : Str → Option Value} {CX : CXT} {k : Nat} {fa a : Addr} {fd : FuncData} {x : Str} {sp : Sp} {s₁ : Shared} {vs : List Value} {ns : List Int}
    (KX : K.In s₁.heap) (hns : s₁.heap.Ns mainGlobals mg) (hb : s₁.heap.Ns builtinsNs mb) (hbb : ∀ x : Str, x ≠ "__name__" → mb x = bootBuiltins x) (hlim : s₁.heap.NoLimit) (hg : s₁.gens = #[])
    (ha : s₁.heap.get? a = some { cls := .type "list", data := .seq vs.toArray }) (hi : IntsAre vs ns) (hl : ns.length ≤ sizeLine) (hr : Room k callerA)
    (F : ∀ base : Heap, K.In base → base.Ns mainGlobals mg → FnOk P w K mg base CX k fa fd [x] sp) (hbind : ∀ (s : Shared) (u : Value), BindsTo s fd ⟨[u], []⟩ [(x, u)])
    (hsp : ∀ H : Hp, Only H → SqL K H a (ns.map V.int) → sp [.ref a] H (fun v _ => v = .bl true) fun _ _ _ => False)
    (hCX : ∀ H e s', CX [] H s₁ (fun _ _ _ => False) e s' → False) :
    codeAny (model P w) callerA (.call (.ref fa) ⟨[.ref a], []⟩) (fun r s' => r = .ok (.ret (.bool true)) ∧ OldK s₁.heap s'.heap ∧ s'.os = s₁.os ∧ AllBare s'.gens) s₁ := by
  have rv := vals_ints hi
  have lenV := hi.length
  -- from an abstract heap in which nothing but the script may be tracked
  have core : ∀ H : Hp, Only H → SqL K H a (ns.map V.int) → HOk P w H s₁.heap → (∀ b, H b ≠ none → b = a) → (H a ≠ none → K.lookup a = none) →
      codeAny (model P w) callerA (.call (.ref fa) ⟨[.ref a], []⟩) (fun r s' => r = .ok (.ret (.bool true)) ∧ OldK s₁.heap s'.heap ∧ s'.os = s₁.os ∧ AllBare s'.gens) s₁ := by
    intro H hO hS hok hA hK
    have base_of : ∀ {b : Addr} {o : Obj}, s₁.heap.get? b = some o → H b = none → (hidT s₁.heap H).get? b = some o := fun e n => hidT_get e n
    have noA : ∀ {b : Addr} {o : Obj} {es : Array DictEntry} {ep : Nat}, s₁.heap.get? b = some o → o.data = .dict es ep → H b = none := fun {b o es ep} e d => by
      cases q : H b with
      | none => rfl
      | some u =>
        have e' : b = a := hA b (by rw [q]; simp)
        subst e'
        rw [ha] at e; cases e
        have d' : Data.seq vs.toArray _ = Data.dict es ep := d
        cases d'
    have nsK : ∀ {b : Addr} {m : Str → Option Value}, s₁.heap.Ns b m → (hidT s₁.heap H).Ns b m := fun {b m} ⟨o, es, ep, e, d, r⟩ => ⟨o, es, ep, base_of e (noA e d), d, r⟩
    have hKb : K.In (hidT s₁.heap H) := fun b o e => base_of (KX b o e) (by
      cases q : H b with
      | none => rfl
      | some u =>
        have e' : b = a := hA b (by rw [q]; simp)
        subst e'
        rw [hK (by rw [q]; simp)] at e; cases e)
    have hM : Mod K mg (hidT s₁.heap H) := ⟨hKb, nsK hns, ⟨mb, nsK hb, hbb⟩, let ⟨mc, h1, h2⟩ := hlim; ⟨mc, nsK h1, h2⟩⟩
    have e0 : Env0 P w K mg (hidT s₁.heap H) callerA [] s₁ H := ⟨rfl, hM, fun b o e => of_hidT e, Nat.le_of_eq (hidT_size _ _), trivial, fun b hb => absurd (show b ∈ ([] : List Addr) from hb) (by simp), hok, .of_eq hg⟩
    refine codeAny_mono ((F _ hKb (nsK hns)).run callerA [] s₁ H ⟨[.ref a], []⟩ [.ref a] [.ref a] _ _ hr e0 (hbind s₁ (.ref a)) (.cons rfl .nil) (hsp H hO hS)) fun r s' h => ?_
    cases r with
    | error e => exact (hCX H e s' h).elim
    | ok fl =>
      cases fl with
      | next => exact False.elim h
      | brk => exact False.elim h
      | cont => exact False.elim h
      | ret u =>
        obtain ⟨v, H', os, bare, un, hok', r', q⟩ := h
        have q' : v = .bl true := q
        subst q'
        obtain rfl : u = Value.bool true := r'
        refine ⟨rfl, OldK.of_keep fun b o e => ?_, os, bare⟩
        cases q : H b with
        | none => exact un.keep b o e q (by intro z; exact absurd (show b ∈ ([] : List Addr) from z) (by simp)) (by simp)
        | some u =>
          rcases hO b with z | ⟨ob, xs, z⟩
          · rw [q] at z; cases z
          · have z2 := un.frzs b ob _ z
            obtain ⟨e1, _⟩ := hok b _ z
            obtain ⟨e2, _⟩ := hok' b _ z2
            rw [e] at e1; cases e1
            exact e2
  cases hk : K.lookup a with
  | some o =>
    -- the script is one of the module's own objects
    have e := KX a o hk
    rw [ha] at e
    cases e
    refine core (fun _ => none) (fun _ => .inl rfl) (.inr ⟨_, vs.toArray, _, hk, rfl, rfl, rfl, by rw [List.size_toArray, lenV]; exact hl, by simpa using rv⟩) (fun b u z => by have z' : (none : Option HO) = some u := z; cases z') (fun b z => absurd rfl z) fun z => absurd rfl z
  | none =>
    refine core (fun b => if b = a then some (.frz { cls := .type "list", data := .seq vs.toArray } (.lst (ns.map V.int))) else none) (fun b => ?_) (.inl (.inr ⟨{ cls := .type "list", data := .seq vs.toArray }, if_pos rfl⟩)) (fun b u z => ?_) (fun b z => ?_) fun _ => hk
    · by_cases hb : b = a
      · exact .inr ⟨_, _, if_pos hb⟩
      · exact .inl (if_neg hb)
    · by_cases hb : b = a
      · have z' := (if_pos hb).symm.trans z
        cases z'
        subst hb
        exact ⟨ha, by rw [List.length_map]; exact hl, vs, _, rv, ha⟩
      · have z' := (if_neg hb).symm.trans z
        cases z'
    · by_cases hb : b = a
      · exact hb
      · exact absurd (if_neg hb) z
end L2

namespace L2
open PySem PySem.Spec PyProof.Rows

abbrev KOf {K : PySem.W.Frag} {h : Heap} (_ : K.In h) : PySem.W.Frag := K

/-- the goal that k_head leaves (case hc), from the law's promise. F gives the function object fd (K's own) once, then the promise over every base -/
theorem walk_of {l : PySem.W.OpenLaw} {n k : Nat} {q : Program} {loose : List Str} {XP : (Str → Option Value) → Heap → Prop} {YP : World → Heap → Prop} {d : DefRec} {K : Params → PySem.W.Frag} {CX : World → CXT} {sp : World → Sp} {x : Str}
    (hn : l.most = some n) (hn2 : n ≤ sizeLine) (hdf : d.params.defaults = []) (hr : Room k callerA)
    (hY : ∀ (w : World) (h : Heap), YP w h → (K w.params).In h)
    (F : ∀ (w : World) (mg : Str → Option Value) (fa : Addr) (h : Heap), (K w.params).In h → h.Ns mainGlobals mg → mg d.name = some (.ref fa) →
      ∃ fd : FuncData, (∀ (s : Shared) (u : Value), BindsTo s fd ⟨[u], []⟩ [(x, u)]) ∧
        ∀ base : Heap, (K w.params).In base → base.Ns mainGlobals mg → FnOk l.prog w (K w.params) mg base (CX w) k fa fd [x] (sp w))
    (hsp : ∀ (w : World) (H : Hp) (a : Addr) (ns : List Int), ns.length ≤ n → Only H → SqL (K w.params) H a (ns.map V.int) → sp w [.ref a] H (fun v _ => v = .bl true) fun _ _ _ => False)
    (hCX : ∀ (w : World) (H : Hp) (s : Shared) (e : Value) (s' : Shared), CX w [] H s (fun _ _ _ => False) e s' → False) :
    PySem.W.WalkO q loose XP YP l.row.toRowW d [] (fun f vs => PySem.call f vs) := by
  refine Att.attach_call hn hdf fun w s₀ s₁ mg mb fa o pm cd doc a vs ns G Y ho hd hcd hmg hobj hints hlen hg => ?_
  have KX := hY w _ Y
  obtain ⟨fd, hb, hF⟩ := F w mg fa _ KX G.T.g hmg
  exact law_call KX G.T.g G.T.b G.T.builtins G.T.nolimit hg hobj hints (Nat.le_trans hlen hn2) hr hF hb (fun H hO hS => hsp w H a ns hlen hO hS) fun H e s' => hCX w H s₁ e s'
/-- the same where the promise hangs on the written part alone: (sp := My.sp_law), no hole under a binder -/
theorem walk_ofK {l : PySem.W.OpenLaw} {n k : Nat} {q : Program} {loose : List Str} {XP : (Str → Option Value) → Heap → Prop} {YP : World → Heap → Prop} {d : DefRec} {K : Params → PySem.W.Frag} {CX : CXT} {sp : PySem.W.Frag → Sp} {x : Str}
    (hn : l.most = some n) (hn2 : n ≤ sizeLine) (hdf : d.params.defaults = []) (hr : Room k callerA)
    (hY : ∀ (w : World) (h : Heap), YP w h → (K w.params).In h)
    (F : ∀ (w : World) (mg : Str → Option Value) (fa : Addr) (h : Heap), (K w.params).In h → h.Ns mainGlobals mg → mg d.name = some (.ref fa) →
      ∃ fd : FuncData, (∀ (s : Shared) (u : Value), BindsTo s fd ⟨[u], []⟩ [(x, u)]) ∧
        ∀ base : Heap, (K w.params).In base → base.Ns mainGlobals mg → FnOk l.prog w (K w.params) mg base CX k fa fd [x] (sp (K w.params)))
    (hsp : ∀ (K : PySem.W.Frag) (H : Hp) (a : Addr) (ns : List Int), ns.length ≤ n → Only H → SqL K H a (ns.map V.int) → sp K [.ref a] H (fun v _ => v = .bl true) fun _ _ _ => False)
    (hCX : ∀ (H : Hp) (s : Shared) (e : Value) (s' : Shared), CX [] H s (fun _ _ _ => False) e s' → False) :
    PySem.W.WalkO q loose XP YP l.row.toRowW d [] (fun f vs => PySem.call f vs) :=
  walk_of (K := K) (CX := fun _ => CX) (sp := fun w => sp (K w.params)) hn hn2 hdf hr hY F (fun w H a ns h1 h2 h3 => hsp (K w.params) H a ns h1 h2 h3) fun _ H s e s' => hCX H s e s'
end L2

/- THE LAST THEOREM (shape; LID, My.* are yours):
   My.Adr: a structure of the addresses that your layer names (classes, functions); My.Txt K t: a structure (Prop) of the equations over K;
   My.txt_mk : {K} {implicit addresses ..} (e1 : nsIn K mainGlobals "law" = some (some (.ref f))) (e2 : K.lookup f = some ⟨oc, od, .func (fnOf "law" "law" params body scope dV kV doc pm an cdv ct), sl⟩) (e3 : codeIn K cdv "law" = true) .. : ∃ t, My.Txt K t

set_option maxRecDepth 100000 in
set_option maxHeartbeats 0 in
theorem PySem.Challenge.cw_LID_holds : PySem.Challenge.rw_LID.Holds := by
  w_on; o_law; k_head; (case hw => w_witness2)
  k_fill
  refine L2.walk_of (l := PySem.Challenge.rw_LID) (n := 63) (k := 40) (x := "script") (CX := fun w => ..) (sp := fun _ => My.sp_law) rfl (by decide) rfl ⟨rfl, by decide, by decide⟩ (fun w h Y => PySem.W.kIn_of Y) ?F ?S ?C
  case F =>
    intro w mg fa h KX G hmg
    have T : ∃ t, My.Txt (L2.KOf KX) t := by
      dsimp only [L2.KOf]                          -- K must stand as «<heap const> w.params» for k_is
      refine' My.txt_mk ?e1 ?e2 ?e3 ..
      (case e1 => PySem.W.k_is)                    -- in the order: a name -> its address -> its object -> its parts
      (case e2 => PySem.W.k_is)
      ..
    obtain ⟨t, T⟩ := T
    have e0 := hmg.symm.trans (PySem.W.mg_of KX G T.law)
    cases e0                                       -- fa is the law's own address
    exact ⟨_, fun s u => .of_eq rfl, fun base kb nb => My.law_fn T kb nb⟩     -- if «.of_eq rfl» comes too early: refine' ⟨_, ?b, fun base kb nb => My.law_fn T kb nb⟩; exact fun s u => .of_eq rfl
  case S => exact fun w H a ns hl hO hS => ..
  case C => exact ..
(the tactic k_is has no namespace: write k_is) -/

/-! SHORT WORDS over the layer: a def of the text, its body, what a loop and a test want. -/
namespace L2
open PySem PySem.Spec PyProof.Rows

/-! ### the text by places -/
/-- the j-th statement of a class's body -/
def inClass (s : Stmt) (j : Nat) : Stmt := match s with
  | .ClassDef _ _ _ body _ _ _ _ _ _ _ => body.getD j (.Pass ⟨0, 0, 0, 0⟩)
  | _ => .Pass ⟨0, 0, 0, 0⟩
def defArgs (s : Stmt) : Arguments := match s with
  | .FunctionDef _ a _ _ _ _ _ _ _ _ => a
  | _ => { posonlyargs := [], args := [], vararg := none, kwonlyargs := [], kw_defaults := [], kwarg := none, defaults := [] }
def defBody (s : Stmt) : List Stmt := match s with
  | .FunctionDef _ _ b _ _ _ _ _ _ _ => b
  | _ => []
def defScope (s : Stmt) : Scope := match s with
  | .FunctionDef _ _ _ _ _ _ sc _ _ _ => sc
  | _ => { kind := .function, names := [], isGenerator := false, isCoroutine := false }

/-! ### no exception leaves a def -/
abbrev CX0 : CXT := fun _ _ _ _ _ _ => False
abbrev E0 : XK := fun _ _ _ => False
theorem pass0 {X : Cx} : Passes CX0 X E0 := fun _ _ _ _ _ _ _ h => h.elim

/-! ### a def (or method) of the text as it stands behind the top -/
structure Fun (K : PySem.W.Frag) (x qual : Str) (st : Stmt) (f : Addr) (fd : FuncData) : Prop where
  ex : ∃ (oc : Value) (od : Option Addr) (kV doc pm : Value) (an : Option Addr) (cdv ct : Value) (osl : Array (Option Value)),
    fd = PySem.W.fnOf x qual (defArgs st) (defBody st) (defScope st) .none kV doc pm an cdv ct ∧ K.lookup f = some ⟨oc, od, .func fd, osl⟩ ∧ PySem.W.codeIn K cdv qual = true
  kp : PySem.W.keepIn K (.ref f) = true
section
variable {P : Program} {w : World} {K : PySem.W.Frag} {mg : Str → Option Value} {base : Heap}
/-- THE RULE for a def: its body as a term of rules, and the reading of that term -/
theorem Fun.ok {x qual : Str} {st : Stmt} {f : Addr} {fd : FuncData} {N ps : List Str} {k : Nat} {sp : Sp} (F : Fun K x qual st f fd) (S : FnScope N ps (defScope st)) (len : ∀ vs H Q E, sp vs H Q E → vs.length = ps.length)
    (hbody : ∀ (cdv : Value) (A : Around) (outer : List Env) (s : Shared) (H : Hp) (vs : List V) (Q : VK) (E : XK), Room k (A.deeper (envOfC qual (defScope st) s.heap.objs.size f cdv)) → sp vs H Q E →
      ∃ t, PSs (cxOf CX0 P w K mg base N qual (defScope st) f cdv A outer s H E).nox (defBody st) t ∧ t { nx := fun _ H' => Q .non H', rt := Q } (start N vs) H) : FnOk P w K mg base CX0 (k + 1) f fd ps sp := by
  obtain ⟨oc, od, kV, doc, pm, an, cdv, ct, osl, rfl, lk, hcd⟩ := F.ex
  refine fn_of lk hcd S len fun A outer s H vs Q E hr hsp => ?_
  obtain ⟨t, h, q⟩ := hbody cdv A outer s H vs Q E hr hsp
  exact ⟨t, h.nox, q⟩
/-- how its arguments bind (no defaults): h is «fun _ _ _ _ _ _ us hl => match us, hl with | [_, _], _ => rfl», one _ a parameter -/
theorem Fun.binds {x qual : Str} {st : Stmt} {f : Addr} {fd : FuncData} {ps : List Str} (F : Fun K x qual st f fd)
    (h : ∀ (kV doc pm : Value) (an : Option Addr) (cdv ct : Value) (us : List Value), us.length = ps.length → bindArgs (PySem.W.fnOf x qual (defArgs st) (defBody st) (defScope st) .none kV doc pm an cdv ct) ⟨us, []⟩ = pure (ps.zip us)) : Binds K fd ps [] := by
  obtain ⟨oc, od, kV, doc, pm, an, cdv, ct, osl, rfl, lk, hcd⟩ := F.ex
  exact .all (h kV doc pm an cdv ct)
theorem fun_mk {x qual : Str} {st : Stmt} {f : Addr} {oc : Value} {od an : Option Addr} {osl : Array (Option Value)} {kV doc pm cdv ct : Value} (l : K.lookup f = some ⟨oc, od, .func (PySem.W.fnOf x qual (defArgs st) (defBody st) (defScope st) .none kV doc pm an cdv ct), osl⟩)
    (c : PySem.W.codeIn K cdv qual = true) (k : PySem.W.keepIn K (.ref f) = true) : Fun K x qual st f (PySem.W.fnOf x qual (defArgs st) (defBody st) (defScope st) .none kV doc pm an cdv ct) := ⟨⟨oc, od, kV, doc, pm, an, cdv, ct, osl, rfl, l, c⟩, k⟩
end
theorem hu_of {A : Around} {k : Nat} (hr : Room k A) : A.units + 1 < cLine := Nat.lt_of_le_of_lt (Nat.add_le_add_left (by decide : 1 ≤ 64) _) hr.units
theorem small1000 {n : Nat} (h : n ≤ 1000) : n < sizeLine := Nat.lt_of_le_of_lt h (by decide)

/-! ### expressions in short: the name that stands in the i-th slot -/
section
variable {X : Cx}
theorem pv (i : Nat) {x : Str} {pos : Pos} (hN : X.N[i]? = some x := by rfl) (hv : Vis X.env.scope x := by first | exact Or.inl rfl | exact Or.inr (Or.inl rfl) | exact Or.inr (Or.inr rfl)) (hd : (x == ("__debug__" : Str)) = false := by decide)
    (hcd : (x == ("__classdict__" : Str)) = false := by decide) : PE X (.Name x pos) (tVar i) := pe_var hN hv hd hcd
end

/-! ### tests -/
theorem iteF {A B : Prop} (h : B) : if false = true then A else B := by
  rw [if_neg Bool.false_ne_true]
  exact h
theorem iteT {A B : Prop} (h : A) : if true = true then A else B := by
  rw [if_pos rfl]
  exact h
theorem ite2 {c A B : Prop} [Decidable c] (h1 : c → A) (h2 : ¬ c → B) : if c then A else B := by
  by_cases h : c
  · rw [if_pos h]
    exact h1 h
  · rw [if_neg h]
    exact h2 h
theorem iteNS {c A B : Prop} [Decidable c] (hc : c) (h : B) : if (!decide c) = true then A else B := by
  rw [decide_eq_true hc]
  exact iteF h

/-! ### heaps -/
/-- all that was tracked is as it was -/
def Same (H H' : Hp) : Prop := ∀ b o, H b = some o → H' b = some o
theorem Same.refl (H : Hp) : Same H H := fun _ _ h => h
theorem Same.trans {H H1 H2 : Hp} (a : Same H H1) (b : Same H1 H2) : Same H H2 := fun c o h => b c o (a c o h)
theorem Same.free {H H' : Hp} (e : Same H H') {l : Addr} (h : H' l = Option.none) : H l = Option.none := by
  cases q : H l with
  | none => rfl
  | some o =>
    rw [e l o q] at h
    cases h
theorem Same.seq {K : PySem.W.Frag} {H H' : Hp} {a : Addr} {xs : List V} (e : Same H H') (h : SqL K H a xs) : SqL K H' a xs := by
  rcases h with (h | ⟨o, h⟩) | h
  · exact .inl (.inl (e _ _ h))
  · exact .inl (.inr ⟨o, e _ _ h⟩)
  · exact .inr h

end L2

set_option maxHeartbeats 4000000
namespace L2
open PySem PySem.Spec PyProof.Rows

/-! ### small things -/
def EachP {α : Type} (p : α → Prop) : List α → Prop
  | [] => True
  | a :: r => p a ∧ EachP p r
theorem EachP.mem {α : Type} {p : α → Prop} : ∀ {l : List α}, EachP p l → ∀ a ∈ l, p a
  | _ :: _, h, _, .head _ => h.1
  | _ :: _, h, a, .tail _ ha => EachP.mem h.2 a ha

section
variable {X : Cx}
theorem op_mulG : OpR X (binaryOp .Mult) (rI IntMulOk fun i j => .int (i * j)) := opI fun _ _ _ _ _ _ _ hc q => mul_int q hc

/-! ### texts: join, count -/
theorem strs_of : ∀ {texts : List Str} {us : List Value}, Vals (texts.map V.str) us → ∃ l : List (Str × Tok), strValues l = us ∧ l.map (·.1) = texts
  | [], _, h => by cases h; exact ⟨[], rfl, rfl⟩
  | x :: r, _, h => by
    cases h with
    | cons a b =>
      obtain ⟨t, rfl⟩ := a
      obtain ⟨l, e1, e2⟩ := strs_of b
      exact ⟨(x, t) :: l, by rw [← e1]; rfl, by rw [← e2]; rfl⟩
def rJoin (K : PySem.W.Frag) : V → List V → Hp → VK → Prop := fun x vs H Q => ∃ z l texts, x = .str z ∧ vs = [.ref l] ∧ SqL K H l (texts.map V.str) ∧ JoinOk z texts = true ∧ Q (.str (Txt.join z texts)) H
theorem mt_join : MtM X "str.join" (rJoin X.K) := by
  intro pins s σ H x vs v us Q I rx rv h
  obtain ⟨z, l, texts, rfl, rfl, hq, hok, q⟩ := h
  obtain ⟨t, rfl⟩ := rx
  obtain ⟨u, rfl, ru⟩ := rv.one
  cases ru
  obtain ⟨its, r, p, hz⟩ := I.list hq
  obtain ⟨ls, rfl, e2⟩ := strs_of r
  exact SC.join p.isList e2 hok fun t' k => ⟨.str _, H, I.tok _, ⟨_, rfl⟩, q⟩
def rCount : V → List V → Hp → VK → Prop := fun x vs H Q => ∃ z y, x = .str z ∧ vs = [.str y] ∧ Q (.int (Txt.count z y)) H
theorem mt_count : MtM X "str.count" rCount := by
  intro pins s σ H x vs v us Q I rx rv h
  obtain ⟨z, y, rfl, rfl, q⟩ := h
  obtain ⟨t, rfl⟩ := rx
  obtain ⟨u, rfl, t', rfl⟩ := rv.one
  exact SC.count ⟨.int _, H, I.tok _, ⟨_, rfl⟩, q⟩

/-! ### isinstance, sum, max, min of one list -/
theorem call_isi : CallR X (.builtin "isinstance") (fun xs H Q => ∃ x T t b, xs = [x, .ty T] ∧ TyOf X.K H x t ∧ PySem.W.kitOne X.K t (.type T) = some b ∧ Q (.bl b) H) := by
  intro pins s σ H xs us Q I r h
  obtain ⟨x, T, t, b, rfl, ty, e, q⟩ := h
  obtain ⟨u, w', rfl, rx, rT⟩ := vals2 r
  cases (show w' = Value.type T from rT)
  exact isinst_ok I rx ty e fun tk => ⟨.bl b, H, I.tok _, rfl, q⟩
theorem ints_items {its : List Value} {ns : List Int} (hi : IntsAre its ns) : ∃ xs : Array (Int × Tok), its.toArray = intItems xs ∧ ns = xs.toList.map (·.1) := by
  obtain ⟨xs, e⟩ := hi.allInts.items
  exact ⟨xs, e, by rw [← hi.numsOf, ← nums_intItems, ← e]⟩
theorem call_sum (hc : X.calm = true) : CallR X (.builtin "sum") (fun xs H Q => ∃ p, ∃ ns : List Int, xs = [.ref p] ∧ SqL X.K H p (ns.map V.int) ∧ Q (.int ns.sum) H) := by
  intro pins s σ H xs us Q I r h
  obtain ⟨p, ns, rfl, hq, q⟩ := h
  obtain ⟨u, rfl, rx⟩ := vals1 r
  cases rx
  obtain ⟨its, r', pl, hz⟩ := I.list hq
  obtain ⟨xs, e, hns⟩ := ints_items (intsAre_of r')
  have hl := pl.isList
  rw [e] at hl
  refine sum_intListG (I.ok.hd hc) hl fun h' tk t' hk => ⟨.int ns.sum, H, I.kept hk, ⟨t', ?_⟩, q⟩
  rw [preSum_eq, List.take_of_length_le (by simp), ← hns]
theorem call_max1 (hc : X.calm = true) : CallR X (.builtin "max") (fun xs H Q => ∃ p, ∃ ns : List Int, xs = [.ref p] ∧ SqL X.K H p (ns.map V.int) ∧ 0 < ns.length ∧ ∀ M, M ∈ ns → (∀ a, a ∈ ns → a ≤ M) → Q (.int M) H) := by
  intro pins s σ H xs us Q I r h
  obtain ⟨p, ns, rfl, hq, hne, q⟩ := h
  obtain ⟨u, rfl, rx⟩ := vals1 r
  cases rx
  obtain ⟨its, r', pl, hz⟩ := I.list hq
  obtain ⟨xs, e, hns⟩ := ints_items (intsAre_of r')
  have hl := pl.isList
  rw [e] at hl
  have hsz : 0 < xs.size := by
    have h3 := hne; rw [hns, List.length_map, Array.length_toList] at h3; exact h3
  refine max_intList (I.ok.hd hc) hl hsz fun v h' tk hv hk => ?_
  obtain ⟨t, rfl⟩ := intItems_at hv
  obtain ⟨h1, h2⟩ := argBest_gt (numAt xs) (xs.size - 1)
  refine ⟨.int _, H, I.kept hk, ⟨t, rfl⟩, q _ ?_ fun a ha => ?_⟩
  · rw [hns, numAt_eq]; exact getD_mem (by rw [List.length_map, Array.length_toList]; omega)
  · rw [hns] at ha
    obtain ⟨j, hj, rfl⟩ := mem_getD ha
    rw [List.length_map, Array.length_toList] at hj
    rw [← numAt_eq]; exact h2 j (by omega)
theorem call_min1 (hc : X.calm = true) : CallR X (.builtin "min") (fun xs H Q => ∃ p, ∃ ns : List Int, xs = [.ref p] ∧ SqL X.K H p (ns.map V.int) ∧ 0 < ns.length ∧ ∀ M, M ∈ ns → (∀ a, a ∈ ns → M ≤ a) → Q (.int M) H) := by
  intro pins s σ H xs us Q I r h
  obtain ⟨p, ns, rfl, hq, hne, q⟩ := h
  obtain ⟨u, rfl, rx⟩ := vals1 r
  cases rx
  obtain ⟨its, r', pl, hz⟩ := I.list hq
  obtain ⟨xs, e, hns⟩ := ints_items (intsAre_of r')
  have hl := pl.isList
  rw [e] at hl
  have hsz : 0 < xs.size := by
    have h3 := hne; rw [hns, List.length_map, Array.length_toList] at h3; exact h3
  refine min_intList (I.ok.hd hc) hl hsz fun v h' tk hv hk => ?_
  obtain ⟨t, rfl⟩ := intItems_at hv
  obtain ⟨h1, h2⟩ := argBest_lt (numAt xs) (xs.size - 1)
  refine ⟨.int _, H, I.kept hk, ⟨t, rfl⟩, q _ ?_ fun a ha => ?_⟩
  · rw [hns, numAt_eq]; exact getD_mem (by rw [List.length_map, Array.length_toList]; omega)
  · rw [hns] at ha
    obtain ⟨j, hj, rfl⟩ := mem_getD ha
    rw [List.length_map, Array.length_toList] at hj
    rw [← numAt_eq]; exact h2 j (by omega)
end

/-! ### a text's signs, walked -/
def Its (x : Str) : It := ⟨fun i _ => i < x.cps.size, fun i H v H' => H' = H ∧ ∃ c, x.cps[i]? = some c ∧ v = .str ⟨#[c]⟩, fun i _ => x.cps.size ≤ i⟩
theorem turn_str {P : Program} {w : World} {K : PySem.W.Frag} {tg : Expr} (it : Addr) (x : Str) (t : Tok) : Turn P w K tg (Its x) [it] it (fun i h => h.IsStrIter it "str_ascii_iterator" x t i) where
  mem := by simp
  obj := fun i h st b hb => by
    have e : b = it := by simpa using hb
    subst e
    obtain ⟨o, e, c, d⟩ := st
    exact ⟨o, e, fun v z => by rw [d] at z; cases z⟩
  keep := fun i h h' st k => let ⟨o, ho, r⟩ := st; ⟨o, k it (by simp) o ho, r⟩
  item := by
    intro X hP hw hK hc i pins s σ H E I hf st hg
    subst hP hw hK
    obtain ⟨f0, f1, f2, f3, f4, f5⟩ := hf it (by simp)
    have hi : i < x.cps.size := hg
    refine wpAny_pyNext_ascii_item st (c := x.cps[i]) (by simp [hi]) fun h' st' sb => ?_
    have I1 : Inv X pins σ H { s with heap := h', toks := s.toks + 1 } := I.turned (fun b o hb e => (sb.2 b hb).trans e) f0 f1 f3 f4 f5
    obtain ⟨o, e, c, d⟩ := id st'
    exact ⟨_, rfl, go_of (s := { s with heap := h', toks := s.toks + 1 }) e c d (by decide) ⟨.str ⟨#[x.cps[i]]⟩, H, I1, ⟨_, rfl⟩, ⟨rfl, _, by simp [hi], rfl⟩, st', fun b hb => (hf b hb).1⟩⟩
  done := by
    intro X hP hw hK hc i pins s σ H E I hf st hg
    subst hP hw hK
    obtain ⟨f0, f1, f2, f3, f4, f5⟩ := hf it (by simp)
    have hi : x.cps.size ≤ i := hg
    exact wpAny_pyNext_ascii_end (I.ok.hd hc) st (by simp [hi]) fun h' eb => ⟨rfl, I.turned (t' := s.toks) (fun b o hb e => eb b o hb e) f0 f1 f3 f4 f5⟩
  self := fun _ _ _ _ _ st h => wpAny_pyIter_striter_ascii st h
section
variable {X : Cx} {tg : Expr}
def iStr (tl : TE) : TI := fun σ H R => tl σ H fun x H1 => ∃ z, x = .str z ∧ z.cps.all (· < 128) = true ∧ R (Its z) H1
theorem pi_str {l : Expr} {tl : TE} (hl : PE X l tl) : PI X tg l (iStr tl) := by
  intro pins s σ H R I h
  refine thn (hl pins s σ H _ I h) fun v s1 ⟨x, H1, I1, r1, q1⟩ => ?_
  obtain ⟨z, e, ha, q⟩ := q1
  subst e
  obtain ⟨t, rfl⟩ := r1
  refine wpAny_pyIter_ascii ha ?_
  refine ⟨s1.heap.objs.size, [s1.heap.objs.size], _, _, H1, rfl, I1.kept (t' := s1.toks) fun b o e => Heap.get?_push_of_some _ e, turn_str _ z t, ⟨_, Heap.get?_push_size _ rfl, rfl, rfl⟩, fun b hb => ?_, q⟩
  have e : b = s1.heap.objs.size := by simpa using hb
  subst e
  exact I1.fpOk (Nat.le_refl _) (I1.hok.fresh (Nat.le_refl _))
end
theorem for_str {x : Str} {g : TG} {tb : TS} {D : Ends} {σ : St} {H : Hp} (Pv : Nat → St → Hp → Prop) (h0 : Pv 0 σ H)
    (hs : ∀ i c σ H, x.cps[i]? = some c → Pv i σ H → g (.str ⟨#[c]⟩) σ H fun σ2 H2 => tb { D with nx := Pv (i + 1), ct := Pv (i + 1), bk := D.nx } σ2 H2) (hd : ∀ σ H, Pv x.cps.size σ H → D.nx σ H) :
    ∃ W : Nat → Nat → St → Hp → Prop, (∃ m, W 0 m σ H) ∧ ∀ i m σ H, W i m σ H →
      ((Its x).stop i H ∧ D.nx σ H) ∨ ((Its x).go i H ∧ ∃ N : St → Hp → Prop, (∀ σ' H', N σ' H' → ∃ m', m' < m ∧ W (i + 1) m' σ' H') ∧ ∀ v H', (Its x).yld i H v H' → g v σ H' fun σ2 H2 => tb { D with nx := N, ct := N, bk := D.nx } σ2 H2) := by
  refine ⟨fun i m σ H => m = x.cps.size - i ∧ i ≤ x.cps.size ∧ Pv i σ H, ⟨x.cps.size, by simp, Nat.zero_le _, h0⟩, ?_⟩
  rintro i m σ H ⟨rfl, hi, p⟩
  by_cases hlt : i < x.cps.size
  · refine .inr ⟨hlt, Pv (i + 1), fun σ' H' p' => ⟨x.cps.size - (i + 1), by omega, rfl, hlt, p'⟩, fun v H' y => ?_⟩
    obtain ⟨e, c, hc, y⟩ := y
    subst e y
    exact hs i c σ _ hc p
  · have e : i = x.cps.size := by omega
    subst e
    exact .inl ⟨Nat.le_refl _, hd σ H p⟩

/-! ### list comprehensions: one for over a name, no if -/
/-- the captured names' values -/
def caps (js : List Nat) (σ : St) : St := js.map fun j => (σ[j]?).join
def Cx.comp (X : Cx) (scope : Scope) (cl : List (Str × Addr)) (C : Addr) (N' : List Str) (s₀ : Shared) (H₀ : Hp) (fp : List Addr) : Cx :=
  { X with N := N', s₀ := s₀, H₀ := H₀, env := compEnvC scope cl C X.env, outer := X.stack, ex := fp, fn := fun _ => false, pn := [], xe := fun _ _ => False }
structure CompSc (X : Cx) (scope : Scope) (cl : List (Str × Addr)) (y : Str) (ys : List Str) (js : List Nat) : Prop where
  clos : closureFor scope X.env = pure cl
  cell : ∀ z ∈ scope.names, z.2 ≠ .cell
  kind : scope.kind = .function
  names : ∀ z ∈ scope.names, z.2 = .local → scope.names.lookup z.1 = some .local
  loc : scope.names.lookup y = some .local
  nd : (y :: ys).Nodup
  sub : EachP (fun q : Str × Addr => X.env.cells.lookup q.1 = some q.2) cl
  has : EachP (fun q : Str × NameKind => q.2 = .local ∨ q.2 = .globalImplicit ∨ ∃ c, cl.lookup q.1 = some c) (relabel scope X.env).names
  cap : EachP (fun q : Str × Nat => X.N[q.2]? = some q.1 ∧ (X.env.kindOf q.1 = some .cell ∨ X.env.kindOf q.1 = some .free) ∧ ((relabel scope X.env).names.lookup q.1 = some .cell ∨ (relabel scope X.env).names.lookup q.1 = some .free)) (ys.zip js)
  len : ys.length = js.length
def tLCgo (J : It) (te : TE) (js : List Nat) (Q : VK) (σ : St) (H1 : Hp) : Prop :=
  ∀ D, H1 D = none → ∃ W : Nat → Nat → St → Hp → Prop, (∃ m, W 0 m (none :: caps js σ) (upd H1 D (.lst []))) ∧ ∀ i m σ' H', W i m σ' H' →
    (J.stop i H' ∧ Q (.ref D) H') ∨ (J.go i H' ∧ ∃ N : St → Hp → Prop, (∀ σ'' H'', N σ'' H'' → ∃ m', m' < m ∧ W (i + 1) m' σ'' H'') ∧
      ∀ x H2, J.yld i H' x H2 → te (σ'.set 0 (some x)) H2 fun v H3 => ∃ zs, H3 D = some (.lst zs) ∧ zs.length < sizeLine ∧ N (σ'.set 0 (some x)) (upd H3 D (.lst (zs ++ [v]))))

theorem compLoop_any {prog : Program} {w : World} {A : Around} {R : Result → Shared → Prop} {s : Shared} {elt target iter : Expr} {scope : Scope} {pos : Pos} {it acc : Value} {env : Env} (I : Nat → Shared → Prop)
    (turn : ∀ n s, I n s → wpAny (model prog w) A (pyNext it) (fun r s₁ => match r with
      | none => R (.ok .next) s₁
      | some v => wpAny (model prog w) A (letOwnedTupleGo target it v) (fun _ s₁' => wpAny (model prog w) A (assign target env v) (fun _ s₂ => wpAny (model prog w) A (eval elt env) (fun x s₃ =>
          wpAny (model prog w) A (call (.builtin "list.append") [acc, x]) (fun _ s₄ => ∃ m, m < n ∧ I m s₄) (notedBy (model prog w) A env fun e s' => R (.error e) s') s₃)
          (notedBy (model prog w) A env fun e s' => R (.error e) s') s₂) (notedBy (model prog w) A env fun e s' => R (.error e) s') s₁') (notedBy (model prog w) A env fun e s' => R (.error e) s') s₁) (notedBy (model prog w) A env fun e s' => R (.error e) s') s)
    (n : Nat) (h : I n s) :
    codeAny (model prog w) A (.compLoop (.ListComp elt [⟨target, iter, [], 0⟩] scope pos) 0 it acc env) R s := by
  refine codeAny_loop rfl I (fun n s hI => ?_) n h
  show wpAny _ _ ((compTurn (.ListComp elt [⟨target, iter, [], 0⟩] scope pos) 0 it acc env).onRaise (fun x => do noteFrame x env; theTreesLotGoes x)) _ _ s
  refine wpAny_noted ?_
  rw [compTurn_list1]
  refine wpAny_bind (wpAny_standAt (wpAny_bind (wpAny_mono (turn n s hI) (fun r s₁ h₁ => ?_) fun _ _ h' => h')))
  cases r with
  | none => exact wpAny_pure h₁
  | some v =>
    refine wpAny_bind (wpAny_mono h₁ (fun _ s₁' h₁' => ?_) fun _ _ h' => h')
    exact wpAny_bind (wpAny_mono h₁' (fun _ s₂ h₂ => wpAny_bind (wpAny_bind (wpAny_mono h₂ (fun x s₃ h₃ => wpAny_bind (wpAny_mono h₃
      (fun _ s₄ h₄ => wpAny_pure (wpAny_pure ⟨rfl, h₄⟩)) fun _ _ h' => h')) fun _ _ h' => h'))) fun _ _ h' => h')

section
variable {X : Cx} {elt iter : Expr} {y : Str} {py pos : Pos} {scope : Scope} {cl : List (Str × Addr)} {ys : List Str} {js : List Nat} {te : TE}
theorem CompSc.lookup (S : CompSc X scope cl y ys js) {x : Str} {c : Addr} (e : cl.lookup x = some c) : X.env.cells.lookup x = some c := S.sub.mem _ (PySem.mem_of_lookup e)

theorem comp_run (S : CompSc X scope cl y ys js) (hc : X.calm = true) (helt : ∀ C s₀ H₀ fp, PE (X.comp scope cl C (y :: ys) s₀ H₀ fp) elt te)
    {pins : List (Addr × Obj)} {σ : St} {H2 : Hp} {s2 : Shared} {it : Addr} {fp : List Addr} {tn : Nat → Heap → Prop} {J : It} (I2 : Inv X pins σ H2 s2) (T : Turn X.prog X.w X.K (.Name y py) J fp it tn) (st2 : tn 0 s2.heap) (f2 : ∀ b ∈ fp, FpOk X pins H2 b)
    {Q : VK} (q : tLCgo J te js Q σ H2) {RR : Value → Addr → Result → Shared → Prop}
    (hRR : ∀ D C s' H' m, Inv X pins σ H' s' → s'.heap.Ns C m → H' C = none → s2.heap.objs.size ≤ C → Q (.ref D) H' → RR (.ref D) C (.ok .next) s') {E : Value → Shared → Prop} :
    wpAny (model X.prog X.w) X.A (newList []) (fun acc s3 => wpAny (model X.prog X.w) X.A (newFunctionEnv scope X.env.globals cl [] X.env.qual none .none (some X.env)) (fun cenv s4 =>
      codeAny (model X.prog X.w) X.A (.compStart (.ListComp elt [⟨.Name y py, iter, [], 0⟩] scope pos) 0 (.ref it) acc { cenv with scope := relabel scope X.env }) (RR acc cenv.locals) s4) E s3) E s2 := by
  refine wpAny_newObj_type (wpAny_newFunctionEnv S.cell (by intro z hz; simp at hz) (fun h₁ hns₁ hsb₁ => ?_) S.kind)
  dsimp only at hns₁ hsb₁ ⊢
  generalize hH2 : s2.heap.push { cls := .type "list", dict := none, data := .seq ([] : List Value).toArray } = G at hns₁ hsb₁ ⊢
  have hC : G.objs.size = s2.heap.objs.size + 1 := by rw [← hH2, Heap.size_push]
  have hDC : s2.heap.objs.size ≠ G.objs.size := by rw [hC]; exact Nat.ne_of_lt (Nat.lt_succ_self _)
  have hCle : s2.heap.objs.size ≤ G.objs.size := by rw [hC]; exact Nat.le_succ _
  have below : ∀ b, b < s2.heap.objs.size → b ≠ G.objs.size ∧ b ≠ s2.heap.objs.size := fun b hb => ⟨by rw [hC]; exact Nat.ne_of_lt (Nat.lt_succ_of_lt hb), Nat.ne_of_lt hb⟩
  have old : ∀ b o, s2.heap.get? b = some o → h₁.get? b = some o := fun b o e => hsb₁.extBut b o (below b (Heap.lt_size e)).1 (Heap.get?_push_of_some _ (hH2 ▸ Heap.get?_push_of_some _ e))
  have hacc : h₁.get? s2.heap.objs.size = some { cls := .type "list", dict := none, data := .seq ([] : List Value).toArray } := hsb₁.extBut _ _ hDC (Heap.get?_push_of_some _ (hH2 ▸ Heap.get?_push_size _ rfl))
  have hDn : H2 s2.heap.objs.size = none := I2.hok.fresh (Nat.le_refl _)
  have hCn : H2 G.objs.size = none := I2.hok.fresh hCle
  have fpObj : ∀ b ∈ fp, b < s2.heap.objs.size := fun b hb => by
    obtain ⟨o, e, _⟩ := T.obj _ _ st2 b hb
    exact Heap.lt_size e
  obtain ⟨W, ⟨m0, w0⟩, turn⟩ := q s2.heap.objs.size hDn
  generalize hX : X.comp scope cl G.objs.size (y :: ys) s2 H2 fp = X'
  have okX : X'.Ok := by
    subst hX
    refine ⟨I2.ok.mod, S.kind, I2.ok.glob, I2.ok.blt, hCle, fun a b c h1 h2 => I2.ok.inj a b c (S.lookup h1) (S.lookup h2), fun a ha => ?_, fun a c h => (Bool.noConfusion h), fun h => I2.ok.hd h, I2.ok.frames, .inl rfl, fun b hb => ⟨(below b (fpObj b hb)).1, fun a c e => (f2 b hb).2.2.2.2.1 a c (S.lookup e)⟩,
      I2.bs, Nat.le_trans I2.ok.bsz I2.sz, fun b o e hb => ?_, fun b hb hs => ?_, I2.stack, I2.stkFree⟩
    · have hm : ∃ k, (a, k) ∈ (relabel scope X.env).names ∧ (k = .cell ∨ k = .free) := by
        rcases ha with ha | ha
        · exact ⟨_, PySem.mem_of_lookup ha, .inl rfl⟩
        · exact ⟨_, PySem.mem_of_lookup ha, .inr rfl⟩
      obtain ⟨k, hk, hk2⟩ := hm
      rcases S.has.mem _ hk with z | z | z
      · have z' : k = .local := z
        rcases hk2 with r | r <;> rw [r] at z' <;> cases z'
      · have z' : k = .globalImplicit := z
        rcases hk2 with r | r <;> rw [r] at z' <;> cases z'
      · exact z
    · rcases (f2 b hb).2.2.2.1 with z | z
      · exact I2.ok.noex b o e z
      · exact absurd (Nat.lt_of_lt_of_le (Heap.lt_size (I2.ok.bs b o e).1) z) (Nat.lt_irrefl _)
    · rcases List.mem_cons.mp (I2.stkSub b hs) with z | z
      · exact (f2 b hb).2.1 z
      · exact (f2 b hb).2.2.1 z
  have fpX : ∀ {H' : Hp} {b : Addr}, b ∈ fp → H' b = none → FpOk X' [] H' b := fun {H' b} hb hn => by
    subst hX
    exact ⟨hn, (below b (fpObj b hb)).1, fun z => okX.exfs b hb z, .inl hb, fun a c e => (f2 b hb).2.2.2.2.1 a c (S.lookup e), fun p hp => absurd (show p ∈ ([] : List (Addr × Obj)) from hp) (by simp)⟩
  have I3 : Inv X' [] (none :: caps js σ) (upd H2 s2.heap.objs.size (.lst [])) { s2 with heap := h₁, toks := s2.toks + ([] : List (Str × Value)).length } := by
    obtain ⟨m, hn, hl⟩ := I2.loc
    subst hX
    refine ⟨okX, rfl, I2.bare, Un.laid old (Nat.le_refl _) hDn, ⟨_, hns₁, fun i x v e1 e2 e3 => ?_⟩, fun x c e => ?_, ?_, fun x c e => ?_, fun p hp => absurd (show p ∈ ([] : List (Addr × Obj)) from hp) (by simp), I2.hok.laid old (Nat.le_refl _) ⟨Nat.zero_le _, [], _, .nil, hacc⟩, ?_⟩
    · cases i with
      | zero => have z : (none : Option V) = some v := Option.some.inj e2; cases z
      | succ k =>
        have e2' : (caps js σ)[k]? = some (some v) := e2
        have e1' : ys[k]? = some x := e1
        unfold caps at e2'
        rw [List.getElem?_map] at e2'
        cases hj : js[k]? with
        | none => rw [hj] at e2'; cases e2'
        | some j =>
          rw [hj] at e2'
          have e2'' : (σ[j]?).join = some v := Option.some.inj e2'
          have hσ : σ[j]? = some (some v) := by
            cases hs : σ[j]? with
            | none => rw [hs] at e2''; cases e2''
            | some z => rw [hs] at e2''; cases z with
              | none => cases e2''
              | some z' => cases e2''; rfl
          have hz : (ys.zip js)[k]? = some (x, j) := by rw [List.getElem?_zip_eq_some]; exact ⟨e1', hj⟩
          obtain ⟨c1, c2, c3⟩ := S.cap.mem _ (List.mem_of_getElem? hz)
          obtain ⟨u, r, l⟩ := hl j x v c1 hσ (by rcases c2 with c2 | c2; exact .inr (.inl c2); exact .inr (.inr c2))
          refine ⟨u, r, .inr ⟨c3, ?_⟩⟩
          rcases l with ⟨k1, _⟩ | ⟨_, c, k2, o, ho, hd⟩
          · have k1' : X.env.kindOf x = some .local := k1
            rcases c2 with c2 | c2 <;> rw [show X.env.kindOf x = _ from c2] at k1' <;> cases k1'
          · have hcl : ∃ c', cl.lookup x = some c' := by
              have hm : ∃ k, (x, k) ∈ (relabel scope X.env).names ∧ (k = .cell ∨ k = .free) := by
                rcases c3 with ha | ha
                · exact ⟨_, PySem.mem_of_lookup ha, .inl rfl⟩
                · exact ⟨_, PySem.mem_of_lookup ha, .inr rfl⟩
              obtain ⟨k, hk, hk2⟩ := hm
              rcases S.has.mem _ hk with z | z | z
              · have z' : k = .local := z
                rcases hk2 with r | r <;> rw [r] at z' <;> cases z'
              · have z' : k = .globalImplicit := z
                rcases hk2 with r | r <;> rw [r] at z' <;> cases z'
              · exact z
            obtain ⟨c', hc'⟩ := hcl
            have ec : c' = c := by
              have := S.lookup hc'
              rw [k2] at this
              exact (Option.some.inj this).symm
            subst ec
            exact ⟨c', hc', o, old _ _ ho, hd⟩
    · obtain ⟨v, o, ho, hd⟩ := I2.cell x c (S.lookup e)
      exact ⟨v, o, old _ _ ho, hd⟩
    · show upd H2 s2.heap.objs.size (.lst []) G.objs.size = none
      rw [upd_ne (Ne.symm hDC)]; exact hCn
    · obtain ⟨v, o, ho, hd⟩ := I2.cell x c (S.lookup e)
      rw [upd_ne (below c (Heap.lt_size ho)).2]; exact I2.freeC x c (S.lookup e)
    · show (none :: caps js σ).length = (y :: ys).length
      simp [caps, S.len]
  -- back to the outer context
  have back : ∀ {pl : List (Addr × Obj)} {σ' : St} {H' : Hp} {s' : Shared}, Inv X' pl σ' H' s' → Inv X pins σ H' s' := fun {pl σ' H' s'} J' => by
    have os := J'.os
    have un := J'.base
    have hok := J'.hok
    have bare := J'.bare
    subst hX
    obtain ⟨hh, g, d, t, os'⟩ := s'
    obtain rfl : os' = s2.os := os
    exact I2.call (h' := hh) (g' := g) (d' := d) (t' := t) (ch := fp) un hok bare (fun b hb => ⟨(f2 b hb).2.2.2.1, (f2 b hb).2.1, (f2 b hb).2.2.2.2.1, (f2 b hb).2.2.2.2.2⟩)
  have xeX : ∀ e s', X'.xe e s' → False := by subst hX; exact fun _ _ h => h
  have heltX : PE X' elt te := by subst hX; exact helt _ _ _ _
  have hgX : PG X' (.Name y py) (gName 0) := by
    subst hX
    exact pg_name (X := X.comp scope cl G.objs.size (y :: ys) s2 H2 fp) (i := 0) S.nd rfl (.inl (lookup_relabel_local S.loc)) (.inr (lookup_relabel_local S.loc))
  have eA : X'.A = X.A := by subst hX; rfl
  have eP : X'.prog = X.prog := by subst hX; rfl
  have eW : X'.w = X.w := by subst hX; rfl
  have eK : X'.K = X.K := by subst hX; rfl
  have eC : X'.calm = true := by subst hX; exact hc
  have eE : X'.env = compEnvC scope cl G.objs.size X.env := by subst hX; rfl
  have locX : ∀ {pl : List (Addr × Obj)} {σ' : St} {H' : Hp} {s' : Shared}, Inv X' pl σ' H' s' → (∃ m, s'.heap.Ns G.objs.size m) ∧ H' G.objs.size = none := fun {pl σ' H' s'} J' => by
    obtain ⟨m, hn, _⟩ := J'.loc
    have hf := J'.free
    subst hX
    exact ⟨⟨m, hn⟩, hf⟩
  have loop : ∀ s3 : Shared, s3 = { s2 with heap := h₁, toks := s2.toks + ([] : List (Str × Value)).length } →
      codeAny (model X.prog X.w) X.A (.compLoop (.ListComp elt [⟨.Name y py, iter, [], 0⟩] scope pos) 0 (.ref it) (.ref s2.heap.objs.size) (compEnvC scope cl G.objs.size X.env)) (RR (.ref s2.heap.objs.size) G.objs.size) s3 := by
    rintro s3 rfl
    refine compLoop_any (fun n s' => ∃ i σ' H', Inv X' [] σ' H' s' ∧ tn i s'.heap ∧ (∀ b ∈ fp, H' b = none) ∧ W i n σ' H') ?_ m0 ⟨0, _, _, I3, T.keep _ _ _ st2 fun b _ o e => old b o e, fun b hb => ?_, w0⟩
    · rintro n s4 ⟨i, σ4, H4, I4, st4, fr4, w4⟩
      rcases turn i n σ4 H4 w4 with ⟨stop, qn⟩ | ⟨go, N, hN, step⟩
      · have hT := T.done X' eP eW eK eC i [] s4 σ4 H4 (notedBy (model X.prog X.w) X.A (compEnvC scope cl G.objs.size X.env) fun e s' => RR (.ref s2.heap.objs.size) G.objs.size (.error e) s') I4 (fun b hb => fpX hb (fr4 b hb)) st4 stop
        rw [eA] at hT
        refine thn hT fun r s5 ⟨hr, I5⟩ => ?_
        subst hr
        obtain ⟨⟨m, hn⟩, hf⟩ := locX I5
        exact hRR _ _ s5 H4 m (back I5) hn hf hCle qn
      · have hT := T.item X' eP eW eK eC i [] s4 σ4 H4 (notedBy (model X.prog X.w) X.A (compEnvC scope cl G.objs.size X.env) fun e s' => RR (.ref s2.heap.objs.size) G.objs.size (.error e) s') I4 (fun b hb => fpX hb (fr4 b hb)) st4 go
        rw [eA] at hT
        refine thn hT fun r s5 ⟨u, hr, h5⟩ => ?_
        subst hr
        refine thn h5 fun _ s6 ⟨x, H6, I6, r6, y6, st6, fr6⟩ => ?_
        have I6' := I6.pinned (fun b hb => fpX hb (fr6 b hb)) (T.obj _ _ st6)
        have hg := hgX _ s6 σ4 H6 x u (fun σ7 H7 => te σ7 H7 fun v H3 => ∃ zs, H3 s2.heap.objs.size = some (.lst zs) ∧ zs.length < sizeLine ∧ N σ7 (upd H3 s2.heap.objs.size (.lst (zs ++ [v])))) I6' r6 (step x H6 y6)
        rw [eP, eW, eA, eE] at hg
        refine wpAny_mono hg (fun _ s7 ⟨σ7, H7, I7, q7⟩ => ?_) fun _ _ f => (xeX _ _ f).elim
        have he := heltX _ s7 σ7 H7 _ I7 q7
        rw [eP, eW, eA, eE] at he
        refine wpAny_mono he (fun v s8 ⟨x8, H8, I8, r8, zs, hD8, hz8, q8⟩ => ?_) fun _ _ f => (xeX _ _ f).elim
        have ha := mt_append (X := X') _ s8 _ H8 (.ref s2.heap.objs.size) [x8] (.ref s2.heap.objs.size) [v] (fun _ H9 => H9 = upd H8 s2.heap.objs.size (.lst (zs ++ [x8]))) I8 rfl (.cons r8 .nil) ⟨_, zs, x8, rfl, rfl, hD8, hz8, rfl⟩
        rw [eP, eW, eA] at ha
        refine wpAny_mono ha (fun _ s9 ⟨x9, H9, I9, r9, e9⟩ => ?_) fun _ _ f => (xeX _ _ f).elim
        subst e9
        obtain ⟨m', hm, w9⟩ := hN _ _ q8
        refine ⟨m', hm, i + 1, _, _, I9.unpinned, T.keep _ _ _ st6 fun b hb o e => (I9.pin (b, o) (List.mem_append_right _ (List.mem_append_right _ (mem_pinsAt hb e)))).1, fun b hb => ?_, w9⟩
        obtain ⟨o, e, d⟩ := T.obj _ _ st6 b hb
        exact (I9.pin (b, o) (List.mem_append_right _ (List.mem_append_right _ (mem_pinsAt hb e)))).2.1
    · rw [upd_ne (below b (fpObj b hb)).2]; exact (f2 b hb).1
  exact codeAny_compStart_list (loop _ rfl) (T.self _ 0 _ _ _ (T.keep _ _ _ st2 fun b _ o e => old b o e) (loop _ rfl))

/-- the comprehension as a value -/
theorem pe_lc {wi : TI} (hi : PI X (.Name y py) iter wi) (S : CompSc X scope cl y ys js) (hc : X.calm = true) (helt : ∀ C s₀ H₀ fp, PE (X.comp scope cl C (y :: ys) s₀ H₀ fp) elt te)
    (hs : ∀ x, foldedSetIterable iter X.env x = pure x := by intro _; rfl) : PE X (.ListComp elt [⟨.Name y py, iter, [], 0⟩] scope pos) (fun σ H Q => wi σ H fun J H1 => tLCgo J te js Q σ H1) := by
  intro pins s σ H Q I h
  rw [eval_ListComp]
  refine wpAny_comprehension_free (use := none) rfl hs S.clos S.kind S.names (thn (hi pins s σ H _ I h) fun v s1 h1 => thn h1 fun itv s2 h2 => ?_)
  obtain ⟨it, fp, tn, J, H2, rfl, I2, T, st2, f2, q⟩ := h2
  refine comp_run S hc helt I2 T st2 f2 q (RR := fun acc C => compPost (model X.prog X.w) X.A X.xe none (EP X pins σ Q) acc C) fun D C s' H' m I' hn hC hle q' => ?_
  obtain ⟨g0, g1, g2, g3, g4, g5⟩ := I2.fpOk hle hC
  exact ⟨m, hn, fun h' sb => ⟨.ref D, H', I'.turned (t' := s'.toks) (fun b o hb e => sb.extBut b o hb e) g0 g1 g3 g4 g5, rfl, q'⟩⟩

/-- x = [.. for ..]: the store stands ahead of the end of the block -/
theorem ps_lc {wi : TI} {i : Nat} {x : Str} {px spos : Pos} (hi : PI X (.Name y py) iter wi) (S : CompSc X scope cl y ys js) (hc : X.calm = true) (helt : ∀ C s₀ H₀ fp, PE (X.comp scope cl C (y :: ys) s₀ H₀ fp) elt te)
    (hg : PG X (.Name x px) (gName i)) (hsw : swapsWith (.ListComp elt [⟨.Name y py, iter, [], 0⟩] scope pos) (some (.Name x px)) spos.line X.env = pure true := by rfl)
    (hs : ∀ x, foldedSetIterable iter X.env x = pure x := by intro _; rfl) :
    PS X (.Assign [.Name x px] (.ListComp elt [⟨.Name y py, iter, [], 0⟩] scope pos) spos) (fun D σ H => wi σ H fun J H1 => tLCgo J te js (fun v H2 => D.nx (σ.set i (some v)) H2) σ H1) := by
  intro pins s σ H D I h
  rw [exec_Assign_Name_used _ _ _ _ hsw]
  refine wpAny_bind (wpAny_standAt (wpAny_bind ?_))
  show wpAny _ X.A (do let _ ← comprehension (.ListComp elt [⟨.Name y py, iter, [], 0⟩] scope pos) scope X.env _ (newList []) false (eval iter X.env) (some (assign (.Name x px) X.env))) _ _ s
  refine wpAny_bind (wpAny_mono (wpAny_comprehension_free (use := some (assign (.Name x px) X.env)) (Q := fun _ s' => SP X pins D .next s') rfl hs S.clos S.kind S.names
    (thn (hi pins s σ H _ I h) fun v s1 h1 => thn h1 fun itv s2 h2 => ?_)) (fun _ s' hq => wpAny_pure (wpAny_pure hq)) fun _ _ e => e)
  obtain ⟨it, fp, tn, J, H2, rfl, I2, T, st2, f2, q⟩ := h2
  refine comp_run S hc helt I2 T st2 f2 q (RR := fun acc C => compPost (model X.prog X.w) X.A X.xe (some (assign (.Name x px) X.env)) (fun _ s' => SP X pins D .next s') acc C) fun L C s' H' m I' hn hC hle q' => ?_
  obtain ⟨g0, g1, g2, g3, g4, g5⟩ := I2.fpOk hle hC
  obtain ⟨oC, es, ep, hoC, hdC, hrC⟩ := id hn
  have IP : Inv X (pins ++ [(C, oC)]) σ H' s' := I'.pins_of fun p hp => (List.mem_append.mp hp).elim (fun z => I'.pin p (List.mem_append_right _ z)) fun z => by
    have e : p = (C, oC) := by simpa using z
    subst e
    exact ⟨hoC, hC, g1, g2, fun v z => by rw [hdC] at z; cases z⟩
  show wpAny _ X.A (assign (.Name x px) X.env (.ref L)) _ _ _
  refine thn (hg _ s' σ H' (.ref L) (.ref L) (fun σ3 H3 => σ3 = σ.set i (some (.ref L)) ∧ H3 = H') IP rfl ⟨rfl, rfl⟩) fun _ s3 ⟨σ3, H3, I3, e3, e4⟩ => ?_
  subst e3 e4
  have pC := I3.pin (C, oC) (List.mem_append_right _ (List.mem_append_right _ (List.mem_singleton.mpr rfl)))
  refine ⟨m, ⟨oC, es, ep, pC.1, hdC, hrC⟩, fun h' sb => ⟨_, _, I3.unpinned.turned (t' := s3.toks) (fun b o hb e => sb.extBut b o hb e) g0 g1 g3 g4 g5, q'⟩⟩
end

/-! ### readings of comprehensions whose element makes nothing -/
theorem lc_range {te : TE} {js : List Nat} {Q : VK} {σ : St} {H : Hp} {lo : Int} {n : Nat} (f : Nat → V) (hn : n ≤ sizeLine)
    (he : ∀ i D zs (R : VK), i < n → H D = none → R (f i) (upd H D (.lst zs)) → te (some (.int (lo + i)) :: caps js σ) (upd H D (.lst zs)) R)
    (hq : ∀ D, H D = none → Q (.ref D) (upd H D (.lst ((List.range n).map f)))) : tLCgo (Itr lo n) te js Q σ H := by
  intro D hD
  refine ⟨fun i m σ' H' => m = n - i ∧ i ≤ n ∧ (∃ z, σ' = z :: caps js σ) ∧ H' = upd H D (.lst ((List.range i).map f)), ⟨n, by simp, Nat.zero_le _, ⟨_, rfl⟩, rfl⟩, ?_⟩
  rintro i m σ' H' ⟨rfl, hi, ⟨z, rfl⟩, rfl⟩
  by_cases hlt : i < n
  · refine .inr ⟨hlt, fun σ'' H'' => (∃ z, σ'' = z :: caps js σ) ∧ H'' = upd H D (.lst ((List.range (i + 1)).map f)), fun σ'' H'' p => ⟨n - (i + 1), by omega, rfl, hlt, p⟩, fun x H2 y => ?_⟩
    obtain ⟨e, y⟩ := y
    subst e y
    refine he i D _ _ hlt hD ⟨_, upd_same, ?_, ⟨_, rfl⟩, ?_⟩
    · simp; omega
    · rw [upd_upd, List.range_succ, List.map_append]; rfl
  · have e : i = n := by omega
    subst e
    exact .inl ⟨Nat.le_refl _, hq D hD⟩
theorem lc_str {te : TE} {js : List Nat} {Q : VK} {σ : St} {H : Hp} {x : Str} (f : Nat → V) (hn : x.cps.size ≤ sizeLine)
    (he : ∀ (i : Nat) c D zs (R : VK), x.cps[i]? = some c → H D = none → R (f c) (upd H D (.lst zs)) → te (some (.str ⟨#[c]⟩) :: caps js σ) (upd H D (.lst zs)) R)
    (hq : ∀ D, H D = none → Q (.ref D) (upd H D (.lst (x.cps.toList.map f)))) : tLCgo (Its x) te js Q σ H := by
  intro D hD
  refine ⟨fun i m σ' H' => m = x.cps.size - i ∧ i ≤ x.cps.size ∧ (∃ z, σ' = z :: caps js σ) ∧ H' = upd H D (.lst ((x.cps.toList.take i).map f)), ⟨x.cps.size, by simp, Nat.zero_le _, ⟨_, rfl⟩, by simp⟩, ?_⟩
  rintro i m σ' H' ⟨rfl, hi, ⟨z, rfl⟩, rfl⟩
  by_cases hlt : i < x.cps.size
  · refine .inr ⟨hlt, fun σ'' H'' => (∃ z, σ'' = z :: caps js σ) ∧ H'' = upd H D (.lst ((x.cps.toList.take (i + 1)).map f)), fun σ'' H'' p => ⟨x.cps.size - (i + 1), by omega, rfl, hlt, p⟩, fun v H2 y => ?_⟩
    obtain ⟨e, c, hc, y⟩ := y
    subst e y
    refine he i c D _ _ hc hD ⟨_, upd_same, ?_, ⟨_, rfl⟩, ?_⟩
    · simp; omega
    · have hc' : x.cps.toList[i]? = some c := by simpa using hc
      rw [upd_upd, List.take_add_one, hc', List.map_append]; rfl
  · have e : i = x.cps.size := by omega
    subst e
    refine .inl ⟨Nat.le_refl _, ?_⟩
    have := hq D hD
    rwa [List.take_of_length_le (by simp)]
theorem lc_list {K : PySem.W.Frag} {te : TE} {js : List Nat} {Q : VK} {σ : St} {H : Hp} {a : Addr} {xs : List V} (f : V → V) (hn : xs.length ≤ sizeLine) (hS : SqL K H a xs)
    (he : ∀ (i : Nat) x D zs (R : VK), xs[i]? = some x → H D = none → R (f x) (upd H D (.lst zs)) → te (some x :: caps js σ) (upd H D (.lst zs)) R)
    (hq : ∀ D, H D = none → Q (.ref D) (upd H D (.lst (xs.map f)))) : tLCgo (Itl K a) te js Q σ H := by
  intro D hD
  have hS' : ∀ zs, SqL K (upd H D (.lst zs)) a xs := fun zs => by
    have ne : ∀ o, H a = some o → a ≠ D := fun o e z => by rw [z, hD] at e; cases e
    rcases hS with (h | ⟨o, h⟩) | h
    · exact .inl (.inl (by rw [upd_ne (ne _ h)]; exact h))
    · exact .inl (.inr ⟨o, by rw [upd_ne (ne _ h)]; exact h⟩)
    · exact .inr h
  refine ⟨fun i m σ' H' => m = xs.length - i ∧ i ≤ xs.length ∧ (∃ z, σ' = z :: caps js σ) ∧ H' = upd H D (.lst ((xs.take i).map f)), ⟨xs.length, by simp, Nat.zero_le _, ⟨_, rfl⟩, by simp⟩, ?_⟩
  rintro i m σ' H' ⟨rfl, hi, ⟨z, rfl⟩, rfl⟩
  by_cases hlt : i < xs.length
  · refine .inr ⟨⟨xs, xs[i], hS' _, by simp [hlt]⟩, fun σ'' H'' => (∃ z, σ'' = z :: caps js σ) ∧ H'' = upd H D (.lst ((xs.take (i + 1)).map f)), fun σ'' H'' p => ⟨xs.length - (i + 1), by omega, rfl, hlt, p⟩, fun v H2 y => ?_⟩
    obtain ⟨e, y⟩ := y
    subst e
    have hc := y xs (hS' _)
    refine he i v D _ _ hc hD ⟨_, upd_same, ?_, ⟨_, rfl⟩, ?_⟩
    · simp; omega
    · rw [upd_upd, List.take_add_one, hc, List.map_append]; rfl
  · have e : i = xs.length := by omega
    subst e
    refine .inl ⟨⟨xs, hS' _, Nat.le_refl _⟩, ?_⟩
    have := hq D hD
    rwa [List.take_length]
theorem iteDT {c A B : Prop} [Decidable c] (hc : c) (h : A) : if decide c = true then A else B := by
  rw [if_pos (decide_eq_true hc)]
  exact h
theorem iteDF {c A B : Prop} [Decidable c] (hc : ¬ c) (h : B) : if decide c = true then A else B := by
  rw [if_neg (by rw [decide_eq_false hc]; exact Bool.false_ne_true)]
  exact h
theorem iteD {c A B : Prop} [Decidable c] (h1 : c → A) (h2 : ¬ c → B) : if decide c = true then A else B := by
  by_cases h : c
  · exact iteDT h (h1 h)
  · exact iteDF h (h2 h)
theorem same_new {H : Hp} {p : Addr} (h : H p = none) (o : HO) : Same H (upd H p o) := fun b u q => by rw [upd_ne (ne_of_none q h)]; exact q
end L2

namespace L2
open PySem PySem.Spec PyProof.Rows
theorem bo_len : bootBuiltins "len" = some (.builtin "len") := by decide +kernel
theorem bo_isinstance : bootBuiltins "isinstance" = some (.builtin "isinstance") := by decide +kernel
theorem bo_sum : bootBuiltins "sum" = some (.builtin "sum") := by decide +kernel
theorem bo_max : bootBuiltins "max" = some (.builtin "max") := by decide +kernel
theorem bo_min : bootBuiltins "min" = some (.builtin "min") := by decide +kernel
theorem bo_list : bootBuiltins "list" = some (.type "list") := by decide +kernel
theorem bo_int : bootBuiltins "int" = some (.type "int") := by decide +kernel
theorem bo_bool : bootBuiltins "bool" = some (.type "bool") := by decide +kernel
theorem bo_str : bootBuiltins "str" = some (.type "str") := by decide +kernel
section
variable {X : Cx}
/-- a text of the file's top -/
theorem pe_gstr {x z : Str} {pos : Pos} (h : ∃ t, X.mg x = some (.str z t)) (hg : Gl X x := by rfl) (hd : (x == ("__debug__" : Str)) = false := by decide) : PE X (.Name x pos) (tC (.str z)) := by
  obtain ⟨t, hm⟩ := h
  exact pe_glob hg hm ⟨t, rfl⟩ hd
/-- a built-in kind by its name -/
theorem pe_bty {x : Str} {T : String} {pos : Pos} (hm : X.mg x = none) (hv : bootBuiltins x = some (.type T)) (hg : Gl X x := by rfl) (hn : x ≠ "__name__" := by decide) (hd : (x == ("__debug__" : Str)) = false := by decide) :
    PE X (.Name x pos) (tC (.ty T)) := pe_bltn hg hm hv rfl hn hd
end
end L2

set_option maxHeartbeats 4000000
set_option Elab.async false
set_option linter.all false
namespace L2
open PySem
/-! ### a run has one end -/
theorem Runs_det {M : Model} {Γ : Ctx} {p : Pos} {t : Sem Fin} {fs : List Frame} {s s' : Shared} {e : End} (h : Runs M Γ p t fs s e s') :
    ∀ e₂ s₂, Runs M Γ p t fs s e₂ s₂ → e₂ = e ∧ s₂ = s' := by
  induction h with
  | done => intro e₂ s₂ h; cases h; exact ⟨rfl, rfl⟩
  | raise => intro e₂ s₂ h; cases h; exact ⟨rfl, rfl⟩
  | again _ _ ih => intro e₂ s₂ h; cases h with | again _ h => exact ih _ _ h
  | rule _ ih => intro e₂ s₂ h; cases h with | rule h => exact ih _ _ h
  | «at» _ ih => intro e₂ s₂ h; cases h with | «at» h => exact ih _ _ h
  | load e1 _ ih => intro e₂ s₂ h; cases h with | load e2 h => rw [e1] at e2; cases e2; exact ih _ _ h
  | update _ _ ih => intro e₂ s₂ h; cases h with | update _ h => exact ih _ _ h
  | loadIfAlive _ ih => intro e₂ s₂ h; cases h with | loadIfAlive h => exact ih _ _ h
  | point _ ih => intro e₂ s₂ h; cases h with | point h => exact ih _ _ h
  | alloc _ ih => intro e₂ s₂ h; cases h with | alloc h => exact ih _ _ h
  | fresh _ ih => intro e₂ s₂ h; cases h with | fresh h => exact ih _ _ h
  | ask _ ih => intro e₂ s₂ h; cases h with | ask h => exact ih _ _ h
  | choose _ _ ih => intro e₂ s₂ h; cases h with | choose _ h => exact ih _ _ h
  | os _ ih => intro e₂ s₂ h; cases h with | os h => exact ih _ _ h
  | handled _ ih => intro e₂ s₂ h; cases h with | handled h => exact ih _ _ h
  | genState e1 _ ih => intro e₂ s₂ h; cases h with | genState e2 h => rw [e1] at e2; cases e2; exact ih _ _ h
  | stack _ ih => intro e₂ s₂ h; cases h with | stack h => exact ih _ _ h
  | thread _ ih => intro e₂ s₂ h; cases h with | thread h => exact ih _ _ h
  | newGen _ ih => intro e₂ s₂ h; cases h with | newGen h => exact ih _ _ h
  | call _ _ i1 i2 =>
    intro e₂ s₂ h
    cases h with
    | call a b => obtain ⟨x, rfl⟩ := i1 _ _ a; cases x; exact i2 _ _ b
    | callSusp a => obtain ⟨x, _⟩ := i1 _ _ a; cases x
  | callSusp _ i1 =>
    intro e₂ s₂ h
    cases h with
    | call a b => obtain ⟨x, _⟩ := i1 _ _ a; cases x
    | callSusp a => obtain ⟨x, rfl⟩ := i1 _ _ a; cases x; exact ⟨rfl, rfl⟩
  | yield => intro e₂ s₂ h; cases h; exact ⟨rfl, rfl⟩
  | resumeFresh e1 _ _ _ i1 i2 =>
    intro e₂ s₂ h
    cases h with
    | resumeFresh f1 a _ b => rw [e1] at f1; cases f1; obtain ⟨rfl, rfl⟩ := i1 _ _ a; exact i2 _ _ b
    | resumeSuspended f1 => rw [e1] at f1; cases f1
    | resumeJustStarted f1 n => exact absurd rfl n
    | resumeRunning f1 => rw [e1] at f1; cases f1
    | resumeFinished f1 => rw [e1] at f1; cases f1
  | resumeSuspended e1 _ _ _ i1 i2 =>
    intro e₂ s₂ h
    cases h with
    | resumeFresh f1 => rw [e1] at f1; cases f1
    | resumeSuspended f1 a _ b => rw [e1] at f1; cases f1; obtain ⟨rfl, rfl⟩ := i1 _ _ a; exact i2 _ _ b
    | resumeJustStarted f1 => rw [e1] at f1; cases f1
    | resumeThrowFresh f1 => rw [e1] at f1; cases f1
    | resumeRunning f1 => rw [e1] at f1; cases f1
    | resumeFinished f1 => rw [e1] at f1; cases f1
  | resumeJustStarted e1 n _ ih =>
    intro e₂ s₂ h
    cases h with
    | resumeFresh f1 => exact absurd rfl n
    | resumeSuspended f1 => rw [e1] at f1; cases f1
    | resumeJustStarted f1 _ b => exact ih _ _ b
    | resumeRunning f1 => rw [e1] at f1; cases f1
    | resumeFinished f1 => rw [e1] at f1; cases f1
  | resumeThrowFresh e1 _ ih =>
    intro e₂ s₂ h
    cases h with
    | resumeSuspended f1 => rw [e1] at f1; cases f1
    | resumeThrowFresh f1 b => exact ih _ _ b
    | resumeRunning f1 => rw [e1] at f1; cases f1
    | resumeFinished f1 => rw [e1] at f1; cases f1
  | resumeRunning e1 _ ih =>
    intro e₂ s₂ h
    cases h with
    | resumeFresh f1 => rw [e1] at f1; cases f1
    | resumeSuspended f1 => rw [e1] at f1; cases f1
    | resumeJustStarted f1 => rw [e1] at f1; cases f1
    | resumeThrowFresh f1 => rw [e1] at f1; cases f1
    | resumeRunning f1 b => exact ih _ _ b
    | resumeFinished f1 => rw [e1] at f1; cases f1
  | resumeFinished e1 _ ih =>
    intro e₂ s₂ h
    cases h with
    | resumeFresh f1 => rw [e1] at f1; cases f1
    | resumeSuspended f1 => rw [e1] at f1; cases f1
    | resumeJustStarted f1 => rw [e1] at f1; cases f1
    | resumeThrowFresh f1 => rw [e1] at f1; cases f1
    | resumeRunning f1 => rw [e1] at f1; cases f1
    | resumeFinished f1 b => exact ih _ _ b
  | segRet _ _ i1 i2 =>
    intro e₂ s₂ h
    cases h with
    | segRet a b => obtain ⟨x, rfl⟩ := i1 _ _ a; cases x; exact i2 _ _ b
    | segSuspOut _ a => obtain ⟨x, _⟩ := i1 _ _ a; cases x
    | segSuspGen _ a => obtain ⟨x, _⟩ := i1 _ _ a; cases x
  | segGen _ _ i1 i2 =>
    intro e₂ s₂ h
    cases h with
    | segGen a b => obtain ⟨x, rfl⟩ := i1 _ _ a; cases x; exact i2 _ _ b
    | segSuspOut _ a => obtain ⟨x, _⟩ := i1 _ _ a; cases x
    | segSuspGen _ a => obtain ⟨x, _⟩ := i1 _ _ a; cases x
  | segSuspOut e1 _ i1 =>
    intro e₂ s₂ h
    cases h with
    | segRet a b => obtain ⟨x, _⟩ := i1 _ _ a; cases x
    | segGen a b => obtain ⟨x, _⟩ := i1 _ _ a; cases x
    | segSuspOut _ a => obtain ⟨x, rfl⟩ := i1 _ _ a; cases x; exact ⟨rfl, rfl⟩
    | segSuspGen f1 a => rw [e1] at f1; cases f1
  | segSuspGen e1 _ _ _ i1 i2 =>
    intro e₂ s₂ h
    cases h with
    | segRet a b => obtain ⟨x, _⟩ := i1 _ _ a; cases x
    | segGen a b => obtain ⟨x, _⟩ := i1 _ _ a; cases x
    | segSuspOut f1 a => rw [e1] at f1; cases f1
    | segSuspGen f1 a _ b => rw [e1] at f1; cases f1; obtain ⟨x, rfl⟩ := i1 _ _ a; cases x; exact i2 _ _ b
theorem Wakes_det {M : Model} {Γ : Ctx} {p : Pos} {g : Nat} {r : Resume} {s s₁ s₂ : Shared} {x₁ x₂ : GenResult} (h₁ : Wakes M Γ p g r s x₁ s₁) (h₂ : Wakes M Γ p g r s x₂ s₂) : x₂ = x₁ ∧ s₂ = s₁ := by
  cases hg : s.gens[g]? with
  | none => simp only [Wakes, hg] at h₁
  | some st =>
    cases st with
    | fresh c =>
      cases r with
      | send v =>
        cases v with
        | none =>
          simp only [Wakes, hg] at h₁ h₂
          obtain ⟨e, u, a, _, rfl, rfl⟩ := h₁
          obtain ⟨e', u', a', _, rfl, rfl⟩ := h₂
          obtain ⟨rfl, rfl⟩ := Runs_det a _ _ a'
          exact ⟨rfl, rfl⟩
        | _ =>
          simp only [Wakes, hg] at h₁ h₂
          exact ⟨h₂.1.trans h₁.1.symm, h₂.2.trans h₁.2.symm⟩
      | throw x =>
        simp only [Wakes, hg] at h₁ h₂
        exact ⟨h₂.1.trans h₁.1.symm, h₂.2.trans h₁.2.symm⟩
    | suspended k₀ l₀ c₀ p₀ fs cl =>
      simp only [Wakes, hg] at h₁ h₂
      obtain ⟨e, u, a, _, rfl, rfl⟩ := h₁
      obtain ⟨e', u', a', _, rfl, rfl⟩ := h₂
      obtain ⟨rfl, rfl⟩ := Runs_det a _ _ a'
      exact ⟨rfl, rfl⟩
    | running =>
      simp only [Wakes, hg] at h₁ h₂
      exact ⟨h₂.1.trans h₁.1.symm, h₂.2.trans h₁.2.symm⟩
    | finished =>
      simp only [Wakes, hg] at h₁ h₂
      exact ⟨h₂.1.trans h₁.1.symm, h₂.2.trans h₁.2.symm⟩
/-! ### what is known twice is known at once -/
theorem wp_both {α : Type} {M : Model} {Γ : Ctx} {Q R : α → Pos → Shared → Prop} {E F : Value → Pos → Shared → Prop} (t : Sem α) :
    ∀ p s, Sem.wp M Γ t Q E p s → Sem.wp M Γ t R F p s → Sem.wp M Γ t (fun a p s => Q a p s ∧ R a p s) (fun e p s => E e p s ∧ F e p s) p s := by
  induction t with
  | pure a => exact fun p s x y => ⟨x, y⟩
  | raise e => exact fun p s x y => ⟨x, y⟩
  | unsupported => exact fun p s x y => x
  | finish => exact fun p s x y => x
  | rule _ k ih => exact fun p s x y => ih () p s x y
  | «at» p' k ih => exact fun p s x y => ih () p' s x y
  | load a _ k ih => 
    rintro p s ⟨o, e, x⟩ ⟨o', e', y⟩
    rw [e] at e'; cases e'
    exact ⟨o, e, ih o p s x y⟩
  | update a _ f k ih => exact fun p s x y => ⟨x.1, ih () p _ x.2 y.2⟩
  | loadIfAlive a k ih => exact fun p s x y => ih _ p s x y
  | point _ k ih => exact fun p s x y => ih () p s x y
  | register => exact fun p s x y => x
  | alloc o k ih => exact fun p s x y => ih _ p _ x y
  | fresh k ih => exact fun p s x y => ih _ p _ x y
  | ask k ih => exact fun p s x y => ih _ p _ x y
  | choose src n k ih => exact fun p s x y => ⟨x.1, ih _ p _ x.2 y.2⟩
  | os q _ k ih => exact fun p s x y => ih _ p _ x y
  | call c h _ _ k ih =>
    rintro p s ⟨r, s', a, x⟩ ⟨r', s'', a', y⟩
    obtain ⟨e, rfl⟩ := Runs_det a _ _ a'
    cases e
    exact ⟨r, s'', a, ih r p s'' x y⟩
  | handled own k ih => exact fun p s x y => ih _ p _ x y
  | genState g k ih =>
    rintro p s ⟨o, e, x⟩ ⟨o', e', y⟩
    rw [e] at e'; cases e'
    exact ⟨o, e, ih _ p s x y⟩
  | newGen c k ih => exact fun p s x y => ih _ p _ x y
  | resume g r _ k ih =>
    rintro p s ⟨r, s', a, x⟩ ⟨r', s'', a', y⟩
    obtain ⟨rfl, rfl⟩ := Wakes_det a a'
    exact ⟨_, _, a, ih _ p _ x y⟩
  | yield => exact fun p s x y => x
  | stack k ih => exact fun p s x y => ih _ p _ x y
  | fork => exact fun p s x y => x
  | thread k ih => exact fun p s x y => ih _ p _ x y
  | await => exact fun p s x y => x
theorem wpAny_both {α : Type} {M : Model} {A : Around} {Q R : α → Shared → Prop} {E F : Value → Shared → Prop} {t : Sem α} {s : Shared} (x : wpAny M A t Q E s) (y : wpAny M A t R F s) :
    wpAny M A t (fun a s => Q a s ∧ R a s) (fun e s => E e s ∧ F e s) s := fun Γ p h => wp_both t p s (x Γ p h) (y Γ p h)
end L2

set_option maxHeartbeats 4000000
namespace L2
open PySem PySem.Spec PyProof.Rows
/-! ### an error on its way keeps no context -/
def Ctx0 (h : Heap) (e : Addr) : Prop := ∃ oe vs, h.get? e = some oe ∧ oe.data = .fields vs ∧ vs[2]? = some .none
section
variable {M : Model} {A : Around} {E : Value → Shared → Prop} {s : Shared} {base : Heap} {env : Env} {outer : List Env} {L e : Addr} {cls a0 fl : Value}
theorem Ctx0.one {h h' : Heap} {oe : Obj} {vs : Array Value} {v : Value} (hd : oe.data = .fields vs) (h2 : vs[2]? = some .none) (g : h'.get? e = some (Obj.mapFields (·.setIfInBounds 1 v) oe)) : Ctx0 h' e :=
  ⟨_, _, g, Obj.data_mapFields hd _, by rw [Array.getElem?_setIfInBounds_ne (by decide)]; exact h2⟩
theorem ctx_entry {oe : Obj} {vs : Array Value} {head : Value} {hadNext : Bool} (hfr : A.frames = some (env :: outer)) (hl : s.heap.FunFrames base (env :: outer)) (hf : env.frame = some L)
    (he : s.heap.get? e = some oe) (hd : oe.data = .fields vs) (h2 : vs[2]? = some .none) :
    wpAny M A (do let a ← frameOf env; let pl ← entryPlaceOf L hadNext; let b ← EntryCells.newEntry head a .none (rawInt L) .none pl; setField (.ref e) 1 b) (fun _ s' => Ctx0 s'.heap e) E s := by
  have sz : 1 < vs.size := by have := (Array.getElem?_eq_some_iff.mp h2).1; omega
  have out : e ∉ (env :: outer).filterMap (·.frame) := fun hm => by
    obtain ⟨_, o, ho, hnf⟩ := hl.mem hm
    rw [he] at ho; cases ho
    exact hnf vs hd
  refine wpAny_bind (wpAny_frameOf_fun hfr hl hf fun h1 k1 => wpAny_bind (wpAny_entryPlaceOf fun pl hpl => ?_))
  unfold EntryCells.newEntry newFields
  refine wpAny_bind (wpAny_newObj_type ?_ (hpl.sizeOk5 _ _ _ _ _))
  have e1 : h1.get? e = some oe := (k1.2.1 e out).trans he
  have e2 := Heap.get?_push_of_some (h := h1) { cls := .type "traceback", dict := none, data := .fields ([head, .ref L, .none, rawInt L, .none] ++ (if pl.isEmpty then List.replicate 6 Value.none else pl)).toArray } e1
  refine wpAny_setField e2 hd sz (Ctx0.one (h := h1) hd h2 (Heap.get?_update_self _ e2 (Obj.isFreed_of_fields (Obj.data_mapFields hd _))))
theorem ctx_flight (ht : s.heap.TracedAtW base e cls a0 fl) (c : Ctx0 s.heap e) : wpAny M A (setFlight (.ref e) none) (fun _ s' => Ctx0 s'.heap e) E s := by
  obtain ⟨oe, vs, T, oT, ts, he, hc, hd, h1, hnT, hTe, hT, hdT, h3⟩ := ht
  obtain ⟨o', vs', he', hd', h2⟩ := c
  rw [he] at he'; cases he'
  rw [hd] at hd'; cases hd'
  unfold setFlight
  refine wpAny_bind (wpAny_field he hd h1 ?_)
  rw [if_pos (by simp : (Value.ref T != Value.none) = true)]
  exact wpAny_setField hT hdT (Array.getElem?_eq_some_iff.mp h3).1 ⟨oe, vs, (Heap.get?_update_other _ _ hTe).trans he, hd, h2⟩
theorem ctx_note (hfr : A.frames = some (env :: outer)) (hl : s.heap.FunFrames base (env :: outer)) (hf : env.frame = some L) (ht : s.heap.TracedW base e cls a0) (c : Ctx0 s.heap e) :
    wpAny M A (noteFrame (.ref e) env) (fun _ s' => Ctx0 s'.heap e) E s := by
  obtain ⟨oe, vs, T, oT, ts, he, hc, hd, h1, hnT, hTe, hT, hdT, h3⟩ := ht
  obtain ⟨o', vs', he', hd', h2⟩ := c
  rw [he] at he'; cases he'
  rw [hd] at hd'; cases hd'
  unfold noteFrame
  simp only [hf]
  refine wpAny_bind (wpAny_field he hd h1 ?_)
  rw [if_pos (by simp : (Value.ref T != Value.none) = true)]
  refine wpAny_bind (wpAny_field hT hdT h3 ?_)
  rw [if_neg (by simp [rawInt] : ¬ ((Value.none == rawInt L) = true))]
  refine wpAny_bind (wpAny_setField hT hdT (Array.getElem?_eq_some_iff.mp h3).1 ?_)
  have other : ∀ b, b ≠ T → (s.heap.update T (Obj.mapFields (·.setIfInBounds 3 Value.none))).get? b = s.heap.get? b := fun b hb => Heap.get?_update_other _ _ (Ne.symm hb)
  refine ctx_entry hfr (hl.of_keeps fun b o hb hnf => ⟨o, (other b fun q => ?_).trans hb, rfl⟩) hf ((other e (Ne.symm hTe)).trans he) hd h2
  rw [q, hT] at hb; cases hb
  exact hnf ts hdT
theorem ctx_leave (hfr : A.frames = some (env :: outer)) (hf : env.frame = some L) (hfl : Heap.FlyingW base (env :: outer) e cls a0 s.heap) (c : Ctx0 s.heap e) : wpAny M A (leaving env (.ref e)) (fun _ s' => Ctx0 s'.heap e) E s := by
  obtain ⟨f1, f2, f3, f4⟩ := hfl
  unfold leaving
  refine wpAny_bind (wpAny_mono (wpAny_both (wpAny_noteFrame_onW (Q := fun _ s' => Heap.NotedW base (env :: outer) e cls a0 (rawInt L) s.heap s'.heap) (E := E) hfr f3 hf f4 f1 f2 fun h' n => n) (ctx_note (E := E) hfr f3 hf f4 c)) (fun _ s1 ⟨n, c1⟩ => ctx_flight n.2.2.1 c1) fun _ _ z => z.1)
theorem ctx_leave1 {oe : Obj} {vs : Array Value} (hfr : A.frames = some (env :: outer)) (hl : s.heap.FunFrames base (env :: outer)) (hf : env.frame = some L) (he : s.heap.get? e = some oe) (hkb : base.StaysIn s.heap) (hen : base.get? e = none)
    (hd : oe.data = .fields vs) (h1 : vs[1]? = some .none) (h0 : vs[0]? = some a0) (h2 : vs[2]? = some .none) : wpAny M A (leaving env (.ref e)) (fun _ s' => Ctx0 s'.heap e) E s := by
  unfold leaving noteFrame
  simp only [hf]
  refine wpAny_bind (wpAny_bind (wpAny_field he hd h1 ?_))
  rw [if_neg (by decide)]
  exact wpAny_mono (wpAny_both (wpAny_entryW (Q := fun _ s' => Heap.NotedW base (env :: outer) e oe.cls a0 (rawInt L) s.heap s'.heap) (E := E) hfr hl hf he hkb hen hd (Array.getElem?_eq_some_iff.mp h1).1 h0 fun h' n => n) (ctx_entry (E := E) hfr hl hf he hd h2)) (fun _ s1 ⟨n, c1⟩ => ctx_flight n.2.2.1 c1) fun _ _ z => z.1
/-! the stations once more, with it -/
theorem leaves_on2 {Q : Unit → Shared → Prop} (hfr : A.frames = some (env :: outer)) (hf : env.frame = some L) (hfl : Heap.FlyingW base (env :: outer) e cls a0 s.heap) (c : Ctx0 s.heap e)
    (hQ : ∀ h', Heap.FlyingW base outer e cls a0 h' → s.heap.UpToSlots h' → Ctx0 h' e → Q () { s with heap := h' }) : wpAny M A (leaving env (.ref e)) Q E s :=
  wpAny_mono (wpAny_both (wpAny_leaves_onW (Q := fun _ s' => ∃ h', s' = { s with heap := h' } ∧ Heap.FlyingW base outer e cls a0 h' ∧ s.heap.UpToSlots h') (E := E) hfr hf hfl fun h' a b => ⟨h', rfl, a, b⟩) (ctx_leave (E := E) hfr hf hfl c))
    (fun _ s' ⟨⟨h', es, a, b⟩, c'⟩ => by subst es; exact hQ h' a b c') fun _ _ z => z.1
theorem leaves_made2 {h : Heap} {args : List Value} {Q : Unit → Shared → Prop} (hfr : A.frames = some (env :: outer)) (hf : env.frame = some L) (hkb : base.StaysIn h) (hl : h.FunFrames base (env :: outer)) (hx : Heap.MadeExcOf h s.heap e cls args)
    (hQ : ∀ h' t, Heap.FlyingW base outer e cls (.ref t) h' → s.heap.UpToSlots h' → Ctx0 h' e → Q () { s with heap := h' }) : wpAny M A (leaving env (.ref e)) Q E s := by
  obtain ⟨t, he, htn, ht⟩ := hx.there
  have fresh : base.get? e = none := by
    cases hq : base.get? e with
    | none => rfl
    | some o' => have := hkb e o' hq; rw [hx.new] at this; cases this
  exact wpAny_mono (wpAny_both (wpAny_leaves_madeW (Q := fun _ s' => ∃ h' t, s' = { s with heap := h' } ∧ Heap.FlyingW base outer e cls (.ref t) h' ∧ s.heap.UpToSlots h') (E := E) hfr hf hkb hl hx fun h' t a _ _ b => ⟨h', t, rfl, a, b⟩)
    (ctx_leave1 (E := E) (a0 := .ref t) hfr (hl.of_keeps fun b o hb _ => ⟨o, hx.keeps b o hb, rfl⟩) hf he (fun b o hb => hx.keeps b o (hkb b o hb)) fresh rfl rfl rfl rfl)) (fun _ s' ⟨⟨h', t, es, a, b⟩, c'⟩ => by subst es; exact hQ h' t a b c') fun _ _ z => z.1
theorem looks_on2 {Q : Unit → Shared → Prop} (hfr : A.frames = some (env :: outer)) (hf : env.frame = some L) (hfl : Heap.FlyingW base (env :: outer) e cls a0 s.heap) (c : Ctx0 s.heap e)
    (hQ : ∀ h', Heap.HeldW base (env :: outer) e cls a0 L h' → s.heap.UpToSlots h' → Ctx0 h' e → Q () { s with heap := h' }) : wpAny M A (noteFrame (.ref e) env) Q E s :=
  wpAny_mono (wpAny_both (wpAny_looks_onW (Q := fun _ s' => ∃ h', s' = { s with heap := h' } ∧ Heap.HeldW base (env :: outer) e cls a0 L h' ∧ s.heap.UpToSlots h') (E := E) hfr hf hfl fun h' a b => ⟨h', rfl, a, b⟩) (ctx_note (E := E) hfr hfl.2.2.1 hf hfl.2.2.2 c))
    (fun _ s' ⟨⟨h', es, a, b⟩, c'⟩ => by subst es; exact hQ h' a b c') fun _ _ z => z.1
theorem lands2 {l : List Env} {Q : Unit → Shared → Prop} (hh : Heap.HeldW base l e cls a0 L s.heap) (c : Ctx0 s.heap e)
    (hQ : ∀ h', Heap.FlyingW base l e cls a0 h' → s.heap.UpToSlots h' → Ctx0 h' e → Q () { s with heap := h' }) : wpAny M A (setFlight (.ref e) none) Q E s :=
  wpAny_mono (wpAny_both (wpAny_landsW (Q := fun _ s' => ∃ h', s' = { s with heap := h' } ∧ Heap.FlyingW base l e cls a0 h' ∧ s.heap.UpToSlots h') (E := E) hh fun h' a b => ⟨h', rfl, a, b⟩) (ctx_flight (E := E) hh.2.2.2 c))
    (fun _ s' ⟨⟨h', es, a, b⟩, c'⟩ => by subst es; exact hQ h' a b c') fun _ _ z => z.1
theorem lands_again2 {l : List Env} {Q : Unit → Shared → Prop} (hh : Heap.FlyingW base l e cls a0 s.heap) (c : Ctx0 s.heap e)
    (hQ : ∀ h', Heap.FlyingW base l e cls a0 h' → s.heap.UpToSlots h' → Ctx0 h' e → Q () { s with heap := h' }) : wpAny M A (setFlight (.ref e) none) Q E s :=
  wpAny_mono (wpAny_both (lands_againW (Q := fun _ s' => ∃ h', s' = { s with heap := h' } ∧ Heap.FlyingW base l e cls a0 h' ∧ s.heap.UpToSlots h') (E := E) hh fun h' a b => ⟨h', rfl, a, b⟩) (ctx_flight (E := E) hh.2.2.2.at c))
    (fun _ s' ⟨⟨h', es, a, b⟩, c'⟩ => by subst es; exact hQ h' a b c') fun _ _ z => z.1
end
end L2

set_option maxHeartbeats 4000000
namespace L2
open PySem PySem.Spec PyProof.Rows

/-! ### exceptions of own classes: how one lies behind a call. B: what stood when it was raised, the frames that run apart -/
structure Fly (P : Program) (w : World) (outer : List Env) (H : Hp) (s : Shared) (ea : Addr) (C a0 : Value) (B : Heap) (H' : Hp) (s' : Shared) : Prop where
  os : s'.os = s.os
  bare : AllBare s'.gens
  fly : Heap.FlyingW B outer ea C a0 s'.heap
  hB : ∀ b o, s.heap.get? b = some o → H b = none → b ∉ frs outer → B.get? b = some o
  hT : ∀ b o, s.heap.get? b = some o → b ∉ frs outer → ∃ o', B.get? b = some o'
  un : Un (frs outer) [] H H' s.heap s'.heap
  hok : HOk P w H' B
  ctx : Ctx0 s'.heap ea
def CXE (P : Program) (w : World) : CXT := fun outer H s E e s' => ∃ ea C a0 B H', e = .ref ea ∧ Fly P w outer H s ea C a0 B H' s' ∧ E C none H'

theorem frames_plain {base h : Heap} : ∀ {l : List Env}, h.FunFrames base l → ∀ b ∈ frs l, base.get? b = none ∧ ∃ o, h.get? b = some o ∧ ∀ vs, o.data ≠ .fields vs
  | [], _, b, hb => absurd hb (by simp [frs])
  | env :: r, ⟨_, ⟨L, o, hf, hn, ho, hd⟩, hr⟩, b, hb => by
    have hb' : b = L ∨ b ∈ frs r := by
      unfold frs at hb
      rw [List.filterMap_cons, hf] at hb
      exact List.mem_cons.mp hb
    rcases hb' with rfl | hb'
    · exact ⟨hn, o, ho, hd⟩
    · exact frames_plain hr b hb'
/-- the objects kept but for the frames that run, these up to slots -/
theorem un_fly {fs : List Addr} {H H' : Hp} {h h' h'' B : Heap} (u : Un fs [] H H' h h') (hB : ∀ b o, h.get? b = some o → H b = none → b ∉ fs → B.get? b = some o) (hT : ∀ b o, h.get? b = some o → b ∉ fs → ∃ o', B.get? b = some o')
    (st : ∀ b o, B.get? b = some o → h''.get? b = some o) (sl : ∀ b o, b ∈ fs → h'.get? b = some o → ∃ sl, h''.get? b = some { o with slots := sl }) : Un fs [] H H' h h'' where
  keep := fun b o q n hb _ => st b o (hB b o q n hb)
  slot := fun b o q n hb hx => by
    obtain ⟨s1, e1⟩ := u.slot b o q n hb hx
    obtain ⟨s2, e2⟩ := sl b _ hb e1
    exact ⟨s2, e2⟩
  free := u.free
  there := fun b o q hx => by
    by_cases hb : b ∈ fs
    · obtain ⟨o', e⟩ := u.there b o q hx
      obtain ⟨s1, e1⟩ := sl b o' hb e
      exact ⟨_, e1⟩
    · obtain ⟨o', e⟩ := hT b o q hb
      exact ⟨o', st b o' e⟩
  tups := u.tups
  frzs := u.frzs
  tbls := u.tbls
theorem slots_of {base h h' : Heap} {l : List Env} (F : h.FunFrames base l) (ups : h.UpToSlots h') : ∀ b o, b ∈ frs l → h.get? b = some o → ∃ sl, h'.get? b = some { o with slots := sl } := fun b o hb e => by
  obtain ⟨_, o', e', hd⟩ := frames_plain F b hb
  rw [e] at e'; cases e'
  exact ups b o e hd
/-- the frame of the body is not among what stood at its entry -/
theorem Inv.oldL {X : Cx} {pins : List (Addr × Obj)} {σ : St} {H : Hp} {s : Shared} (I : Inv X pins σ H s) {b : Addr} {o : Obj} (e : X.s₀.heap.get? b = some o) (hb : b ∉ X.fs) : b ∉ frs X.stack := fun z => by
  rcases List.mem_cons.mp (I.stkSub b z) with r | r
  · exact absurd (Nat.lt_of_lt_of_le (Heap.lt_size e) I.ok.above) (by rw [r]; exact Nat.lt_irrefl _)
  · exact hb r

section
variable {P : Program} {w : World} {K : PySem.W.Frag} {mg : Str → Option Value} {base : Heap} {N : List Str} {qual : Str} {scope : Scope} {f : Addr} {cd : Value} {A : Around} {outer : List Env} {s : Shared} {H : Hp} {E : XK}
/-- the context of a body that may raise -/
abbrev cxE (P : Program) (w : World) (K : PySem.W.Frag) (mg : Str → Option Value) (base : Heap) (N : List Str) (qual : Str) (scope : Scope) (f : Addr) (cd : Value) (A : Around) (outer : List Env) (s : Shared) (H : Hp) (E : XK) : Cx :=
  cxOf (CXE P w) P w K mg base N qual scope f cd A outer s H E
/-- an exception of a callee leaves this body too -/
theorem pass_up : Passes (CXE P w) (cxE P w K mg base N qual scope f cd A outer s H E) E := by
  intro pins σ H1 s1 e s' I h
  obtain ⟨ea, C, a0, B, H', rfl, F, q⟩ := h
  refine leaves_on2 (env := envOfC qual scope s.heap.objs.size f cd) (outer := outer) I.ok.frames rfl F.fly F.ctx fun h' fl ups cx => ?_
  have sub : ∀ b ∈ frs outer, b ∈ frs (envOfC qual scope s.heap.objs.size f cd :: outer) := fun b hb => by
    unfold frs
    rw [List.filterMap_cons]
    exact List.mem_cons_of_mem _ hb
  have hB : ∀ b o, s.heap.get? b = some o → H b = none → b ∉ frs outer → B.get? b = some o := fun b o e n hb =>
    F.hB b o (I.base.keep b o e n hb (by exact (nomatch ·))) (I.base.free b o e n (by exact (nomatch ·))) (I.oldL e hb)
  have hT : ∀ b o, s.heap.get? b = some o → b ∉ frs outer → ∃ o', B.get? b = some o' := fun b o e hb => by
    obtain ⟨o1, e1⟩ := I.base.there b o e (by exact (nomatch ·))
    exact F.hT b o1 e1 (I.oldL e hb)
  have un1 : Un (frs outer) [] H H' s.heap s'.heap := ⟨fun b o e n hb _ => F.fly.1 b o (hB b o e n hb), fun b o e n hb _ => by
      obtain ⟨s2, e2⟩ := I.base.slot b o e n hb (by exact (nomatch ·))
      obtain ⟨s3, e3⟩ := F.un.slot b _ e2 (I.base.free b o e n (by exact (nomatch ·))) (sub b hb) (by simp)
      exact ⟨s3, e3⟩, fun b o e n _ => by
      obtain ⟨o1, e1⟩ := I.base.there b o e (by exact (nomatch ·))
      exact F.un.free b o1 e1 (I.base.free b o e n (by exact (nomatch ·))) (by simp), fun b o e _ => by
      obtain ⟨o1, e1⟩ := I.base.there b o e (by exact (nomatch ·))
      exact F.un.there b o1 e1 (by simp), fun b xs e => F.un.tups b xs (I.base.tups b xs e), fun b o u e => F.un.frzs b o u (I.base.frzs b o u e), fun b ps e => by
      obtain ⟨m1, e1⟩ := I.base.tbls b ps e
      obtain ⟨m2, e2⟩ := F.un.tbls b _ e1
      exact ⟨m1 ++ m2, by rw [e2, Array.append_assoc]⟩⟩
  exact ⟨ea, C, a0, B, H', rfl, ⟨F.os.trans I.os, F.bare, fl, hB, hT, un_fly un1 hB hT fl.1 fun b o hb e => slots_of F.fly.2.2.1 ups b o (sub b hb) e, F.hok, cx⟩, q⟩
/-- an exception made here leaves this body -/
theorem raise_up {pins : List (Addr × Obj)} {σ : St} {H1 : Hp} {s1 : Shared} {h' : Heap} {ea C : Addr} {vs : List Value} (I : Inv (cxE P w K mg base N qual scope f cd A outer s H E) pins σ H1 s1) (hx : Heap.MadeExcOf s1.heap h' ea (.ref C) vs)
    (q : E (.ref C) none H1) : (cxE P w K mg base N qual scope f cd A outer s H E).xe (.ref ea) { s1 with heap := h' } := by
  have stk : s1.heap.FunFrames base (envOfC qual scope s.heap.objs.size f cd :: outer) := I.stack
  have inn : ∀ env ∈ (envOfC qual scope s.heap.objs.size f cd :: outer), ∀ a, env.frame = some a → a ∈ frs (envOfC qual scope s.heap.objs.size f cd :: outer) := fun env he a ha => List.mem_filterMap.mpr ⟨env, he, ha⟩
  have sub : ∀ b ∈ frs outer, b ∈ frs (envOfC qual scope s.heap.objs.size f cd :: outer) := fun b hb => by
    unfold frs
    rw [List.filterMap_cons]
    exact List.mem_cons_of_mem _ hb
  refine leaves_made2 (base := PySem.W.hideAll s1.heap (frs (envOfC qual scope s.heap.objs.size f cd :: outer))) (h := s1.heap) (env := envOfC qual scope s.heap.objs.size f cd) (outer := outer) I.ok.frames rfl (fun b o e => PySem.W.of_hideAll _ e)
    (PySem.W.funFrames_hide stk inn) hx fun h'' t fl ups cx => ?_
  have hB : ∀ b o, s.heap.get? b = some o → H b = none → b ∉ frs outer → (PySem.W.hideAll s1.heap (frs (envOfC qual scope s.heap.objs.size f cd :: outer))).get? b = some o := fun b o e n hb =>
    PySem.W.hideAll_get _ (I.base.keep b o e n hb (by exact (nomatch ·))) (I.oldL e hb)
  have hT : ∀ b o, s.heap.get? b = some o → b ∉ frs outer → ∃ o', (PySem.W.hideAll s1.heap (frs (envOfC qual scope s.heap.objs.size f cd :: outer))).get? b = some o' := fun b o e hb => by
    obtain ⟨o1, e1⟩ := I.base.there b o e (by exact (nomatch ·))
    exact ⟨o1, PySem.W.hideAll_get _ e1 (I.oldL e hb)⟩
  refine ⟨ea, .ref C, .ref t, _, H1, rfl, ⟨I.os, I.bare, fl, hB, hT, un_fly I.base hB hT fl.1 fun b o hb e => ?_, fun a u e => ?_, cx⟩, q⟩
  · obtain ⟨_, o', e', hd⟩ := frames_plain stk b (sub b hb)
    rw [e] at e'; cases e'
    exact ups b o (hx.keeps b o e) hd
  · refine (I.hok a u e).stay (fun b o hb q => PySem.W.hideAll_get _ q fun hm => ?_) (fun _ q => q) fun _ _ q => q
    have hn := I.stkFree b hm
    rcases hb with rfl | hb
    · rw [hn] at e; cases e
    · rw [hn] at hb; cases hb
end
end L2

namespace L2
open PySem PySem.Spec PyProof.Rows
/-! ### an own error class under ValueError -/
abbrev veMro : List Value := [.type "ValueError", .type "Exception", .type "BaseException", .type "object"]
structure XCls (K : PySem.W.Frag) (mg : Str → Option Value) (x : Str) (C : Addr) : Prop where
  nm : mg x = some (.ref C)
  cl : PySem.W.excIn K C veMro "ValueError.__new__" = true
theorem XCls.own {K : PySem.W.Frag} {mg : Str → Option Value} {x : Str} {C : Addr} {h : Heap} (Z : XCls K mg x C) (In : K.In h) : OwnCls x C veMro "ValueError.__new__" mg h := by
  have z := Z.cl
  refine ⟨Z.nm, ?_⟩
  unfold PySem.W.excIn at z
  split at z
  case h_2 => cases z
  case h_1 o1 cdat slo at1 =>
    split at z
    case h_2 => cases z
    case h_1 c1 more g0 g1 g2 g3 nid g5 mr sl =>
      simp only [Bool.and_eq_true, beq_iff_eq, Bool.not_eq_true'] at z
      obtain ⟨⟨⟨⟨⟨e1, e2⟩, nodel⟩, tl⟩, okn⟩, noinit⟩ := z
      subst e1
      subst e2
      cases cdat
      dsimp only at mr nodel okn noinit
      subst mr
      subst nodel
      have es : slo = #[g0, g1, g2, g3, some (.builtin "ValueError.__new__"), g5] := by
        cases slo
        simp only at sl
        rw [sl]
      subst es
      exact ⟨more, _, _, _, _, _, _, _, _, _, o1, g0, g1, g2, g3, g5, _, In _ _ at1, .of_isNs (PySem.W.isNs_of_in In okn), PySem.W.nsMap_none_of_in In okn noinit, PySem.W.tail_of_in In tl⟩

section
variable {P : Program} {w : World} {K : PySem.W.Frag} {mg : Str → Option Value} {base : Heap}
/-- a def whose body raises nothing -/
theorem Fun.okN {x qual : Str} {st : Stmt} {f : Addr} {fd : FuncData} {N ps : List Str} {k : Nat} {sp : Sp} (F : Fun K x qual st f fd) (S : FnScope N ps (defScope st)) (len : ∀ vs H Q E, sp vs H Q E → vs.length = ps.length)
    (hbody : ∀ (cdv : Value) (A : Around) (outer : List Env) (s : Shared) (H : Hp) (vs : List V) (Q : VK) (E : XK), Room k (A.deeper (envOfC qual (defScope st) s.heap.objs.size f cdv)) → sp vs H Q E →
      ∃ t, PSs (cxE P w K mg base N qual (defScope st) f cdv A outer s H E).nox (defBody st) t ∧ t { nx := fun _ H' => Q .non H', rt := Q } (start N vs) H) : FnOk P w K mg base (CXE P w) (k + 1) f fd ps sp := by
  obtain ⟨oc, od, kV, doc, pm, an, cdv, ct, osl, rfl, lk, hcd⟩ := F.ex
  refine fn_of lk hcd S len fun A outer s H vs Q E hr hsp => ?_
  obtain ⟨t, h, q⟩ := hbody cdv A outer s H vs Q E hr hsp
  exact ⟨t, h.nox, q⟩
/-- a def whose body may raise -/
theorem Fun.okX {x qual : Str} {st : Stmt} {f : Addr} {fd : FuncData} {N ps : List Str} {k : Nat} {sp : Sp} (F : Fun K x qual st f fd) (S : FnScope N ps (defScope st)) (len : ∀ vs H Q E, sp vs H Q E → vs.length = ps.length)
    (hbody : ∀ (cdv : Value) (A : Around) (outer : List Env) (s : Shared) (H : Hp) (vs : List V) (Q : VK) (E : XK), Room k (A.deeper (envOfC qual (defScope st) s.heap.objs.size f cdv)) → sp vs H Q E →
      ∃ t, PSs (cxE P w K mg base N qual (defScope st) f cdv A outer s H E) (defBody st) t ∧ t { nx := fun _ H' => Q .non H', rt := Q } (start N vs) H) : FnOk P w K mg base (CXE P w) (k + 1) f fd ps sp := by
  obtain ⟨oc, od, kV, doc, pm, an, cdv, ct, osl, rfl, lk, hcd⟩ := F.ex
  exact fn_of lk hcd S len fun A outer s H vs Q E hr hsp => hbody cdv A outer s H vs Q E hr hsp
theorem passE0 {X : Cx} : Passes (CXE P w) X E0 := fun _ _ _ _ _ _ _ ⟨_, _, _, _, _, _, _, q⟩ => q.elim
/-- a def that is known by its promise -/
def Kn (P : Program) (w : World) (K : PySem.W.Frag) (mg : Str → Option Value) (base : Heap) (k : Nat) (x : Str) (ps : List Str) (sp : Sp) : Prop :=
  ∃ f fd, FnOk P w K mg base (CXE P w) k f fd ps sp ∧ Binds K fd ps [] ∧ PySem.W.keepIn K (.ref f) = true ∧ mg x = some (.ref f)
theorem pe_fn {X : Cx} {k : Nat} {x : Str} {ps : List Str} {sp : Sp} {e : Expr} {es : List Expr} {t : TA} {p pos : Pos} (F : Kn X.prog X.w X.K X.mg X.base k x ps sp) (hr : Room k X.A) (ha : PA X (e :: es) t)
    (hg : Gl X x := by rfl) (hdb : (x == ("__debug__" : Str)) = false := by decide) (he : starEach (e :: es) X.env = (false, eval e X.env) :: starEach es X.env := by rfl) (hpl : (backTo pos (starEach es X.env)).any (·.1) = false := by rfl) :
    PE X (.Call (.Name x p) (e :: es) [] pos) (tCall sp [] E0 t) := by
  obtain ⟨f, fd, G, b, kp, m⟩ := F
  exact pe_call G hr hg m kp b .nil passE0 ha hdb he hpl
/-- .. whose exception goes on through this body -/
theorem pe_fnX {N : List Str} {qual : Str} {scope : Scope} {f : Addr} {cd : Value} {A : Around} {outer : List Env} {s : Shared} {H : Hp} {E : XK} {k : Nat} {x : Str} {ps : List Str} {sp : Sp} {e : Expr} {es : List Expr} {t : TA} {p pos : Pos}
    (F : Kn P w K mg base k x ps sp) (hr : Room k (A.deeper (envOfC qual scope s.heap.objs.size f cd))) (ha : PA (cxE P w K mg base N qual scope f cd A outer s H E) (e :: es) t)
    (hg : Gl (cxE P w K mg base N qual scope f cd A outer s H E) x := by rfl) (hdb : (x == ("__debug__" : Str)) = false := by decide)
    (he : starEach (e :: es) (envOfC qual scope s.heap.objs.size f cd) = (false, eval e (envOfC qual scope s.heap.objs.size f cd)) :: starEach es (envOfC qual scope s.heap.objs.size f cd) := by rfl)
    (hpl : (backTo pos (starEach es (envOfC qual scope s.heap.objs.size f cd))).any (·.1) = false := by rfl) :
    PE (cxE P w K mg base N qual scope f cd A outer s H E) (.Call (.Name x p) (e :: es) [] pos) (tCall sp [] E t) := by
  obtain ⟨f', fd, G, b, kp, m⟩ := F
  exact pe_call G hr hg m kp b .nil pass_up ha hdb he hpl
/-- raise C(e, ..) -/
theorem ps_raise {N : List Str} {qual : Str} {scope : Scope} {f : Addr} {cd : Value} {A : Around} {outer : List Env} {s : Shared} {H : Hp} {E : XK} {x : Str} {C : Addr} {e : Expr} {es : List Expr} {t : TA} {np cpos pos : Pos}
    (Z : XCls K mg x C) (ha : PA (cxE P w K mg base N qual scope f cd A outer s H E) (e :: es) t)
    (hg : Gl (cxE P w K mg base N qual scope f cd A outer s H E) x := by rfl) (hdb : (x == ("__debug__" : Str)) = false := by decide)
    (he : starEach (e :: es) (envOfC qual scope s.heap.objs.size f cd) = (false, eval e (envOfC qual scope s.heap.objs.size f cd)) :: starEach es (envOfC qual scope s.heap.objs.size f cd) := by rfl)
    (hpl : (backTo cpos (starEach es (envOfC qual scope s.heap.objs.size f cd))).any (·.1) = false := by rfl) :
    PS (cxE P w K mg base N qual scope f cd A outer s H E) (.Raise (some (.Call (.Name x np) (e :: es) [] cpos)) none pos) (fun _ σ H1 => t σ H1 fun vs H2 => vs.length ≤ sizeLine ∧ E (.ref C) none H2) := by
  intro pins s1 σ H1 D I h
  obtain ⟨z1, z2, z3, z4, z5, z6, z7, z8, z9, y0, y1, y2, y3, y4, y5, y6, mN, hC, hN, hni, T⟩ := (Z.own I.ok.mod.kin).obj
  refine wpAny_Raise_call_subT (C := C) (bm := z1) (N := z2) (nm := z3) (q := z4) (bs := z5) (hdct := z6) (sn := z7) (sub := z8) (ab := z9) (col := y0) (dd := y1) (k0 := y2) (k1 := y3) (k2 := y4) (k3 := y5) (k5 := y6) PySem.F.excBase_ValueError (mN := mN) (T.hasType (PySem.F.excBase_ValueError).hasBase) (I.ok.hd rfl) ?_ hni (ld_glob I hg Z.nm ⟨rfl, ?_⟩ hdb)
  · show (backTo cpos (starEach (e :: es) (envOfC qual scope s.heap.objs.size f cd))).any (·.1) = false
    rw [he]
    show (false || (backTo cpos (starEach es (envOfC qual scope s.heap.objs.size f cd))).any (·.1)) = false
    rw [hpl]
    rfl
  · have hA := ha cpos pins s1 σ H1 _ I h
    show wpAny _ _ (evalArgs (.ref C) true (backTo cpos (starEach (e :: es) (envOfC qual scope s.heap.objs.size f cd))) []) _ _ _
    have hA' : wpAny (model P w) (A.deeper (envOfC qual scope s.heap.objs.size f cd)) (spliced (backTo cpos (starEach (e :: es) (envOfC qual scope s.heap.objs.size f cd)))) _ _ s1 := hA
    rw [he] at hA' ⊢
    refine Calls.evalArgs_plain (wpAny_mono hA' (fun us s2 ⟨vs, H2, I2, r2, hl, q⟩ => ⟨rfl, ?_, I2.bk _ _ hC, hN.keeps I2.bk, T.keeps I2.bk, fun h' ea hx => raise_up I2 hx q⟩) fun _ _ z => z)
    show us.length ≤ sizeLine
    rw [← r2.length]; exact hl
end
end L2

set_option maxHeartbeats 4000000
namespace L2
open PySem PySem.Spec PyProof.Rows
/-! ### try: x = g(..) / except C: suite -/
abbrev Cx.hdl (X : Cx) (e : Value) : Cx := { X with A := X.A.mark (some e), calm := false, xe := fun _ _ => False }
section
variable {X : Cx} {pins : List (Addr × Obj)} {σ : St} {H : Hp} {s : Shared} {e : Value}
theorem Cx.Ok.hdl (ok : X.Ok) (e : Value) : (X.hdl e).Ok :=
  ⟨ok.mod, ok.kind, ok.glob, ok.blt, ok.above, ok.inj, ok.has, ok.cab, fun h => Bool.noConfusion h, ok.frames, ok.stk, ok.exf, ok.bs, ok.bsz, ok.noex, ok.exfs, ok.funs, ok.frf⟩
theorem Inv.hdl (I : Inv X pins σ H s) (e : Value) : Inv (X.hdl e) pins σ H s := ⟨I.ok.hdl e, I.os, I.bare, I.base, I.loc, I.cell, I.free, I.freeC, I.pin, I.hok, I.len⟩
theorem Inv.unhdl (I : Inv (X.hdl e) pins σ H s) (ok : X.Ok) : Inv X pins σ H s := ⟨ok, I.os, I.bare, I.base, I.loc, I.cell, I.free, I.freeC, I.pin, I.hok, I.len⟩
theorem SP.unhdl {D : Ends} {f : Flow} {s' : Shared} (h : SP (X.hdl e) pins D f s') (ok : X.Ok) : SP X pins D f s' := by
  cases f with
  | next => obtain ⟨σ', H', I, q⟩ := h; exact ⟨σ', H', I.unhdl ok, q⟩
  | brk => obtain ⟨σ', H', I, q⟩ := h; exact ⟨σ', H', I.unhdl ok, q⟩
  | cont => obtain ⟨σ', H', I, q⟩ := h; exact ⟨σ', H', I.unhdl ok, q⟩
  | ret u => obtain ⟨v, σ', H', I, r, q⟩ := h; exact ⟨v, σ', H', I.unhdl ok, r, q⟩
end
/-- the exception has come to the frame whose try it is -/
theorem catch_own {X : Cx} {pins : List (Addr × Obj)} {σ : St} {H H' : Hp} {s s' : Shared} {c : Str} {C ea : Addr} {a0 : Value} {B : Heap} {np hpos : Pos} {b₀ : Stmt} {suite : List Stmt} {rest : List ExceptHandler} {th : TS} {D : Ends}
    (hstk : X.stack = X.env :: X.outer) (hfrm : X.env.frame = some X.env.locals) (I : Inv X pins σ H s) (Z : XCls X.K X.mg c C) (Fl : Fly X.prog X.w X.stack H s ea (.ref C) a0 B H' s') (hg : Gl X c) (hd : (c == ("__debug__" : Str)) = false)
    (hsuite : PSs (X.hdl (.ref ea)) (b₀ :: suite) th) (q : th D σ H') :
    wpAny (model X.prog X.w) X.A (noteFrame (.ref ea) X.env) (fun _ s₂ => wpAny (model X.prog X.w) X.A (setFlight (.ref ea) none) (fun _ s₃ =>
      wpAny (model X.prog X.w) X.A (handleBy (.ref ea) X.env (.ExceptHandler (some (.Name c np)) none (b₀ :: suite) hpos :: rest)) (SP X pins D) X.xe s₃) X.xe s₂) X.xe s' := by
  have frm : X.A.frames = some (X.env :: X.outer) := hstk ▸ I.ok.frames
  have fl : Heap.FlyingW B (X.env :: X.outer) ea (.ref C) a0 s'.heap := hstk ▸ Fl.fly
  refine wpAny_looks_onW frm hfrm fl fun h4 held ups4 => ?_
  refine wpAny_landsW held fun h5 fl5 ups5 => ?_
  have sub : ∀ b o, b ∈ frs X.stack → s'.heap.get? b = some o → ∀ h'', s'.heap.UpToSlots h'' → ∃ sl, h''.get? b = some { o with slots := sl } := fun b o hb e h'' u => slots_of Fl.fly.2.2.1 u b o hb e
  have mk : ∀ h'', Heap.FlyingW B (X.env :: X.outer) ea (.ref C) a0 h'' → s'.heap.UpToSlots h'' → Inv X pins σ H' { s' with heap := h'' } := fun h'' f'' u'' => by
    have os := Fl.os
    have un := un_fly Fl.un Fl.hB Fl.hT f''.1 fun b o hb e => sub b o hb e h'' u''
    have bare := Fl.bare
    obtain ⟨hh, g, d, t, os'⟩ := s'
    obtain rfl : os' = s.os := os
    have J := I.call (h' := h'') (g' := g) (d' := d) (t' := t) (ch := []) un (Fl.hok.kept f''.1) bare fun b z => absurd z (by simp)
    exact J
  have u5 : s'.heap.UpToSlots h5 := ups4.trans ups5
  have I5 := mk h5 fl5 u5
  refine wpAny_handleBy_cons (codeAny_handlers_test (ld_glob (X := X.hdl (.ref ea)) (I5.hdl (.ref ea)) hg Z.nm ?_ hd)) (by intro z; cases z)
  obtain ⟨tl, ns, nm, qn, bs, hdct, sn, sb, ab, col, dd, k0, k1, k2, k3, k5, mN, hC, hN, hni, T⟩ := ((Z.own I.ok.mod.kin).keeps I5.bk).obj
  obtain ⟨ob, hob, hobc⟩ := fl5.there
  refine wpAny_excMatches_sub_self hC hob hobc (T.hasType (PySem.F.excBase_ValueError).hasBase) (codeAny_handlers_suite ?_)
  refine lands_againW fl5 fun h6 fl6 ups6 => ?_
  refine wpAny_mono (hsuite pins _ σ H' D ((mk h6 fl6 (u5.trans ups6)).hdl (.ref ea)) q) (fun f s'' r => r.unhdl I.ok) fun _ _ z => z.elim
theorem ps_try1 {X : Cx} {i k : Nat} {x c g : Str} {C : Addr} {ps : List Str} {sp : Sp} {e : Expr} {es : List Expr} {t : TA} {px gp cpos apos np hpos pos : Pos} {b₀ : Stmt} {suite : List Stmt} {th : TS}
    (hstk : X.stack = X.env :: X.outer) (hfrm : X.env.frame = some X.env.locals) (Z : XCls X.K X.mg c C) (F : Kn X.prog X.w X.K X.mg X.base k g ps sp) (hr : Room k X.A) (ha : PA X.nox (e :: es) t)
    (hN : X.N.Nodup) (hi : X.N[i]? = some x) (hx : Loc X.env.scope x) (hsuite : ∀ v, PSs (X.hdl v) (b₀ :: suite) th)
    (hf : X.fn x = true ∨ X.env.scope.names.lookup x = some .local := by first | exact .inl rfl | exact .inr rfl)
    (hs : swapsWith (.Call (.Name g gp) (e :: es) [] cpos) (some (.Name x px)) apos.line X.env = pure false := by rfl)
    (hgc : Gl X c := by rfl) (hgg : Gl X g := by rfl) (hdc : (c == ("__debug__" : Str)) = false := by decide) (hdg : (g == ("__debug__" : Str)) = false := by decide)
    (he : starEach (e :: es) X.env = (false, eval e X.env) :: starEach es X.env := by rfl) (hpl : (backTo cpos (starEach es X.env)).any (·.1) = false := by rfl) :
    PS X (.Try [.Assign [.Name x px] (.Call (.Name g gp) (e :: es) [] cpos) apos] [.ExceptHandler (some (.Name c np)) none (b₀ :: suite) hpos] [] [] pos)
      (fun D σ H => t σ H fun vs H1 => sp vs H1 (fun v H2 => D.nx (σ.set i (some v)) H2) fun C' _ H2 => C' = .ref C ∧ th D σ H2) := by
  intro pins s σ H D I h
  obtain ⟨f, fd, G, hb, kp, m⟩ := F
  refine wpAny_Try_except (wpAny_execs_cons (wpAny_Assign_Name (wpAny_Call_Name_kw (ld_glob I hgg m ?_ hdg)) hs))
  refine PySem.W.callWith_K (h₀ := X.base) I.ok.mod.kin kp (wpAny_mono (ha cpos pins s σ H _ (I.wish _) h) (fun us s1 ⟨vs, H1, I1', r, q⟩ => ⟨I1'.unwish.kIn, ?_⟩) fun _ _ z => False.elim z) he hpl
  have I1 : Inv X pins σ H1 s1 := I1'.unwish
  have hl : us.length = ps.length := by rw [← r.length]; exact G.len _ _ _ _ q
  have hbd := hb s1 us I1.kIn (by rw [List.append_nil]; exact hl)
  rw [List.append_nil] at hbd
  refine wpAny_call (codeAny_mono (G.run X.A X.stack s1 H1 ⟨us, []⟩ us vs _ _ hr I1.env0 hbd r q) fun rr s' hq => ?_)
  cases rr with
  | error er =>
    obtain ⟨ea, C', a0, B, H', rfl, Fl, rfl, hth⟩ := hq
    exact catch_own hstk hfrm I1 Z Fl hgc hdc (hsuite _) hth
  | ok fl =>
    cases fl with
    | ret u =>
      obtain ⟨v, H2, I2, rv, q2⟩ := I1.after hq
      exact store_ok I2 hN hi hx rv (fun s2 I3 => wpAny_execs_nil (wpAny_execs_nil ⟨_, H2, I3, q2⟩)) hf
    | next => exact False.elim hq
    | brk => exact False.elim hq
    | cont => exact False.elim hq
end L2

set_option maxHeartbeats 4000000
namespace Eb
/-! rows as lists of Bool (true: a beat) -/

/-- a row reckoned by three numbers -/
def reck (b p s : Int) (many : Nat) : List Bool := (List.range many).map fun (i : Nat) => decide ((s + (i : Int) * b) % p < b)

theorem reck_length (b p s : Int) (n : Nat) : (reck b p s n).length = n := by simp [reck]
theorem reck_get (b p s : Int) (n i : Nat) (h : i < n) : (reck b p s n)[i]? = some (decide ((s + (i : Int) * b) % p < b)) := by
  simp [reck, h]
theorem reck_succ (b p s : Int) (n : Nat) : reck b p s (n + 1) = reck b p s n ++ [decide ((s + (n : Int) * b) % p < b)] := by
  simp [reck, List.range_succ]
/-- only the rest of the shift matters -/
theorem reck_mod (b p s : Int) (n : Nat) : reck b p (s % p) n = reck b p s n := by
  unfold reck
  apply List.map_congr_left
  intro i _
  rw [Int.emod_add_emod]
/-- the rest that goes round -/
theorem rest_step (b p s : Int) (i : Nat) : ((s + (i : Int) * b) % p + b) % p = (s + ((i + 1 : Nat) : Int) * b) % p := by
  rw [Int.emod_add_emod]
  congr 1
  rw [Int.natCast_add, Int.add_mul]
  simp [Int.add_assoc]

/-! counting -/
def cnt (l : List Bool) : Int := ((l.filter id).length : Int)
theorem cnt_nil : cnt [] = 0 := rfl
theorem cnt_append (l r : List Bool) : cnt (l ++ r) = cnt l + cnt r := by simp [cnt]
theorem cnt_cons (x : Bool) (l : List Bool) : cnt (x :: l) = (if x then 1 else 0) + cnt l := by
  cases x <;> simp [cnt] <;> omega
theorem cnt_one (x : Bool) : cnt [x] = if x then 1 else 0 := by cases x <;> rfl
theorem cnt_nonneg (l : List Bool) : 0 ≤ cnt l := Int.natCast_nonneg _
theorem cnt_le (l : List Bool) : cnt l ≤ l.length := by
  have := List.length_filter_le id l
  unfold cnt; omega
/-- beats ahead of place k -/
def pre (l : List Bool) (k : Nat) : Int := cnt (l.take k)
theorem pre_zero (l : List Bool) : pre l 0 = 0 := by simp [pre, cnt]
theorem pre_succ (l : List Bool) (k : Nat) (x : Bool) (h : l[k]? = some x) : pre l (k + 1) = pre l k + if x then 1 else 0 := by
  unfold pre
  rw [List.take_add_one, h, cnt_append]
  simp [cnt_one]
theorem pre_all (l : List Bool) : pre l l.length = cnt l := by simp [pre]

/-- T counts the beats of the ring that is laid, by a quotient -/
def T (b p : Int) (k : Nat) : Int := ((k : Int) * b + (p - b)) / p

theorem ediv_unique {p q r : Int} (h0 : 0 ≤ r) (h1 : r < p) : (p * q + r) / p = q := by
  have hp : 0 < p := by omega
  rw [Int.mul_add_ediv_left _ _ (by omega), Int.ediv_eq_zero_of_lt h0 h1, Int.add_zero]

theorem T_step {b p x : Int} (hp : 0 < p) (h0 : 0 ≤ b) (h1 : b ≤ p) : (x + p) / p = (x + (p - b)) / p + if x % p < b then 1 else 0 := by
  have e := Int.mul_ediv_add_emod x p
  have r0 := Int.emod_nonneg x (by omega : p ≠ 0)
  have r1 := Int.emod_lt_of_pos x hp
  generalize x % p = r at *
  generalize x / p = q at *
  have e1 : (x + p) / p = q + 1 := by
    have : x + p = p * (q + 1) + r := by rw [Int.mul_add]; omega
    rw [this]; exact ediv_unique r0 r1
  rw [e1]
  split
  · have : x + (p - b) = p * q + (r + p - b) := by omega
    rw [this, ediv_unique (by omega) (by omega)]
  · have : x + (p - b) = p * (q + 1) + (r - b) := by rw [Int.mul_add]; omega
    rw [this, ediv_unique (by omega) (by omega)]; omega

theorem T_succ {b p : Int} (hp : 0 < p) (h0 : 0 ≤ b) (h1 : b ≤ p) (k : Nat) : T b p (k + 1) = T b p k + if ((k : Int) * b) % p < b then 1 else 0 := by
  unfold T
  rw [← T_step hp h0 h1]
  congr 1
  rw [Int.natCast_add, Int.add_mul]; simp; omega

theorem pre_laid {b p : Int} (hp : 0 < p) (h0 : 0 ≤ b) (h1 : b ≤ p) (n : Nat) : ∀ k, k ≤ n → pre (reck b p 0 n) k = T b p k - T b p 0
  | 0, _ => by rw [pre_zero]; omega
  | k + 1, h => by
    rw [pre_succ _ k _ (reck_get b p 0 n k h), pre_laid hp h0 h1 n k (by omega), T_succ hp h0 h1, Int.zero_add]
    by_cases c : (k : Int) * b % p < b
    · simp [c]; omega
    · simp [c]

theorem T_window {b p : Int} (hp : 0 < p) (a m : Nat) :
    ((m : Int) * b) / p ≤ T b p (a + m) - T b p a ∧ T b p (a + m) - T b p a ≤ ((m : Int) * b) / p + 1 := by
  unfold T
  have e0 : ((a + m : Nat) : Int) * b + (p - b) = ((a : Int) * b + (p - b)) + (m : Int) * b := by rw [Int.natCast_add, Int.add_mul]; omega
  rw [e0]
  generalize (a : Int) * b + (p - b) = A
  generalize (m : Int) * b = D
  have eA := Int.mul_ediv_add_emod A p
  have rA0 := Int.emod_nonneg A (by omega : p ≠ 0)
  have rA1 := Int.emod_lt_of_pos A hp
  have eD := Int.mul_ediv_add_emod D p
  have rD0 := Int.emod_nonneg D (by omega : p ≠ 0)
  have rD1 := Int.emod_lt_of_pos D hp
  generalize A % p = ra at *
  generalize D % p = rd at *
  generalize A / p = qa at *
  generalize D / p = qd at *
  by_cases c : ra + rd < p
  · have : A + D = p * (qa + qd) + (ra + rd) := by rw [Int.mul_add]; omega
    rw [this, ediv_unique (by omega) c]; omega
  · have : A + D = p * (qa + qd + 1) + (ra + rd - p) := by rw [Int.mul_add, Int.mul_add]; omega
    rw [this, ediv_unique (by omega) (by omega)]; omega

theorem T_round {b p : Int} (hp : 0 < p) (k n : Nat) (hn : (n : Int) = p) : T b p (k + n) = T b p k + b := by
  unfold T
  have : ((k + n : Nat) : Int) * b + (p - b) = ((k : Int) * b + (p - b)) + b * p := by
    rw [Int.natCast_add, Int.add_mul, hn, Int.mul_comm p b]; omega
  rw [this, Int.add_mul_ediv_right _ _ (by omega)]

/-- the ring that is laid, told twice -/
theorem reck_double {b p : Int} (n : Nat) (hn : (n : Int) = p) : reck b p 0 n ++ reck b p 0 n = reck b p 0 (n + n) := by
  apply List.ext_getElem?
  intro i
  by_cases hi : i < n
  · rw [List.getElem?_append_left (by rw [reck_length]; exact hi), reck_get _ _ _ _ _ hi, reck_get _ _ _ _ _ (by omega)]
  · rw [List.getElem?_append_right (by rw [reck_length]; omega), reck_length]
    by_cases hj : i < n + n
    · rw [reck_get _ _ _ _ _ (by omega), reck_get _ _ _ _ _ hj]
      have e : (i : Int) = ((i - n : Nat) : Int) + p := by omega
      have : (0 + (i : Int) * b) % p = (0 + ((i - n : Nat) : Int) * b) % p := by
        rw [e, Int.add_mul, ← Int.add_assoc, Int.add_mul_emod_self_left]
      rw [this]
    · rw [List.getElem?_eq_none (by rw [reck_length]; omega), List.getElem?_eq_none (by rw [reck_length]; omega)]

theorem cnt_laid {b p : Int} (hp : 0 < p) (h0 : 0 ≤ b) (h1 : b ≤ p) (n : Nat) (hn : (n : Int) = p) : cnt (reck b p 0 n) = b := by
  have h := pre_laid hp h0 h1 n n (Nat.le_refl _)
  have e := pre_all (reck b p 0 n)
  rw [reck_length] at e
  have r := T_round (b := b) hp 0 n hn
  rw [Nat.zero_add] at r
  omega

/-- two stretches of the ring that is laid, told twice, of as many places -/
theorem laid_even {b p : Int} (hp : 0 < p) (h0 : 0 ≤ b) (h1 : b ≤ p) (n : Nat) (hn : (n : Int) = p) (m i j : Nat) (hm : m ≤ n) (hi : i ≤ n) (hj : j ≤ n) :
    pre (reck b p 0 n ++ reck b p 0 n) (i + m) - pre (reck b p 0 n ++ reck b p 0 n) i ≤ pre (reck b p 0 n ++ reck b p 0 n) (j + m) - pre (reck b p 0 n ++ reck b p 0 n) j + 1 := by
  rw [reck_double n hn, pre_laid hp h0 h1 _ _ (by omega), pre_laid hp h0 h1 _ _ (by omega), pre_laid hp h0 h1 _ _ (by omega), pre_laid hp h0 h1 _ _ (by omega)]
  have w1 := T_window (b := b) hp i m
  have w2 := T_window (b := b) hp j m
  omega
end Eb

set_option maxHeartbeats 4000000
namespace Eb
open PySem L2
/-! ### rows as texts -/
def sg (b : Bool) : Nat := if b then 120 else 46
def rowS (l : List Bool) : Str := ⟨(l.map sg).toArray⟩
def signS (b : Bool) : Str := if b then "x" else "."
theorem x_eq : ("x" : Str) = ⟨#[120]⟩ := by decide +kernel
theorem dot_eq : ("." : Str) = ⟨#[46]⟩ := by decide +kernel
theorem empty_eq : ("" : Str) = ⟨#[]⟩ := by decide +kernel
theorem signS_eq (b : Bool) : signS b = ⟨#[sg b]⟩ := by
  cases b
  · exact dot_eq
  · exact x_eq
theorem rowS_nil : rowS [] = "" := by decide +kernel
theorem rowS_length (l : List Bool) : (rowS l).length = l.length := by show (l.map sg).toArray.size = _; simp
theorem rowS_size (l : List Bool) : (rowS l).cps.size = l.length := by show (l.map sg).toArray.size = _; simp
theorem rowS_ascii (l : List Bool) : (rowS l).cps.all (· < 128) = true := by
  show (l.map sg).toArray.all _ = true
  simp only [List.all_toArray, List.all_map, List.all_eq_true]
  intro b _
  cases b <;> decide
theorem rowS_append (l r : List Bool) : rowS l ++ rowS r = rowS (l ++ r) := by
  show Str.mk ((l.map sg).toArray ++ (r.map sg).toArray) = _
  simp [rowS]
theorem sg_inj {a b : Bool} (h : sg a = sg b) : a = b := by
  cases a <;> cases b <;> first | rfl | (exact absurd h (by decide))
theorem map_sg_inj : ∀ {l r : List Bool}, l.map sg = r.map sg → l = r
  | [], [], _ => rfl
  | [], _ :: _, h => by simp at h
  | _ :: _, [], h => by simp at h
  | a :: l, b :: r, h => by
    simp only [List.map_cons, List.cons.injEq] at h
    rw [sg_inj h.1, map_sg_inj h.2]
theorem rowS_inj {l r : List Bool} (h : rowS l = rowS r) : l = r := by
  have h' : (l.map sg).toArray = (r.map sg).toArray := by
    injection h
  exact map_sg_inj (by simpa using h')
theorem rowS_get (l : List Bool) (i c : Nat) (h : (rowS l).cps[i]? = some c) : ∃ b, l[i]? = some b ∧ c = sg b := by
  have h' : (l.map sg)[i]? = some c := by
    have : ((l.map sg).toArray)[i]? = some c := h
    simpa using this
  rw [List.getElem?_map] at h'
  cases e : l[i]? with
  | none => rw [e] at h'; cases h'
  | some b => rw [e] at h'; cases h'; exact ⟨b, rfl, rfl⟩
theorem sign_sg (b : Bool) : (⟨#[sg b]⟩ : Str) = signS b := (signS_eq b).symm
theorem glue_foldl (glue : Str) (hg : glue.cps = #[]) : ∀ (l : List Bool) (acc : Array Nat), (l.map signS).foldl (fun acc p => acc ++ glue.cps ++ p.cps) acc = acc ++ (l.map sg).toArray
  | [], acc => by simp
  | b :: l, acc => by
    rw [List.map_cons, List.foldl_cons, glue_foldl glue hg l, hg, signS_eq]
    simp
theorem join_rows (l : List Bool) : Txt.join "" (l.map signS) = rowS l := by
  have hg : ("" : Str).cps = #[] := by rw [empty_eq]
  cases l with
  | nil => show Builtin.Str.glued "" [] = _; decide +kernel
  | cons b l =>
    show Str.mk (((l.map signS)).foldl (fun acc p => acc ++ ("" : Str).cps ++ p.cps) (signS b).cps) = rowS (b :: l)
    rw [glue_foldl _ hg, signS_eq]
    simp [rowS]
theorem joinOk_rows (l : List Bool) (h : l.length ≤ 1000000) : JoinOk "" (l.map signS) = true := by
  refine PyProof.Rows.joinOk_of ?_
  have e0 : ("" : Str).length = 0 := by decide +kernel
  have e : ∀ r : List Bool, ((r.map signS).map (·.length)).sum = r.length := by
    intro r
    induction r with
    | nil => rfl
    | cons b r ih =>
      rw [List.map_cons, List.map_cons, List.sum_cons, ih, signS_eq]
      show 1 + r.length = r.length + 1
      omega
  rw [e, e0]
  omega
theorem count_rows (l : List Bool) : Txt.count (rowS l) "x" = cnt l := by
  rw [x_eq, PyProof.Rows.count_cnt]
  show PyProof.Rows.cnt 120 ((l.map sg).toArray.toList) = _
  rw [List.toList_toArray]
  induction l with
  | nil => rfl
  | cons b l ih =>
    rw [List.map_cons, PyProof.Rows.cnt_cons, cnt_cons, ih]
    cases b <;> rfl
theorem dec_rows (l r : List Bool) : decide (V.str (rowS l) = V.str (rowS r)) = decide (l = r) := by
  by_cases h : l = r
  · subst h; simp
  · have : ¬ V.str (rowS l) = V.str (rowS r) := fun e => h (rowS_inj (by injection e))
    rw [decide_eq_false h, decide_eq_false this]
theorem sizeOk {n : Nat} (h : n ≤ 1000000) : n ≤ sizeLine := by rw [sizeLine_eq]; omega
theorem sizeLt {n : Nat} (h : n ≤ 1000000) : n < sizeLine := by rw [sizeLine_eq]; omega
end Eb

set_option maxHeartbeats 4000000
namespace L2
open PySem PySem.Spec PyProof.Rows
section
variable {X : Cx}
/-! ### slices of texts; of lists by a step -/
def rSlS : V → Option Int → Option Int → Hp → VK → Prop := fun x lo hi H Q => ∃ z, x = .str z ∧ z.length ≤ sizeLine ∧ Q (.str (Txt.slice z lo hi)) H
theorem sl_str : SlR X rSlS := by
  intro pins s σ H x v vl vu lo hi sl Q I rx hs pl pu h
  obtain ⟨z, rfl, hz, q⟩ := h
  obtain ⟨t, rfl⟩ := rx
  refine ⟨"str", _, PySem.F.slot_str_getitem.lookup, typeIs_str _ _ _, ?_⟩
  obtain ⟨o, ho, hc, hd⟩ := hs
  have fin : ∀ (l u : Option (Int × Tok)), l.map (·.1) = lo → u.map (·.1) = hi → s.heap.IsSlice sl l u none → wpAny (model X.prog X.w) X.A (getItem (.str z t) (.ref sl)) (EP X pins σ Q) X.xe s := fun l u e1 e2 hsl => by
    refine wpAny_getItem_str_slice (l := l) (u := u) (st := none) hsl rfl ?_
    subst e1 e2
    exact post_val_or_str ⟨Nat.le_trans (Txt.slice_le z _ _) hz, fun t' k => ⟨.str (Txt.slice z (l.map (·.1)) (u.map (·.1))), H, I.tok _, ⟨_, rfl⟩, q⟩⟩
  cases pl with
  | none => cases pu with
    | none => exact fin none none rfl rfl ⟨o, ho, hc, hd⟩
    | int j u => exact fin none (some (j, u)) rfl rfl ⟨o, ho, hc, hd⟩
  | int i u => cases pu with
    | none => exact fin (some (i, u)) none rfl rfl ⟨o, ho, hc, hd⟩
    | int j u' => exact fin (some (i, u)) (some (j, u')) rfl rfl ⟨o, ho, hc, hd⟩
/-- xs[lo::k]: a new list of some of its items -/
def tSl3 (K : PySem.W.Frag) (te : TE) (tl th ts : TO) : TE := fun σ H Q => te σ H fun x H1 => tl σ H1 fun _ H2 => th σ H2 fun _ H3 => ts σ H3 fun st H4 => ∃ a xs, x = .ref a ∧ SqL K H4 a xs ∧ st ≠ some 0 ∧
  ∀ p ys, H4 p = none → (∀ y ∈ ys, y ∈ xs) → ys.length ≤ xs.length → Q (.ref p) (upd H4 p (.lst ys))
theorem pick_mem (items : Array Value) (lo hi st : Option Int) : ∀ u ∈ (slicePick items lo hi st).toList, u ∈ items.toList := fun u hu => by
  unfold slicePick at hu
  rw [List.toList_toArray] at hu
  obtain ⟨i, _, e⟩ := List.mem_filterMap.mp hu
  exact Array.mem_toList_iff.mpr (Array.mem_of_getElem? e)
theorem vals_pick {xs : List V} {us : List Value} (r : Vals xs us) : ∀ ws : List Value, (∀ u ∈ ws, u ∈ us) → ∃ ys, Vals ys ws ∧ ∀ y ∈ ys, y ∈ xs
  | [], _ => ⟨[], .nil, fun _ h => nomatch h⟩
  | u :: ws, h => by
    obtain ⟨ys, r1, h1⟩ := vals_pick r ws fun u' hu => h u' (List.mem_cons_of_mem _ hu)
    obtain ⟨i, hi⟩ := List.mem_iff_getElem?.mp (h u List.mem_cons_self)
    have hx : i < xs.length := by
      rw [r.length]
      exact (List.getElem?_eq_some_iff.mp hi).1
    obtain ⟨u', e, ru⟩ := r.get (i := i) (x := xs[i]) (List.getElem?_eq_getElem hx)
    rw [hi] at e
    cases e
    exact ⟨xs[i] :: ys, .cons ru r1, fun y hy => (List.mem_cons.mp hy).elim (fun z => z ▸ List.getElem_mem hx) (h1 y)⟩
theorem pe_slice3 {e st : Expr} {lo hi : Option Expr} {te : TE} {tl th ts : TO} {p2 pos : Pos} (he : PE X e te) (hl : PO X lo tl) (hu : PO X hi th) (hst : PO X (some st) ts) : PE X (.Subscript e (.Slice lo hi (some st) p2) pos) (tSl3 X.K te tl th ts) := by
  intro pins s σ H Q I h
  refine Subscript_ (thn (he pins s σ H _ I h) fun v s1 ⟨x, H1, I1, r1, q1⟩ => ?_)
  refine wpAny_Slice (thn (hl pins s1 σ H1 _ I1 q1) fun vl s2 ⟨l, H2, I2, pl, q2⟩ => thn (hu pins s2 σ H2 _ I2 q2) fun vu s3 ⟨u, H3, I3, pu, q3⟩ => thn (hst pins s3 σ H3 _ I3 q3) fun vt s4 ⟨k, H4, I4, pt, a, xs, e1, hx, hk, q4⟩ => ?_)
  subst e1
  cases r1
  have I5 : Inv X pins σ H4 { s4 with heap := s4.heap.push { cls := .type "slice", data := .fields #[vl, vu, vt] } } := I4.kept (t' := s4.toks) fun b ob q => Heap.get?_push_of_some _ q
  obtain ⟨its, r, ht, hz⟩ := I5.list hx
  have hlen := r.length
  show wpAny (model X.prog X.w) X.A (subscriptTail e (.Slice lo hi (some st) p2) (.ref a) (.ref s4.heap.objs.size)) (EP X pins σ Q) X.xe { s4 with heap := s4.heap.push { cls := .type "slice", data := .fields #[vl, vu, vt] } }
  refine tail_any (ops := [.ref a, .ref s4.heap.objs.size]) ht.isList.typeIs slot_list_getitem.lookup ?_ (by with_unfolding_all rfl)
  refine wpAny_getItem_list_slice ht.isList (Heap.IsSliceOf.new ..) pl pu pt hk ?_ (by rw [List.size_toArray] <;> omega)
  obtain ⟨ys, ry, hy⟩ := vals_pick r (slicePick its.toArray l u k).toList fun w hw => by
    have := pick_mem its.toArray l u k w hw
    simpa using this
  have hyx : ys.length ≤ xs.length := by
    rw [ry.length, Array.length_toList]
    refine Nat.le_trans (slicePick_size_le its.toArray l u k) ?_
    rw [List.size_toArray, ← hlen]; exact Nat.le_refl _
  have hys : ys.length ≤ sizeLine := Nat.le_trans hyx hz
  refine ⟨.ref _, _, I5.laid (t' := s4.toks) (o := .lst ys) (fun b ob q => Heap.get?_push_of_some _ q) (Nat.le_refl _) ⟨hys, _, 0, ry, ?_⟩, rfl, q4 _ ys (I5.hok.fresh (Nat.le_refl _)) hy hyx⟩
  rw [Array.toArray_toList]
  exact Heap.get?_push_size _ rfl

/-! ### list(text) -/
theorem call_list_str' (hc : X.calm = true) : CallR X (.type "list") (fun xs H Q => ∃ z, xs = [.str z] ∧ z.cps.size ≤ sizeLine ∧ ∀ l, H l = none → Q (.ref l) (upd H l (.lst (z.cps.toList.map fun c => V.str ⟨#[c]⟩)))) := by
  intro pins s σ H xs us Q I r h
  obtain ⟨z, rfl, hz, q⟩ := h
  obtain ⟨u, rfl, t, rfl⟩ := vals1 r
  refine PySem.call_list_str (I.ok.hd hc) z t (fun h' tk acc c kp e it => ?_) hz
  have rv : ∀ (cs : List Nat) (vs : List Value) (k : Nat), cs.length = vs.length → (∀ j v, vs[j]? = some v → SignAt z (k + j) v) → (∀ j, cs[j]? = z.cps.toList[k + j]?) → Vals (cs.map fun c => V.str ⟨#[c]⟩) vs := by
    intro cs
    induction cs with
    | nil => intro vs k hl _ _; cases vs with
      | nil => exact .nil
      | cons _ _ => simp at hl
    | cons c cs ih =>
      intro vs k hl hs hcs
      cases vs with
      | nil => simp at hl
      | cons v vs =>
        obtain ⟨c', u', hc', rfl⟩ := hs 0 v rfl
        have e0 := hcs 0
        simp at e0
        have hcc : c' = c := by
          rw [Nat.add_zero] at hc'
          have : z.cps.toList[k]? = some c' := by simpa using hc'
          rw [← Array.getElem?_toList] at e0
          first
            | (rw [this] at e0; exact (Option.some.inj e0).symm)
            | (rw [hc'] at e0; exact (Option.some.inj e0).symm)
        subst hcc
        exact .cons ⟨u', rfl⟩ (ih vs (k + 1) (by simpa using hl) (fun j v' hv => by have := hs (j + 1) v' hv; rwa [show k + (j + 1) = k + 1 + j by omega] at this) fun j => by have := hcs (j + 1); rwa [show k + (j + 1) = k + 1 + j by omega] at this)
  obtain ⟨hsz, hit⟩ := it
  have V1 : Vals (z.cps.toList.map fun c => V.str ⟨#[c]⟩) acc.toList := rv _ _ 0 (by simp [hsz]) (fun j v hv => by rw [Nat.zero_add]; exact hit j v (by simpa using hv)) (fun j => by rw [Nat.zero_add])
  exact ⟨.ref s.heap.objs.size, _, I.laid (t' := tk) kp (Nat.le_refl _) (show ObjOk X.prog X.w _ h' _ (.lst _) from ⟨by simpa using hz, acc.toList, c, V1, by simpa using e⟩), rfl, q _ (I.hok.fresh (Nat.le_refl _))⟩

/-! ### == of two lists of ints, != of two tuples of ints -/
theorem op_eq_list (hu : X.A.units + 64 < cLine) : OpR X (compareOp .Eq) (fun x y H Q => ∃ a b, ∃ ns ms : List Int, x = .ref a ∧ y = .ref b ∧ SqL X.K H a (ns.map V.int) ∧ SqL X.K H b (ms.map V.int) ∧ Q (.bl (decide (ns = ms))) H) := by
  intro pins s σ H x y v u Q I rx ry h
  obtain ⟨a, b, ns, ms, rfl, rfl, ha, hb, q⟩ := h
  cases rx
  cases ry
  obtain ⟨i1, r1, p1, _⟩ := I.list ha
  obtain ⟨i2, r2, p2, _⟩ := I.list hb
  exact PySem.W.eq_intsK p1.isList (intsAre_of r1) p2.isList (intsAre_of r2) hu ⟨.bl _, H, I, rfl, q⟩
theorem reads_tup {h : Heap} {a : Addr} {vs : List Value} {ns : List Int} (hl : IsTup h a vs.toArray) (hi : IntsAre vs ns) : Reads h (.ref a) (.tuple (ns.map PyData.int)) [] := by
  obtain ⟨o, ho, hc, n, hd⟩ := hl
  exact Reads.tuple ho hc hd (by simpa using PySem.W.readsAll_of_ints hi)
theorem shaped_tup (ns : List Int) : SeqAt.shaped (.tuple (ns.map PyData.int)) = true := by
  have h1 := PySem.W.depthAll_ints ns
  have h2 : PyData.depth (.tuple (ns.map PyData.int)) ≤ 64 := by simp only [PyData.depth]; omega
  show (PyData.canLay0 (.tuple (ns.map PyData.int)) && decide (PyData.depth (.tuple (ns.map PyData.int)) ≤ 64)) = true
  rw [Bool.and_eq_true]
  refine ⟨?_, decide_eq_true h2⟩
  simp only [PyData.canLay0]
  exact PySem.W.canLayAll0_ints ns
theorem op_ne_tuple (hu : X.A.units + 64 < cLine) : OpR X (compareOp .NotEq) (fun x y H Q => ∃ a b, ∃ ns ms : List Int, x = .ref a ∧ y = .ref b ∧ SqT X.K H a (ns.map V.int) ∧ SqT X.K H b (ms.map V.int) ∧ Q (.bl (!decide (ns = ms))) H) := by
  intro pins s σ H x y v u Q I rx ry h
  obtain ⟨a, b, ns, ms, rfl, rfl, ha, hb, q⟩ := h
  cases rx
  cases ry
  obtain ⟨i1, r1, p1, _⟩ := I.tuple ha
  obtain ⟨i2, r2, p2, _⟩ := I.tuple hb
  exact ne_dataH_same (reads_tup p1 (intsAre_of r1)) (reads_tup p2 (intsAre_of r2)) (shaped_tup ns) (shaped_tup ms) hu (by simp only [SeqAt.noMix]; exact PySem.W.noMix_ints ns ms)
    (by simp only [PySem.Spec.same]; rw [PySem.W.same_ints]; exact ⟨.bl _, H, I, rfl, q⟩)

/-! ### min of three -/
theorem vals3 {x y z : V} {us : List Value} (r : Vals [x, y, z] us) : ∃ u v w', us = [u, v, w'] ∧ RelV x u ∧ RelV y v ∧ RelV z w' := by
  cases r with
  | cons r1 r2 => cases r2 with
    | cons r3 r4 => cases r4 with
      | cons r5 r6 => cases r6; exact ⟨_, _, _, rfl, r1, r3, r5⟩
theorem call_min3 (hc : X.calm = true) : CallR X (.builtin "min") (fun xs H Q => ∃ i j k, xs = [.int i, .int j, .int k] ∧ Q (.int (if j < i then (if k < j then k else j) else (if k < i then k else i))) H) := by
  intro pins s σ H xs us Q I r h
  obtain ⟨i, j, k, rfl, q⟩ := h
  obtain ⟨u, v, w', rfl, ⟨t, rfl⟩, ⟨t', rfl⟩, ⟨t2, rfl⟩⟩ := vals3 r
  refine min_three_ints (I.ok.hd hc) fun h' tk kp => ⟨_, H, I.kept kp, ?_, q⟩
  by_cases c1 : j < i
  · rw [if_pos c1, if_pos c1]
    by_cases c2 : k < j
    · rw [if_pos c2, if_pos c2]; exact ⟨_, rfl⟩
    · rw [if_neg c2, if_neg c2]; exact ⟨_, rfl⟩
  · rw [if_neg c1, if_neg c1]
    by_cases c2 : k < i
    · rw [if_pos c2, if_pos c2]; exact ⟨_, rfl⟩
    · rw [if_neg c2, if_neg c2]; exact ⟨_, rfl⟩
end
end L2

set_option maxHeartbeats 4000000
namespace L2
open PySem PySem.Spec PyProof.Rows
/-! ### range(a, b, c), c above 0 -/
def Itr3 (lo c : Int) (n : Nat) : It := ⟨fun i _ => i < n, fun i H x H' => H' = H ∧ x = .int (lo + (i : Nat) * c), fun i _ => n ≤ i⟩
theorem turn_range3 {P : Program} {w : World} {K : PySem.W.Frag} {tg : Expr} (it : Addr) (lo c : Int) (n : Nat) : Turn P w K tg (Itr3 lo c n) [it] it (fun i h => IsRangeIter h it (lo + (i : Nat) * c) ((n : Int) - (i : Nat)) c) where
  mem := by simp
  obj := fun i h st b hb => by
    have e : b = it := by simpa using hb
    subst e
    exact ⟨_, st, fun v z => by
      have z' : Data.fields _ = Data.cell v := z
      cases z'⟩
  keep := fun i h h' st k => k it (by simp) _ st
  item := by
    intro X hP hw hK hc i pins s σ H E I hf st hg
    subst hP hw hK
    obtain ⟨f0, f1, f2, f3, f4, f5⟩ := hf it (by simp)
    refine (Walks.range (prog := X.prog) (w := X.w) (I.ok.hd hc) it lo c n).item i s _ _ hg st fun v h' tk hv st' kk => ?_
    obtain ⟨t, rfl⟩ := hv
    have I1 : Inv X pins σ H { s with heap := h', toks := tk } := I.turned (fun b o hb e => kk b o (by simpa using hb) e) f0 f1 f3 f4 f5
    exact ⟨_, rfl, go_of (s := { s with heap := h', toks := tk }) (n := "range_iterator") st' rfl rfl (by decide) ⟨.int (lo + (i : Nat) * c), H, I1, ⟨t, rfl⟩, ⟨rfl, rfl⟩, st', fun b hb => (hf b hb).1⟩⟩
  done := by
    intro X hP hw hK hc i pins s σ H E I hf st hg
    subst hP hw hK
    obtain ⟨f0, f1, f2, f3, f4, f5⟩ := hf it (by simp)
    exact wpAny_pyNext_range_end (I.ok.hd hc) st (by have : n ≤ i := hg; omega) fun h' eb => ⟨rfl, I.turned (t' := s.toks) (fun b o hb e => eb b o hb e) f0 f1 f3 f4 f5⟩
  self := fun _ _ _ _ _ st h => wpAny_pyIter_rangeiter st h
theorem size_bounds {a b c : Int} (h1 : 0 ≤ a) (h2 : a ≤ b) (h3 : b < 2 ^ 30) (h4 : 1 ≤ c) : 0 ≤ Builtin.Range.rangeSize a b c ∧ Builtin.Range.rangeSize a b c ≤ b - a := by
  unfold Builtin.Range.rangeSize
  rw [if_pos (by omega)]
  split
  · have e1 := Int.ediv_nonneg (show 0 ≤ b - a - 1 by omega) (show 0 ≤ c by omega)
    have e2 := Int.ediv_le_self c (show 0 ≤ b - a - 1 by omega)
    omega
  · omega
theorem small_pos {a b c : Int} (h1 : 0 ≤ a) (h2 : a ≤ b) (h3 : b < 2 ^ 30) (h4 : 1 ≤ c) (h5 : c < 2 ^ 30) : Builtin.Range.small a b c = true := by
  have hb := size_bounds h1 h2 h3 h4
  unfold Builtin.Range.small
  simp only [Builtin.Range.rangeFitsLong, Bool.and_eq_true, Bool.or_eq_true, decide_eq_true_eq, beq_iff_eq, show c > 0 by omega, if_true]
  generalize Builtin.Range.rangeSize a b c = z at hb ⊢
  omega
section
variable {X : Cx} {tg : Expr}
def iRng3 (ta : TA) : TI := fun σ H R => ta σ H fun vs H1 => ∃ i j c : Int, vs = [.int i, .int j, .int c] ∧ (0 ≤ i ∧ i ≤ j ∧ j < 2 ^ 30 ∧ 1 ≤ c ∧ c < 2 ^ 30) ∧ R (Itr3 i c (Builtin.Range.rangeSize i j c).toNat) H1
theorem pi_range3 {a b c : Expr} {ta : TA} {p pos : Pos} (hg : Gl X "range") (hm : X.mg "range" = none) (ha : PA X [a, b, c] ta) (hs : starEach [a, b, c] X.env = [(false, eval a X.env), (false, eval b X.env), (false, eval c X.env)] := by rfl)
    (hs2 : starEach [b, c] X.env = [(false, eval b X.env), (false, eval c X.env)] := by rfl) : PI X tg (.Call (.Name "range" p) [a, b, c] [] pos) (iRng3 ta) := by
  intro pins s σ H R I h
  refine Call_ (ld_blt I hg hm boot_range (PyProof.Rows.callWith_type1 (thn (ha pos pins s σ H _ I h) fun us s1 ⟨vs, H1, I1, r1, q1⟩ => ?_) (by rw [hs, hs2]) (by rw [hs2]; rfl)))
  obtain ⟨i, j, k, e, ⟨q1, q2, q3, q4, q5⟩, q⟩ := q1
  subst e
  obtain ⟨u1, u2, u3, rfl, ⟨t1, rfl⟩, ⟨t2, rfl⟩, ⟨t3, rfl⟩⟩ : ∃ u v w', us = [u, v, w'] ∧ RelV (V.int i) u ∧ RelV (V.int j) v ∧ RelV (V.int k) w' := by
    cases r1 with
    | cons r1 r2 => cases r2 with
      | cons r3 r4 => cases r4 with
        | cons r5 r6 => cases r6; exact ⟨_, _, _, rfl, r1, r3, r5⟩
  have sb := size_bounds q1 q2 q3 q4
  refine call_range_3 (by omega) ?_ (.inl (PyProof.noPylong_small (by omega)))
  refine wpAny_pyIter_range (IsRange.new ..) (small_pos q1 q2 q3 q4 q5) ?_
  have I2 : Inv X pins σ H1 { s1 with heap := s1.heap.push { cls := .type "range", data := .fields #[.int i t1, .int j t2, .int k t3] }, toks := s1.toks } := I1.kept fun b o e => Heap.get?_push_of_some _ e
  refine ⟨_, [_], _, _, H1, rfl, I2.kept (t' := s1.toks) fun b o e => Heap.get?_push_of_some _ e, turn_range3 _ i k (Builtin.Range.rangeSize i j k).toNat, ?_, fun b hb => ?_, q⟩
  · show IsRangeIter _ _ (i + ((0 : Nat) : Int) * k) ((((Builtin.Range.rangeSize i j k).toNat : Nat) : Int) - ((0 : Nat) : Int)) k
    rw [show i + ((0 : Nat) : Int) * k = i by simp, show (((Builtin.Range.rangeSize i j k).toNat : Nat) : Int) - ((0 : Nat) : Int) = Builtin.Range.rangeSize i j k by omega]
    exact Heap.get?_push_size _ rfl
  · have e := List.mem_singleton.mp hb
    subst e
    exact I2.fpOk (Nat.le_refl _) (I2.hok.fresh (Nat.le_refl _))
end
theorem for_range3 {lo c : Int} {n : Nat} {g : TG} {tb : TS} {D : Ends} {σ : St} {H : Hp} (Pv : Nat → St → Hp → Prop) (h0 : Pv 0 σ H)
    (hs : ∀ i σ H, i < n → Pv i σ H → g (.int (lo + (i : Nat) * c)) σ H fun σ2 H2 => tb { D with nx := Pv (i + 1), ct := Pv (i + 1), bk := D.nx } σ2 H2) (hd : ∀ σ H, Pv n σ H → D.nx σ H) :
    ∃ W : Nat → Nat → St → Hp → Prop, (∃ m, W 0 m σ H) ∧ ∀ i m σ H, W i m σ H →
      ((Itr3 lo c n).stop i H ∧ D.nx σ H) ∨ ((Itr3 lo c n).go i H ∧ ∃ N : St → Hp → Prop, (∀ σ' H', N σ' H' → ∃ m', m' < m ∧ W (i + 1) m' σ' H') ∧ ∀ x H', (Itr3 lo c n).yld i H x H' → g x σ H' fun σ2 H2 => tb { D with nx := N, ct := N, bk := D.nx } σ2 H2) := by
  refine ⟨fun i m σ H => m = n - i ∧ i ≤ n ∧ Pv i σ H, ⟨n, by simp, Nat.zero_le _, h0⟩, ?_⟩
  rintro i m σ H ⟨rfl, hi, p⟩
  by_cases hlt : i < n
  · refine .inr ⟨hlt, Pv (i + 1), fun σ' H' p' => ⟨n - (i + 1), by omega, rfl, hlt, p'⟩, fun x H' y => ?_⟩
    obtain ⟨e, y⟩ := y
    subst e y
    exact hs i σ _ hlt p
  · have e : i = n := by omega
    subst e
    exact .inl ⟨Nat.le_refl _, hd σ H p⟩

/-! ### a text with one number in it -/
theorem pe_fstr {X : Cx} {a : Str} {j : Nat} {p p2 pos : Pos} {e : Expr} {te : TE} (he : PE X e te) (hl : (Str.empty ++ a).length ≤ sizeLine := by decide +kernel) :
    PE X (.JoinedStr [.Constant (.str a) j p, .FormattedValue e (-1) none p2] pos) (fun σ H Q => te σ H fun v H1 => ∃ i : Int, v = .int i ∧ i.natAbs.log2 < 1920 ∧ (Str.empty ++ a ++ (toString i : Str)).length ≤ sizeLine ∧ Q (.str (Str.empty ++ a ++ (toString i : Str))) H1) := by
  intro pins s σ H Q I h
  refine JoinedStr_many (joinParts_cons (Calls.Constant_str ?_))
  have I0 : Inv X pins σ H { s with toks := s.toks + 1 } := I.tok _
  refine ⟨hl, joinParts_cons (FormattedValue_plain (thn (he pins _ σ H _ I0 h) fun v s1 ⟨x, H1, I1, r1, i, e1, hd, l2, q⟩ => ?_))⟩
  subst e1
  obtain ⟨t, rfl⟩ := r1
  exact formatField_int_small hd ⟨l2, joinParts_nil ⟨.str _, H1, I1.tok _, ⟨_, rfl⟩, q⟩ l2⟩

/-! ### classes: made, asked -/
/-- an own class and its __init__ -/
structure CKn (P : Program) (w : World) (K : PySem.W.Frag) (mg : Str → Option Value) (base : Heap) (k : Nat) (x : Str) (C : Addr) (ps : List Str) (sp : Sp) : Prop where
  ex : ∃ f fd, FnOk P w K mg base (CXE P w) k f fd ps sp ∧ Binds K fd ps [] ∧ Mk K C f
  nm : mg x = some (.ref C)
theorem pe_mk {X : Cx} {k : Nat} {x : Str} {C : Addr} {ps : List Str} {sp : Sp} {e : Expr} {es : List Expr} {t : TA} {p pos : Pos} (F : CKn X.prog X.w X.K X.mg X.base k x C ps sp) (hr : Room (k + 1) X.A) (ha : PA X (e :: es) t)
    (hg : Gl X x := by rfl) (hdb : (x == ("__debug__" : Str)) = false := by decide) (he : starEach (e :: es) X.env = (false, eval e X.env) :: starEach es X.env := by rfl) (hpl : (backTo pos (starEach es X.env)).any (·.1) = false := by rfl) :
    PE X (.Call (.Name x p) (e :: es) [] pos) (tMake C sp [] E0 t) := by
  obtain ⟨f, fd, G, b, M⟩ := F.ex
  exact pe_make M G hr hg F.nm b .nil passE0 ha hdb he hpl
/-- a method of an own class -/
def MKn (P : Program) (w : World) (K : PySem.W.Frag) (mg : Str → Option Value) (base : Heap) (k : Nat) (C : Addr) (m : Str) (ps : List Str) (sp : Sp) : Prop :=
  ∃ f fd, FnOk P w K mg base (CXE P w) k f fd ps sp ∧ Binds K fd ps [] ∧ Meth K C m f ∧ Cls K C
theorem pe_mt {X : Cx} {k : Nat} {C : Addr} {m : Str} {ps : List Str} {sp : Sp} {o e : Expr} {es : List Expr} {ta : TE} {t : TA} {apos pos : Pos} {pl : Sem Bool} (F : MKn X.prog X.w X.K X.mg X.base k C m ps sp) (ho : PE X o ta) (hr : Room k X.A) (ha : PA X (e :: es) t)
    (hst : starEach (e :: es) X.env = (false, eval e X.env) :: starEach es X.env := by rfl) (hpl : (backTo pos (starEach es X.env)).any (·.1) = false := by rfl)
    (ht : eval (.Call (.Attribute o m apos) (e :: es) [] pos) X.env = (do
      let ov ← eval o X.env
      standAt apos.atName
      let (f, first) ← holding [ov] (getMethod ov m pl)
      callWith pos f first (backTo pos (starEach (e :: es) X.env)) (backToKw pos (keywordEach [] X.env))) := by rfl) :
    PE X (.Call (.Attribute o m apos) (e :: es) [] pos) (tMeth C m sp [] E0 ta t) := by
  obtain ⟨f, fd, G, b, M, c⟩ := F
  exact pe_meth ho c M G hr b .nil passE0 ha hst hpl ht
end L2

set_option maxHeartbeats 4000000
namespace L2
open PySem PySem.Spec PyProof.Rows
/-! ### expressions and tests that leave the heap as it is and have one value -/
def Pv (te : TE) (σ : St) (H : Hp) (v : V) : Prop := ∀ Q : VK, Q v H → te σ H Q
def Pb (tt : TT) (σ : St) (H : Hp) (b : Bool) : Prop := ∀ Q : Bool → Hp → Prop, Q b H → tt σ H Q
def Pa (ta : TA) (σ : St) (H : Hp) (vs : List V) : Prop := ∀ Q : List V → Hp → Prop, Q vs H → ta σ H Q
section
variable {σ : St} {H : Hp} {ta tb tc te : TE} {t u : TT} {K : PySem.W.Frag}
theorem pv_var {i : Nat} {v : V} (h : σ[i]? = some (some v)) : Pv (tVar i) σ H v := fun _ q => ⟨v, h, q⟩
theorem pv_c {v : V} : Pv (tC v) σ H v := fun _ q => q
theorem pv_op {g : Int → Int → V} {i j : Int} (ha : Pv ta σ H (.int i)) (hb : Pv tb σ H (.int j)) : Pv (tOp (rI0 g) ta tb) σ H (g i j) := fun Q q => ha _ (hb _ ⟨i, j, rfl, rfl, q⟩)
theorem pv_opC {C : Int → Int → Prop} {g : Int → Int → V} {i j : Int} (ha : Pv ta σ H (.int i)) (hb : Pv tb σ H (.int j)) (hc : C i j) : Pv (tOp (rI C g) ta tb) σ H (g i j) := fun Q q => ha _ (hb _ ⟨i, j, rfl, rfl, hc, q⟩)
theorem pv_eq {x y : V} (ha : Pv ta σ H x) (hb : Pv tb σ H y) (hs : scal x y = true) : Pv (tOp rEq ta tb) σ H (.bl (decide (x = y))) := fun Q q => ha _ (hb _ ⟨hs, q⟩)
theorem pv_ne {x y : V} (ha : Pv ta σ H x) (hb : Pv tb σ H y) (hs : scal x y = true) : Pv (tOp rNe ta tb) σ H (.bl (!decide (x = y))) := fun Q q => ha _ (hb _ ⟨hs, q⟩)
theorem pv_strcat {x y : Str} (ha : Pv ta σ H (.str x)) (hb : Pv tb σ H (.str y)) (hl : x.length + y.length ≤ sizeLine) :
    Pv (tOp (fun x y H Q => ∃ i j, x = .str i ∧ y = .str j ∧ i.length + j.length ≤ sizeLine ∧ Q (.str (i ++ j)) H) ta tb) σ H (.str (x ++ y)) := fun Q q => ha _ (hb _ ⟨x, y, rfl, rfl, hl, q⟩)
theorem pv_chain {f g : Int → Int → Bool} {a b c : Int} (ha : Pv ta σ H (.int a)) (hb : Pv tb σ H (.int b)) (hc : Pv tc σ H (.int c)) :
    Pv (tChain (rI0 fun i j => .bl (f i j)) (rI0 fun i j => .bl (g i j)) ta tb tc) σ H (.bl (f a b && g b c)) := fun Q q => ha _ (hb _ ⟨a, b, rfl, rfl, f a b, rfl, by
  cases e : f a b with
  | true => rw [e] at q; exact iteT (hc _ ⟨b, c, rfl, rfl, q⟩)
  | false => rw [e] at q; exact iteF q⟩)
theorem pv_and {p q : Bool} (ha : Pv ta σ H (.bl p)) (hb : p = true → Pv tb σ H (.bl q)) : Pv (tAndV ta tb) σ H (.bl (p && q)) := fun Q k => ha _ ⟨p, rfl, by
  cases p with
  | true => exact iteT (hb rfl _ k)
  | false => exact iteF k⟩
theorem pv_not {p : Bool} (ha : Pv ta σ H (.bl p)) : Pv (tNotV ta) σ H (.bl (!p)) := fun Q k => ha _ ⟨p, rfl, k⟩
theorem pv_if {b : Bool} {v : V} (ht : Pb t σ H b) (ha : b = true → Pv ta σ H v) (hb : b = false → Pv tb σ H v) : Pv (tIf t ta tb) σ H v := fun Q k => ht _ (by
  cases b with
  | true => exact iteT (ha rfl _ k)
  | false => exact iteF (hb rfl _ k))
theorem pv_neg {i : Int} (ha : Pv ta σ H (.int i)) : Pv (tUn (rU fun i => .int (-i)) ta) σ H (.int (-i)) := fun Q k => ha _ ⟨i, rfl, k⟩
theorem pa_0 : Pa tNil σ H [] := fun _ q => q
theorem pa_1 {t : TA} {v : V} {vs : List V} (ha : Pv ta σ H v) (ht : Pa t σ H vs) : Pa (tCons ta t) σ H (v :: vs) := fun Q q => ha _ (ht _ q)
theorem pv_len {z : Str} (ha : Pv ta σ H (.str z)) (hz : z.length ≤ sizeLine) : Pv (tCB (fun xs H Q => ∃ z, xs = [.str z] ∧ z.length ≤ sizeLine ∧ Q (.int z.length) H) (tCons ta tNil)) σ H (.int z.length) := fun Q q => ha _ ⟨z, rfl, hz, q⟩
theorem pv_count {z y : Str} (ha : Pv ta σ H (.str z)) (hb : Pv tb σ H (.str y)) : Pv (tBM K "str" rCount ta (tCons tb tNil)) σ H (.int (Txt.count z y)) := fun Q q => ha _ ⟨rfl, hb _ ⟨z, y, rfl, rfl, q⟩⟩
theorem pv_fld {a C dx : Addr} {fs : List (Str × V)} {f : Str} {v : V} (ha : Pv ta σ H (.ref a)) (h : H a = some (.ins C dx fs)) (c : Cls K C) (n : NoAttr K C f) (l : fs.lookup f = some v) : Pv (tFld K ta f) σ H v := fun Q q => ha _ ⟨a, C, dx, fs, v, rfl, h, c, n, l, q⟩
theorem pv_ixT {p : Addr} {xs : List V} {i : Int} {v : V} (ha : Pv ta σ H (.ref p)) (hb : Pv tb σ H (.int i)) (hs : SqT K H p xs) (h : atI xs i = some v) : Pv (tOp (rIxT K) ta tb) σ H v := fun Q q => ha _ (hb _ ⟨p, xs, i, v, rfl, rfl, hs, h, q⟩)
theorem pv_ixL {p : Addr} {xs : List V} {i : Int} {v : V} (ha : Pv ta σ H (.ref p)) (hb : Pv tb σ H (.int i)) (hs : SqL K H p xs) (h : atI xs i = some v) : Pv (tOp (rIxL K) ta tb) σ H v := fun Q q => ha _ (hb _ ⟨p, xs, i, v, rfl, rfl, hs, h, q⟩)
theorem pv_ixS {z : Str} {i : Int} {c : Nat} (ha : Pv ta σ H (.str z)) (hb : Pv tb σ H (.int i)) (hz : z.length ≤ sizeLine) (h : atI z.cps.toList i = some c) : Pv (tOp rIxS ta tb) σ H (.str ⟨#[c]⟩) := fun Q q => ha _ (hb _ ⟨z, i, c, rfl, rfl, hz, h, q⟩)
theorem pv_slS {z : Str} {lo hi : Int} (ha : Pv ta σ H (.str z)) (hl : Pv tb σ H (.int lo)) (hh : Pv tc σ H (.int hi)) (hz : z.length ≤ sizeLine) : Pv (tSl rSlS ta (tPart tb) (tPart tc)) σ H (.str (Txt.slice z (some lo) (some hi))) :=
  fun Q q => ha _ (hl _ ⟨lo, rfl, hh _ ⟨hi, rfl, z, rfl, hz, q⟩⟩)
theorem pv_isi {x : V} {T : String} {ty : Value} {b : Bool} (ha : Pv ta σ H x) (h : TyOf K H x ty) (e : PySem.W.kitOne K ty (.type T) = some b) :
    Pv (tCB (fun xs H Q => ∃ x T t b, xs = [x, .ty T] ∧ TyOf K H x t ∧ PySem.W.kitOne K t (.type T) = some b ∧ Q (.bl b) H) (tCons ta (tCons (tC (.ty T)) tNil))) σ H (.bl b) := fun Q q => ha _ ⟨x, T, ty, b, rfl, h, e, q⟩
theorem pv_min3 {i j k : Int} {t : TA} (h : Pa t σ H [.int i, .int j, .int k]) : Pv (tCB (fun xs H Q => ∃ i j k, xs = [.int i, .int j, .int k] ∧ Q (.int (if j < i then (if k < j then k else j) else (if k < i then k else i))) H) t) σ H
    (.int (if j < i then (if k < j then k else j) else (if k < i then k else i))) := fun Q q => h _ ⟨i, j, k, rfl, q⟩
theorem pv_max2 {i j : Int} {t : TA} (h : Pa t σ H [.int i, .int j]) : Pv (tCB (fun xs H Q => ∃ i j, xs = [.int i, .int j] ∧ Q (.int (if j > i then j else i)) H) t) σ H (.int (if j > i then j else i)) := fun Q q => h _ ⟨i, j, rfl, q⟩
/-- a call whose promise is one value, the heap as it is -/
theorem pv_call {sp : Sp} {t : TA} {vs : List V} {v : V} (ha : Pa t σ H vs) (h : ∀ Q : VK, Q v H → sp (vs ++ []) H Q E0) : Pv (tCall sp [] E0 t) σ H v := fun Q q => ha _ (h Q q)
theorem pb_val {b : Bool} (h : Pv te σ H (.bl b)) : Pb (tB te) σ H b := fun Q q => h _ ⟨b, rfl, q⟩
theorem pb_test {b : Bool} (h : Pv te σ H (.bl b)) : Pb (tTest te) σ H b := fun Q q => h _ ⟨b, rfl, q⟩
theorem pb_not {b : Bool} (h : Pb t σ H b) : Pb (tNot t) σ H (!b) := fun Q q => h _ q
theorem pb_or {a b : Bool} (h : Pb t σ H a) (h2 : a = false → Pb u σ H b) : Pb (tOr t u) σ H (a || b) := fun Q q => h _ (by
  cases a with
  | true => exact iteT q
  | false => exact iteF (h2 rfl _ q))
/-- if test: A else B, the test known -/
theorem rd_ifT {t' u' : TS} {D : Ends} (h : Pb t σ H true) (k : t' D σ H) : tIfS t t' u' D σ H := h _ (iteT k)
theorem rd_ifF {t' u' : TS} {D : Ends} (h : Pb t σ H false) (k : u' D σ H) : tIfS t t' u' D σ H := h _ (iteF k)
theorem rd_if {t' u' : TS} {D : Ends} {b : Bool} (h : Pb t σ H b) (k1 : b = true → t' D σ H) (k2 : b = false → u' D σ H) : tIfS t t' u' D σ H := h _ (by
  cases b with
  | true => exact iteT (k1 rfl)
  | false => exact iteF (k2 rfl))
end
end L2

namespace L2
open PySem PySem.Spec PyProof.Rows
/-! ### the reading of a block, statement by statement -/
section
variable {σ : St} {H : Hp} {te tl : TE} {t : TT} {t' u' u : TS} {D : Ends} {K : PySem.W.Frag}
theorem rd_set {i : Nat} {v : V} (h : Pv te σ H v) (k : u D (σ.set i (some v)) H) : tSeq (tAsg te (gName i)) u D σ H := h _ k
theorem rd_setK {i : Nat} (k : te σ H fun v H1 => u D (σ.set i (some v)) H1) : tSeq (tAsg te (gName i)) u D σ H := k
theorem rd_ifs {b : Bool} (h : Pb t σ H b) (k1 : b = true → t' { D with nx := u D } σ H) (k2 : b = false → u' { D with nx := u D } σ H) : tSeq (tIfS t t' u') u D σ H := rd_if (D := { D with nx := u D }) h k1 k2
theorem rd_ifn {b : Bool} (h : Pb t σ H b) (k1 : b = true → t' { D with nx := u D } σ H) (k2 : b = false → u D σ H) : tSeq (tIfS t t' tNext) u D σ H := rd_if (D := { D with nx := u D }) (u' := tNext) h k1 k2
theorem rd_ifK (k : t σ H fun b H1 => if b = true then t' { D with nx := u D } σ H1 else u D σ H1) : tSeq (tIfS t t' tNext) u D σ H := k
theorem rd_ret {v : V} (h : Pv te σ H v) (k : D.rt v H) : tRet te D σ H := h _ k
theorem rd_retK (k : te σ H D.rt) : tRet te D σ H := k
theorem rd_expr {v : V} (h : Pv te σ H v) (k : u D σ H) : tSeq (tDrop te) u D σ H := h _ k
theorem rd_exprK (k : te σ H fun _ H1 => u D σ H1) : tSeq (tDrop te) u D σ H := k
theorem rd_seq (k : t' { D with nx := u D } σ H) : tSeq t' u D σ H := k
theorem rd_forL {a : Addr} {xs : List V} {g : TG} {tb : TS} (W : Nat → St → Hp → Prop) (h : Pv tl σ H (.ref a)) (hS : SqL K H a xs) (h0 : W 0 σ H) (hl : ∀ i σ H, i ≤ xs.length → W i σ H → SqL K H a xs)
    (hs : ∀ i x σ H, xs[i]? = some x → W i σ H → g x σ H fun σ2 H2 => tb { D with nx := W (i + 1), ct := W (i + 1), bk := u D } σ2 H2) (hd : ∀ σ H, W xs.length σ H → u D σ H) : tSeq (tFor (iList K tl) g tb) u D σ H :=
  h _ ⟨a, rfl, ⟨xs, hS⟩, for_list (D := { D with nx := u D }) W h0 hl hs hd⟩
theorem rd_one {i : Nat} {v : V} (h : Pv te σ H v) (k : D.nx (σ.set i (some v)) H) : tAsg te (gName i) D σ H := h _ k
theorem rd_oneK {i : Nat} (k : te σ H fun v H1 => D.nx (σ.set i (some v)) H1) : tAsg te (gName i) D σ H := k
theorem rd_if1 {b : Bool} (h : Pb t σ H b) (k1 : b = true → t' D σ H) (k2 : b = false → D.nx σ H) : tIfS t t' tNext D σ H := rd_if (u' := tNext) h k1 k2
theorem rd_if1K (k : t σ H fun b H1 => if b = true then t' D σ H1 else D.nx σ H1) : tIfS t t' tNext D σ H := k
end
/-! ### fields -/
def fl1 (a : Str) (u : V) : List (Str × V) := putF a u []
def fl3 (a b c : Str) (u v w : V) : List (Str × V) := putF c w (putF b v (putF a u []))
section
variable {a b c m : Str} {u v w : V}
theorem fl1_a : (fl1 a u).lookup a = some u := by unfold fl1; rw [lookup_putF, if_pos rfl]
theorem fl1_no (h : ¬ m = a) : (fl1 a u).lookup m = none := by unfold fl1; rw [lookup_putF, if_neg h]; rfl
theorem fl3_a (h1 : ¬ a = c) (h2 : ¬ a = b) : (fl3 a b c u v w).lookup a = some u := by unfold fl3; rw [lookup_putF, if_neg h1, lookup_putF, if_neg h2, lookup_putF, if_pos rfl]
theorem fl3_b (h1 : ¬ b = c) : (fl3 a b c u v w).lookup b = some v := by unfold fl3; rw [lookup_putF, if_neg h1, lookup_putF, if_pos rfl]
theorem fl3_c : (fl3 a b c u v w).lookup c = some w := by unfold fl3; rw [lookup_putF, if_pos rfl]
theorem fl3_no (h1 : ¬ m = c) (h2 : ¬ m = b) (h3 : ¬ m = a) : (fl3 a b c u v w).lookup m = none := by unfold fl3; rw [lookup_putF, if_neg h1, lookup_putF, if_neg h2, lookup_putF, if_neg h3]; rfl
end
/-- an __init__ that stores its one argument, its three -/
def sp_init1 (C : Addr) (a : Str) : Sp := fun vs H Q _ => ∃ x dx v, vs = [.ref x, v] ∧ H x = some (.ins C dx []) ∧ Q .non (upd H x (.ins C dx (fl1 a v)))
def sp_init3 (C : Addr) (a b c : Str) : Sp := fun vs H Q _ => ∃ x dx u v w, vs = [.ref x, u, v, w] ∧ H x = some (.ins C dx []) ∧ Q .non (upd H x (.ins C dx (fl3 a b c u v w)))
/-- C(v): a new object with its field -/
theorem rd_mk1 {C : Addr} {a : Str} {t : TA} {σ : St} {H : Hp} {Q : VK} {v : V} (h : Pa t σ H [v]) (k : ∀ x dx H', Same H H' → H' x = some (.ins C dx (fl1 a v)) → Q (.ref x) H') : tMake C (sp_init1 C a) [] E0 t σ H Q := by
  refine h _ fun x dx hx hdx ne => ⟨x, dx, v, rfl, upd_same, rfl, k x dx _ (fun b o e => ?_) upd_same⟩
  rw [upd_ne (ne_of_none e hx), upd_ne (ne_of_none e hx), upd_ne (ne_of_none e hdx)]; exact e
theorem rd_mk3 {C : Addr} {a b c : Str} {t : TA} {σ : St} {H : Hp} {Q : VK} {u v w : V} (h : Pa t σ H [u, v, w]) (k : ∀ x dx H', Same H H' → H' x = some (.ins C dx (fl3 a b c u v w)) → Q (.ref x) H') : tMake C (sp_init3 C a b c) [] E0 t σ H Q := by
  refine h _ fun x dx hx hdx ne => ⟨x, dx, u, v, w, rfl, upd_same, rfl, k x dx _ (fun b o e => ?_) upd_same⟩
  rw [upd_ne (ne_of_none e hx), upd_ne (ne_of_none e hx), upd_ne (ne_of_none e hdx)]; exact e
end L2

set_option maxHeartbeats 4000000
namespace Eb
open PySem L2
/-! ### what the defs promise (no refusal on these ways) -/
def sp_is_number : Sp := fun vs H Q _ => ∃ i : Int, vs = [.int i] ∧ Q (.bl true) H
def sp_is_between : Sp := fun vs H Q _ => ∃ v l m : Int, vs = [.int v, .int l, .int m] ∧ Q (.bl (decide (l ≤ v ∧ v ≤ m))) H
def sp_check_number : Sp := fun vs H Q _ => ∃ i : Int, vs = [.int i] ∧ Q .non H
def sp_check_at_least : Sp := fun vs H Q _ => ∃ i l : Int, vs = [.int i, .int l] ∧ l ≤ i ∧ Q .non H
def sp_check_beats : Sp := fun vs H Q _ => ∃ b p : Int, vs = [.int b, .int p] ∧ 1 ≤ p ∧ 0 ≤ b ∧ b ≤ p ∧ Q .non H
def sp_reckoned : Sp := fun vs H Q _ => ∃ b p s m : Int, vs = [.int b, .int p, .int s, .int m] ∧ 1 ≤ p ∧ 0 ≤ b ∧ b ≤ p ∧ 0 ≤ m ∧ m ≤ 100000 ∧ ∀ H', Same H H' → Q (.str (rowS (reck b p s m.toNat))) H'
def sp_laid : Sp := fun vs H Q _ => ∃ b p : Int, vs = [.int b, .int p] ∧ 1 ≤ p ∧ 0 ≤ b ∧ b ≤ p ∧ p ≤ 100000 ∧ ∀ H', Same H H' → Q (.str (rowS (reck b p 0 p.toNat))) H'
def sp_law_reckoned : Sp := fun vs H Q _ => ∃ b p s m : Int, vs = [.int b, .int p, .int s, .int m] ∧ 1 ≤ p ∧ 0 ≤ m ∧ m ≤ 100000 ∧ ∀ H', Same H H' → Q (.str (rowS (reck b p s m.toNat))) H'
/-- the beats ahead of each place, and in all -/
def sums (l : List Bool) : List Int := (List.range (l.length + 1)).map fun (k : Nat) => pre l k
def sp_law_sums : Sp := fun vs H Q _ => ∃ l : List Bool, vs = [.str (rowS l)] ∧ l.length ≤ 1000 ∧ ∀ p H', Same H H' → H' p = some (.lst ((sums l).map V.int)) → Q (.ref p) H'
/-- the beats of m places from i on, around the ring -/
def win (l : List Bool) (m i : Nat) : Int := pre (l ++ l) (i + m) - pre (l ++ l) i
def Ev (l : List Bool) : Prop := ∀ m i j : Nat, 1 ≤ m → m < l.length → i < l.length → j < l.length → win l m i ≤ win l m j + 1
def sp_law_is_even : Sp := fun vs H Q _ => ∃ l : List Bool, vs = [.str (rowS l)] ∧ 1 ≤ l.length ∧ l.length ≤ 500 ∧ ∀ b H', Same H H' → (b = true ↔ Ev l) → Q (.bl b) H'
theorem kit_int_int {K : PySem.W.Frag} : PySem.W.kitOne K (.type "int") (.type "int") = some true := by rfl
theorem kit_str_str {K : PySem.W.Frag} : PySem.W.kitOne K (.type "str") (.type "str") = some true := by rfl
theorem kit_int_bool {K : PySem.W.Frag} : PySem.W.kitOne K (.type "int") (.type "bool") = some false := by rfl
theorem reck_laid_even {b p : Int} (hp : 1 ≤ p) (h0 : 0 ≤ b) (h1 : b ≤ p) : Ev (reck b p 0 p.toNat) := by
  intro m i j _ hm hi hj
  rw [reck_length] at hm hi hj
  exact laid_even (by omega) h0 h1 p.toNat (by omega) m i j (by omega) (by omega) (by omega)
theorem sums_length (l : List Bool) : (sums l).length = l.length + 1 := by simp [sums]
theorem sums_get (l : List Bool) (k : Nat) (h : k ≤ l.length) : (sums l)[k]? = some (pre l k) := by
  have : k < l.length + 1 := by omega
  simp [sums, this]
end Eb

set_option maxHeartbeats 4000000
namespace Eb
open PySem L2
theorem kit_bool_bool {K : PySem.W.Frag} : PySem.W.kitOne K (.type "bool") (.type "bool") = some true := by rfl
theorem count_dots (l : List Bool) : Txt.count (rowS l) "." = (l.length : Int) - cnt l := by
  rw [dot_eq, PyProof.Rows.count_cnt]
  show PyProof.Rows.cnt 46 ((l.map sg).toArray.toList) = _
  rw [List.toList_toArray]
  induction l with
  | nil => rfl
  | cons b l ih =>
    rw [List.map_cons, PyProof.Rows.cnt_cons, cnt_cons, ih, List.length_cons]
    cases b
    · rw [if_pos (show sg false = 46 from rfl)]; simp; omega
    · rw [if_neg (show ¬ sg true = 46 by decide)]; simp; omega
theorem slice_rows (l : List Bool) (f m : Int) (hf : 0 ≤ f) (hm : 0 ≤ m) (h : f + m ≤ (l.length : Int)) : Txt.slice (rowS l) (some f) (some (f + m)) = rowS ((l.drop f.toNat).take m.toNat) := by
  have hl : (rowS l).cps.toList = l.map sg := by simp [rowS]
  have e := eq_of_beq (PyProof.Rows.slice_closes (x := rowS l) (i := f) (j := f + m) ⟨hf, by omega, by rw [hl, List.length_map]; omega⟩)
  rw [e, hl, show (f + m - f).toNat = m.toNat by omega, ← List.map_drop, ← List.map_take]
  rfl
theorem slice_to (l : List Bool) (m : Int) (hm : 0 ≤ m) (h : m ≤ (l.length : Int)) : Txt.slice (rowS l) none (some m) = rowS (l.take m.toNat) := by
  have hl : (rowS l).cps.toList = l.map sg := by simp [rowS]
  have e := eq_of_beq (PyProof.Rows.slice_closes_to (x := rowS l) (j := m) ⟨hm, by rw [hl, List.length_map]; omega⟩)
  rw [e, hl, show (m - 0).toNat = m.toNat by omega, show (0 : Int).toNat = 0 from rfl, List.drop_zero, ← List.map_take]
  rfl
theorem slice_from (l : List Bool) (f : Int) (hf : 0 ≤ f) (h : f ≤ (l.length : Int)) : Txt.slice (rowS l) (some f) none = rowS (l.drop f.toNat) := by
  have hl : (rowS l).cps.toList = l.map sg := by simp [rowS]
  rw [PyProof.Rows.slice_from_eq (x := rowS l) (i := f) (b := (rowS l).length) hf (by rw [rowS_length]; exact h) rfl, hl, rowS_length, ← List.map_drop, ← List.map_take, List.take_of_length_le (by rw [List.length_drop]; omega)]
  rfl
/-- whether one stretch has two beats more than the other -/
def two (l : List Bool) (f s m : Int) : Bool := decide (cnt ((l.drop s.toNat).take m.toNat) + 2 ≤ cnt ((l.drop f.toNat).take m.toNat))
def sp_more : Sp := fun vs H Q _ => ∃ (l : List Bool) (f s m : Int), vs = [.str (rowS l), .int f, .int s, .int m] ∧ 0 ≤ f ∧ 0 ≤ s ∧ 0 ≤ m ∧ f + m ≤ l.length ∧ s + m ≤ l.length ∧ l.length ≤ 1000 ∧ Q (.bl (two l f s m)) H
def sp_is_row : Sp := fun vs H Q _ => ∃ l : List Bool, vs = [.str (rowS l)] ∧ l.length ≤ 100000 ∧ Q (.bl true) H
def sp_is_ring : Sp := fun vs H Q _ => ∃ l : List Bool, vs = [.str (rowS l)] ∧ l.length ≤ 100000 ∧ Q (.bl (decide (1 ≤ l.length))) H
def spx_check_at_least (CB : Addr) : Sp := fun vs H Q E => ∃ i l : Int, vs = [.int i, .int l] ∧ (l = 0 ∨ l = 1) ∧ (l ≤ i → Q .non H) ∧ (¬ l ≤ i → E (.ref CB) none H)
def spx_check_beats (CB : Addr) : Sp := fun vs H Q E => ∃ b p : Int, vs = [.int b, .int p] ∧ ((1 ≤ p ∧ 0 ≤ b ∧ b ≤ p) → Q .non H) ∧ (¬ (1 ≤ p ∧ 0 ≤ b ∧ b ≤ p) → E (.ref CB) none H)
def spx_reckoned (CB : Addr) : Sp := fun vs H Q E => ∃ b p s m : Int, vs = [.int b, .int p, .int s, .int m] ∧ 0 ≤ m ∧ m ≤ 100000 ∧ ((1 ≤ p ∧ 0 ≤ b ∧ b ≤ p) → ∀ H', Same H H' → Q (.str (rowS (reck b p s m.toNat))) H') ∧
  (¬ (1 ≤ p ∧ 0 ≤ b ∧ b ≤ p) → E (.ref CB) none H)
def evenOk (l : List Bool) (t : Int) : Bool := decide ((0 ≤ t ∧ t < (l.length : Int)) ∧ reck (cnt l) l.length (t * cnt l) l.length = l)
def apartOk (l : List Bool) (f s m : Int) : Bool := decide (((0 ≤ f ∧ f < (l.length : Int)) ∧ (0 ≤ s ∧ s < (l.length : Int)) ∧ 0 ≤ m ∧ m ≤ (l.length : Int)) ∧ two (l ++ l) f s m = true)
def begunOk (l : List Bool) (b p s : Int) : Bool := decide ((1 ≤ p ∧ 0 ≤ b ∧ b ≤ p) ∧ reck b p s l.length = l)
def partedOk (l : List Bool) (f s m : Int) : Bool := decide ((0 ≤ f ∧ 0 ≤ s ∧ 0 ≤ m ∧ f + m ≤ (l.length : Int) ∧ s + m ≤ (l.length : Int)) ∧ two l f s m = true)
def sp_Even (C : Addr) : Sp := fun vs H Q _ => ∃ (x dx : Addr) (t : Int) (l : List Bool), vs = [.ref x, .str (rowS l)] ∧ H x = some (.ins C dx (fl1 "turn" (.int t))) ∧ 1 ≤ l.length ∧ l.length ≤ 100 ∧ ∀ H', Same H H' → Q (.bl (evenOk l t)) H'
def sp_Apart (C : Addr) : Sp := fun vs H Q _ => ∃ (x dx : Addr) (f s m : Int) (l : List Bool), vs = [.ref x, .str (rowS l)] ∧ H x = some (.ins C dx (fl3 "first" "second" "many" (.int f) (.int s) (.int m))) ∧ 1 ≤ l.length ∧ l.length ≤ 100 ∧ Q (.bl (apartOk l f s m)) H
def sp_Begun (C : Addr) : Sp := fun vs H Q _ => ∃ (x dx : Addr) (b p s : Int) (l : List Bool), vs = [.ref x, .str (rowS l)] ∧ H x = some (.ins C dx (fl3 "beats" "places" "shift" (.int b) (.int p) (.int s))) ∧ l.length ≤ 100 ∧ ∀ H', Same H H' → Q (.bl (begunOk l b p s)) H'
def sp_Parted (C : Addr) : Sp := fun vs H Q _ => ∃ (x dx : Addr) (f s m : Int) (l : List Bool), vs = [.ref x, .str (rowS l)] ∧ H x = some (.ins C dx (fl3 "first" "second" "many" (.int f) (.int s) (.int m))) ∧ l.length ≤ 100 ∧ Q (.bl (partedOk l f s m)) H
def sp_says : Sp := fun vs H Q _ => ∃ a b : Bool, vs = [.bl a, .bl b] ∧ Q (.bl (decide (V.bl a = V.bl b))) H
end Eb

set_option maxHeartbeats 4000000
namespace L2
open PySem PySem.W PySem.Calls PyProof.Rows
/-- the whole script weighs at most 2 ^ 20 bits -/
theorem weight_mem {ns : List Int} {n : Int} (h : n ∈ ns) : Builtin.Int.intBits n ≤ WData.weightAll (ns.map WData.int) := by
  induction ns with
  | nil => cases h
  | cons x r ih =>
    rw [List.map_cons, WData.weightAll]
    rcases List.mem_cons.mp h with rfl | h'
    · have : WData.weight (.int n) = Builtin.Int.intBits n := by rw [WData.weight]; rfl
      omega
    · have := ih h'
      omega
theorem bits_of_lay {ns : List Int} (h : WData.layableAll [WData.list (ns.map WData.int)] = true) : ∀ n ∈ ns, Builtin.Int.intBits n ≤ 2 ^ 20 := fun n hn => by
  have h1 := (layW_cons h).1
  have h2 := (layableW_iff.mp h1).2.2
  rw [WData.weight] at h2
  exact Nat.le_trans (weight_mem hn) h2
theorem attach_callB {l : OpenLaw} {n : Nat} {q : Program} {loose : List Str} {XP : (Str → Option Value) → Heap → Prop} {YP : World → Heap → Prop} {d : DefRec}
    (hn : l.most = some n) (hdf : d.params.defaults = [])
    (call : ∀ (w : World) (s₀ s₁ : Shared) (mg mb : Str → Option Value) (fa : Addr) (o : Obj) (pm cd doc : Value) (a : Addr) (vs : List Value) (ns : List Int),
      Ground q loose [] XP w s₀ mg mb s₁.heap → YP w s₁.heap →
      s₁.heap.get? fa = some o → o.data = .func (docDef d.name d.params d.body d.scope pm cd doc) → s₁.heap.CodeRec cd d.name → mg d.name = some (.ref fa) →
      s₁.heap.get? a = some { cls := .type "list", data := .seq vs.toArray } → IntsAre vs ns → ns.length ≤ n → (∀ x ∈ ns, Builtin.Int.intBits x ≤ 2 ^ 20) → s₁.gens = #[] →
      codeAny (model l.prog w) callerA (.call (.ref fa) ⟨[.ref a], []⟩) (fun r s' => r = .ok (.ret (.bool true)) ∧ OldK s₁.heap s'.heap ∧ s'.os = s₁.os ∧ AllBare s'.gens) s₁) :
    WalkO q loose XP YP l.row.toRowW d [] (fun f vs => PySem.call f vs) := by
  intro w s₀ s₁ mg mb G Y fa o pm cd doc dV kV ho hd hcd hD hmg hg args vals as hpre hlay hrd hwl hlo
  obtain rfl : dV = .none := Dflts.none hD hdf
  obtain rfl : kV = .none := Dflts.noKw hD
  obtain ⟨a, vs, ns, rfl, rfl, hobj, hints, hlen⟩ := Att.script_of hn hpre hwl
  refine enter_call (codeAny_mono (call w s₀ s₁ mg mb fa o pm cd doc a vs ns G Y ho (fd_plain hd) hcd hmg hobj hints hlen (bits_of_lay hlay) hg) fun r s' hq => ?_)
  obtain ⟨rfl, h2, h3, h4⟩ := hq
  exact ⟨.inl ⟨.bool true, .bool true, [], rfl, fun _ => rfl, .bool true, Att.post_true l _, fun _ => ⟨List.Pairwise.nil, fun _ hm => (nomatch hm)⟩⟩, h2, h3, h4⟩
theorem walk_ofB {l : PySem.W.OpenLaw} {n k : Nat} {q : Program} {loose : List Str} {XP : (Str → Option Value) → Heap → Prop} {YP : World → Heap → Prop} {d : DefRec} {K : Params → PySem.W.Frag} {CX : World → CXT} {sp : World → Sp} {x : Str}
    (hn : l.most = some n) (hn2 : n ≤ sizeLine) (hdf : d.params.defaults = []) (hr : Room k callerA)
    (hY : ∀ (w : World) (h : Heap), YP w h → (K w.params).In h)
    (F : ∀ (w : World) (mg : Str → Option Value) (fa : Addr) (h : Heap), (K w.params).In h → h.Ns mainGlobals mg → mg d.name = some (.ref fa) →
      ∃ fd : FuncData, (∀ (s : Shared) (u : Value), BindsTo s fd ⟨[u], []⟩ [(x, u)]) ∧
        ∀ base : Heap, (K w.params).In base → base.Ns mainGlobals mg → FnOk l.prog w (K w.params) mg base (CX w) k fa fd [x] (sp w))
    (hsp : ∀ (w : World) (H : Hp) (a : Addr) (ns : List Int), ns.length ≤ n → (∀ x ∈ ns, Builtin.Int.intBits x ≤ 2 ^ 20) → Only H → SqL (K w.params) H a (ns.map V.int) → sp w [.ref a] H (fun v _ => v = .bl true) fun _ _ _ => False)
    (hCX : ∀ (w : World) (H : Hp) (s : Shared) (e : Value) (s' : Shared), CX w [] H s (fun _ _ _ => False) e s' → False) :
    PySem.W.WalkO q loose XP YP l.row.toRowW d [] (fun f vs => PySem.call f vs) := by
  refine attach_callB hn hdf fun w s₀ s₁ mg mb fa o pm cd doc a vs ns G Y ho hd hcd hmg hobj hints hlen hbits hg => ?_
  have KX := hY w _ Y
  obtain ⟨fd, hb, hF⟩ := F w mg fa _ KX G.T.g hmg
  exact law_call KX G.T.g G.T.b G.T.builtins G.T.nolimit hg hobj hints (Nat.le_trans hlen hn2) hr hF hb (fun H hO hS => hsp w H a ns hlen hbits hO hS) fun H e s' => hCX w H s₁ e s'
end L2

set_option maxHeartbeats 4000000
namespace L2
open PySem
/-- a def of the top as it stands there -/
structure At (K : PySem.W.Frag) (x : Str) (st : Stmt) (f : Addr) (fd : FuncData) : Prop where
  nm : PySem.W.nsIn K mainGlobals x = some (some (.ref f))
  fn : Fun K x x st f fd
theorem at_mk {K : PySem.W.Frag} {x : Str} {st : Stmt} {f : Addr} {oc : Value} {od an : Option Addr} {osl : Array (Option Value)} {kV doc pm cdv ct : Value} (a : PySem.W.nsIn K mainGlobals x = some (some (.ref f)))
    (l : K.lookup f = some ⟨oc, od, .func (PySem.W.fnOf x x (defArgs st) (defBody st) (defScope st) .none kV doc pm an cdv ct), osl⟩)
    (c : PySem.W.codeIn K cdv x = true) (k : PySem.W.keepIn K (.ref f) = true) : At K x st f (PySem.W.fnOf x x (defArgs st) (defBody st) (defScope st) .none kV doc pm an cdv ct) := ⟨a, fun_mk l c k⟩
/-- its parameters are bound one by one -/
def BindsAll (x qual : Str) (st : Stmt) (ps : List Str) : Prop := ∀ (kV doc pm : Value) (an : Option Addr) (cdv ct : Value) (us : List Value), us.length = ps.length → bindArgs (PySem.W.fnOf x qual (defArgs st) (defBody st) (defScope st) .none kV doc pm an cdv ct) ⟨us, []⟩ = pure (ps.zip us)
theorem At.kn {P : Program} {w : World} {K : PySem.W.Frag} {h : Heap} {mg : Str → Option Value} {base : Heap} {k : Nat} {x : Str} {ps : List Str} {sp : Sp} {st : Stmt} {f : Addr} {fd : FuncData} (A : At K x st f fd) (X : K.In h) (G : h.Ns mainGlobals mg)
    (F : FnOk P w K mg base (CXE P w) k f fd ps sp) (hb : BindsAll x x st ps) : Kn P w K mg base k x ps sp := ⟨f, fd, F, A.fn.binds hb, A.fn.kp, PySem.W.mg_of X G A.nm⟩
/-- a class of the top, and a method of it -/
structure CAt (K : PySem.W.Frag) (x : Str) (C : Addr) : Prop where
  nm : PySem.W.nsIn K mainGlobals x = some (some (.ref C))
  cl : Cls K C
  mks : PySem.W.makesIn K C = true
  kc : PySem.W.keepIn K (.ref C) = true
theorem cat_mk {K : PySem.W.Frag} {x : Str} {C : Addr} (nm : PySem.W.nsIn K mainGlobals x = some (some (.ref C))) (pg : PySem.W.plainGet K C Str.empty = true) (hd : PySem.W.hasDictIn K C = true) (po : PySem.W.plainOver K C = true)
    (sa : PySem.W.findIn K (.ref C) "__setattr__" = some (some (.builtin "object.__setattr__"))) (mk : PySem.W.makesIn K C = true) (kc : PySem.W.keepIn K (.ref C) = true) : CAt K x C := ⟨nm, ⟨pg, hd, po, sa⟩, mk, kc⟩
structure MAt (K : PySem.W.Frag) (C : Addr) (m qual : Str) (st : Stmt) (f : Addr) (fd : FuncData) : Prop where
  fi : PySem.W.findIn K (.ref C) m = some (some (.ref f))
  isf : PySem.W.isFn K (.ref f) = true
  fn : Fun K m qual st f fd
theorem mat_mk {K : PySem.W.Frag} {C : Addr} {m qual : Str} {st : Stmt} {f : Addr} {oc : Value} {od an : Option Addr} {osl : Array (Option Value)} {kV doc pm cdv ct : Value} (a : PySem.W.findIn K (.ref C) m = some (some (.ref f))) (i : PySem.W.isFn K (.ref f) = true)
    (l : K.lookup f = some ⟨oc, od, .func (PySem.W.fnOf m qual (defArgs st) (defBody st) (defScope st) .none kV doc pm an cdv ct), osl⟩)
    (c : PySem.W.codeIn K cdv qual = true) (k : PySem.W.keepIn K (.ref f) = true) : MAt K C m qual st f (PySem.W.fnOf m qual (defArgs st) (defBody st) (defScope st) .none kV doc pm an cdv ct) := ⟨a, i, fun_mk l c k⟩
theorem MAt.mkn {P : Program} {w : World} {K : PySem.W.Frag} {mg : Str → Option Value} {base : Heap} {k : Nat} {x m qual : Str} {C : Addr} {ps : List Str} {sp : Sp} {st : Stmt} {f : Addr} {fd : FuncData} (A : MAt K C m qual st f fd) (Z : CAt K x C)
    (F : FnOk P w K mg base (CXE P w) k f fd ps sp) (hb : BindsAll m qual st ps) : MKn P w K mg base k C m ps sp := ⟨f, fd, F, A.fn.binds hb, ⟨A.fi, A.isf, A.fn.kp⟩, Z.cl⟩
theorem MAt.ckn {P : Program} {w : World} {K : PySem.W.Frag} {h : Heap} {mg : Str → Option Value} {base : Heap} {k : Nat} {x qual : Str} {C : Addr} {ps : List Str} {sp : Sp} {st : Stmt} {f : Addr} {fd : FuncData} (A : MAt K C "__init__" qual st f fd) (Z : CAt K x C)
    (X : K.In h) (G : h.Ns mainGlobals mg) (F : FnOk P w K mg base (CXE P w) k f fd ps sp) (hb : BindsAll "__init__" qual st ps) : CKn P w K mg base k x C ps sp :=
  ⟨⟨f, fd, F, A.fn.binds hb, ⟨Z.mks, A.fi, A.isf, Z.kc⟩⟩, PySem.W.mg_of X G Z.nm⟩
theorem xcls_mk {K : PySem.W.Frag} {h : Heap} {mg : Str → Option Value} {x : Str} {C : Addr} (X : K.In h) (G : h.Ns mainGlobals mg) (nm : PySem.W.nsIn K mainGlobals x = some (some (.ref C))) (cl : PySem.W.excIn K C veMro "ValueError.__new__" = true) : XCls K mg x C := ⟨PySem.W.mg_of X G nm, cl⟩
end L2

set_option maxHeartbeats 4000000
namespace Eb
/-! ### a ring's beats, counted on and on around it -/
def N (l : List Bool) (k : Nat) : Int := cnt l * ((k / l.length : Nat) : Int) + pre l (k % l.length)
section
variable {l : List Bool}
theorem N_lt (hn : 1 ≤ l.length) (q r : Nat) (hr : r < l.length) : N l (l.length * q + r) = cnt l * q + pre l r := by
  unfold N
  rw [Nat.mul_add_div (by omega), Nat.mul_add_mod, Nat.div_eq_of_lt hr, Nat.mod_eq_of_lt hr, Nat.add_zero]
theorem N_at (hn : 1 ≤ l.length) (q r : Nat) (hr : r ≤ l.length) : N l (l.length * q + r) = cnt l * q + pre l r := by
  by_cases h : r < l.length
  · exact N_lt hn q r h
  · have e : r = l.length := by omega
    subst e
    have := N_lt hn (q + 1) 0 (by omega)
    rw [Nat.mul_add, Nat.mul_one, Nat.add_zero, pre_zero] at this
    rw [this, pre_all, Int.natCast_add, Int.mul_add]
    simp
theorem split (hn : 1 ≤ l.length) (k : Nat) : ∃ q r, k = l.length * q + r ∧ r < l.length :=
  ⟨k / l.length, k % l.length, (Nat.div_add_mod k l.length).symm, Nat.mod_lt _ (by omega)⟩
theorem N_low (hn : 1 ≤ l.length) (k : Nat) (h : k ≤ l.length) : N l k = pre l k := by
  have := N_at hn 0 k h
  simpa using this
theorem N_zero (hn : 1 ≤ l.length) : N l 0 = 0 := by rw [N_low hn 0 (by omega), pre_zero]
theorem N_mul (hn : 1 ≤ l.length) (q k : Nat) : N l (l.length * q + k) = cnt l * q + N l k := by
  obtain ⟨q', r, rfl, hr⟩ := split hn k
  rw [← Nat.add_assoc, ← Nat.mul_add, N_lt hn _ _ hr, N_lt hn _ _ hr, Int.natCast_add, Int.mul_add, Int.add_assoc]
theorem N_round (hn : 1 ≤ l.length) (k : Nat) : N l (k + l.length) = N l k + cnt l := by
  have := N_mul hn 1 k
  rw [Nat.mul_one] at this
  rw [Nat.add_comm, this]; simp; omega
theorem N_succ (hn : 1 ≤ l.length) (k : Nat) (x : Bool) (h : l[k % l.length]? = some x) : N l (k + 1) = N l k + if x then 1 else 0 := by
  obtain ⟨q, r, rfl, hr⟩ := split hn k
  rw [Nat.mul_add_mod, Nat.mod_eq_of_lt hr] at h
  rw [Nat.add_assoc, N_at hn _ _ (by omega), N_at hn _ _ (by omega), pre_succ l r x h]; omega
theorem N_twice (hn : 1 ≤ l.length) (k : Nat) (h : k ≤ l.length + l.length) : N l k = pre (l ++ l) k := by
  by_cases c : k ≤ l.length
  · rw [N_low hn k c]
    unfold pre
    rw [List.take_append_of_le_length c]
  · have := N_at hn 1 (k - l.length) (by omega)
    rw [Nat.mul_one, show l.length + (k - l.length) = k by omega] at this
    rw [this]
    unfold pre
    rw [List.take_append, cnt_append, List.take_of_length_le (show l.length ≤ k by omega)]; simp
theorem N_mono1 (hn : 1 ≤ l.length) (k : Nat) : N l k ≤ N l (k + 1) ∧ N l (k + 1) ≤ N l k + 1 := by
  have hk : k % l.length < l.length := Nat.mod_lt _ (by omega)
  rw [N_succ hn k _ (List.getElem?_eq_getElem hk)]
  split <;> omega
theorem N_mono (hn : 1 ≤ l.length) (k m : Nat) : N l k ≤ N l (k + m) := by
  induction m with
  | zero => exact Int.le_refl _
  | succ m ih => have := (N_mono1 hn (k + m)).1; rw [← Nat.add_assoc]; omega
theorem N_nonneg (hn : 1 ≤ l.length) (k : Nat) : 0 ≤ N l k := by
  have := N_mono hn 0 k
  rw [N_zero hn, Nat.zero_add] at this; exact this
/-- of any two stretches, of any length, the one has at most one beat more -/
def EvAll (l : List Bool) : Prop := ∀ m i j : Nat, N l (i + m) - N l i ≤ N l (j + m) - N l j + 1
def win' (l : List Bool) (m i : Nat) : Int := pre (l ++ l) (i + m) - pre (l ++ l) i
def Ev' (l : List Bool) : Prop := ∀ m i j : Nat, 1 ≤ m → m < l.length → i < l.length → j < l.length → win' l m i ≤ win' l m j + 1
theorem win_N (hn : 1 ≤ l.length) (m i : Nat) (hm : m ≤ l.length) (hi : i ≤ l.length) : win' l m i = N l (i + m) - N l i := by
  unfold win'
  rw [N_twice hn _ (by omega), N_twice hn _ (by omega)]
theorem N_red (hn : 1 ≤ l.length) (m i : Nat) : N l (i + m) - N l i = cnt l * (m / l.length : Nat) + (N l (i % l.length + m % l.length) - N l (i % l.length)) := by
  have hi := Nat.div_add_mod i l.length
  have hm := Nat.div_add_mod m l.length
  have e1 : i + m = l.length * (i / l.length + m / l.length) + (i % l.length + m % l.length) := by rw [Nat.mul_add]; omega
  have h1 := N_mul hn (i / l.length + m / l.length) (i % l.length + m % l.length)
  have h2 := N_mul hn (i / l.length) (i % l.length)
  rw [← e1] at h1
  rw [hi] at h2
  rw [h1, h2, Int.natCast_add, Int.mul_add]; omega
theorem ev_all (hn : 1 ≤ l.length) : Ev' l ↔ EvAll l := by
  constructor
  · intro h m i j
    have hr : m % l.length < l.length := Nat.mod_lt _ (by omega)
    have hi : i % l.length < l.length := Nat.mod_lt _ (by omega)
    have hj : j % l.length < l.length := Nat.mod_lt _ (by omega)
    rw [N_red hn m i, N_red hn m j]
    by_cases c : m % l.length = 0
    · rw [c]; simp; omega
    · have := h (m % l.length) (i % l.length) (j % l.length) (by omega) hr hi hj
      rw [win_N hn _ _ (by omega) (by omega), win_N hn _ _ (by omega) (by omega)] at this
      omega
  · intro h m i j h1 h2 h3 h4
    rw [win_N hn _ _ (by omega) (by omega), win_N hn _ _ (by omega) (by omega)]
    exact h m i j
end

/-! ### rows reckoned by any shift: their beats by a quotient -/
def F (b p s : Int) (k : Nat) : Int := (s + (k : Int) * b + (p - b)) / p
theorem F_succ {b p : Int} (s : Int) (hp : 0 < p) (h0 : 0 ≤ b) (h1 : b ≤ p) (k : Nat) : F b p s (k + 1) = F b p s k + if (s + (k : Int) * b) % p < b then 1 else 0 := by
  unfold F
  rw [← T_step hp h0 h1]
  congr 1
  rw [Int.natCast_add, Int.add_mul]; simp; omega
theorem pre_reck {b p : Int} (s : Int) (hp : 0 < p) (h0 : 0 ≤ b) (h1 : b ≤ p) (n : Nat) : ∀ k, k ≤ n → pre (reck b p s n) k = F b p s k - F b p s 0
  | 0, _ => by rw [pre_zero]; omega
  | k + 1, h => by
    rw [pre_succ _ k _ (reck_get b p s n k h), pre_reck s hp h0 h1 n k (by omega), F_succ s hp h0 h1]
    by_cases c : (s + (k : Int) * b) % p < b
    · simp [c]; omega
    · simp [c]
theorem F_window {b p : Int} (s : Int) (hp : 0 < p) (a m : Nat) :
    ((m : Int) * b) / p ≤ F b p s (a + m) - F b p s a ∧ F b p s (a + m) - F b p s a ≤ ((m : Int) * b) / p + 1 := by
  unfold F
  have e0 : s + ((a + m : Nat) : Int) * b + (p - b) = (s + (a : Int) * b + (p - b)) + (m : Int) * b := by rw [Int.natCast_add, Int.add_mul]; omega
  rw [e0]
  generalize s + (a : Int) * b + (p - b) = A
  generalize (m : Int) * b = D
  have eA := Int.mul_ediv_add_emod A p
  have rA0 := Int.emod_nonneg A (by omega : p ≠ 0)
  have rA1 := Int.emod_lt_of_pos A hp
  have eD := Int.mul_ediv_add_emod D p
  have rD0 := Int.emod_nonneg D (by omega : p ≠ 0)
  have rD1 := Int.emod_lt_of_pos D hp
  generalize A % p = ra at *
  generalize D % p = rd at *
  generalize A / p = qa at *
  generalize D / p = qd at *
  by_cases c : ra + rd < p
  · have : A + D = p * (qa + qd) + (ra + rd) := by rw [Int.mul_add]; omega
    rw [this, ediv_unique (by omega) c]; omega
  · have : A + D = p * (qa + qd + 1) + (ra + rd - p) := by rw [Int.mul_add, Int.mul_add]; omega
    rw [this, ediv_unique (by omega) (by omega)]; omega
theorem F_round {b p : Int} (s : Int) (hp : 0 < p) (k n : Nat) (hn : (n : Int) = p) : F b p s (k + n) = F b p s k + b := by
  unfold F
  have : s + ((k + n : Nat) : Int) * b + (p - b) = (s + (k : Int) * b + (p - b)) + b * p := by
    rw [Int.natCast_add, Int.add_mul, hn, Int.mul_comm p b]; omega
  rw [this, Int.add_mul_ediv_right _ _ (by omega)]
/-- the beats of a stretch of a reckoned row -/
theorem reck_stretch {b p : Int} (s : Int) (hp : 0 < p) (h0 : 0 ≤ b) (h1 : b ≤ p) (n m i : Nat) (h : i + m ≤ n) :
    ((m : Int) * b) / p ≤ pre (reck b p s n) (i + m) - pre (reck b p s n) i ∧ pre (reck b p s n) (i + m) - pre (reck b p s n) i ≤ ((m : Int) * b) / p + 1 := by
  rw [pre_reck s hp h0 h1 n _ (by omega), pre_reck s hp h0 h1 n _ (by omega)]
  have := F_window (b := b) s hp i m
  omega
theorem cnt_reck {b p : Int} (s : Int) (hp : 0 < p) (h0 : 0 ≤ b) (h1 : b ≤ p) (n : Nat) (hn : (n : Int) = p) : cnt (reck b p s n) = b := by
  have h := pre_reck s hp h0 h1 n n (Nat.le_refl _)
  have e := pre_all (reck b p s n)
  rw [reck_length] at e
  have r := F_round (b := b) s hp 0 n hn
  rw [Nat.zero_add] at r
  omega
theorem N_reck {b p : Int} (s : Int) (hp : 0 < p) (h0 : 0 ≤ b) (h1 : b ≤ p) (n : Nat) (hn : (n : Int) = p) (k : Nat) : N (reck b p s n) k = F b p s k - F b p s 0 := by
  have hl : 1 ≤ (reck b p s n).length := by rw [reck_length]; omega
  obtain ⟨q, r, e, hr⟩ := split hl k
  rw [e, N_lt hl _ _ hr, cnt_reck s hp h0 h1 n hn]
  rw [reck_length] at hr ⊢
  rw [pre_reck s hp h0 h1 n r (by omega)]
  have : ∀ q : Nat, F b p s (n * q + r) = b * q + F b p s r := by
    intro q
    induction q with
    | zero => simp
    | succ q ih =>
      have e : n * (q + 1) + r = n * q + r + n := by rw [Nat.mul_add]; omega
      rw [e, F_round s hp _ n hn, ih, Int.natCast_add, Int.mul_add]; simp; omega
  rw [this]; omega
/-- a ring reckoned by its beats and places is even -/
theorem reck_evAll {b p : Int} (s : Int) (hp : 0 < p) (h0 : 0 ≤ b) (h1 : b ≤ p) (n : Nat) (hn : (n : Int) = p) : EvAll (reck b p s n) := by
  intro m i j
  rw [N_reck s hp h0 h1 n hn, N_reck s hp h0 h1 n hn, N_reck s hp h0 h1 n hn, N_reck s hp h0 h1 n hn]
  have w1 := F_window (b := b) s hp i m
  have w2 := F_window (b := b) s hp j m
  omega
end Eb

set_option maxHeartbeats 4000000
namespace Eb
/-! ### an even ring is reckoned by a turn -/
def sumTo (g : Nat → Int) : Nat → Int
  | 0 => 0
  | n + 1 => sumTo g n + g n
theorem sumTo_ge {g : Nat → Int} {c : Int} : ∀ {n : Nat}, (∀ j, j < n → c ≤ g j) → (n : Int) * c ≤ sumTo g n
  | 0, _ => by simp [sumTo]
  | n + 1, h => by
    have h1 := sumTo_ge (n := n) fun j hj => h j (by omega)
    have h2 := h n (by omega)
    rw [sumTo, Int.natCast_add, Int.add_mul]; simp; omega
theorem sumTo_gt {g : Nat → Int} {c : Int} {j0 : Nat} : ∀ {n : Nat}, (∀ j, j < n → c ≤ g j) → j0 < n → c + 1 ≤ g j0 → (n : Int) * c + 1 ≤ sumTo g n
  | 0, _, hj, _ => by omega
  | n + 1, h, hj, h1 => by
    have h2 := h n (by omega)
    rw [sumTo, Int.natCast_add, Int.add_mul]
    by_cases c' : j0 = n
    · subst c'
      have := sumTo_ge (n := j0) fun j hj => h j (by omega)
      simp; omega
    · have := sumTo_gt (n := n) (fun j hj => h j (by omega)) (by omega) h1
      simp; omega
theorem sumTo_neg (g : Nat → Int) : ∀ n, sumTo (fun j => - g j) n = - sumTo g n
  | 0 => rfl
  | n + 1 => by rw [sumTo, sumTo, sumTo_neg g n]; omega
theorem sumTo_sub (f g : Nat → Int) : ∀ n, sumTo (fun j => f j - g j) n = sumTo f n - sumTo g n
  | 0 => rfl
  | n + 1 => by rw [sumTo, sumTo, sumTo, sumTo_sub f g n]; omega
theorem sumTo_lt {g : Nat → Int} {c : Int} {j0 n : Nat} (h : ∀ j, j < n → g j ≤ c) (hj : j0 < n) (h1 : g j0 ≤ c - 1) : sumTo g n ≤ (n : Int) * c - 1 := by
  have := sumTo_gt (g := fun j => - g j) (c := -c) (n := n) (j0 := j0) (fun j hj => by have := h j hj; omega) hj (by omega)
  rw [sumTo_neg, Int.mul_neg] at this; omega
theorem sumTo_step (h : Nat → Int) : ∀ n, sumTo (fun i => h (i + 1)) n = sumTo h n + h n - h 0
  | 0 => by simp [sumTo]
  | n + 1 => by rw [sumTo, sumTo, sumTo_step h n]; omega
theorem sumTo_shift {g : Nat → Int} {n : Nat} {b : Int} (hg : ∀ k, g (k + n) = g k + b) : ∀ m : Nat, sumTo (fun i => g (i + m)) n = sumTo g n + m * b
  | 0 => by simp
  | m + 1 => by
    have e : sumTo (fun i => g (i + (m + 1))) n = sumTo (fun i => (fun j => g (j + m)) (i + 1)) n := by
      congr 1; funext i; congr 1; omega
    rw [e, sumTo_step (fun j => g (j + m)), sumTo_shift hg m, Nat.zero_add, Nat.add_comm n m, hg m, Int.natCast_add, Int.add_mul]; simp; omega
theorem exists_max (h : Nat → Int) : ∀ n : Nat, 1 ≤ n → ∃ k, k < n ∧ ∀ j, j < n → h j ≤ h k
  | 0, hn => by omega
  | 1, _ => ⟨0, by omega, fun j hj => by have : j = 0 := by omega
                                         subst this; exact Int.le_refl _⟩
  | n + 2, _ => by
    obtain ⟨k, hk, hm⟩ := exists_max h (n + 1) (by omega)
    by_cases c : h k ≤ h (n + 1)
    · refine ⟨n + 1, by omega, fun j hj => ?_⟩
      by_cases e : j = n + 1
      · subst e; exact Int.le_refl _
      · have := hm j (by omega); omega
    · refine ⟨k, by omega, fun j hj => ?_⟩
      by_cases e : j = n + 1
      · subst e; omega
      · exact hm j (by omega)
section
variable {l : List Bool}
theorem slope (hn : 1 ≤ l.length) (h : EvAll l) (i m : Nat) :
    (l.length : Int) * (N l (i + m) - N l i) < m * cnt l + l.length ∧ m * cnt l - l.length < (l.length : Int) * (N l (i + m) - N l i) := by
  have hs : sumTo (fun j => N l (j + m) - N l j) l.length = m * cnt l := by
    rw [sumTo_sub, sumTo_shift (fun k => N_round hn k)]; omega
  have hi : i % l.length < l.length := Nat.mod_lt _ (by omega)
  have e : N l (i % l.length + m) - N l (i % l.length) = N l (i + m) - N l i := by
    rw [N_red hn m i, N_red hn m (i % l.length), Nat.mod_mod]
  generalize hW : N l (i + m) - N l i = W at e ⊢
  constructor
  · have := sumTo_gt (g := fun j => N l (j + m) - N l j) (c := W - 1) (n := l.length) (j0 := i % l.length) (fun j _ => by have := h m i j; omega) hi (by omega)
    rw [hs, Int.mul_sub] at this
    simp at this; omega
  · have := sumTo_lt (g := fun j => N l (j + m) - N l j) (c := W + 1) (n := l.length) (j0 := i % l.length) (fun j _ => by have := h m j i; omega) hi (by omega)
    rw [hs, Int.mul_add] at this
    simp at this; omega
/-- a row whose beats are counted by a quotient is reckoned -/
theorem reck_of_quot {b p M : Int} (hp : 0 < p) (h0 : 0 ≤ b) (h1 : b ≤ p) (h : ∀ k : Nat, k ≤ l.length → p * pre l k ≤ M + b * k ∧ M + b * k < p * pre l k + p) : reck b p (M + b) l.length = l := by
  have hq : ∀ k : Nat, k ≤ l.length → (M + b * k) / p = pre l k := fun k hk => by
    have := h k hk
    have e : M + b * k = p * pre l k + (M + b * k - p * pre l k) := by omega
    rw [e, ediv_unique (by omega) (by omega)]
  apply List.ext_getElem?
  intro k
  by_cases hk : k < l.length
  · rw [reck_get _ _ _ _ _ hk, List.getElem?_eq_getElem hk]
    congr 1
    have s1 := pre_succ l k _ (List.getElem?_eq_getElem hk)
    rw [← hq k (by omega), ← hq (k + 1) (by omega)] at s1
    have t := T_step (x := M + b + b * k - p) hp h0 h1
    have e1 : M + b + b * k - p + p = M + b * ((k + 1 : Nat) : Int) := by rw [Int.natCast_add, Int.mul_add]; simp; omega
    have e2 : M + b + b * k - p + (p - b) = M + b * k := by omega
    have e3 : (M + b + b * k - p) % p = (M + b + k * b) % p := by rw [Int.sub_emod_right, Int.mul_comm]
    rw [e1, e2, e3] at t
    rw [t] at s1
    by_cases c : (M + b + k * b) % p < b
    · rw [if_pos c] at s1
      cases hx : l[k] with
      | true => simp [c]
      | false => rw [hx] at s1; simp at s1; omega
    · rw [if_neg c] at s1
      cases hx : l[k] with
      | false => simp [c]
      | true => rw [hx] at s1; simp at s1; omega
  · rw [List.getElem?_eq_none (by rw [reck_length]; omega), List.getElem?_eq_none (by omega)]
theorem reck_congr {b p s s' : Int} (n : Nat) (h : s % p = s' % p) : reck b p s n = reck b p s' n := by rw [← reck_mod, h, reck_mod]
/-- an even ring is the ring that is laid, begun at some place -/
theorem even_turn (hn : 1 ≤ l.length) (h : EvAll l) : ∃ t : Nat, t < l.length ∧ reck (cnt l) l.length (t * cnt l) l.length = l := by
  obtain ⟨k0, hk0, hM⟩ := exists_max (fun k => (l.length : Int) * N l k - cnt l * k) l.length hn
  have hc0 := cnt_nonneg l
  have hc1 := cnt_le l
  have key : ∀ k : Nat, k ≤ l.length → (l.length : Int) * pre l k ≤ ((l.length : Int) * N l k0 - cnt l * k0) + cnt l * k ∧ ((l.length : Int) * N l k0 - cnt l * k0) + cnt l * k < (l.length : Int) * pre l k + l.length := fun k hk => by
    rw [← N_low hn k hk]
    constructor
    · by_cases c : k = l.length
      · subst c
        have h0 := hM 0 (by omega)
        have hr := N_round hn 0
        rw [Nat.zero_add] at hr
        rw [N_zero hn] at h0 hr
        rw [hr, Int.zero_add, Int.mul_comm (cnt l) (l.length : Int)]
        simp at h0
        omega
      · have := hM k (by omega)
        omega
    · by_cases c : k ≤ k0
      · have := (slope hn h k (k0 - k)).1
        rw [show k + (k0 - k) = k0 by omega, Int.mul_sub, Int.ofNat_sub c, Int.sub_mul, Int.mul_comm (k0 : Int), Int.mul_comm (k : Int)] at this
        omega
      · have := (slope hn h k0 (k - k0)).2
        rw [show k0 + (k - k0) = k by omega, Int.mul_sub, Int.ofNat_sub (by omega), Int.sub_mul, Int.mul_comm (k0 : Int), Int.mul_comm (k : Int)] at this
        omega
  have hr := reck_of_quot (l := l) (b := cnt l) (p := l.length) (by omega) hc0 hc1 key
  refine ⟨(l.length + 1 - k0) % l.length, Nat.mod_lt _ (by omega), ?_⟩
  rw [← hr, reck_length]
  have hd := Nat.div_add_mod (l.length + 1 - k0) l.length
  have ht : (((l.length + 1 - k0) % l.length : Nat) : Int) = l.length + 1 - k0 - l.length * ((l.length + 1 - k0) / l.length : Nat) := by
    have : ((l.length * ((l.length + 1 - k0) / l.length) : Nat) : Int) = (l.length : Int) * ((l.length + 1 - k0) / l.length : Nat) := Int.natCast_mul _ _
    omega
  rw [hr]
  generalize (((l.length + 1 - k0) / l.length : Nat) : Int) = q at ht
  refine (reck_congr (s := _) (s' := (l.length : Int) * N l k0 - cnt l * k0 + cnt l) l.length ?_).trans hr
  rw [ht]
  have e : ((l.length : Int) + 1 - k0 - l.length * q) * cnt l = ((l.length : Int) * N l k0 - cnt l * k0 + cnt l) + (l.length : Int) * (cnt l - q * cnt l - N l k0) := by
    rw [Int.mul_sub, Int.mul_sub, Int.sub_mul, Int.sub_mul, Int.add_mul, Int.one_mul, Int.mul_assoc, Int.mul_comm (k0 : Int)]; omega
  rw [e, Int.add_mul_emod_self_left]
end
end Eb

set_option maxHeartbeats 4000000
namespace Eb
/-! ### places of the beats: S i is where the i-th beat stands, C x the beats ahead of x -/
structure Gal (C S : Nat → Nat) : Prop where
  gal : ∀ x i, C x ≤ i ↔ x ≤ S i
  mono : ∀ x y, x ≤ y → C x ≤ C y
theorem Gal.at (g : Gal C S) (i : Nat) : C (S i) ≤ i := (g.gal _ _).mpr (Nat.le_refl _)
theorem Gal.past (g : Gal C S) (i : Nat) : i + 1 ≤ C (S i + 1) := by
  have : ¬ C (S i + 1) ≤ i := fun h => by have := (g.gal _ _).mp h; omega
  omega
theorem Gal.smono (g : Gal C S) (i k : Nat) : S i ≤ S (i + k) := by
  have h := g.at i
  exact (g.gal _ _).mp (by omega)
theorem Gal.strict (g : Gal C S) (hS : ∀ i, C (S i) = i) (i : Nat) : S i < S (i + 1) := by
  have h1 := g.smono i 1
  have h2 := hS i
  have h3 := hS (i + 1)
  by_cases c : S i = S (i + 1)
  · rw [← c] at h3; omega
  · omega
/-- of any stretches of as many gaps the one is at most one place longer -/
def EvG (S : Nat → Nat) : Prop := ∀ k i j : Nat, S (i + k) + S j ≤ S (j + k) + S i + 1
def EvC (C : Nat → Nat) : Prop := ∀ m i j : Nat, C (i + m) + C j ≤ C (j + m) + C i + 1
theorem evG_of_evC {C S : Nat → Nat} (g : Gal C S) (h : EvC C) : EvG S := by
  intro k i j
  apply Classical.byContradiction
  intro hc
  have m1 := g.smono i k
  have m2 := g.smono j k
  -- S (i + k) - S i ≥ S (j + k) - S j + 2
  have h1 := h (S (j + k) - S j + 1) (S j) (S i + 1)
  rw [show S j + (S (j + k) - S j + 1) = S (j + k) + 1 by omega] at h1
  have a1 := g.past (j + k)
  have a2 := g.at j
  have a3 := g.past i
  have a4 := g.mono (S i + 1 + (S (j + k) - S j + 1)) (S (i + k)) (by omega)
  have a5 := g.at (i + k)
  omega
theorem evC_of_evG {C S : Nat → Nat} {n b : Nat} (g : Gal C S) (hr : ∀ x, C (x + n) = C x + b) (hb : 1 ≤ b) (h : EvG S) : EvC C := by
  -- it is enough where there is a beat ahead of j
  have main : ∀ m i j : Nat, 1 ≤ C j → C (i + m) + C j ≤ C (j + m) + C i + 1 := by
    intro m i j hj
    apply Classical.byContradiction
    intro hc
    have m1 := g.mono j (j + m) (by omega)
    have b1 : i ≤ S (C i) := (g.gal _ _).mp (Nat.le_refl _)
    have b2 : j + m ≤ S (C (j + m)) := (g.gal _ _).mp (Nat.le_refl _)
    have b3 : S (C j - 1) < j := by
      have : ¬ j ≤ S (C j - 1) := fun z => by have := (g.gal _ _).mpr z; omega
      omega
    have b4 : S (C i + (C (j + m) - C j + 1)) < i + m := by
      have : ¬ i + m ≤ S (C i + (C (j + m) - C j + 1)) := fun z => by have := (g.gal _ _).mpr z; omega
      omega
    have := h (C (j + m) - C j + 1) (C j - 1) (C i)
    rw [show C j - 1 + (C (j + m) - C j + 1) = C (j + m) by omega] at this
    omega
  intro m i j
  have h1 := main m i (j + n) (by rw [hr]; omega)
  rw [show j + n + m = j + m + n by omega, hr, hr] at h1
  omega

/-! ### rows: stretches of unlike lengths -/
def EvRow (l : List Bool) : Prop := ∀ m i j : Nat, i + m ≤ l.length → j + m ≤ l.length → pre l (i + m) - pre l i ≤ pre l (j + m) - pre l j + 1
theorem lothaire {l : List Bool} (h : EvRow l) : ∀ (z m q i j : Nat), m + q ≤ z → 1 ≤ m → 1 ≤ q → i + m ≤ l.length → j + q ≤ l.length →
    (q : Int) * (pre l (i + m) - pre l i) - m * (pre l (j + q) - pre l j) ≤ m + q - 1
  | 0, m, q, i, j, hz, hm, hq, _, _ => by omega
  | z + 1, m, q, i, j, hz, hm, hq, hi, hj => by
    by_cases c1 : m = q
    · subst c1
      have := h m i j hi hj
      have e : (m : Int) * (pre l (i + m) - pre l i) - m * (pre l (j + m) - pre l j) = m * (pre l (i + m) - pre l i - (pre l (j + m) - pre l j)) := by rw [← Int.mul_sub]
      have : (m : Int) * (pre l (i + m) - pre l i - (pre l (j + m) - pre l j)) ≤ m * 1 := Int.mul_le_mul_of_nonneg_left (by omega) (by omega)
      omega
    · by_cases c2 : q < m
      · -- the first stretch: one of q places, then the others
        have ih := lothaire h z (m - q) q (i + q) j (by omega) (by omega) hq (by omega) hj
        rw [show i + q + (m - q) = i + m by omega, Int.ofNat_sub (by omega)] at ih
        have b := h q i j (by omega) hj
        have b' : (q : Int) * (pre l (i + q) - pre l i - (pre l (j + q) - pre l j)) ≤ q * 1 := Int.mul_le_mul_of_nonneg_left (by omega) (by omega)
        rw [Int.mul_sub] at b'
        generalize pre l (i + m) = A at *
        generalize pre l (i + q) = B at *
        generalize pre l i = D at *
        generalize pre l (j + q) - pre l j = G at *
        rw [Int.sub_mul] at ih
        have e1 : (q : Int) * (A - D) = q * (A - B) + q * (B - D) := by rw [← Int.mul_add]; congr 1; omega
        omega
      · have ih := lothaire h z m (q - m) i (j + m) (by omega) hm (by omega) hi (by omega)
        rw [show j + m + (q - m) = j + q by omega, Int.ofNat_sub (by omega)] at ih
        have b := h m i j hi (by omega)
        have b' : (m : Int) * (pre l (i + m) - pre l i - (pre l (j + m) - pre l j)) ≤ m * 1 := Int.mul_le_mul_of_nonneg_left (by omega) (by omega)
        rw [Int.mul_sub] at b'
        generalize pre l (j + q) = A at *
        generalize pre l (j + m) = B at *
        generalize pre l j = D at *
        generalize pre l (i + m) - pre l i = G at *
        rw [Int.sub_mul] at ih
        have e1 : (m : Int) * (A - D) = m * (A - B) + m * (B - D) := by rw [← Int.mul_add]; congr 1; omega
        omega
/-- numbers b, p between all the bounds of the slope reckon the row -/
theorem row_of_slope {l : List Bool} {b p : Int} (hp : 0 < p) (h0 : 0 ≤ b) (h1 : b ≤ p)
    (h : ∀ i m : Nat, 1 ≤ m → i + m ≤ l.length → p * (pre l (i + m) - pre l i) < b * m + p ∧ b * m < p * (pre l (i + m) - pre l i) + p) : ∃ s : Int, reck b p s l.length = l := by
  obtain ⟨k0, hk0, hM⟩ := exists_max (fun k => p * pre l k - b * k) (l.length + 1) (by omega)
  refine ⟨p * pre l k0 - b * k0 + b, reck_of_quot hp h0 h1 fun k hk => ?_⟩
  have := hM k (by omega)
  refine ⟨by omega, ?_⟩
  by_cases c : k < k0
  · have := (h k (k0 - k) (by omega) (by omega)).1
    rw [show k + (k0 - k) = k0 by omega, Int.mul_sub, Int.ofNat_sub (by omega), Int.mul_sub] at this
    omega
  · by_cases c' : k = k0
    · subst c'; omega
    · have := (h k0 (k - k0) (by omega) (by omega)).2
      rw [show k0 + (k - k0) = k by omega, Int.mul_sub, Int.ofNat_sub (by omega), Int.mul_sub] at this
      omega
theorem pre_step {l : List Bool} (k : Nat) (h : k < l.length) : pre l k ≤ pre l (k + 1) ∧ pre l (k + 1) ≤ pre l k + 1 := by
  rw [pre_succ l k _ (List.getElem?_eq_getElem h)]
  split <;> omega
theorem pre_within {l : List Bool} (i m : Nat) (h : i + m ≤ l.length) : 0 ≤ pre l (i + m) - pre l i ∧ pre l (i + m) - pre l i ≤ m := by
  induction m with
  | zero => simp
  | succ m ih =>
    have h1 := ih (by omega)
    have h2 := pre_step (i + m) (show i + m < l.length by omega)
    rw [← Nat.add_assoc]; omega
/-- the fraction between two stretches, the one of the greatest least slope, the other of the least greatest one -/
theorem row_mediant {l : List Bool} (hl : EvRow l) {i m j q : Nat} (hm : 1 ≤ m) (hq : 1 ≤ q) (hi : i + m ≤ l.length) (hj : j + q ≤ l.length)
    (lo : ∀ k z : Nat, 1 ≤ z → k + z ≤ l.length → (m : Int) * (pre l (k + z) - pre l k - 1) ≤ z * (pre l (i + m) - pre l i - 1))
    (hi' : ∀ k z : Nat, 1 ≤ z → k + z ≤ l.length → (z : Int) * (pre l (j + q) - pre l j + 1) ≤ q * (pre l (k + z) - pre l k + 1)) :
    ∃ s : Int, reck (pre l (i + m) - pre l i + (pre l (j + q) - pre l j)) (m + q) s l.length = l := by
  have w1 := pre_within i m hi
  have w2 := pre_within j q hj
  refine row_of_slope (by omega) (by omega) (by omega) fun k z hz hk => ?_
  have a1 := lo k z hz hk
  have a2 := hi' k z hz hk
  have l1 := lothaire hl _ z q k j (Nat.le_refl _) hz hq hk hj
  have l2 := lothaire hl _ m z i k (Nat.le_refl _) hm hz hi hk
  generalize pre l (k + z) - pre l k = x at *
  generalize pre l (i + m) - pre l i = u at *
  generalize pre l (j + q) - pre l j = v at *
  rw [Int.mul_sub, Int.mul_sub] at a1
  rw [Int.mul_add, Int.mul_add] at a2
  rw [Int.add_mul, Int.add_mul, Int.mul_comm u, Int.mul_comm v]
  omega
end Eb

set_option maxHeartbeats 4000000
namespace Eb
/-! ### every even row is reckoned by three numbers -/
/-- in a list that isn't empty some member is the best one -/
theorem exists_best {α : Type} (R : α → α → Prop) (p : α → Prop) (tot : ∀ a b, p a → p b → R a b ∨ R b a) (tr : ∀ a b c, p a → p b → p c → R a b → R b c → R a c) : ∀ (L : List α), (∀ a ∈ L, p a) → L ≠ [] → ∃ a, a ∈ L ∧ ∀ b, b ∈ L → R b a
  | [], _, h => absurd rfl h
  | [x], hp, _ => ⟨x, by simp, fun b hb => by
      have : b = x := by simpa using hb
      subst this
      exact (tot b b (hp b (by simp)) (hp b (by simp))).elim id id⟩
  | x :: y :: r, hp, _ => by
    obtain ⟨a, ha, h⟩ := exists_best R p tot tr (y :: r) (fun z hz => hp z (List.mem_cons_of_mem _ hz)) (by simp)
    have pa := hp a (List.mem_cons_of_mem _ ha)
    have px := hp x (by simp)
    rcases tot x a px pa with c | c
    · refine ⟨a, List.mem_cons_of_mem _ ha, fun b hb => ?_⟩
      rcases List.mem_cons.mp hb with e | hb'
      · subst e; exact c
      · exact h b hb'
    · refine ⟨x, by simp, fun b hb => ?_⟩
      rcases List.mem_cons.mp hb with e | hb'
      · subst e; exact (tot b b px px).elim id id
      · exact tr b a x (hp b hb) pa px (h b hb') c
/-- the stretches of a row of n places: where it begins, how long -/
def stretches (n : Nat) : List (Nat × Nat) := (List.range n).flatMap fun i => (List.range (n - i)).map fun m => (i, m + 1)
theorem mem_stretches {n i m : Nat} : (i, m) ∈ stretches n ↔ 1 ≤ m ∧ i + m ≤ n := by
  unfold stretches
  rw [List.mem_flatMap]
  constructor
  · rintro ⟨k, hk, h⟩
    rw [List.mem_map] at h
    obtain ⟨z, hz, e⟩ := h
    have hk' := List.mem_range.mp hk
    have hz' := List.mem_range.mp hz
    cases e
    omega
  · rintro ⟨h1, h2⟩
    refine ⟨i, List.mem_range.mpr (by omega), List.mem_map.mpr ⟨m - 1, List.mem_range.mpr (by omega), ?_⟩⟩
    rw [Nat.sub_add_cancel h1]
theorem frac_trans {a b c x y z : Int} (hx : 0 < x) (hy : 0 < y) (hz : 0 < z) (h1 : y * a ≤ x * b) (h2 : z * b ≤ y * c) : z * a ≤ x * c := by
  have s1 : z * (y * a) ≤ z * (x * b) := Int.mul_le_mul_of_nonneg_left h1 (by omega)
  have s2 : x * (z * b) ≤ x * (y * c) := Int.mul_le_mul_of_nonneg_left h2 (by omega)
  have e1 : z * (x * b) = x * (z * b) := by rw [← Int.mul_assoc, ← Int.mul_assoc, Int.mul_comm z x]
  have e2 : z * (y * a) = y * (z * a) := by rw [← Int.mul_assoc, ← Int.mul_assoc, Int.mul_comm z y]
  have e3 : x * (y * c) = y * (x * c) := by rw [← Int.mul_assoc, ← Int.mul_assoc, Int.mul_comm x y]
  have : y * (z * a) ≤ y * (x * c) := by omega
  exact Int.le_of_mul_le_mul_left this hy
theorem even_row {l : List Bool} (h : EvRow l) : ∃ b p s : Int, 1 ≤ p ∧ 0 ≤ b ∧ b ≤ p ∧ p ≤ 2 * l.length + 1 ∧ reck b p s l.length = l := by
  by_cases h0 : l.length = 0
  · have : l = [] := List.eq_nil_of_length_eq_zero h0
    subst this
    exact ⟨0, 1, 0, by omega, by omega, by omega, by simp, rfl⟩
  · have hne : stretches l.length ≠ [] := fun z => by
      have : (0, 1) ∈ stretches l.length := mem_stretches.mpr ⟨by omega, by omega⟩
      rw [z] at this; cases this
    have hp : ∀ a ∈ stretches l.length, 1 ≤ a.2 := fun a ha => (mem_stretches.mp ha).1
    -- y is no more than x: the least slopes
    obtain ⟨⟨i, m⟩, hm, lo⟩ := exists_best (fun (y x : Nat × Nat) => (x.2 : Int) * (pre l (y.1 + y.2) - pre l y.1 - 1) ≤ y.2 * (pre l (x.1 + x.2) - pre l x.1 - 1)) (fun a => 1 ≤ a.2)
      (fun a b _ _ => by
        generalize (b.2 : Int) * (pre l (a.1 + a.2) - pre l a.1 - 1) = A
        generalize (a.2 : Int) * (pre l (b.1 + b.2) - pre l b.1 - 1) = B
        omega)
      (fun a b c ha hb hc h1 h2 => frac_trans (by omega) (by omega) (by omega) h1 h2) (stretches l.length) hp hne
    obtain ⟨⟨j, q⟩, hq, hi⟩ := exists_best (fun (y x : Nat × Nat) => (y.2 : Int) * (pre l (x.1 + x.2) - pre l x.1 + 1) ≤ x.2 * (pre l (y.1 + y.2) - pre l y.1 + 1)) (fun a => 1 ≤ a.2)
      (fun a b _ _ => by
        generalize (a.2 : Int) * (pre l (b.1 + b.2) - pre l b.1 + 1) = A
        generalize (b.2 : Int) * (pre l (a.1 + a.2) - pre l a.1 + 1) = B
        omega)
      (fun a b c ha hb hc h1 h2 => frac_trans (x := c.2) (y := b.2) (z := a.2) (by omega) (by omega) (by omega) h2 h1) (stretches l.length) hp hne
    obtain ⟨hm1, hm2⟩ := mem_stretches.mp hm
    obtain ⟨hq1, hq2⟩ := mem_stretches.mp hq
    obtain ⟨s, hs⟩ := row_mediant h hm1 hq1 hm2 hq2 (fun k z hz hk => lo (k, z) (mem_stretches.mpr ⟨hz, hk⟩)) (fun k z hz hk => hi (k, z) (mem_stretches.mpr ⟨hz, hk⟩))
    have w1 := pre_within i m hm2
    have w2 := pre_within j q hq2
    exact ⟨_, _, s, by omega, by omega, by omega, by omega, hs⟩
/-- a reckoned row is even -/
theorem reck_evRow {b p : Int} (s : Int) (hp : 1 ≤ p) (h0 : 0 ≤ b) (h1 : b ≤ p) (n : Nat) : EvRow (reck b p s n) := by
  intro m i j hi hj
  rw [reck_length] at hi hj
  have w1 := reck_stretch s (by omega) h0 h1 n m i hi
  have w2 := reck_stretch s (by omega) h0 h1 n m j hj
  omega
end Eb

set_option maxHeartbeats 4000000
namespace Eb
/-! ### a ring by its gaps -/
/-- a beat and rests for each gap -/
def blocks : List Nat → List Bool
  | [] => []
  | g :: r => true :: (List.replicate (g - 1) false ++ blocks r)
def psum : List Nat → Nat → Nat
  | _, 0 => 0
  | [], _ + 1 => 0
  | g :: r, k + 1 => g + psum r k
/-- the gaps behind a beat: c places have been since -/
def gp : Nat → List Bool → List Nat
  | c, [] => [c]
  | c, true :: t => c :: gp 1 t
  | c, false :: t => gp (c + 1) t
theorem gp_blocks : ∀ (t : List Bool) (c : Nat), blocks (gp (c + 1) t) = true :: (List.replicate c false ++ t)
  | [], c => by simp [gp, blocks]
  | true :: t, c => by
    have := gp_blocks t 0
    simp only [gp, blocks, Nat.zero_add] at this ⊢
    rw [this]; simp
  | false :: t, c => by
    rw [gp, gp_blocks t (c + 1)]
    simp [List.replicate_succ', List.append_assoc]
theorem gp_pos : ∀ (t : List Bool) (c : Nat), ∀ g ∈ gp (c + 1) t, 1 ≤ g
  | [], c => by simp [gp]
  | true :: t, c => by
    intro g hg
    rw [gp, List.mem_cons] at hg
    rcases hg with rfl | hg
    · omega
    · exact gp_pos t 0 g hg
  | false :: t, c => fun g hg => gp_pos t (c + 1) g hg
theorem gp_ne (t : List Bool) (c : Nat) : gp c t ≠ [] := by
  induction t generalizing c with
  | nil => simp [gp]
  | cons b t ih => cases b <;> simp [gp, ih]
theorem cnt_replicate (k : Nat) : cnt (List.replicate k false) = 0 := by
  induction k with
  | zero => rfl
  | succ k ih => rw [List.replicate_succ, cnt_cons, ih]; rfl
theorem cnt_blocks : ∀ g : List Nat, cnt (blocks g) = g.length
  | [] => rfl
  | x :: r => by rw [blocks, cnt_cons, cnt_append, cnt_replicate, cnt_blocks r]; simp; omega
theorem blocks_length : ∀ g : List Nat, (∀ x ∈ g, 1 ≤ x) → (blocks g).length = psum g g.length
  | [], _ => rfl
  | x :: r, h => by
    have h1 := h x (by simp)
    have h2 := blocks_length r fun y hy => h y (List.mem_cons_of_mem _ hy)
    simp [blocks, psum, h2]; omega
theorem psum_le : ∀ (g : List Nat) (k : Nat), psum g k ≤ psum g g.length
  | [], 0 => Nat.le_refl _
  | [], _ + 1 => Nat.le_refl _
  | _ :: _, 0 => Nat.zero_le _
  | x :: r, k + 1 => by simp only [psum, List.length_cons]; have := psum_le r k; omega
/-- the beats ahead of the k-th one -/
theorem pre_psum : ∀ (g : List Nat) (k : Nat), (∀ x ∈ g, 1 ≤ x) → k ≤ g.length → pre (blocks g) (psum g k) = k
  | g, 0, _, _ => by cases g <;> simp [psum, pre_zero]
  | [], k + 1, _, h => by simp at h
  | x :: r, k + 1, h, hk => by
    have h1 := h x (by simp)
    have ih := pre_psum r k (fun y hy => h y (List.mem_cons_of_mem _ hy)) (by simpa using hk)
    unfold pre at ih ⊢
    rw [blocks, psum, show x + psum r k = (x - 1 + psum r k) + 1 by omega, List.take_succ_cons, cnt_cons, List.take_append, cnt_append]
    rw [List.take_of_length_le (by simp), cnt_replicate, List.length_replicate, show x - 1 + psum r k - (x - 1) = psum r k by omega, ih]
    simp; omega
theorem beat_psum : ∀ (g : List Nat) (k : Nat), (∀ x ∈ g, 1 ≤ x) → k < g.length → (blocks g)[psum g k]? = some true
  | [], _, _, h => by simp at h
  | x :: r, 0, _, _ => by simp [psum, blocks]
  | x :: r, k + 1, h, hk => by
    have h1 := h x (by simp)
    have ih := beat_psum r k (fun y hy => h y (List.mem_cons_of_mem _ hy)) (by simpa using hk)
    rw [blocks, psum, show x + psum r k = (x - 1 + psum r k) + 1 by omega, List.getElem?_cons_succ, List.getElem?_append_right (by simp)]
    simpa using ih
/-- where the i-th beat stands, around and around -/
def Spos (g : List Nat) (i : Nat) : Nat := psum g g.length * (i / g.length) + psum g (i % g.length)
theorem Spos_at (g : List Nat) (hb : 1 ≤ g.length) (q k : Nat) (hk : k < g.length) : Spos g (g.length * q + k) = psum g g.length * q + psum g k := by
  unfold Spos
  rw [Nat.mul_add_div (by omega), Nat.mul_add_mod, Nat.div_eq_of_lt hk, Nat.mod_eq_of_lt hk, Nat.add_zero]
section
variable {g : List Nat}
theorem len_pos (hb : 1 ≤ g.length) (h : ∀ x ∈ g, 1 ≤ x) : 1 ≤ (blocks g).length := by
  cases g with
  | nil => simp at hb
  | cons x r => simp [blocks]
theorem N_Spos (hb : 1 ≤ g.length) (h : ∀ x ∈ g, 1 ≤ x) (i : Nat) : N (blocks g) (Spos g i) = i ∧ N (blocks g) (Spos g i + 1) = i + 1 := by
  have hl := len_pos hb h
  have hL := blocks_length g h
  have hk : i % g.length < g.length := Nat.mod_lt _ (by omega)
  have ei := Nat.div_add_mod i g.length
  have hp : psum g (i % g.length) < (blocks g).length := by
    have := beat_psum g (i % g.length) h hk
    exact (List.getElem?_eq_some_iff.mp this).1
  have e : Spos g i = (blocks g).length * (i / g.length) + psum g (i % g.length) := by rw [Spos, hL]
  have e1 : N (blocks g) (Spos g i) = i := by
    rw [e, N_lt hl _ _ hp, pre_psum g _ h (by omega), cnt_blocks]
    have : ((g.length * (i / g.length) : Nat) : Int) = (g.length : Int) * (i / g.length : Nat) := Int.natCast_mul _ _
    omega
  refine ⟨e1, ?_⟩
  rw [N_succ hl _ true, e1]
  · simp
  · rw [e, Nat.mul_add_mod, Nat.mod_eq_of_lt hp]
    exact beat_psum g _ h hk
def Cnt (l : List Bool) (x : Nat) : Nat := (N l x).toNat
theorem Cnt_eq {l : List Bool} (hn : 1 ≤ l.length) (x : Nat) : (Cnt l x : Int) = N l x := by
  have := N_nonneg hn x
  unfold Cnt; omega
theorem gal_blocks (hb : 1 ≤ g.length) (h : ∀ x ∈ g, 1 ≤ x) : Gal (Cnt (blocks g)) (Spos g) := by
  have hl := len_pos hb h
  have mono : ∀ x y, x ≤ y → Cnt (blocks g) x ≤ Cnt (blocks g) y := fun x y hxy => by
    have := N_mono hl x (y - x)
    rw [show x + (y - x) = y by omega] at this
    have a := Cnt_eq hl x
    have b := Cnt_eq hl y
    omega
  refine ⟨fun x i => ⟨fun hx => ?_, fun hx => ?_⟩, mono⟩
  · apply Classical.byContradiction
    intro hc
    have h1 := mono (Spos g i + 1) x (by omega)
    have h2 := (N_Spos hb h i).2
    have a := Cnt_eq hl (Spos g i + 1)
    omega
  · have h1 := mono x (Spos g i) hx
    have h2 := (N_Spos hb h i).1
    have a := Cnt_eq hl (Spos g i)
    omega
theorem evC_iff {l : List Bool} (hn : 1 ≤ l.length) : EvC (Cnt l) ↔ EvAll l := by
  constructor
  · intro h m i j
    have := h m i j
    have a1 := Cnt_eq hn (i + m)
    have a2 := Cnt_eq hn i
    have a3 := Cnt_eq hn (j + m)
    have a4 := Cnt_eq hn j
    omega
  · intro h m i j
    have := h m i j
    have a1 := Cnt_eq hn (i + m)
    have a2 := Cnt_eq hn i
    have a3 := Cnt_eq hn (j + m)
    have a4 := Cnt_eq hn j
    omega
theorem evG_iff (hb : 1 ≤ g.length) (h : ∀ x ∈ g, 1 ≤ x) : EvG (Spos g) ↔ EvAll (blocks g) := by
  have hl := len_pos hb h
  have G := gal_blocks hb h
  rw [← evC_iff hl]
  refine ⟨fun e => evC_of_evG (n := (blocks g).length) (b := g.length) G (fun x => ?_) hb e, evG_of_evC G⟩
  have a1 := Cnt_eq hl x
  have a2 := Cnt_eq hl (x + (blocks g).length)
  rw [N_round hl, cnt_blocks] at a2
  omega
theorem Spos_succ (hb : 1 ≤ g.length) (i x : Nat) (hx : g[i % g.length]? = some x) : Spos g (i + 1) = Spos g i + x := by
  have psucc : ∀ (g : List Nat) (k x : Nat), g[k]? = some x → psum g (k + 1) = psum g k + x := by
    intro g
    induction g with
    | nil => intro k x h; simp at h
    | cons y r ih =>
      intro k x h
      cases k with
      | zero => simp at h; subst h; simp [psum]
      | succ k => simp at h; have := ih k x h; simp only [psum] at this ⊢; omega
  have hk : i % g.length < g.length := Nat.mod_lt _ (by omega)
  have ei := Nat.div_add_mod i g.length
  have e1 := Spos_at g hb (i / g.length) (i % g.length) hk
  rw [ei] at e1
  have p1 := psucc g _ _ hx
  by_cases c : i % g.length + 1 < g.length
  · have e2 := Spos_at g hb (i / g.length) (i % g.length + 1) c
    rw [← Nat.add_assoc, ei] at e2
    omega
  · have e2 := Spos_at g hb (i / g.length + 1) 0 (by omega)
    rw [Nat.mul_add, Nat.mul_one, Nat.add_zero, show g.length * (i / g.length) + g.length = i + 1 by omega, Nat.mul_add] at e2
    rw [show i % g.length + 1 = g.length by omega] at p1
    have : psum g 0 = 0 := by cases g <;> rfl
    omega
/-- an even ring's gaps are alike but for one place -/
theorem gaps_alike (hb : 1 ≤ g.length) (h : ∀ x ∈ g, 1 ≤ x) (e : EvAll (blocks g)) : ∀ x ∈ g, ∀ y ∈ g, x ≤ y + 1 := by
  intro x hx y hy
  have G := (evG_iff hb h).mpr e
  obtain ⟨i, hi⟩ := List.mem_iff_getElem?.mp hx
  obtain ⟨j, hj⟩ := List.mem_iff_getElem?.mp hy
  have hi' := (List.getElem?_eq_some_iff.mp hi).1
  have hj' := (List.getElem?_eq_some_iff.mp hj).1
  have s1 := Spos_succ hb i x (by rw [Nat.mod_eq_of_lt hi']; exact hi)
  have s2 := Spos_succ hb j y (by rw [Nat.mod_eq_of_lt hj']; exact hj)
  have := G 1 i j
  omega
/-- the ring folded -/
def foldL (g : List Nat) (d : Nat) : List Bool := g.map fun x => decide (d < x)
theorem Spos_fold (hb : 1 ≤ g.length) (d : Nat) (h : ∀ x ∈ g, x = d ∨ x = d + 1) (i : Nat) : (Spos g i : Int) = d * i + N (foldL g d) i := by
  have hl : (foldL g d).length = g.length := by simp [foldL]
  induction i with
  | zero =>
    rw [N_zero (by omega)]
    have : psum g 0 = 0 := by cases g <;> rfl
    simp [Spos, this]
  | succ i ih =>
    have hk : i % g.length < g.length := Nat.mod_lt _ (by omega)
    have hg := List.getElem?_eq_getElem hk
    have s1 := Spos_succ hb i _ hg
    have hF : (foldL g d)[i % (foldL g d).length]? = some (decide (d < g[i % g.length])) := by
      rw [hl]; simp [foldL, hk]
    rw [N_succ (by omega) i _ hF, s1, Int.natCast_add, ih, Int.natCast_add, Int.mul_add]
    have := h _ (List.getElem_mem hk)
    by_cases c : d < g[i % g.length]
    · simp [c]; omega
    · simp [c]; omega
/-- a ring that can be folded is even just if the folded one is -/
theorem fold_even (hb : 1 ≤ g.length) (h1 : ∀ x ∈ g, 1 ≤ x) (d : Nat) (h : ∀ x ∈ g, x = d ∨ x = d + 1) : EvAll (blocks g) ↔ EvAll (foldL g d) := by
  rw [← evG_iff hb h1]
  constructor
  · intro e m i j
    have := e m i j
    have a1 := Spos_fold hb d h (i + m)
    have a2 := Spos_fold hb d h i
    have a3 := Spos_fold hb d h (j + m)
    have a4 := Spos_fold hb d h j
    rw [Int.natCast_add, Int.mul_add] at a1 a3
    omega
  · intro e m i j
    have := e m i j
    have a1 := Spos_fold hb d h (i + m)
    have a2 := Spos_fold hb d h i
    have a3 := Spos_fold hb d h (j + m)
    have a4 := Spos_fold hb d h j
    rw [Int.natCast_add, Int.mul_add] at a1 a3
    omega
end
/-! ### turned rings -/
def rot (l : List Bool) (k : Nat) : List Bool := l.drop k ++ l.take k
theorem rot_length (l : List Bool) (k : Nat) : (rot l k).length = l.length := by
  simp [rot]; omega
theorem cnt_rot (l : List Bool) (k : Nat) : cnt (rot l k) = cnt l := by
  rw [rot, cnt_append, Int.add_comm, ← cnt_append, List.take_append_drop]
theorem rot_get (l : List Bool) (k i : Nat) (hn : 1 ≤ l.length) (hk : k ≤ l.length) (hi : i < l.length) : (rot l k)[i]? = l[(i + k) % l.length]? := by
  unfold rot
  by_cases c : i < l.length - k
  · rw [List.getElem?_append_left (by simp; omega), List.getElem?_drop, Nat.mod_eq_of_lt (by omega), Nat.add_comm]
  · rw [List.getElem?_append_right (by simp; omega), List.length_drop, List.getElem?_take_of_lt (by omega), show i + k = i + k - l.length + l.length by omega, Nat.add_mod_right, Nat.mod_eq_of_lt (by omega)]
    congr 1; omega
theorem N_rot {l : List Bool} (hn : 1 ≤ l.length) (k : Nat) (hk : k ≤ l.length) (x : Nat) : N (rot l k) x = N l (x + k) - N l k := by
  have hr : 1 ≤ (rot l k).length := by rw [rot_length]; exact hn
  induction x with
  | zero => rw [N_zero hr]; simp
  | succ x ih =>
    have hx : x % l.length < l.length := Nat.mod_lt _ (by omega)
    have hy : (x + k) % l.length < l.length := Nat.mod_lt _ (by omega)
    have e : (x % l.length + k) % l.length = (x + k) % l.length := by rw [Nat.mod_add_mod]
    have h1 := rot_get l k (x % l.length) hn hk hx
    rw [e, List.getElem?_eq_getElem hy] at h1
    rw [N_succ hr x _ (by rw [rot_length]; exact h1), ih, show x + 1 + k = x + k + 1 by omega, N_succ hn (x + k) _ (List.getElem?_eq_getElem hy)]
    omega
theorem rot_even {l : List Bool} (hn : 1 ≤ l.length) (k : Nat) (hk : k ≤ l.length) : EvAll (rot l k) ↔ EvAll l := by
  constructor
  · intro h m i j
    -- a round further on
    have := h m (i + l.length - k) (j + l.length - k)
    rw [N_rot hn k hk, N_rot hn k hk, N_rot hn k hk, N_rot hn k hk, show i + l.length - k + m + k = i + m + l.length by omega, show i + l.length - k + k = i + l.length by omega,
      show j + l.length - k + m + k = j + m + l.length by omega, show j + l.length - k + k = j + l.length by omega, N_round hn, N_round hn, N_round hn, N_round hn] at this
    omega
  · intro h m i j
    have := h m (i + k) (j + k)
    rw [N_rot hn k hk, N_rot hn k hk, N_rot hn k hk, N_rot hn k hk, show i + m + k = i + k + m by omega, show j + m + k = j + k + m by omega]
    omega
/-- beats and rests exchanged -/
def exch (l : List Bool) : List Bool := l.map (!·)
theorem cnt_exch (l : List Bool) : cnt (exch l) = l.length - cnt l := by
  induction l with
  | nil => rfl
  | cons b l ih =>
    have : exch (b :: l) = (!b) :: exch l := rfl
    rw [this, cnt_cons, cnt_cons, ih, List.length_cons]
    cases b <;> simp <;> omega
theorem N_exch {l : List Bool} (hn : 1 ≤ l.length) (x : Nat) : N (exch l) x = x - N l x := by
  have hl : (exch l).length = l.length := by simp [exch]
  induction x with
  | zero => rw [N_zero (by omega), N_zero hn]; rfl
  | succ x ih =>
    have hx : x % l.length < l.length := Nat.mod_lt _ (by omega)
    have h1 : (exch l)[x % (exch l).length]? = some (!l[x % l.length]) := by rw [hl]; simp [exch, hx]
    rw [N_succ (by omega) x _ h1, N_succ hn x _ (List.getElem?_eq_getElem hx), ih]
    cases l[x % l.length] <;> simp <;> omega
theorem exch_even {l : List Bool} (hn : 1 ≤ l.length) : EvAll (exch l) ↔ EvAll l := by
  constructor
  · intro h m i j
    have := h m j i
    rw [N_exch hn, N_exch hn, N_exch hn, N_exch hn] at this
    omega
  · intro h m i j
    have := h m j i
    rw [N_exch hn, N_exch hn, N_exch hn, N_exch hn]
    omega
/-- told backwards -/
theorem pre_reverse (l : List Bool) (k : Nat) (hk : k ≤ l.length) : pre l.reverse k = cnt l - pre l (l.length - k) := by
  unfold pre
  rw [List.take_reverse]
  have h1 : ∀ r : List Bool, cnt r.reverse = cnt r := fun r => by
    induction r with
    | nil => rfl
    | cons b r ih => rw [List.reverse_cons, cnt_append, ih, cnt_one, cnt_cons]; omega
  rw [h1]
  have h2 : cnt l = cnt (l.take (l.length - k)) + cnt (l.drop (l.length - k)) := by rw [← cnt_append, List.take_append_drop]
  omega
theorem cnt_reverse (l : List Bool) : cnt l.reverse = cnt l := by
  have := pre_reverse l l.length (Nat.le_refl _)
  have e := pre_all l.reverse
  rw [List.length_reverse] at e
  rw [e] at this
  simp [pre_zero] at this
  exact this
theorem back_even {l : List Bool} (hn : 1 ≤ l.length) (h : EvAll l) : EvAll l.reverse := by
  have hr : 1 ≤ l.reverse.length := by rw [List.length_reverse]; exact hn
  rw [← ev_all hr]
  intro m i j h1 h2 h3 h4
  rw [List.length_reverse] at h2 h3 h4
  rw [win_N hr _ _ (by rw [List.length_reverse]; omega) (by rw [List.length_reverse]; omega), win_N hr _ _ (by rw [List.length_reverse]; omega) (by rw [List.length_reverse]; omega)]
  -- N of the reverse, by N
  have key : ∀ x, x ≤ l.length + l.length → N l.reverse x = 2 * cnt l - N l (l.length + l.length - x) := fun x hx => by
    by_cases c : x ≤ l.length
    · rw [N_low hr x (by rw [List.length_reverse]; exact c), pre_reverse l x c, show l.length + l.length - x = (l.length - x) + l.length by omega, N_round hn, N_low hn _ (by omega)]; omega
    · have e := N_round hr (x - l.length)
      rw [List.length_reverse, show x - l.length + l.length = x by omega, cnt_reverse] at e
      rw [e, N_low hr _ (by rw [List.length_reverse]; omega), pre_reverse l _ (by omega), N_low hn _ (by omega), show l.length - (x - l.length) = l.length + l.length - x by omega]; omega
  rw [key _ (by omega), key _ (by omega), key _ (by omega), key _ (by omega)]
  have := h m (l.length + l.length - (i + m)) (l.length + l.length - (j + m))
  rw [show l.length + l.length - (i + m) + m = l.length + l.length - i by omega, show l.length + l.length - (j + m) + m = l.length + l.length - j by omega] at this
  omega
theorem back_even_iff {l : List Bool} (hn : 1 ≤ l.length) : EvAll l.reverse ↔ EvAll l :=
  ⟨fun h => by have := back_even (l := l.reverse) (by rw [List.length_reverse]; exact hn) h; rwa [List.reverse_reverse] at this, back_even hn⟩
end Eb

set_option maxHeartbeats 4000000
namespace L2
open PySem PySem.Spec PyProof.Rows
theorem bo_any : bootBuiltins "any" = some (.builtin "any") := by decide +kernel
theorem bo_all : bootBuiltins "all" = some (.builtin "all") := by decide +kernel
section
variable {X : Cx}
/-! ### own classes asked -/
/-- a class or a def by its name -/
theorem pe_gref {x : Str} {C : Addr} {pos : Pos} (h : X.mg x = some (.ref C)) (hg : Gl X x := by rfl) (hd : (x == ("__debug__" : Str)) = false := by decide) : PE X (.Name x pos) (tC (.ref C)) := pe_glob hg h rfl hd
def rIsC (K : PySem.W.Frag) : List V → Hp → VK → Prop := fun xs H Q => ∃ x C t b, xs = [x, .ref C] ∧ TyOf K H x t ∧ PySem.W.kitOne K t (.ref C) = some b ∧ Q (.bl b) H
theorem call_isiC : CallR X (.builtin "isinstance") (rIsC X.K) := by
  intro pins s σ H xs us Q I r h
  obtain ⟨x, C, t, b, rfl, ty, e, q⟩ := h
  obtain ⟨u, w', rfl, rx, rT⟩ := vals2 r
  cases (show w' = Value.ref C from rT)
  exact isinst_ok I rx ty e fun tk => ⟨.bl b, H, I.tok _, rfl, q⟩
/-! ### is, is not: beside True and False -/
theorem op_is_bool : OpR X (compareOp .Is) (fun x y H Q => ∃ a b, x = .bl a ∧ y = .bl b ∧ Q (.bl (a == b)) H) := by
  intro pins s σ H x y v u Q I rx ry h
  obtain ⟨a, b, rfl, rfl, q⟩ := h
  cases rx
  cases ry
  exact is_bool ⟨.bl _, H, I, rfl, q⟩
theorem op_isnot_bool : OpR X (compareOp .IsNot) (fun x y H Q => ∃ a b, x = .bl a ∧ y = .bl b ∧ Q (.bl (a != b)) H) := by
  intro pins s σ H x y v u Q I rx ry h
  obtain ⟨a, b, rfl, rfl, q⟩ := h
  cases rx
  cases ry
  exact isnot_bool ⟨.bl _, H, I, rfl, q⟩
/-! ### a text so many times -/
theorem op_mulS : OpR X (binaryOp .Mult) (fun x y H Q => ∃ z n, x = .str z ∧ y = .int n ∧ MulOk z n ∧ Q (.str (Txt.mul z n)) H) := by
  intro pins s σ H x y v u Q I rx ry h
  obtain ⟨z, n, rfl, rfl, hk, q⟩ := h
  obtain ⟨t, rfl⟩ := rx
  obtain ⟨t', rfl⟩ := ry
  exact SB.mul hk fun t2 k => ⟨.str _, H, I.tok _, ⟨_, rfl⟩, q⟩
/-! ### texts.count(text), text.index(text) -/
theorem strsAre_of : ∀ {ys : List Str} {us : List Value}, Vals (ys.map V.str) us → StrsAre us ys
  | [], _, h => by cases h; exact .nil
  | _ :: _, _, h => by
    cases h with
    | cons a b => obtain ⟨t, rfl⟩ := a; exact .cons _ _ (strsAre_of b)
theorem mt_countL : MtM X "list.count" (fun x vs H Q => ∃ l k, ∃ ys : List Str, x = .ref l ∧ vs = [.str k] ∧ SqL X.K H l (ys.map V.str) ∧ Q (.int (countIn (.str k) (ys.map PyData.str))) H) := by
  intro pins s σ H x vs v us Q I rx rv h
  obtain ⟨l, k, ys, rfl, rfl, hq, q⟩ := h
  cases rx
  obtain ⟨u, rfl, t, rfl⟩ := rv.one
  obtain ⟨its, r, p, hz⟩ := I.list hq
  exact count_list_strs p.isList (strsAre_of r) ⟨.int _, H, I.tok _, ⟨_, rfl⟩, q⟩
theorem mt_index (hc : X.calm = true) : MtM X "str.index" (fun x vs H Q => ∃ z y, x = .str z ∧ vs = [.str y] ∧ 0 ≤ Txt.find z y ∧ Q (.int (Txt.find z y)) H) := by
  intro pins s σ H x vs v us Q I rx rv h
  obtain ⟨z, y, rfl, rfl, h0, q⟩ := h
  obtain ⟨t, rfl⟩ := rx
  obtain ⟨u, rfl, t', rfl⟩ := rv.one
  exact index_or (I.ok.hd hc) (fun e => by omega) fun _ _ => ⟨.int _, H, I.tok _, ⟨_, rfl⟩, q⟩
end
/-! ### facts of classes -/
theorem kit_own {K : PySem.W.Frag} {t : Value} {D : Addr} {cd : ClassData} {b : Bool} (c : PySem.W.clsIn K D = some cd) (ty : PySem.W.typeIn K (.ref D) = some (.type "type")) (s : PySem.W.subIn K t (.ref D) = some b) (h : (t == Value.ref D) = true → b = true) : PySem.W.kitOne K t (.ref D) = some b := by
  unfold PySem.W.kitOne
  by_cases e : (t == Value.ref D) = true
  · rw [if_pos e, h e]
  · rw [if_neg e]
    unfold PySem.W.kitCls
    dsimp only
    rw [if_pos (by rw [c, ty]; rfl)]
    exact s
structure KTy (K : PySem.W.Frag) (C : Addr) : Prop where
  cl : Cls K C
  ha : PySem.W.findIn K (.ref C) "__class__" = some (some (.builtin "object.__class__"))
  hn : PySem.W.specialIn K (.builtin "object.__class__") "__get__" = some (some (.builtin "getset_descriptor.__get__"))
  htk : PySem.W.takesIn K (.builtin "object.__class__") = some true
  hm : PySem.W.mroIn K C (.type "object") = some true
theorem KTy.ty {K : PySem.W.Frag} {H : Hp} {a C dx : Addr} {fs : List (Str × V)} (Z : KTy K C) (e : H a = some (.ins C dx fs)) : TyOf K H (.ref a) (.ref C) := .ins e Z.cl Z.ha Z.hn Z.htk Z.hm
section
variable {σ : St} {H : Hp} {ta tb tc te : TE} {K : PySem.W.Frag}
theorem pv_isiC {x : V} {D : Addr} {ty : Value} {b : Bool} (ha : Pv ta σ H x) (h : TyOf K H x ty) (e : PySem.W.kitOne K ty (.ref D) = some b) : Pv (tCB (rIsC K) (tCons ta (tCons (tC (.ref D)) tNil))) σ H (.bl b) := fun Q q => ha _ ⟨x, D, ty, b, rfl, h, e, q⟩
theorem pv_mulS {z : Str} {n : Int} (ha : Pv ta σ H (.str z)) (hb : Pv tb σ H (.int n)) (hk : MulOk z n) : Pv (tOp (fun x y H Q => ∃ z n, x = .str z ∧ y = .int n ∧ MulOk z n ∧ Q (.str (Txt.mul z n)) H) ta tb) σ H (.str (Txt.mul z n)) := fun Q q => ha _ (hb _ ⟨z, n, rfl, rfl, hk, q⟩)
end
end L2
namespace L2
open PySem PySem.Spec PyProof.Rows
section
variable {σ : St} {H : Hp} {ta tb tc te : TE} {K : PySem.W.Frag}
theorem pb_chain {f g : Int → Int → Bool} {a b c : Int} (ha : Pv ta σ H (.int a)) (hb : Pv tb σ H (.int b)) (hc : Pv tc σ H (.int c)) :
    Pb (tTest (tChain (rI0 fun i j => .bl (f i j)) (rI0 fun i j => .bl (g i j)) ta tb tc)) σ H (f a b && g b c) := pb_test (pv_chain ha hb hc)
theorem pv_countL {l : Addr} {k : Str} {ys : List Str} (ha : Pv ta σ H (.ref l)) (hb : Pv tb σ H (.str k)) (hq : SqL K H l (ys.map V.str)) :
    Pv (tBM K "list" (fun x vs H Q => ∃ l k, ∃ ys : List Str, x = .ref l ∧ vs = [.str k] ∧ SqL K H l (ys.map V.str) ∧ Q (.int (countIn (.str k) (ys.map PyData.str))) H) ta (tCons tb tNil)) σ H (.int (countIn (.str k) (ys.map PyData.str))) := fun Q q => ha _ ⟨.inl ⟨rfl, _, hq⟩, hb _ ⟨l, k, ys, rfl, rfl, hq, q⟩⟩
theorem ti_list {tl : TE} {R : It → Hp → Prop} (k : tl σ H fun x H1 => ∃ a, x = .ref a ∧ (∃ xs, SqL K H1 a xs) ∧ R (Itl K a) H1) : iList K tl σ H R := k
theorem te_lst {t : TA} {Q : VK} (k : t σ H fun xs H1 => xs.length ≤ sizeLine ∧ ∀ p, H1 p = none → Q (.ref p) (upd H1 p (.lst xs))) : tLst t σ H Q := k
theorem rd_callop {sp : Sp} {t : TA} {r : R2} {Q : VK} {vs : List V} (h : Pa t σ H vs) (k : sp (vs ++ []) H (fun x H1 => tb σ H1 fun y H2 => r x y H2 Q) E0) : tOp r (tCall sp [] E0 t) tb σ H Q := h _ k
end
end L2
namespace L2
open PySem PySem.Spec PyProof.Rows
/-- o.f within a comprehension: K is said -/
theorem pe_fldK {X : Cx} {e : Expr} {f : Str} {pos : Pos} {ta : TE} (K : PySem.W.Frag) (he : PE X e ta) (hb : attributeBase e f X.env (eval e X.env) = eval e X.env) (hK : X.K = K := by rfl) : PE X (.Attribute e f pos) (tFld K ta f) := hK ▸ pe_fld he hb
end L2

set_option maxHeartbeats 4000000
namespace L2
open PySem
/-! ### facts of the program's classes, from what the kit tells of the frozen heap -/
structure OwnC (K : PySem.W.Frag) (C : Addr) : Prop where
  cl : (PySem.W.clsIn K C).isSome = true
  ty : PySem.W.typeIn K (.ref C) = some (.type "type")
theorem own_mk {K : PySem.W.Frag} {C : Addr} {cd : ClassData} (c : PySem.W.clsIn K C = some cd) (ty : PySem.W.typeIn K (.ref C) = some (.type "type")) : OwnC K C := ⟨by rw [c]; rfl, ty⟩
theorem OwnC.cls {K : PySem.W.Frag} {t : Value} {D : Addr} {b : Bool} (O : OwnC K D) (s : PySem.W.subIn K t (.ref D) = some b) : PySem.W.kitCls K t (.ref D) = some b := by
  unfold PySem.W.kitCls
  dsimp only
  rw [if_pos (by rw [O.cl, O.ty]; rfl)]
  exact s
theorem OwnC.kit {K : PySem.W.Frag} {t : Value} {D : Addr} {b : Bool} (O : OwnC K D) (s : PySem.W.subIn K t (.ref D) = some b) (h : (t == Value.ref D) = true → b = true) : PySem.W.kitOne K t (.ref D) = some b := by
  unfold PySem.W.kitOne
  by_cases e : (t == Value.ref D) = true
  · rw [if_pos e, h e]
  · rw [if_neg e]; exact O.cls s
theorem kty_mk {K : PySem.W.Frag} {C : Addr} (cl : Cls K C) (ha : PySem.W.findIn K (.ref C) "__class__" = some (some (.builtin "object.__class__"))) (hn : PySem.W.specialIn K (.builtin "object.__class__") "__get__" = some (some (.builtin "getset_descriptor.__get__")))
    (htk : PySem.W.takesIn K (.builtin "object.__class__") = some true) (hm : PySem.W.mroIn K C (.type "object") = some true) : KTy K C := ⟨cl, ha, hn, htk, hm⟩
end L2

set_option maxHeartbeats 4000000
namespace Eb
open PySem L2
/-! ### texts of one sign; signs counted in a list -/
theorem rep_foldl (c : Nat) : ∀ (k : Nat) (acc : Array Nat), (List.replicate k (#[c] : Array Nat)).foldl (· ++ ·) acc = acc ++ (List.replicate k c).toArray
  | 0, acc => by simp
  | k + 1, acc => by
    rw [List.replicate_succ, List.foldl_cons, rep_foldl c k, List.replicate_succ]
    apply Array.ext'
    simp
theorem mul_sign (b : Bool) (n : Int) (h0 : 0 ≤ n) : Txt.mul (signS b) n = rowS (List.replicate n.toNat b) := by
  have e1 : (signS b).length = 1 := by rw [signS_eq]; rfl
  have em : (List.replicate n.toNat b).map sg = List.replicate n.toNat (sg b) := by simp
  unfold Txt.mul
  by_cases c : n < 1
  · rw [if_pos c, show n.toNat = 0 by omega]
    show Str.empty = rowS []
    rw [rowS_nil]; decide +kernel
  · rw [if_neg c]
    by_cases c1 : n = 1
    · rw [if_pos (by rw [c1]; rfl), c1, signS_eq]
      rfl
    · rw [if_neg (by rw [e1]; simp; exact c1), signS_eq]
      show Str.mk ((List.replicate n.toNat (#[sg b] : Array Nat)).foldl (· ++ ·) #[]) = Str.mk ((List.replicate n.toNat b).map sg).toArray
      rw [rep_foldl, em]; simp
theorem mulOk_sign (b : Bool) (n : Int) (h0 : 0 ≤ n) (h1 : n ≤ 100000) : MulOk (signS b) n := by
  have e1 : (signS b).length = 1 := by rw [signS_eq]; rfl
  refine ⟨by simp; omega, fun hn _ => ?_, fun hn _ => ?_⟩
  · rw [e1]
    have : 1 ≤ (2 ^ 63 - 1) / n := by
      rw [Int.le_ediv_iff_mul_le (by omega)]; omega
    omega
  · rw [e1]
    have hz : n.toNat ≤ 100000 := by omega
    unfold Builtin.Str.tooLong
    simp only [Nat.one_mul, gt_iff_lt, decide_eq_false_iff_not]
    have := sizeOk (n := n.toNat) (by omega)
    first | omega | (rw [sizeLine_eq] at this; omega)
theorem count_signs : ∀ l : List Bool, Spec.countIn (.str "x") ((l.map signS).map PyData.str) = cnt l
  | [] => rfl
  | b :: l => by
    have h1 : Spec.same (.str (signS true)) (.str "x") = true := by decide +kernel
    have h2 : Spec.same (.str (signS false)) (.str "x") = false := by decide +kernel
    rw [List.map_cons, List.map_cons, Spec.countIn, count_signs l, cnt_cons]
    cases b
    · rw [h2]
    · rw [h1]
/-! ### what an answer says, by the ring's beats counted around it -/
theorem cnt_dt (L : List Bool) (f m : Nat) : cnt ((L.drop f).take m) = pre L (f + m) - pre L f := by
  unfold pre
  rw [List.take_add, cnt_append]; omega
theorem two_iff (l : List Bool) (f s m : Int) (hf : 0 ≤ f) (hs : 0 ≤ s) (hm : 0 ≤ m) : two l f s m = true ↔ pre l (s.toNat + m.toNat) - pre l s.toNat + 2 ≤ pre l (f.toNat + m.toNat) - pre l f.toNat := by
  unfold two
  rw [decide_eq_true_iff, cnt_dt, cnt_dt]
theorem evenOk_ev {l : List Bool} {t : Int} (h : evenOk l t = true) : EvAll l := by
  have h' := of_decide_eq_true h
  obtain ⟨⟨h0, h1⟩, e⟩ := h'
  rw [← e]
  exact reck_evAll _ (by omega) (cnt_nonneg l) (cnt_le l) _ rfl
theorem apartOk_not {l : List Bool} {f s m : Int} (h : apartOk l f s m = true) : ¬ EvAll l := by
  have h' := of_decide_eq_true h
  obtain ⟨⟨⟨f0, f1⟩, ⟨s0, s1⟩, m0, m1⟩, e⟩ := h'
  rw [two_iff _ _ _ _ f0 s0 m0] at e
  intro ev
  have hn : 1 ≤ l.length := by omega
  have := ev m.toNat f.toNat s.toNat
  rw [N_twice hn _ (by omega), N_twice hn _ (by omega), N_twice hn _ (by omega), N_twice hn _ (by omega)] at this
  omega
theorem evenOk_turn {l : List Bool} (hn : 1 ≤ l.length) (h : EvAll l) : ∃ t : Nat, t < l.length ∧ evenOk l t = true := by
  obtain ⟨t, ht, e⟩ := even_turn hn h
  exact ⟨t, ht, decide_eq_true ⟨by omega, e⟩⟩
/-- stretches around the ring, place by place -/
def around (l : List Bool) (f m : Nat) : List Bool := (List.range m).map fun i => l.getD ((f + i) % l.length) false
theorem cnt_around {l : List Bool} (hn : 1 ≤ l.length) (f : Nat) : ∀ m : Nat, cnt (around l f m) = N l (f + m) - N l f
  | 0 => by simp [around, cnt]
  | m + 1 => by
    have hk : (f + m) % l.length < l.length := Nat.mod_lt _ (by omega)
    have ih := cnt_around hn f m
    unfold around at ih ⊢
    rw [List.range_succ, List.map_append, cnt_append, ih, ← Nat.add_assoc, N_succ hn (f + m) _ (List.getElem?_eq_getElem hk)]
    simp only [List.map_cons, List.map_nil, cnt_one]
    rw [List.getD_eq_getElem?_getD, List.getElem?_eq_getElem hk]
    simp only [Option.getD_some]
    split <;> omega
/-- what is told of a ring -/
def sp_even (CE CA : Addr) : Sp := fun vs H Q _ => ∃ l : List Bool, vs = [.str (rowS l)] ∧ 1 ≤ l.length ∧ l.length ≤ 100 ∧
  (∀ (t : Int) (x dx : Addr) H', Same H H' → H' x = some (.ins CE dx (fl1 "turn" (.int t))) → evenOk l t = true → Q (.ref x) H') ∧
  (∀ (f s m : Int) (x dx : Addr) H', Same H H' → H' x = some (.ins CA dx (fl3 "first" "second" "many" (.int f) (.int s) (.int m))) → apartOk l f s m = true → Q (.ref x) H')
theorem even_all (b : Bool) (n : Nat) (hn : 1 ≤ n) : EvAll (List.replicate n b) := by
  have hl : 1 ≤ (List.replicate n b).length := by simpa using hn
  have key : ∀ x, N (List.replicate n b) x = if b then (x : Int) else 0 := fun x => by
    induction x with
    | zero => rw [N_zero hl]; split <;> rfl
    | succ x ih =>
      have hk : x % (List.replicate n b).length < (List.replicate n b).length := Nat.mod_lt _ (by omega)
      rw [N_succ hl x _ (List.getElem?_eq_getElem hk), ih]
      cases b <;> simp
  intro m i j
  rw [key, key, key, key]
  cases b <;> simp <;> omega
end Eb

set_option maxHeartbeats 4000000
namespace L2
open PySem PySem.Spec PyProof.Rows
/-! ### steps of a reading -/
section
variable {σ : St} {H : Hp}
theorem te_call {sp : Sp} {t : TA} {Q : VK} (k : t σ H fun vs H1 => sp (vs ++ []) H1 Q E0) : tCall sp [] E0 t σ H Q := k
theorem te_callE {sp : Sp} {t : TA} {Q : VK} {E : XK} (k : t σ H fun vs H1 => sp (vs ++ []) H1 Q E) : tCall sp [] E t σ H Q := k
theorem te_meth {C : Addr} {m : Str} {sp : Sp} {ta : TE} {t : TA} {Q : VK} (k : ta σ H fun x H1 => ∃ a dx fs, x = .ref a ∧ H1 a = some (.ins C dx fs) ∧ fs.lookup m = none ∧ t σ H1 fun vs H2 => sp (x :: (vs ++ [])) H2 Q E0) : tMeth C m sp [] E0 ta t σ H Q := k
theorem te_and {ta tb : TE} {Q : VK} (k : ta σ H fun x H1 => ∃ c, x = .bl c ∧ if c = true then tb σ H1 Q else Q (.bl false) H1) : tAndV ta tb σ H Q := k
theorem te_cb {r : List V → Hp → VK → Prop} {t : TA} {Q : VK} (k : t σ H fun vs H1 => r vs H1 Q) : tCB r t σ H Q := k
theorem te_op {r : R2} {ta tb : TE} {Q : VK} (k : ta σ H fun x H1 => tb σ H1 fun y H2 => r x y H2 Q) : tOp r ta tb σ H Q := k
theorem tt_notB {te : TE} {Q : Bool → Hp → Prop} (k : te σ H fun x H1 => ∃ c, x = .bl c ∧ Q (!c) H1) : tNot (tB te) σ H Q := k
theorem tt_b {te : TE} {Q : Bool → Hp → Prop} (k : te σ H fun x H1 => ∃ c, x = .bl c ∧ Q c H1) : tB te σ H Q := k
theorem tt_test {te : TE} {Q : Bool → Hp → Prop} (k : te σ H fun x H1 => ∃ c, x = .bl c ∧ Q c H1) : tTest te σ H Q := k
theorem tt_or {t u : TT} {Q : Bool → Hp → Prop} (k : t σ H fun c H1 => if c = true then Q true H1 else u σ H1 Q) : tOr t u σ H Q := k
theorem te_tup {t : TA} {xs : List V} {Q : VK} (h : Pa t σ H xs) (hl : xs.length ≤ sizeLine) (k : ∀ p, H p = none → Q (.ref p) (upd H p (.tup xs))) : tTup t σ H Q := h _ ⟨hl, k⟩
theorem ta_cons {te : TE} {t : TA} {Q : List V → Hp → Prop} (k : te σ H fun x H1 => t σ H1 fun xs H2 => Q (x :: xs) H2) : tCons te t σ H Q := k
theorem ti_rng1 {ta : TA} {vs : List V} {R : It → Hp → Prop} (h : Pa ta σ H vs) (k : ∃ j : Int, vs = [.int j] ∧ -(2 ^ 62) ≤ j ∧ j < 2 ^ 62 ∧ R (Itr 0 j.toNat) H) : iRng1 ta σ H R := h _ k
theorem ti_rng2 {ta : TA} {vs : List V} {R : It → Hp → Prop} (h : Pa ta σ H vs) (k : ∃ i j : Int, vs = [.int i, .int j] ∧ (-(2 ^ 62) ≤ i ∧ i < 2 ^ 62 ∧ -(2 ^ 62) ≤ j ∧ j < 2 ^ 62) ∧ R (Itr i (j - i).toNat) H) : iRng2 ta σ H R := h _ k
end
end L2

namespace L2
open PySem PySem.Spec PyProof.Rows
/-! ### lists of pairs as tables -/
section
variable {κ : Type} [DecidableEq κ]
def valV (kvs : List (κ × V)) (k : κ) : Option V := (kvs.find? fun kv => decide (kv.1 = k)).map (·.2)
/-- in its place, or at the end -/
def putK (kvs : List (κ × V)) (k : κ) (v : V) : List (κ × V) :=
  if (kvs.any fun kv => decide (kv.1 = k)) = true then kvs.map (fun kv => if kv.1 = k then (kv.1, v) else kv) else kvs ++ [(k, v)]
def dropK (kvs : List (κ × V)) (k : κ) : List (κ × V) := kvs.filter fun kv => decide (kv.1 ≠ k)

theorem valV_nil {k : κ} : valV ([] : List (κ × V)) k = none := rfl
theorem valV_pos {p : κ × V} {r : List (κ × V)} {k : κ} (e : p.1 = k) : valV (p :: r) k = some p.2 := by simp [valV, List.find?_cons, e]
theorem valV_neg {p : κ × V} {r : List (κ × V)} {k : κ} (e : ¬ p.1 = k) : valV (p :: r) k = valV r k := by simp [valV, List.find?_cons, e]
theorem valV_any (k : κ) : ∀ kvs : List (κ × V), (kvs.any fun kv => decide (kv.1 = k)) = (valV kvs k).isSome
  | [] => rfl
  | p :: r => by
    rw [List.any_cons]
    by_cases e : p.1 = k
    · simp only [valV_pos e, decide_eq_true e, Bool.true_or, Option.isSome_some]
    · rw [valV_neg e, decide_eq_false e, Bool.false_or]; exact valV_any k r
theorem valV_map (k j : κ) (y : V) : ∀ kvs : List (κ × V), valV (kvs.map fun kv => if kv.1 = k then (kv.1, y) else kv) j = (valV kvs j).map fun x => if j = k then y else x
  | [] => rfl
  | p :: r => by
    have ih := valV_map k j y r
    rw [List.map_cons]
    by_cases h : p.1 = k
    · rw [if_pos h]
      by_cases e : p.1 = j
      · rw [valV_pos (p := (p.1, y)) e, valV_pos e, Option.map_some, if_pos (e.symm.trans h)]
      · rw [valV_neg (p := (p.1, y)) e, valV_neg e, ih]
    · rw [if_neg h]
      by_cases e : p.1 = j
      · rw [valV_pos (p := p) e, valV_pos e, Option.map_some, if_neg (fun z => h (e.trans z))]
      · rw [valV_neg (p := p) e, valV_neg e, ih]
theorem valV_snoc (k j : κ) (y : V) : ∀ kvs : List (κ × V), valV kvs k = none → valV (kvs ++ [(k, y)]) j = if j = k then some y else valV kvs j
  | [], _ => by
    by_cases e : k = j
    · rw [if_pos e.symm]; exact valV_pos (p := (k, y)) e
    · rw [if_neg (fun z => e z.symm)]; exact valV_neg (p := (k, y)) e
  | p :: r, hn => by
    rw [List.cons_append]
    have hk : ¬ p.1 = k := fun z => by rw [valV_pos z] at hn; cases hn
    rw [valV_neg hk] at hn
    have ih := valV_snoc k j y r hn
    by_cases e : p.1 = j
    · rw [valV_pos e, valV_pos e, if_neg (fun z => hk (e.trans z))]
    · rw [valV_neg e, valV_neg e, ih]
theorem valV_put (kvs : List (κ × V)) (k j : κ) (y : V) : valV (putK kvs k y) j = if j = k then some y else valV kvs j := by
  unfold putK
  by_cases a : (kvs.any fun kv => decide (kv.1 = k)) = true
  · rw [if_pos a, valV_map]
    rw [valV_any] at a
    by_cases e : j = k
    · obtain ⟨x, hx⟩ := Option.isSome_iff_exists.mp a
      rw [if_pos e, e, hx, Option.map_some, if_pos rfl]
    · rw [if_neg e]
      cases valV kvs j with
      | none => rfl
      | some x => rw [Option.map_some, if_neg e]
  · rw [if_neg a]
    refine valV_snoc k j y kvs ?_
    rw [valV_any] at a
    cases q : valV kvs k with
    | none => rfl
    | some x => rw [q] at a; exact (a rfl).elim
theorem length_putK (kvs : List (κ × V)) (k : κ) (v : V) : (putK kvs k v).length ≤ kvs.length + 1 := by
  unfold putK
  split
  · rw [List.length_map]; omega
  · rw [List.length_append, List.length_cons, List.length_nil]; omega
theorem putK_new {kvs : List (κ × V)} {k : κ} (v : V) (h : valV kvs k = none) : putK kvs k v = kvs ++ [(k, v)] := by
  unfold putK
  rw [valV_any, h]
  exact if_neg (by decide)

theorem RelO.isSome_eq {o : Option V} {u : Option Value} (r : RelO o u) : o.isSome = u.isSome := by
  cases o with
  | none => cases u with
    | none => rfl
    | some _ => exact (show False from r).elim
  | some _ => cases u with
    | none => exact (show False from r).elim
    | some _ => rfl
theorem RelO.getD {o : Option V} {u : Option Value} {d : V} {d' : Value} (r : RelO o u) (rd : RelV d d') : RelV (o.getD d) (u.getD d') := by
  cases o with
  | none => cases u with
    | none => exact rd
    | some _ => exact (show False from r).elim
  | some _ => cases u with
    | none => exact (show False from r).elim
    | some _ => exact r

/-- raw tables of the same keys -/
theorem KV.val {kvs : List (κ × V)} {vs : List (κ × Value)} (r : KV kvs vs) (k : κ) : RelO (valV kvs k) (valueAt vs k) := by
  unfold KV at r
  induction r with
  | nil => exact True.intro
  | @cons p q ps qs h t ih =>
    obtain ⟨h1, h2⟩ := h
    by_cases e : p.1 = k
    · have e' : q.1 = k := h1.symm.trans e
      have b : valueAt (q :: qs) k = some q.2 := by simp [valueAt, List.find?_cons, e']
      rw [valV_pos e, b]; exact h2
    · have e' : ¬ q.1 = k := fun z => e (h1.trans z)
      have b : valueAt (q :: qs) k = valueAt qs k := by simp [valueAt, List.find?_cons, e']
      rw [valV_neg e, b]; exact ih
theorem KV.any {kvs : List (κ × V)} {vs : List (κ × Value)} (r : KV kvs vs) (k : κ) : (kvs.any fun kv => decide (kv.1 = k)) = vs.any fun kv => decide (kv.1 = k) := by
  unfold KV at r
  induction r with
  | nil => rfl
  | cons h t ih => rw [List.any_cons, List.any_cons, ih, h.1]
theorem KV.repl {kvs : List (κ × V)} {vs : List (κ × Value)} (r : KV kvs vs) (k : κ) {y : V} {u : Value} (ry : RelV y u) :
    KV (kvs.map fun kv => if kv.1 = k then (kv.1, y) else kv) (vs.map fun kv => if kv.1 = k then (kv.1, u) else kv) := by
  unfold KV at r ⊢
  induction r with
  | nil => exact .nil
  | @cons p q ps qs h t ih =>
    rw [List.map_cons, List.map_cons]
    refine .cons ?_ ih
    obtain ⟨h1, h2⟩ := h
    by_cases e : p.1 = k
    · rw [if_pos e, if_pos (h1.symm.trans e)]; exact ⟨h1, ry⟩
    · rw [if_neg e, if_neg (fun z => e (h1.trans z))]; exact ⟨h1, h2⟩
theorem KV.put {kvs : List (κ × V)} {vs : List (κ × Value)} (r : KV kvs vs) (k : κ) {y : V} {u : Value} (ry : RelV y u) : KV (putK kvs k y) (stored vs k u) := by
  unfold putK stored
  rw [r.any k]
  by_cases e : (vs.any fun kv => decide (kv.1 = k)) = true
  · rw [if_pos e, if_pos e]; exact r.repl k ry
  · rw [if_neg e, if_neg e]; exact Paired.snoc r ⟨rfl, ry⟩
theorem KV.drop {kvs : List (κ × V)} {vs : List (κ × Value)} (r : KV kvs vs) (k : κ) : KV (dropK kvs k) (without vs k) := by
  unfold KV at r ⊢
  unfold dropK without
  induction r with
  | nil => exact .nil
  | @cons p q ps qs h t ih =>
    obtain ⟨h1, h2⟩ := h
    rw [List.filter_cons, List.filter_cons]
    by_cases e : p.1 = k
    · have a : ¬ decide (p.1 ≠ k) = true := by simp [e]
      have b : ¬ decide (q.1 ≠ k) = true := by simp [h1.symm.trans e]
      rw [if_neg a, if_neg b]; exact ih
    · have e' : ¬ q.1 = k := fun z => e (h1.trans z)
      have a : decide (p.1 ≠ k) = true := by simp [e]
      have b : decide (q.1 ≠ k) = true := by simp [e']
      rw [if_pos a, if_pos b]; exact .cons ⟨h1, h2⟩ ih
theorem KV.keys {kvs : List (κ × V)} {vs : List (κ × Value)} (r : KV kvs vs) : kvs.map (·.1) = vs.map (·.1) := by
  unfold KV at r
  induction r with
  | nil => rfl
  | cons h t ih => rw [List.map_cons, List.map_cons, ih, h.1]
theorem KV.length {kvs : List (κ × V)} {vs : List (κ × Value)} (r : KV kvs vs) : kvs.length = vs.length := Paired.length r
theorem dropK_le (kvs : List (κ × V)) (k : κ) : (dropK kvs k).length ≤ kvs.length := List.length_filter_le _ _
end


/-! ### a tracked dict, its keys ints and texts or tuples of these -/
theorem kV_is {P : Program} {w : World} {k : Key} {u : Value} (r : RelV (kV k) u) : (mixKind P w).is k u = true := by
  cases k with
  | inl i => obtain ⟨t, e⟩ := (show ∃ t, u = Value.int i t from r); subst e; exact mixKind_int P w i t
  | inr x => obtain ⟨t, e⟩ := (show ∃ t, u = Value.str x t from r); subst e; exact mixKind_str P w x t
theorem kV_inj {a b : Key} (e : kV a = kV b) : a = b := by
  cases a with
  | inl i => cases b with
    | inl j => have e' : V.int i = V.int j := e; injection e' with e'; rw [e']
    | inr y => exact nomatch (show V.int i = V.str y from e)
  | inr x => cases b with
    | inl j => exact nomatch (show V.str x = V.int j from e)
    | inr y => have e' : V.str x = V.str y := e; injection e' with e'; rw [e']
theorem kVs_inj : ∀ {a b : List Key}, a.map kV = b.map kV → a = b
  | [], [], _ => rfl
  | [], _ :: _, e => by simp at e
  | _ :: _, [], e => by simp at e
  | x :: xs, y :: ys, e => by
    rw [List.map_cons, List.map_cons] at e
    injection e with e1 e2
    rw [kV_inj e1, kVs_inj e2]
theorem items_are {P : Program} {w : World} : ∀ {ks : List Key} {us : List Value}, Vals (ks.map kV) us → ItemsAre (mixKind P w) ks us
  | [], _, r => by rw [List.map_nil] at r; cases r; exact .nil
  | k :: ks, _, r => by
    rw [List.map_cons] at r
    cases r with
    | cons h t => exact .cons (kV_is h) (items_are t)

/-- raw entries of a dict with tuple keys -/
abbrev KT (H : Hp) : List (List Key × V) → List (List Key × Addr × Value) → Prop := Paired fun p q => p.1 = q.1 ∧ H q.2.1 = some (.tup (p.1.map kV)) ∧ RelV p.2 q.2.2
theorem KT.val {H : Hp} {kvs : List (List Key × V)} {xs : List (List Key × Addr × Value)} (r : KT H kvs xs) (k : List Key) : RelO (valV kvs k) ((atKey xs k).map (·.2)) := by
  induction r with
  | nil => exact True.intro
  | @cons p q ps qs h t ih =>
    obtain ⟨h1, _, h2⟩ := h
    by_cases e : p.1 = k
    · have e' : q.1 = k := h1.symm.trans e
      have b : atKey (q :: qs) k = some q.2 := by simp [atKey, List.find?_cons, e']
      rw [valV_pos e, b]; exact h2
    · have e' : ¬ q.1 = k := fun z => e (h1.trans z)
      have b : atKey (q :: qs) k = atKey qs k := by simp [atKey, List.find?_cons, e']
      rw [valV_neg e, b]; exact ih
theorem KT.repl {H : Hp} {kvs : List (List Key × V)} {xs : List (List Key × Addr × Value)} (r : KT H kvs xs) (k : List Key) {y : V} {u : Value} (ry : RelV y u) :
    KT H (kvs.map fun kv => if kv.1 = k then (kv.1, y) else kv) (xs.map (putAt k u)) := by
  induction r with
  | nil => exact .nil
  | @cons p q ps qs h t ih =>
    rw [List.map_cons, List.map_cons]
    refine .cons ?_ ih
    obtain ⟨h1, h2, h3⟩ := h
    unfold putAt
    by_cases e : p.1 = k
    · rw [if_pos e, if_pos (h1.symm.trans e)]; exact ⟨h1, h2, ry⟩
    · rw [if_neg e, if_neg (fun z => e (h1.trans z))]; exact ⟨h1, h2, h3⟩
theorem KT.put {H : Hp} {kvs : List (List Key × V)} {xs : List (List Key × Addr × Value)} (r : KT H kvs xs) (k : List Key) {b : Addr} {y : V} {u : Value} (hb : H b = some (.tup (k.map kV))) (ry : RelV y u) :
    KT H (putK kvs k y) (storedH xs k b u) := by
  have e : (kvs.any fun kv => decide (kv.1 = k)) = (atKey xs k).isSome := by
    rw [valV_any, (r.val k).isSome_eq, Option.isSome_map]
  unfold putK storedH
  rw [e]
  by_cases q : (atKey xs k).isSome = true
  · rw [if_pos q, if_pos q]; exact r.repl k ry
  · rw [if_neg q, if_neg q]; exact Paired.snoc r ⟨rfl, hb, ry⟩
theorem KT.keeps {H H' : Hp} {kvs : List (List Key × V)} {xs : List (List Key × Addr × Value)} (r : KT H kvs xs) (ht : ∀ b ys, H b = some (.tup ys) → H' b = some (.tup ys)) : KT H' kvs xs :=
  Paired.mapP r fun _ _ z => ⟨z.1, ht _ _ z.2.1, z.2.2⟩

section
variable {P : Program} {w : World} {H : Hp} {h : Heap} {a : Addr}
theorem rd_of {u : HO} (ok : HOk P w H h) (e : Rd H a u) : ObjOk P w H h a u := e.ok ok
theorem dk_rd {kvs : List (Key × V)} (ok : HOk P w H h) (e : Rd H a (.dK kvs)) : kvs.length ≤ sizeLine ∧ (a == sysModules) = false ∧ ∃ vs, KV kvs vs ∧ h.DictOf (mixKind P w) a vs :=
  show ObjOk P w H h a (.dK kvs) from rd_of ok e
theorem dk_of {kvs : List (Key × V)} (ok : HOk P w H h) (e : H a = some (.dK kvs)) : kvs.length ≤ sizeLine ∧ (a == sysModules) = false ∧ ∃ vs, KV kvs vs ∧ h.DictOf (mixKind P w) a vs := dk_rd ok (.inl e)
/-- a tracked tuple of ints and texts is a key -/
theorem key_of {ks : List Key} (ok : HOk P w H h) (e : H a = some (.tup (ks.map kV))) : (tupleKind (mixKind P w)).is h ks a := by
  obtain ⟨_, its, r, o, h1, h2, n, h3⟩ := (show ObjOk P w H h a (.tup (ks.map kV)) from ok a _ e)
  exact ⟨o, its.toArray, n, h1, h2, h3, by simpa using items_are r⟩
theorem dt_rd {kvs : List (List Key × V)} (ok : HOk P w H h) (e : Rd H a (.dT kvs)) : kvs.length ≤ sizeLine ∧ (a == sysModules) = false ∧
    ∃ xs, KT H kvs xs ∧ h.DictOfH (tupleKind (mixKind P w)) a xs := by
  obtain ⟨z, y, xs, r, o, es, ep, h1, h2, h3, h4, h5⟩ := (show ObjOk P w H h a (.dT kvs) from rd_of ok e)
  refine ⟨z, y, xs, r, o, es, ep, h1, h2, h3, h4, fun x hx => ?_, h5⟩
  have all : ∀ {l : List (List Key × V)} {m : List (List Key × Addr × Value)}, KT H l m → ∀ x ∈ m, (tupleKind (mixKind P w)).is h x.1 x.2.1 := by
    intro l m q
    induction q with
    | nil => intro x hx; exact nomatch hx
    | @cons p q ps qs hq t ih =>
      intro x hx
      rcases List.mem_cons.mp hx with e | hx
      · subst e
        exact key_of ok (by rw [← hq.1]; exact hq.2.1)
      · exact ih x hx
  exact all r x hx
theorem dt_of {kvs : List (List Key × V)} (ok : HOk P w H h) (e : H a = some (.dT kvs)) : kvs.length ≤ sizeLine ∧ (a == sysModules) = false ∧
    ∃ xs, KT H kvs xs ∧ h.DictOfH (tupleKind (mixKind P w)) a xs := dt_rd ok (.inl e)
end

/-- what the dict at a holds at the key y -/
def DGet (H : Hp) (a : Addr) (y : V) (r : Option V) : Prop :=
  (∃ kvs k, Rd H a (.dK kvs) ∧ y = kV k ∧ r = valV kvs k) ∨ ∃ kvs k b, Rd H a (.dT kvs) ∧ y = .ref b ∧ H b = some (.tup (k.map kV)) ∧ r = valV kvs k
/-- the heap behind a[y] = v -/
def DPut (H : Hp) (a : Addr) (y v : V) (H' : Hp) : Prop :=
  (∃ kvs k, H a = some (.dK kvs) ∧ y = kV k ∧ kvs.length < sizeLine ∧ H' = upd H a (.dK (putK kvs k v))) ∨
  ∃ kvs k b, H a = some (.dT kvs) ∧ y = .ref b ∧ H b = some (.tup (k.map kV)) ∧ kvs.length < sizeLine ∧ H' = upd H a (.dT (putK kvs k v))
theorem DGet.k {H : Hp} {a : Addr} {kvs : List (Key × V)} {k : Key} (e : H a = some (.dK kvs)) : DGet H a (kV k) (valV kvs k) := .inl ⟨kvs, k, .inl e, rfl, rfl⟩
theorem DGet.t {H : Hp} {a b : Addr} {kvs : List (List Key × V)} {k : List Key} (e : H a = some (.dT kvs)) (eb : H b = some (.tup (k.map kV))) : DGet H a (.ref b) (valV kvs k) := .inr ⟨kvs, k, b, .inl e, rfl, eb, rfl⟩
theorem DPut.k {H : Hp} {a : Addr} {kvs : List (Key × V)} {k : Key} {v : V} (e : H a = some (.dK kvs)) (hl : kvs.length < sizeLine) : DPut H a (kV k) v (upd H a (.dK (putK kvs k v))) := .inl ⟨kvs, k, e, rfl, hl, rfl⟩
theorem DPut.t {H : Hp} {a b : Addr} {kvs : List (List Key × V)} {k : List Key} {v : V} (e : H a = some (.dT kvs)) (eb : H b = some (.tup (k.map kV))) (hl : kvs.length < sizeLine) :
    DPut H a (.ref b) v (upd H a (.dT (putK kvs k v))) := .inr ⟨kvs, k, b, e, rfl, eb, hl, rfl⟩


section
variable {X : Cx} {pins : List (Addr × Obj)} {σ : St} {H : Hp} {s : Shared} {a : Addr} {y v : V} {u r : Value} {o : Option V} {A : Around} {E : Value → Shared → Prop}

theorem Inv.big (I : Inv X pins σ H s) : sysModules < s.heap.objs.size := by
  have h : mainGlobals < s.heap.objs.size := (I.mod.glob.keeps I.bk).lt
  exact Nat.lt_trans (by decide) h

/-- d[y], there -/
theorem d_getItem {Q : Value → Shared → Prop} (hu : A.units + 1 < cLine) (I : Inv X pins σ H s) (g : DGet H a y (some v)) (ry : RelV y u) (h : ∀ w' s', Inv X pins σ H s' → RelV v w' → Q w' s') :
    wpAny (model X.prog X.w) A (getItem (.ref a) u) Q E s := by
  rcases g with ⟨kvs, k, e, ey, l⟩ | ⟨kvs, k, b, e, ey, eb, l⟩
  · subst ey
    obtain ⟨z, hd, vs, rel, dd⟩ := dk_rd I.hok e
    obtain ⟨w', hw, rw'⟩ := RelO.some_of (v := v) (o := valueAt vs k) (by rw [l]; exact rel.val k)
    exact wpAny_getItem_of (kV_is ry) dd.mapOf hw (h w' _ (I.tok _) rw')
  · subst ey
    cases (show u = Value.ref b from ry)
    obtain ⟨z, hd, xs, rel, dd⟩ := dt_rd I.hok e
    obtain ⟨w', hw, rw'⟩ := RelO.some_of (v := v) (o := (atKey xs k).map (·.2)) (by rw [l]; exact rel.val k)
    obtain ⟨p, hp, hp2⟩ := Option.map_eq_some_iff.mp hw
    refine wpAny_getItem_heap (tupleKind_room_in1 hu) (key_of I.hok eb) dd hp ?_
    rw [hp2]
    exact h w' _ (I.tok _) rw'
/-- y in d -/
theorem d_in {Q : Value → Shared → Prop} (hu : A.units + 1 < cLine) (I : Inv X pins σ H s) (g : DGet H a y o) (ry : RelV y u) (h : ∀ s', Inv X pins σ H s' → Q (.bool o.isSome) s') :
    wpAny (model X.prog X.w) A (compareOp .In u (.ref a)) Q E s := by
  rcases g with ⟨kvs, k, e, ey, l⟩ | ⟨kvs, k, b, e, ey, eb, l⟩
  · subst ey
    obtain ⟨z, hd, vs, rel, dd⟩ := dk_rd I.hok e
    refine wpAny_in_of (kV_is ry) hd dd.mapOf ?_
    rw [← (rel.val k).isSome_eq, ← l]
    exact h _ (I.tok _)
  · subst ey
    cases (show u = Value.ref b from ry)
    obtain ⟨z, hd, xs, rel, dd⟩ := dt_rd I.hok e
    refine wpAny_in_heap (tupleKind_room_in1 hu) (key_of I.hok eb) hd dd ?_
    have q := (rel.val k).isSome_eq
    rw [Option.isSome_map] at q
    rw [← q, ← l]
    exact h _ (I.tok _)
theorem d_notIn {Q : Value → Shared → Prop} (hu : A.units + 1 < cLine) (I : Inv X pins σ H s) (g : DGet H a y o) (ry : RelV y u) (h : ∀ s', Inv X pins σ H s' → Q (.bool (!o.isSome)) s') :
    wpAny (model X.prog X.w) A (compareOp .NotIn u (.ref a)) Q E s := by
  rcases g with ⟨kvs, k, e, ey, l⟩ | ⟨kvs, k, b, e, ey, eb, l⟩
  · subst ey
    obtain ⟨z, hd, vs, rel, dd⟩ := dk_rd I.hok e
    refine wpAny_notIn_of (kV_is ry) hd dd.mapOf ?_
    rw [← (rel.val k).isSome_eq, ← l]
    exact h _ (I.tok _)
  · subst ey
    cases (show u = Value.ref b from ry)
    obtain ⟨z, hd, xs, rel, dd⟩ := dt_rd I.hok e
    refine wpAny_notIn_heap (tupleKind_room_in1 hu) (key_of I.hok eb) hd dd ?_
    have q := (rel.val k).isSome_eq
    rw [Option.isSome_map] at q
    rw [← q, ← l]
    exact h _ (I.tok _)
/-- a dict's object is replaced -/
theorem d_write {h' : Heap} {t' : Nat} {ob : HO} (I : Inv X pins σ H s) (mu : Mut (H a)) (hs : Heap.SameBut a s.heap h') (he : ∃ q, h'.get? a = some q) (new : ObjOk X.prog X.w (upd H a ob) h' a ob) :
    Inv X pins σ (upd H a ob) { s with heap := h', toks := t' } :=
  I.write (x := a) (e := a) mu (.inl rfl) (fun b q hb z => (hs.2 b hb).trans z) he new
theorem dk_new {P : Program} {w : World} {H' : Hp} {h' : Heap} {kvs : List (Key × V)} {vs : List (Key × Value)} (z : kvs.length ≤ sizeLine) (hd : (a == sysModules) = false) (rel : KV kvs vs) (dd : h'.DictOf (mixKind P w) a vs) :
    ObjOk P w H' h' a (.dK kvs) := ⟨z, hd, vs, rel, dd⟩
/-- d[y] = v -/
theorem d_setItem {H' : Hp} {Q : Unit → Shared → Prop} (hu : A.units + 1 < cLine) (I : Inv X pins σ H s) (g : DPut H a y v H') (ry : RelV y u) (rv : RelV v r) (h : ∀ s', Inv X pins σ H' s' → Q () s') :
    wpAny (model X.prog X.w) A (setItem (.ref a) u r) Q E s := by
  rcases g with ⟨kvs, k, e, ey, l, eH⟩ | ⟨kvs, k, b, e, ey, eb, l, eH⟩
  · subst ey eH
    obtain ⟨z, hd, vs, rel, dd⟩ := dk_of I.hok e
    have hz : vs.length ≤ sizeLine := by rw [← rel.length]; exact z
    have hl : (putK kvs k v).length ≤ sizeLine := by have := length_putK kvs k v; omega
    refine wpAny_setItem_pairs (hsz := hz) (kV_is ry) dd fun h' dd' hs => h _ ?_
    have he : ∃ q, h'.get? a = some q := let ⟨q, _, _, hq, _⟩ := dd'; ⟨q, hq⟩
    exact d_write I (by rw [e]; exact True.intro) hs he (dk_new hl hd (rel.put k rv) dd')
  · subst ey eH
    cases (show u = Value.ref b from ry)
    obtain ⟨z, hd, xs, rel, dd⟩ := dt_of I.hok e
    have hz : xs.length ≤ sizeLine := by rw [← Paired.length rel]; exact z
    have hl : (putK kvs k v).length ≤ sizeLine := by have := length_putK kvs k v; omega
    refine wpAny_setItem_heap (hsz := hz) (tupleKind_room_in1 hu) (key_of I.hok eb) dd fun h' dd' hs => h _ ?_
    obtain ⟨q, es, ep, hq, h2, h3, h4, _, h5⟩ := dd'
    refine d_write I (by rw [e]; exact True.intro) hs ⟨q, hq⟩ ⟨hl, hd, _, (rel.put k eb rv).keeps fun c ys ec => ?_, q, es, ep, hq, h2, h3, h4, h5⟩
    rw [upd_ne (ne_of ec e (fun z => nomatch z))]
    exact ec
end

section
variable {X : Cx} {pins : List (Addr × Obj)} {σ : St} {H : Hp} {s : Shared} {a : Addr} {kvs : List (Key × V)} {k : Key} {u : Value} {A : Around} {E : Value → Shared → Prop}
/-- del d[k] -/
theorem d_delItem {Q : Unit → Shared → Prop} (I : Inv X pins σ H s) (e : H a = some (.dK kvs)) (ry : RelV (kV k) u) (l : (valV kvs k).isSome = true) (h : ∀ s', Inv X pins σ (upd H a (.dK (dropK kvs k))) s' → Q () s') :
    wpAny (model X.prog X.w) A (delItem (.ref a) u) Q E s := by
  obtain ⟨z, hd, vs, rel, dd⟩ := dk_of I.hok e
  refine wpAny_delItem_slot dd.typeIs (by decide) PySem.F.slot_dict_delitem
    (call_meetsIn PySem.F.slot_dict_delitem dd.typeIs PySem.F.entry_dict_delitem (PySem.F.args_dict_delitem_2 _ _) (meets_dict_delitem_pairs (mixKind X.prog X.w) a (kV_is ry)) ⟨vs, dd, by rw [← rel.length]; exact z, by rw [← (rel.val k).isSome_eq]; exact l, fun h' dd' hs => h _ ?_⟩)
  have he : ∃ q, h'.get? a = some q := let ⟨q, _, _, hq, _⟩ := dd'; ⟨q, hq⟩
  exact d_write I (by rw [e]; exact True.intro) hs he (dk_new (Nat.le_trans (dropK_le kvs k) z) hd (rel.drop k) dd')
/-- d.pop(k[, x]), there -/
theorem d_pop {v : V} {more : List Value} {Q : Value → Shared → Prop} (I : Inv X pins σ H s) (e : H a = some (.dK kvs)) (ry : RelV (kV k) u) (l : valV kvs k = some v) (hm : more = [] ∨ ∃ x, more = [x])
    (h : ∀ w' s', Inv X pins σ (upd H a (.dK (dropK kvs k))) s' → RelV v w' → Q w' s') : wpAny (model X.prog X.w) A (call (.builtin "dict.pop") (.ref a :: u :: more)) Q E s := by
  obtain ⟨z, hd, vs, rel, dd⟩ := dk_of I.hok e
  obtain ⟨w', hw, rw'⟩ := RelO.some_of (v := v) (o := valueAt vs k) (by rw [← l]; exact rel.val k)
  have hp : (keyPart u).isSome = true := by
    cases k with
    | inl i => obtain ⟨t, q⟩ := (show ∃ t, u = Value.int i t from ry); subst q; rfl
    | inr x => obtain ⟨t, q⟩ := (show ∃ t, u = Value.str x t from ry); subst q; rfl
  have ha : argsOk "dict.pop" ⟨.ref a :: u :: more, []⟩ := by
    rcases hm with q | ⟨x, q⟩
    · subst q; exact PySem.F.args_dict_pop_2 _ _
    · subst q; exact PySem.F.args_dict_pop_3 _ _ _
  refine call_meetsIn PySem.F.slot_dict_pop dd.typeIs PySem.F.entry_dict_pop ha (meets_dict_pop_there (mixKind X.prog X.w) a (kV_is ry) more hm hp)
    ⟨vs, w', dd, by rw [← rel.length]; exact z, hw, fun h' dd' hs => h w' _ ?_ rw'⟩
  have he : ∃ q, h'.get? a = some q := let ⟨q, _, _, hq, _⟩ := dd'; ⟨q, hq⟩
  exact d_write I (by rw [e]; exact True.intro) hs he (dk_new (Nat.le_trans (dropK_le kvs k) z) hd (rel.drop k) dd')
/-- d.pop(k, x), not there -/
theorem d_popD {r : Value} {Q : Value → Shared → Prop} (I : Inv X pins σ H s) (e : H a = some (.dK kvs)) (ry : RelV (kV k) u) (l : valV kvs k = none) (h : ∀ s', Inv X pins σ H s' → Q r s') :
    wpAny (model X.prog X.w) A (call (.builtin "dict.pop") [.ref a, u, r]) Q E s := by
  obtain ⟨z, hd, vs, rel, dd⟩ := dk_of I.hok e
  have hn : valueAt vs k = none := RelO.none_of (by rw [← l]; exact rel.val k)
  have hp : (keyPart u).isSome = true := by
    cases k with
    | inl i => obtain ⟨t, q⟩ := (show ∃ t, u = Value.int i t from ry); subst q; rfl
    | inr x => obtain ⟨t, q⟩ := (show ∃ t, u = Value.str x t from ry); subst q; rfl
  exact call_meetsIn PySem.F.slot_dict_pop dd.typeIs PySem.F.entry_dict_pop (PySem.F.args_dict_pop_3 _ _ _) (meets_dict_pop_default (mixKind X.prog X.w) a (kV_is ry) hd hp r) ⟨vs, dd, hn, h _ (I.tok _)⟩
/-- d.clear() -/
theorem d_clear {Q : Value → Shared → Prop} (I : Inv X pins σ H s) (e : H a = some (.dK kvs)) (h : ∀ s', Inv X pins σ (upd H a (.dK [])) s' → Q .none s') : wpAny (model X.prog X.w) A (call (.builtin "dict.clear") [.ref a]) Q E s := by
  obtain ⟨z, hd, vs, rel, dd⟩ := dk_of I.hok e
  refine call_meetsIn PySem.F.slot_dict_clear dd.typeIs PySem.F.entry_dict_clear (PySem.F.args_dict_clear_1 _) (meets_dict_clear (mixKind X.prog X.w) a) ⟨vs, dd, by rw [← rel.length]; exact z, fun h' dd' hs => h _ ?_⟩
  have he : ∃ q, h'.get? a = some q := let ⟨q, _, _, hq, _⟩ := dd'; ⟨q, hq⟩
  exact d_write (t' := s.toks) I (by rw [e]; exact True.intro) hs he (dk_new (Nat.zero_le _) hd .nil dd')
/-- len(d) -/
theorem d_len {Q : Value → Shared → Prop} (I : Inv X pins σ H s) (e : Rd H a (.dK kvs)) (h : ∀ t s', Inv X pins σ H s' → Q (.int kvs.length t) s') : wpAny (model X.prog X.w) A (call (.builtin "len") [.ref a]) Q E s := by
  obtain ⟨z, hd, vs, rel, dd⟩ := dk_rd I.hok e
  refine call_len_dict hd dd (by rw [← rel.length]; rw [sizeLine_eq] at z; omega) ?_
  rw [← rel.length]
  exact h _ _ (I.tok _)
/-- if d -/
theorem d_truth {Q : Bool → Shared → Prop} (I : Inv X pins σ H s) (e : Rd H a (.dK kvs)) (h : ∀ s', Inv X pins σ H s' → Q (!kvs.isEmpty) s') : wpAny (model X.prog X.w) A (truthy (.ref a)) Q E s := by
  obtain ⟨z, hd, vs, rel, dd⟩ := dk_rd I.hok e
  refine wpAny_truthy_dict hd dd (by rw [← rel.length]; rw [sizeLine_eq] at z; omega) ?_
  have q : kvs.isEmpty = vs.isEmpty := by cases rel <;> rfl
  rw [← q]
  exact h _ (I.tok _)
end


/-! ### readings and rules -/
/-- the element of a subscription, not a slice -/
def NoSl (i : Expr) : Prop := ∀ ov iv, subscripted i false ov iv = operate [ov, iv] (getItem ov iv)
theorem subD_of {prog : Program} {w : World} {A : Around} {E : Value → Shared → Prop} {s : Shared} {env : Env} {value slice : Expr} {pos : Pos} {T id : String} {Q : Value → Shared → Prop}
    (hl : typeLookup (.type T) "__getitem__" = pure (some (.builtin id))) (hs : NoSl slice)
    (h : wpAny (model prog w) A (eval value env) (fun o s₁ => wpAny (model prog w) A (eval slice env) (fun i s₂ => s₂.TypeIs o T ∧ wpAny (model prog w) A (getItem o i) Q E s₂) E s₁) E s) :
    wpAny (model prog w) A (eval (.Subscript value slice pos) env) Q E s := by
  refine Subscript_ (wpAny_mono h (fun o s₁ h₁ => wpAny_mono h₁ (fun i s₂ h₂ => ?_) fun _ _ x => x) fun _ _ x => x)
  obtain ⟨hT, h₂⟩ := h₂
  unfold subscriptTail
  refine wpAny_bind ?_
  rw [getitemInPython_of_ne hT.not_modules]
  refine wpAny_bind (wpAny_specialOf hT hl ?_)
  have fin : wpAny (model prog w) A (subscripted slice false o i) (fun r s₃ => wpAny (model prog w) A (letTemporaryGo value o r >>= fun _ => pure r) Q E s₃) E s₂ := by
    rw [hs o i]
    exact wpAny_operating (wpAny_mono h₂ (fun r s₃ h₃ => wpAny_bind (wpAny_letTemporaryGo (wpAny_pure h₃))) fun _ _ x => x)
  first
    | exact wpAny_pure (wpAny_bind fin)
    | exact wpAny_bind (wpAny_pure (wpAny_bind fin))
    | exact wpAny_bind fin

theorem dict_typeIs {X : Cx} {pins : List (Addr × Obj)} {σ : St} {H : Hp} {s : Shared} {a : Addr} {y : V} {o : Option V} (I : Inv X pins σ H s) (g : DGet H a y o) : s.TypeIs (.ref a) "dict" := by
  rcases g with ⟨kvs, k, e, _, _⟩ | ⟨kvs, k, b, e, _, _, _⟩
  · obtain ⟨_, _, vs, _, dd⟩ := dk_rd I.hok e
    exact dd.typeIs
  · obtain ⟨_, _, xs, _, dd⟩ := dt_rd I.hok e
    exact dd.typeIs
theorem dict_noDict {X : Cx} {pins : List (Addr × Obj)} {σ : St} {H : Hp} {s : Shared} {a : Addr} {y : V} {o : Option V} (I : Inv X pins σ H s) (g : DGet H a y o) :
    ∀ b, Value.ref a = .ref b → ∃ ob, s.heap.get? b = some ob ∧ ob.dict = none := fun b q => by
  cases q
  rcases g with ⟨kvs, k, e, _, _⟩ | ⟨kvs, k, b, e, _, _, _⟩
  · obtain ⟨_, _, vs, _, ob, _, _, h1, h2, _⟩ := dk_rd I.hok e
    exact ⟨ob, h1, h2.2.1⟩
  · obtain ⟨_, _, xs, _, ob, _, _, h1, h2, _⟩ := dt_rd I.hok e
    exact ⟨ob, h1, h2.2.1⟩

/-- d[y] -/
def tDGet (td ty : TE) : TE := fun σ H Q => td σ H fun x H1 => ty σ H1 fun y H2 => ∃ a v, x = .ref a ∧ DGet H2 a y (some v) ∧ Q v H2
/-- y in d, y not in d -/
def tDIn (ty td : TE) : TE := fun σ H Q => ty σ H fun y H1 => td σ H1 fun x H2 => ∃ a o, x = .ref a ∧ DGet H2 a y o ∧ Q (.bl o.isSome) H2
def tDNotIn (ty td : TE) : TE := fun σ H Q => ty σ H fun y H1 => td σ H1 fun x H2 => ∃ a o, x = .ref a ∧ DGet H2 a y o ∧ Q (.bl (!o.isSome)) H2
/-- d[y] = v -/
def sDPut (td ty tv : TE) : TS := fun D σ H => tv σ H fun v H1 => td σ H1 fun x H2 => ty σ H2 fun y H3 => ∃ a H4, x = .ref a ∧ DPut H3 a y v H4 ∧ D.nx σ H4
/-- d[y] op= v -/
def sDAug (td ty tv : TE) (rd : V → V → Hp → VK → Prop) : TS := fun D σ H => td σ H fun x H1 => ty σ H1 fun y H2 => ∃ a v, x = .ref a ∧ DGet H2 a y (some v) ∧
  tv σ H2 fun y2 H3 => rd v y2 H3 fun z H4 => ∃ H5, DPut H4 a y z H5 ∧ D.nx σ H5
/-- del d[y] -/
def sDDel (td ty : TE) : TS := fun D σ H => td σ H fun x H1 => ty σ H1 fun y H2 => ∃ a kvs k, x = .ref a ∧ H2 a = some (.dK kvs) ∧ y = kV k ∧ (valV kvs k).isSome = true ∧ D.nx σ (upd H2 a (.dK (dropK kvs k)))

section
variable {X : Cx} {o i e value : Expr} {pos pos' tpos : Pos} {td ty tv : TE}
theorem pe_dget (hu : X.A.units + 1 < cLine) (ho : PE X o td) (hi : PE X i ty) (hs : NoSl i) : PE X (.Subscript o i pos) (tDGet td ty) := by
  intro pins s σ H Q I h
  refine subD_of PySem.F.slot_dict_getitem.lookup hs (thn (ho pins s σ H _ I h) fun u s1 ⟨x, H1, I1, rx, q1⟩ => thn (hi pins s1 σ H1 _ I1 q1) fun iv s2 ⟨y, H2, I2, ry, a, v, ex, g, q2⟩ => ?_)
  subst ex
  obtain rfl : u = Value.ref a := rx
  exact ⟨dict_typeIs I2 g, d_getItem hu I2 g ry fun w' s3 I3 rw' => ⟨v, H2, I3, rw', q2⟩⟩
theorem pc_din (hu : X.A.units + 1 < cLine) (hi : PE X i ty) (ho : PE X o td) : PC X .In i o (tDIn ty td) := by
  intro pins s σ H Q I h
  refine thn (hi pins s σ H _ I h) fun iv s1 ⟨y, H1, I1, ry, q1⟩ => thn (ho pins s1 σ H1 _ I1 q1) fun u s2 ⟨x, H2, I2, rx, a, ov, ex, g, q2⟩ => ?_
  subst ex
  obtain rfl : u = Value.ref a := rx
  exact d_in hu I2 g ry fun s3 I3 => ⟨.bl ov.isSome, H2, I3, rfl, q2⟩
theorem pc_dnotin (hu : X.A.units + 1 < cLine) (hi : PE X i ty) (ho : PE X o td) : PC X .NotIn i o (tDNotIn ty td) := by
  intro pins s σ H Q I h
  refine thn (hi pins s σ H _ I h) fun iv s1 ⟨y, H1, I1, ry, q1⟩ => thn (ho pins s1 σ H1 _ I1 q1) fun u s2 ⟨x, H2, I2, rx, a, ov, ex, g, q2⟩ => ?_
  subst ex
  obtain rfl : u = Value.ref a := rx
  exact d_notIn hu I2 g ry fun s3 I3 => ⟨.bl (!ov.isSome), H2, I3, rfl, q2⟩
theorem ps_dput (hu : X.A.units + 1 < cLine) (ho : PE X o td) (hi : PE X i ty) (hv : PE X value tv) (hs : swapsWith value (some (.Subscript o i pos')) pos.line X.env = pure false) :
    PS X (.Assign [.Subscript o i pos'] value pos) (sDPut td ty tv) := by
  intro pins s σ H D I h
  refine wpAny_Assign_Subscript (thn (hv pins s σ H _ I h) fun r s1 ⟨v, H1, I1, rv, q1⟩ => thn (ho pins s1 σ H1 _ I1 q1) fun u s2 ⟨x, H2, I2, rx, q2⟩ => thn (hi pins s2 σ H2 _ I2 q2) fun iv s3 ⟨y, H3, I3, ry, a, H4, ex, g, q3⟩ => ?_) hs
  subst ex
  obtain rfl : u = Value.ref a := rx
  exact d_setItem hu I3 g ry rv fun s4 I4 => ⟨σ, H4, I4, q3⟩
theorem ps_daug {op : Operator} {rd : V → V → Hp → VK → Prop} (hu : X.A.units + 1 < cLine) (ho : PE X o td) (hi : PE X i ty) (hv : PE X value tv) (hop : InOp X op rd)
    (ha : ∀ ov iv new, augStore i ov iv new = (do holding [new, ov, iv] (setItem ov iv new); release [new, ov, iv] []; pure .next)) : PS X (.AugAssign (.Subscript o i tpos) op value pos) (sDAug td ty tv rd) := by
  intro pins s σ H D I h
  refine wpAny_AugAssign_SubscriptAny (thn (ho pins s σ H _ I h) fun u s1 ⟨x, H1, I1, rx, q1⟩ => thn (hi pins s1 σ H1 _ I1 q1) fun iv s2 ⟨y, H2, I2, ry, a, v, ex, g, q2⟩ => ?_) ha
  subst ex
  obtain rfl : u = Value.ref a := rx
  refine d_getItem hu I2 g ry fun w' s3 I3 rw' => thn (hv pins s3 σ H2 _ I3 q2) fun w2 s4 ⟨y2, H3, I4, ry2, q3⟩ => thn (hop pins s4 σ H3 v y2 w' w2 _ I4 rw' ry2 q3) fun w3 s5 ⟨z, H4, I5, rz, H5, g5, q4⟩ => ?_
  exact d_setItem hu I5 g5 ry rz fun s6 I6 => ⟨σ, H5, I6, q4⟩
theorem ps_ddel (ho : PE X o td) (hi : PE X i ty) : PS X (.Delete [.Subscript o i tpos] pos) (sDDel td ty) := by
  intro pins s σ H D I h
  refine wpAny_Delete (wpAny_deleteEach_cons (wpAny_delete_Subscript (thn (ho pins s σ H _ I h) fun u s1 ⟨x, H1, I1, rx, q1⟩ => thn (hi pins s1 σ H1 _ I1 q1) fun iv s2 ⟨y, H2, I2, ry, a, kvs, k, ex, e, ey, l, q2⟩ => ?_)))
  subst ex ey
  obtain rfl : u = Value.ref a := rx
  exact d_delItem I2 e ry l fun s3 I3 => wpAny_deleteEach_nil ⟨σ, _, I3, q2⟩
end


/-! ### displays -/
theorem dk_empty {P : Program} {w : World} {H : Hp} (h : Heap) (hb : sysModules < h.objs.size) : ObjOk P w H (h.push { cls := .type "dict", data := .dict #[] }) h.objs.size (.dK []) :=
  ⟨Nat.zero_le _, beq_eq_false_iff_ne.mpr (Ne.symm (Nat.ne_of_lt hb)), [], .nil, Heap.DictOf.new h⟩
theorem dt_empty {P : Program} {w : World} {H : Hp} (h : Heap) (hb : sysModules < h.objs.size) : ObjOk P w H (h.push { cls := .type "dict", data := .dict #[] }) h.objs.size (.dT []) :=
  ⟨Nat.zero_le _, beq_eq_false_iff_ne.mpr (Ne.symm (Nat.ne_of_lt hb)), [], .nil, _, #[], 0, Heap.get?_push_size _ rfl, ⟨rfl, rfl, rfl⟩, rfl, rfl, List.nodup_nil⟩
/-- {}, to be a dict of the kind that is wanted -/
def tDNewK : TE := fun _ H Q => ∀ p, H p = none → Q (.ref p) (upd H p (.dK []))
def tDNewT : TE := fun _ H Q => ∀ p, H p = none → Q (.ref p) (upd H p (.dT []))
section
variable {X : Cx} {pos : Pos}
theorem pe_dnewK : PE X (.Dict [] [] pos) tDNewK := fun pins s σ H Q I h =>
  wpAny_Dict_empty ⟨.ref s.heap.objs.size, _, I.laid (a := s.heap.objs.size) (o := .dK []) (t' := s.toks) (fun _ _ q => Heap.get?_push_of_some _ q) (Nat.le_refl _) (dk_empty s.heap I.big), rfl, h _ (I.hok.fresh (Nat.le_refl _))⟩
theorem pe_dnewT : PE X (.Dict [] [] pos) tDNewT := fun pins s σ H Q I h =>
  wpAny_Dict_empty ⟨.ref s.heap.objs.size, _, I.laid (a := s.heap.objs.size) (o := .dT []) (t' := s.toks) (fun _ _ q => Heap.get?_push_of_some _ q) (Nat.le_refl _) (dt_empty s.heap I.big), rfl, h _ (I.hok.fresh (Nat.le_refl _))⟩
end

/-- the pairs of a display, from the left -/
def tPairs : List (TE × TE) → St → Hp → (List (V × V) → Hp → Prop) → Prop
  | [], _, H, Q => Q [] H
  | (tk, tv) :: r, σ, H, Q => tk σ H fun x H1 => tv σ H1 fun y H2 => tPairs r σ H2 fun ps H3 => Q ((x, y) :: ps) H3
abbrev VV : List (V × V) → List (Value × Value) → Prop := Paired fun p q => RelV p.1 q.1 ∧ RelV p.2 q.2
def PPs (X : Cx) (pos : Pos) (keys : List (Option Expr)) (values : List Expr) (trs : List (TE × TE)) : Prop :=
  ∀ (pins : List (Addr × Obj)) (s : Shared) (σ : St) (H : Hp) (Q : List (V × V) → Hp → Prop), Inv X pins σ H s → tPairs trs σ H Q →
    wpAny (model X.prog X.w) X.A (evalPairs (pairTrees keys values X.env pos)) (fun vs s' => ∃ ps H', Inv X pins σ H' s' ∧ VV ps vs ∧ Q ps H') X.xe s
theorem pps_nil {X : Cx} {pos : Pos} : PPs X pos [] [] [] := fun pins s σ H Q I h => pairTrees_nil_walk ⟨[], H, I, .nil, h⟩
theorem pps_cons {X : Cx} {pos : Pos} {k v : Expr} {ks : List (Option Expr)} {vs : List Expr} {tk tv : TE} {trs : List (TE × TE)} (hk : PE X k tk) (hv : PE X v tv) (hr : PPs X pos ks vs trs) :
    PPs X pos (some k :: ks) (v :: vs) ((tk, tv) :: trs) := fun pins s σ H Q I h =>
  pairTrees_cons_walk (thn (hk pins s σ H _ I h) fun u s1 ⟨x, H1, I1, rx, q1⟩ => thn (hv pins s1 σ H1 _ I1 q1) fun w2 s2 ⟨y, H2, I2, ry, q2⟩ =>
    thn (hr pins s2 σ H2 _ I2 q2) fun ws s3 ⟨ps, H3, I3, rel, q3⟩ => ⟨(x, y) :: ps, H3, I3, .cons ⟨rx, ry⟩ rel, q3⟩)

def mergeK (kvs more : List (Key × V)) : List (Key × V) := more.foldl (fun acc kv => putK acc kv.1 kv.2) kvs
theorem KV.merge : ∀ {more : List (Key × V)} {rs : List (Key × Value)} {kvs : List (Key × V)} {vs : List (Key × Value)}, KV more rs → KV kvs vs → KV (mergeK kvs more) (merged vs rs) := by
  intro more rs kvs vs r
  unfold KV at r
  induction r generalizing kvs vs with
  | nil => intro q; exact q
  | @cons p q ps qs h t ih =>
    intro r0
    have e : KV (putK kvs p.1 p.2) (stored vs q.1 q.2) := by
      have := r0.put p.1 h.2
      rw [← h.1]; exact this
    exact ih e
theorem length_mergeK : ∀ (more kvs : List (Key × V)), (mergeK kvs more).length ≤ kvs.length + more.length
  | [], kvs => by show kvs.length ≤ kvs.length + 0; omega
  | p :: r, kvs => by
    have h1 := length_mergeK r (putK kvs p.1 p.2)
    have h2 := length_putK kvs p.1 p.2
    show (mergeK (putK kvs p.1 p.2) r).length ≤ _
    rw [List.length_cons]; omega
theorem carries_of {P : Program} {w : World} : ∀ {kvs : List (Key × V)} {ws : List (Value × Value)}, VV (kvs.map fun kv => (kV kv.1, kv.2)) ws → ∃ rs, Carries (mixKind P w) ws rs ∧ KV kvs rs
  | [], _, r => by rw [List.map_nil] at r; cases r; exact ⟨[], True.intro, .nil⟩
  | p :: kvs, _, r => by
    rw [List.map_cons] at r
    cases r with
    | @cons a b as bs h t =>
      obtain ⟨rs, c, q⟩ := carries_of (P := P) (w := w) t
      obtain ⟨b1, b2⟩ := b
      exact ⟨(p.1, b2) :: rs, ⟨kV_is h.1, rfl, c⟩, .cons ⟨rfl, h.2⟩ q⟩
/-- {k: v, ..} with keys ints and texts; the new dict stands empty while the pairs are made -/
def tDisp (trs : List (TE × TE)) : TE := fun σ H Q => ∀ p, H p = none → tPairs trs σ (upd H p (.dK [])) fun ps H2 => H2 p = some (.dK []) ∧ ∃ kvs : List (Key × V), ps = kvs.map (fun kv => (kV kv.1, kv.2)) ∧ kvs.length ≤ 15 ∧ Q (.ref p) (upd H2 p (.dK (mergeK [] kvs)))
theorem pe_disp {X : Cx} {pos : Pos} {keys : List (Option Expr)} {values : List Expr} {trs : List (TE × TE)} (h : PPs X pos keys values trs) (hall : keys.all (·.isSome) = true) (hl : keys.length = values.length) (h0 : keys ≠ [])
    (h15 : keys.length ≤ 15) : PE X (.Dict keys values pos) (tDisp trs) := by
  intro pins s σ H Q I q
  have hn := I.hok.fresh (Nat.le_refl s.heap.objs.size)
  have I1 := I.laid (a := s.heap.objs.size) (o := .dK []) (h' := s.heap.push { cls := .type "dict", data := .dict #[] }) (t' := s.toks) (fun _ _ q => Heap.get?_push_of_some _ q) (Nat.le_refl _) (dk_empty s.heap I.big)
  refine wpAny_Dict_walk (knd := mixKind X.prog X.w) hall hl h0 h15 (thn (h pins _ σ _ _ I1 (q _ hn)) fun ws s2 ⟨ps, H2, I2, rel, e, kvs, ep, lk, q2⟩ => ?_)
  subst ep
  obtain ⟨rs, c, rk⟩ := carries_of (P := X.prog) (w := X.w) rel
  obtain ⟨z, hd, vs0, r0, dd⟩ := dk_of I2.hok e
  cases r0
  refine ⟨rs, c, dd, fun h' dd' hs => ⟨.ref s.heap.objs.size, _, ?_, rfl, q2⟩⟩
  have hz : (mergeK [] kvs).length ≤ sizeLine := by
    have h1 := length_mergeK kvs []
    rw [List.length_nil] at h1
    rw [sizeLine_eq]; omega
  have he : ∃ q, h'.get? s.heap.objs.size = some q := let ⟨q, _, _, hq, _⟩ := dd'; ⟨q, hq⟩
  exact d_write I2 (by rw [e]; exact True.intro) hs he (dk_new hz hd (rk.merge .nil) dd')


end L2
set_option maxHeartbeats 4000000
namespace L2
open PySem PySem.Spec PyProof.Rows
/-! ### text[::-1] -/
theorem picked_rev (n : Nat) : Builtin.Str.strSliceIndices none none (-1) n = (List.range n).map fun k => n - 1 - k := by
  show sliceRange ((n : Int) - 1) (-1) (-1) = _
  unfold sliceRange
  dsimp only
  rw [if_neg (by decide)]
  have e : (if (n : Int) - 1 > -1 then ((n : Int) - 1 - -1 - -1 - 1) / - -1 else 0).toNat = n := by
    split
    · rw [show - -(1 : Int) = 1 by decide, Int.ediv_one]; omega
    · show (0 : Int).toNat = n; omega
  rw [e]
  refine List.map_congr_left fun k hk => ?_
  have := List.mem_range.mp hk
  omega
theorem fm_map (xs : Array Nat) : ∀ L : List Nat, (∀ k ∈ L, k < xs.size) → L.filterMap (xs[·]?) = L.map fun k => xs.toList.getD k 0
  | [], _ => rfl
  | k :: L, h => by
    have hk := h k (by simp)
    have e : xs[k]? = some (xs.toList.getD k 0) := by
      rw [List.getD_eq_getElem?_getD]
      simp [hk]
    rw [List.filterMap_cons, e, fm_map xs L fun z hz => h z (List.mem_cons_of_mem _ hz)]
    rfl
theorem filterMap_rev (xs : Array Nat) : (((List.range xs.size).map fun k => xs.size - 1 - k).filterMap (xs[·]?)) = xs.toList.reverse := by
  rw [fm_map]
  · rw [List.map_map]
    apply List.ext_getElem?
    intro i
    by_cases hi : i < xs.size
    · rw [List.getElem?_map, List.getElem?_range hi, Option.map_some, List.getElem?_reverse (by simpa using hi)]
      show some (xs.toList.getD (xs.size - 1 - i) 0) = _
      have h1 : xs.size - 1 - i < xs.toList.length := by simp; omega
      rw [List.getD_eq_getElem?_getD, Array.length_toList, List.getElem?_eq_getElem h1]; rfl
    · rw [List.getElem?_eq_none (by simp; omega), List.getElem?_eq_none (by simp; omega)]
  · intro k hk
    obtain ⟨z, hz, rfl⟩ := List.mem_map.mp hk
    have := List.mem_range.mp hz
    omega
section
variable {X : Cx}
def tRevS (te : TE) (ts : TO) : TE := fun σ H Q => te σ H fun x H1 => ts σ H1 fun k H2 => ∃ z, x = .str z ∧ k = some (-1) ∧ z.length ≤ sizeLine ∧ Q (.str ⟨z.cps.toList.reverse.toArray⟩) H2
theorem pe_revS {e st : Expr} {te : TE} {ts : TO} {p2 pos : Pos} (he : PE X e te) (hst : PO X (some st) ts) : PE X (.Subscript e (.Slice none none (some st) p2) pos) (tRevS te ts) := by
  intro pins s σ H Q I h
  refine Subscript_ (thn (he pins s σ H _ I h) fun v s1 ⟨x, H1, I1, r1, q1⟩ => ?_)
  refine wpAny_Slice ?_
  rw [evalPart_none]
  refine wpAny_pure (wpAny_pure (thn (hst pins s1 σ H1 _ I1 q1) fun vt s4 ⟨k, H4, I4, pt, z, e1, ek, hz, q4⟩ => ?_))
  subst e1 ek
  obtain ⟨t, rfl⟩ := r1
  have I5 : Inv X pins σ H4 { s4 with heap := s4.heap.push { cls := .type "slice", data := .fields #[.none, .none, vt] } } := I4.kept (t' := s4.toks) fun b ob q => Heap.get?_push_of_some _ q
  show wpAny (model X.prog X.w) X.A (subscriptTail e (.Slice none none (some st) p2) (.str z t) (.ref s4.heap.objs.size)) (EP X pins σ Q) X.xe { s4 with heap := s4.heap.push { cls := .type "slice", data := .fields #[.none, .none, vt] } }
  refine tail_any (ops := [.ref s4.heap.objs.size, .str z t]) (typeIs_str _ _ _) PySem.F.slot_str_getitem.lookup ?_ (by with_unfolding_all rfl)
  cases pt with
  | int i u =>
    refine wpAny_getItem_str_slice (l := none) (u := none) (st := some (-1, u)) (Heap.IsSliceOf.new ..) rfl ?_
    have e : sliceMade z t none none (some (-1, u)) = Made.str ⟨z.cps.toList.reverse.toArray⟩ := by
      unfold sliceMade
      rw [if_neg (by show ¬ ((((-1 : Int) == 1) && _) = true); simp)]
      have e2 : slicePicked z none none (some (-1, u)) = (List.range z.cps.size).map fun k => z.cps.size - 1 - k := picked_rev z.length
      rw [e2, filterMap_rev]
    rw [e]
    exact ⟨by show z.cps.toList.reverse.toArray.size ≤ _; simp only [List.size_toArray, List.length_reverse, Array.length_toList]; exact hz, ⟨.str _, H4, I5.tok _, ⟨_, rfl⟩, q4⟩⟩
end
/-! ### {"x": u, ".": v}[sign] -/
section
variable {σ : St} {H : Hp} {ty : TE}
theorem te_disp2 {a b : Str} {u v : V} {Q : VK} {z : Bool} (hab : ¬ a = b) (hy : ∀ H', Same H H' → Pv ty σ H' (.str (if z then a else b))) (q : ∀ H', Same H H' → Q (if z then u else v) H') :
    tDGet (tDisp [(tC (.str a), tC u), (tC (.str b), tC v)]) ty σ H Q := by
  intro p hp
  refine ⟨upd_same, [(Sum.inr a, u), (Sum.inr b, v)], rfl, by show 2 ≤ 15; decide, ?_⟩
  rw [upd_upd]
  have g := same_new hp (HO.dK (mergeK [] [(Sum.inr a, u), (Sum.inr b, v)]))
  refine hy _ g _ ⟨p, if z then u else v, rfl, ?_, q _ g⟩
  have e : mergeK [] [((Sum.inr a : Key), u), (Sum.inr b, v)] = [(Sum.inr a, u), (Sum.inr b, v)] := by
    have h1 : ¬ (Sum.inr a : Key) = Sum.inr b := fun w => hab (Sum.inr.inj w)
    simp [mergeK, putK, h1]
  have hd : upd H p (HO.dK (mergeK [] [(Sum.inr a, u), (Sum.inr b, v)])) p = some (.dK [(Sum.inr a, u), (Sum.inr b, v)]) := by rw [upd_same, e]
  have k := DGet.k (k := (Sum.inr (if z then a else b) : Key)) hd
  have hv : valV [((Sum.inr a : Key), u), (Sum.inr b, v)] (Sum.inr (if z then a else b)) = some (if z then u else v) := by
    cases z
    · have h1 : ¬ (Sum.inr a : Key) = Sum.inr b := fun w => hab (Sum.inr.inj w)
      simp [valV, h1]
    · simp [valV]
  rw [hv] at k
  exact k
end
end L2

set_option maxHeartbeats 4000000
namespace Eb
open PySem L2
theorem pv_slTo {σ : St} {H : Hp} {ta tc : TE} {z : Str} {hi : Int} (ha : Pv ta σ H (.str z)) (hh : Pv tc σ H (.int hi)) (hz : z.length ≤ sizeLine) : Pv (tSl rSlS ta tNoPart (tPart tc)) σ H (.str (Txt.slice z none (some hi))) :=
  fun Q q => ha _ (hh _ ⟨hi, rfl, z, rfl, hz, q⟩)
theorem pv_slFrom {σ : St} {H : Hp} {ta tb : TE} {z : Str} {lo : Int} (ha : Pv ta σ H (.str z)) (hl : Pv tb σ H (.int lo)) (hz : z.length ≤ sizeLine) : Pv (tSl rSlS ta (tPart tb) tNoPart) σ H (.str (Txt.slice z (some lo) none)) :=
  fun Q q => ha _ (hl _ ⟨lo, rfl, z, rfl, hz, q⟩)
/-- a cell of the script -/
theorem cell_at (ns : List Int) (i : Int) (h0 : 0 ≤ i) (h : i < (ns.length : Int)) : ∃ v, atI (ns.map V.int) i = some (.int v) := by
  obtain ⟨k, rfl⟩ : ∃ k : Nat, i = (k : Int) := ⟨i.toNat, by omega⟩
  have hk : k < ns.length := by omega
  exact ⟨ns[k], atI_nat (by simp [hk])⟩
theorem cell_last (ns : List Int) (h : 1 ≤ ns.length) : ∃ v, atI (ns.map V.int) (-1) = some (.int v) := by
  have hne : ns ≠ [] := fun z => by rw [z] at h; simp at h
  refine ⟨ns.getLast hne, ?_⟩
  have e : ns.map V.int = (ns.dropLast.map V.int) ++ [V.int (ns.getLast hne)] := by
    rw [← List.map_singleton, ← List.map_append, List.dropLast_concat_getLast]
  rw [e]
  exact atI_last _ _
theorem ix_row (l : List Bool) (i : Int) (h0 : 0 ≤ i) (h : i < (l.length : Int)) : ∃ b, l[i.toNat]? = some b ∧ atI (rowS l).cps.toList i = some (sg b) := by
  obtain ⟨k, rfl⟩ : ∃ k : Nat, i = (k : Int) := ⟨i.toNat, by omega⟩
  have hk : k < l.length := by omega
  exact ⟨l[k], by simp [hk], atI_nat (by simp [rowS, hk])⟩
theorem ixN_ok (n : Nat) (i : Int) (h0 : 0 ≤ i) (h : i < (n : Int)) : ixN n i = some i.toNat := by
  unfold ixN
  rw [if_pos h0, if_pos (by omega)]
theorem chars_row (l : List Bool) : ((rowS l).cps.toList.map fun c => V.str ⟨#[c]⟩) = l.map fun b => V.str (signS b) := by
  show ((l.map sg).toArray.toList.map fun c => V.str ⟨#[c]⟩) = _
  rw [List.toList_toArray, List.map_map]
  exact List.map_congr_left fun b _ => by show V.str ⟨#[sg b]⟩ = _; rw [sign_sg]
def cellS : V → V
  | .int v => .str (signS (decide (v % 2 = 1)))
  | x => x
theorem dotx (v : Int) : atI (".x" : Str).cps.toList (v % 2) = some (sg (decide (v % 2 = 1))) := by
  have h : v % 2 = 0 ∨ v % 2 = 1 := by omega
  rcases h with h | h <;> rw [h] <;> decide +kernel
def sp_drawn (K : PySem.W.Frag) : Sp := fun vs H Q _ => ∃ (a : Addr) (ns : List Int), vs = [.ref a] ∧ SqL K H a (ns.map V.int) ∧ 1 ≤ ns.length ∧ ns.length ≤ 63 ∧ ∀ (l : List Bool) H', l.length = ns.length → Same H H' → Q (.str (rowS l)) H'
end Eb

set_option maxHeartbeats 4000000
namespace Eb
open PySem L2
/-! ### rings turned, exchanged, told backwards, as texts -/
def sp_check_ring : Sp := fun vs H Q _ => ∃ l : List Bool, vs = [.str (rowS l)] ∧ 1 ≤ l.length ∧ l.length ≤ 100000 ∧ Q .non H
def sp_turned : Sp := fun vs H Q _ => ∃ (l : List Bool) (by' : Int), vs = [.str (rowS l), .int by'] ∧ 1 ≤ l.length ∧ l.length ≤ 1000 ∧ Q (.str (rowS (rot l (by' % (l.length : Int)).toNat))) H
def sp_exchanged : Sp := fun vs H Q _ => ∃ l : List Bool, vs = [.str (rowS l)] ∧ 1 ≤ l.length ∧ l.length ≤ 1000 ∧ ∀ H', Same H H' → Q (.str (rowS (exch l))) H'
def sp_about : Sp := fun vs H Q _ => ∃ l : List Bool, vs = [.str (rowS l)] ∧ 1 ≤ l.length ∧ l.length ≤ 1000 ∧ Q (.str (rowS l.reverse)) H
theorem rowS_rev (l : List Bool) : (⟨(rowS l).cps.toList.reverse.toArray⟩ : Str) = rowS l.reverse := by
  show Str.mk (((l.map sg).toArray.toList.reverse).toArray) = Str.mk ((l.reverse.map sg).toArray)
  rw [List.toList_toArray, List.map_reverse]
theorem ev_evAll {l : List Bool} (hn : 1 ≤ l.length) : Ev l ↔ EvAll l := ev_all hn
/-- the ring begun k places on, place by place -/
theorem rot_eq {l : List Bool} (hn : 1 ≤ l.length) (k : Nat) (hk : k < l.length) : rot l k = (List.range l.length).map fun i => l.getD ((i + k) % l.length) false := by
  apply List.ext_getElem?
  intro i
  by_cases hi : i < l.length
  · have hy : (i + k) % l.length < l.length := Nat.mod_lt _ (by omega)
    rw [rot_get l k i hn (by omega) hi, List.getElem?_map, List.getElem?_range hi, Option.map_some, List.getD_eq_getElem?_getD, List.getElem?_eq_getElem hy]; rfl
  · rw [List.getElem?_eq_none (by rw [rot_length]; omega), List.getElem?_eq_none (by simp; omega)]
theorem rot_back {l : List Bool} (hn : 1 ≤ l.length) (k j : Nat) (hk : k < l.length) (hj : j < l.length) (h : (k + j) % l.length = 0) : rot (rot l k) j = l := by
  apply List.ext_getElem?
  intro i
  by_cases hi : i < l.length
  · have hx : (i + j) % l.length < l.length := Nat.mod_lt _ (by omega)
    have e : ((i + j) % l.length + k) % l.length = i := by
      rw [Nat.mod_add_mod, show i + j + k = i + (k + j) by omega, Nat.add_mod, h, Nat.add_zero, Nat.mod_mod, Nat.mod_eq_of_lt hi]
    have r1 := rot_get (rot l k) j i (by rw [rot_length]; exact hn) (by rw [rot_length]; omega) (by rw [rot_length]; exact hi)
    rw [rot_length] at r1
    rw [r1, rot_get l k _ hn (by omega) hx, e]
  · rw [List.getElem?_eq_none (by rw [rot_length, rot_length]; omega), List.getElem?_eq_none (by omega)]
theorem turn_sum {n : Nat} (hn : 1 ≤ n) (b : Int) : ((b % (n : Int)).toNat + ((-b) % (n : Int)).toNat) % n = 0 := by
  have h0 := Int.emod_nonneg b (show (n : Int) ≠ 0 by omega)
  have h1 := Int.emod_nonneg (-b) (show (n : Int) ≠ 0 by omega)
  have h2 : (b % (n : Int) + (-b) % (n : Int)) % (n : Int) = 0 := by
    rw [← Int.add_emod, Int.add_right_neg]; rfl
  have e : (((b % (n : Int)).toNat + ((-b) % (n : Int)).toNat : Nat) : Int) = b % (n : Int) + (-b) % (n : Int) := by omega
  have : ((((b % (n : Int)).toNat + ((-b) % (n : Int)).toNat) % n : Nat) : Int) = 0 := by rw [Int.natCast_emod, e, h2]
  omega
theorem shift_mod {n : Nat} (hn : 1 ≤ n) (i : Nat) (b : Int) : (((0 : Int) + (i : Nat)) + b) % (n : Int) = (((i + (b % (n : Int)).toNat) % n : Nat) : Int) := by
  have h0 := Int.emod_nonneg b (show (n : Int) ≠ 0 by omega)
  rw [Int.natCast_emod, Int.natCast_add, Int.toNat_of_nonneg h0, Int.add_emod_emod]
  congr 1; omega
/-- isinstance(even(ring), Even) -/
theorem te_isEven {σ : St} {H : Hp} {K : PySem.W.Frag} {CE CA : Addr} {i : Nat} {r : List Bool} {Q : VK} (tE : KTy K CE) (tA : KTy K CA) (eE : PySem.W.kitOne K (.ref CE) (.ref CE) = some true) (aE : PySem.W.kitOne K (.ref CA) (.ref CE) = some false)
    (hi : σ[i]? = some (some (.str (rowS r)))) (h1 : 1 ≤ r.length) (h2 : r.length ≤ 100) (q : ∀ b : Bool, (b = true ↔ EvAll r) → ∀ H', Same H H' → Q (.bl b) H') :
    tCB (rIsC K) (tCons (tCall (sp_even CE CA) [] E0 (tCons (tVar i) tNil)) (tCons (tC (.ref CE)) tNil)) σ H Q :=
  ⟨_, hi, r, rfl, h1, h2, fun _ x _ _ g hx ok => ⟨.ref x, CE, .ref CE, true, rfl, tE.ty hx, eE, q true ⟨fun _ => evenOk_ev ok, fun _ => rfl⟩ _ g⟩,
    fun _ _ _ x _ _ g hx ok => ⟨.ref x, CE, .ref CA, false, rfl, tA.ty hx, aE, q false ⟨fun z => Bool.noConfusion z, fun z => absurd z (apartOk_not ok)⟩ _ g⟩⟩
end Eb

set_option maxHeartbeats 4000000
namespace L2
open PySem PySem.Spec PyProof.Rows
/-! ### any, all of a list of bools -/
theorem bools_at : ∀ {bs : List Bool} {us : List Value} {i : Nat} {v : Value}, Vals (bs.map V.bl) us → us[i]? = some v → ∃ b, bs[i]? = some b ∧ v = .bool b
  | [], _, _, _, h, e => by cases h; simp at e
  | b :: bs, _, 0, v, h, e => by
    cases h with
    | cons a r => simp at e; subst e; exact ⟨b, rfl, a⟩
  | b :: bs, _, i + 1, v, h, e => by
    cases h with
    | cons a r =>
      simp at e
      obtain ⟨c, h1, h2⟩ := bools_at (bs := bs) r e
      exact ⟨c, by simpa using h1, h2⟩
theorem range_all' (bs : List Bool) : ((List.range bs.length).all fun i => (bs[i]?).getD true) = bs.all id := by
  induction bs with
  | nil => rfl
  | cons b bs ih =>
    rw [List.length_cons, List.range_succ_eq_map, List.all_cons, List.all_map, List.all_cons]
    have : ((fun i => ((b :: bs)[i]?).getD true) ∘ Nat.succ) = fun i => (bs[i]?).getD true := by funext i; simp
    rw [this, ih]; rfl
theorem range_any' (bs : List Bool) : ((List.range bs.length).any fun i => (bs[i]?).getD false) = bs.any id := by
  induction bs with
  | nil => rfl
  | cons b bs ih =>
    rw [List.length_cons, List.range_succ_eq_map, List.any_cons, List.any_map, List.any_cons]
    have : ((fun i => ((b :: bs)[i]?).getD false) ∘ Nat.succ) = fun i => (bs[i]?).getD false := by funext i; simp
    rw [this, ih]; rfl
theorem kept_it {s : Shared} {h' : Heap} {o : Obj} (hk : ∀ b x, b ∉ [s.heap.objs.size] → (s.heap.push o).get? b = some x → h'.get? b = some x) : ∀ b x, s.heap.get? b = some x → h'.get? b = some x :=
  fun b x e => hk b x (fun hm => by rw [List.mem_singleton.mp hm] at e; exact Nat.lt_irrefl _ (Heap.lt_size e)) (Heap.get?_push_of_some _ e)
section
variable {X : Cx}
theorem call_allL (hc : X.calm = true) : CallR X (.builtin "all") (fun xs H Q => ∃ p, ∃ bs : List Bool, xs = [.ref p] ∧ SqL X.K H p (bs.map V.bl) ∧ Q (.bl (bs.all id)) H) := by
  intro pins s σ H xs us Q I r h
  obtain ⟨p, bs, rfl, hq, q⟩ := h
  obtain ⟨u, rfl, rx⟩ := vals1 r
  cases rx
  obtain ⟨its, r', pl, hz⟩ := I.list hq
  have hl := pl.isList
  have hlt : p < s.heap.objs.size := by obtain ⟨_, e, _⟩ := hl; exact Heap.lt_size e
  refine call_all_walk (wpAny_pyIter_list hl ?_)
  refine ⟨s.heap.objs.size, [s.heap.objs.size, p], [s.heap.objs.size], its.toArray.size, _, _, fun i => (bs[i]?).getD true, rfl, Walks.list (A := X.A.in1) (I.ok.hd hc) _ p (Nat.ne_of_lt hlt) its.toArray,
    ⟨⟨_, Heap.get?_push_size _ rfl, rfl, rfl⟩, hl.push _⟩, fun i v s' Q' E' hP hQ => ?_, fun h' tk hk => ?_⟩
  · obtain ⟨b, e, rfl⟩ := bools_at r' (by simpa using hP)
    simp only [e, Option.getD_some] at hQ
    exact wpAny_truthy_bool hQ
  · have e : ((List.range its.toArray.size).all fun i => (bs[i]?).getD true) = bs.all id := by
      rw [List.size_toArray, ← r'.length, List.length_map]; exact range_all' bs
    rw [e]
    exact ⟨.bl _, H, I.kept (kept_it hk), rfl, q⟩
theorem call_anyL (hc : X.calm = true) : CallR X (.builtin "any") (fun xs H Q => ∃ p, ∃ bs : List Bool, xs = [.ref p] ∧ SqL X.K H p (bs.map V.bl) ∧ Q (.bl (bs.any id)) H) := by
  intro pins s σ H xs us Q I r h
  obtain ⟨p, bs, rfl, hq, q⟩ := h
  obtain ⟨u, rfl, rx⟩ := vals1 r
  cases rx
  obtain ⟨its, r', pl, hz⟩ := I.list hq
  have hl := pl.isList
  have hlt : p < s.heap.objs.size := by obtain ⟨_, e, _⟩ := hl; exact Heap.lt_size e
  refine call_any_walk (wpAny_pyIter_list hl ?_)
  refine ⟨s.heap.objs.size, [s.heap.objs.size, p], [s.heap.objs.size], its.toArray.size, _, _, fun i => (bs[i]?).getD false, rfl, Walks.list (A := X.A.in1) (I.ok.hd hc) _ p (Nat.ne_of_lt hlt) its.toArray,
    ⟨⟨_, Heap.get?_push_size _ rfl, rfl, rfl⟩, hl.push _⟩, fun i v s' Q' E' hP hQ => ?_, fun h' tk hk => ?_⟩
  · obtain ⟨b, e, rfl⟩ := bools_at r' (by simpa using hP)
    simp only [e, Option.getD_some] at hQ
    exact wpAny_truthy_bool hQ
  · have e : ((List.range its.toArray.size).any fun i => (bs[i]?).getD false) = bs.any id := by
      rw [List.size_toArray, ← r'.length, List.length_map]; exact range_any' bs
    rw [e]
    exact ⟨.bl _, H, I.kept (kept_it hk), rfl, q⟩
end
/-! ### a, b, c = a list of three -/
section
variable {prog : Program} {w : World} {A : Around} {E : Value → Shared → Prop}
theorem draw_list {it t : Addr} {items : Array Value} (hne : t ≠ it) : ∀ (n i : Nat) (s : Shared) (Q : List Value → Shared → Prop), s.heap.IsListIter it t i → s.heap.IsList t items → i + n ≤ items.size →
    (∀ h', h'.IsListIter it t (i + n) → Heap.SameBut it s.heap h' → Q ((items.toList.drop i).take n) { s with heap := h' }) → wpAny (model prog w) A (draw (.ref it) n) Q E s
  | 0, i, s, Q, hit, _, _, hQ => by
    show wpAny _ _ (pure []) Q E s
    exact wpAny_pure (by simpa using hQ s.heap hit (Heap.SameBut.refl ..))
  | n + 1, i, s, Q, hit, ht, hle, hQ => by
    have hlt : i < items.size := by omega
    show wpAny _ _ (pyNext (.ref it) >>= _) Q E s
    refine wpAny_bind (wpAny_pyNext_list_item hit ht (x := items[i]) (by simp [hlt]) fun h₁ hit₁ hs₁ => ?_)
    refine wpAny_bind (wpAny_holding (draw_list hne n (i + 1) _ _ hit₁ (ht.extBut hs₁.extBut hne) (by omega) fun h₂ hit₂ hs₂ => wpAny_pure ?_))
    have hd : items.toList.drop i = items[i] :: items.toList.drop (i + 1) := by simp [List.drop_eq_getElem_cons, hlt]
    have := hQ h₂ (by rw [show i + (n + 1) = i + 1 + n by omega]; exact hit₂) (hs₁.trans hs₂)
    rw [hd, List.take_succ_cons] at this
    exact this
theorem assign_Tuple_list {s : Shared} {env : Env} {elts : List Expr} {x1} {pos : Pos} {t : Addr} {items : Array Value} {Q : Unit → Shared → Prop} (hh : A.handled = none) (ht : s.heap.IsList t items)
    (hn : (assignEach elts env).length = items.size) (hstar : (assignEach elts env).findIdx? (·.1) = none)
    (h : ∀ h', Heap.ExtBut s.heap.objs.size s.heap h' → wpAny (model prog w) A (assignInOrder ((assignEach elts env).map (·.2)) items.toList) Q E { s with heap := h' }) :
    wpAny (model prog w) A (assign (.Tuple elts x1 pos) env (.ref t)) Q E s := by
  rw [assign_Tuple]
  refine wpAny_bind (wpAny_standAt ?_)
  unfold unpack
  rw [hn, hstar]
  refine wpAny_bind (wpAny_holding ?_)
  have hlt : t ≠ s.heap.objs.size := by obtain ⟨o, ho, _⟩ := ht; exact Nat.ne_of_lt (Heap.lt_size ho)
  unfold unpackItems
  refine wpAny_bind ?_
  unfold notIterableAtAll
  refine wpAny_bind (wpAny_specialOf ht.typeIs PySem.slot_list_iter.lookup ?_)
  refine wpAny_pure ?_
  simp only [Bool.false_eq_true, if_false]
  refine wpAny_bind (wpAny_holding (wpAny_pyIter_list ht ?_))
  refine wpAny_bind (wpAny_holding (draw_list hlt items.size 0 _ _ ⟨_, Heap.get?_push_size _ rfl, rfl, rfl⟩ (ht.push _) (by omega) fun h₁ hit₁ hs₁ => ?_))
  have hall : List.take items.size (List.drop 0 items.toList) = items.toList := by
    rw [List.drop_zero]; exact List.take_of_length_le (by simp)
  rw [hall]
  rw [if_neg (by simp)]
  have ht₁ : h₁.IsList t items := (ht.push _).extBut hs₁.extBut hlt
  refine wpAny_bind (wpAny_holding (wpAny_pyNext_list_end hh hit₁ ht₁ (by simp) fun h₂ he₂ => ?_))
  simp only [Option.isSome_none, Bool.false_eq_true, if_false]
  exact wpAny_pure (h h₂ fun b o hb e => he₂ b o hb (hs₁.extBut b o hb (Heap.get?_push_of_some _ e)))
end
section
variable {X : Cx} {pos : Pos}
def gUnL (K : PySem.W.Frag) (n : Nat) (t : TGs) : TG := fun v σ H Q => ∃ a xs, v = .ref a ∧ SqL K H a xs ∧ xs.length = n ∧ t xs σ H Q
theorem pg_unL {es : List Expr} {k : Nat} {t : TGs} {n : Nat} (hc : X.calm = true) (h : PGs X es t)
    (hn : (assignEach es X.env).length = n := by rfl) (hst : (assignEach es X.env).findIdx? (·.1) = none := by rfl) : PG X (.Tuple es k pos) (gUnL X.K n t) := by
  intro pins s σ H v u Q I r hw
  obtain ⟨a, xs, e1, hq, hl, hw⟩ := hw
  subst e1
  cases r
  obtain ⟨its, rv, ht, hz⟩ := I.list hq
  refine assign_Tuple_list (I.ok.hd hc) ht.isList (by simp [hn, ← hl, rv.length]) hst fun h' hx => ?_
  have I1 : Inv X pins σ H { s with heap := h' } := I.kept (t' := s.toks) fun b o e => hx b o (Nat.ne_of_lt (Heap.lt_size e)) e
  exact h pins _ σ H xs _ Q I1 (by simpa using rv) hw
end
end L2

set_option maxHeartbeats 4000000
namespace Eb
open PySem L2
section
variable {σ : St} {H : Hp} {te : TE} {t : TT} {u : TS} {D : Ends} {K : PySem.W.Frag}
/-- if test: x = e; both ways go on alike -/
theorem rd_ifseti {i : Nat} {b : Bool} {v0 v1 : V} (h : Pb t σ H b) (hσ : σ.set i (some v0) = σ) (k1 : Pv te σ H v1) (k : ∀ v, (v = v0 ∨ v = v1) → u D (σ.set i (some v)) H) : tSeq (tIfS t (tAsg te (gName i)) tNext) u D σ H :=
  rd_ifn h (fun _ => k1 (fun x H1 => u D (σ.set i (some x)) H1) (k v1 (.inr rfl))) (fun _ => by
    have := k v0 (.inl rfl)
    rw [hσ] at this
    exact this)
/-- "".join([".x"[cell % 2] for cell in script]) -/
theorem te_cells {a : Addr} {ns : List Int} {Q : VK} (h0 : σ[0]? = some (some (.ref a))) (hS : SqL K H a (ns.map V.int)) (hl : ns.length ≤ 63) (q : ∀ H', Same H H' → Q (.str (rowS (ns.map fun v => decide (v % 2 = 1)))) H') :
    tBM K "str" (rJoin K) (tC (.str "")) (tCons (fun σ H Q => iList K (tVar 0) σ H fun J H1 => tLCgo J (tOp rIxS (tC (.str ".x")) (tOp (rI (fun _ j => 0 < j) fun i j => .int (i % j)) (tVar 0) (tC (.int 2)))) [] Q σ H1) tNil) σ H Q := by
  refine ⟨rfl, _, h0, a, rfl, ⟨_, hS⟩, ?_⟩
  refine lc_list cellS (by rw [List.length_map]; exact sizeOk (by omega)) hS (fun i x D zs R hi hD r => ?_) (fun D hD => ?_)
  · obtain ⟨v, hv, rfl⟩ : ∃ v, v ∈ ns ∧ V.int v = x := List.mem_map.mp (List.mem_of_getElem? hi)
    refine (pv_ixS pv_c (pv_opC (pv_var rfl) pv_c (by show (0 : Int) < 2; decide)) (by decide +kernel) (dotx v)) _ ?_
    rw [sign_sg]
    exact r
  · refine ⟨"", D, (ns.map fun v => decide (v % 2 = 1)).map signS, rfl, rfl, SqL.of ?_, joinOk_rows _ (by rw [List.length_map]; omega), ?_⟩
    · rw [upd_same, List.map_map, List.map_map, List.map_map]; rfl
    · rw [join_rows]
      exact q _ (same_new hD _)
end
theorem pv_sum {σ : St} {H : Hp} {ta : TE} {K : PySem.W.Frag} {p : Addr} {ns : List Int} (ha : Pv ta σ H (.ref p)) (hS : SqL K H p (ns.map V.int)) :
    Pv (tCB (fun xs H Q => ∃ p, ∃ ns : List Int, xs = [.ref p] ∧ SqL K H p (ns.map V.int) ∧ Q (.int ns.sum) H) (tCons ta tNil)) σ H (.int ns.sum) := fun Q q => ha _ ⟨p, ns, rfl, hS, q⟩
theorem pv_lenL {σ : St} {H : Hp} {ta : TE} {K : PySem.W.Frag} {p : Addr} {ys : List V} (ha : Pv ta σ H (.ref p)) (hS : SqL K H p ys) :
    Pv (tCB (fun xs H Q => ∃ p ys, xs = [.ref p] ∧ (SqL K H p ys ∨ SqT K H p ys) ∧ Q (.int ys.length) H) (tCons ta tNil)) σ H (.int ys.length) := fun Q q => ha _ ⟨p, ys, rfl, .inl hS, q⟩
/-- what is told of a row -/
def sp_begun (CG CP : Addr) : Sp := fun vs H Q _ => ∃ l : List Bool, vs = [.str (rowS l)] ∧ l.length ≤ 100 ∧
  (∀ (b p s : Int) (x dx : Addr) H', Same H H' → H' x = some (.ins CG dx (fl3 "beats" "places" "shift" (.int b) (.int p) (.int s))) → begunOk l b p s = true → Q (.ref x) H') ∧
  (∀ (f s m : Int) (x dx : Addr) H', Same H H' → H' x = some (.ins CP dx (fl3 "first" "second" "many" (.int f) (.int s) (.int m))) → partedOk l f s m = true → Q (.ref x) H')
theorem begunOk_ev {l : List Bool} {b p s : Int} (h : begunOk l b p s = true) : EvRow l := by
  obtain ⟨⟨h0, h1, h2⟩, e⟩ := of_decide_eq_true h
  rw [← e]
  exact reck_evRow s h0 h1 h2 _
theorem partedOk_not {l : List Bool} {f s m : Int} (h : partedOk l f s m = true) : ¬ EvRow l := by
  obtain ⟨⟨f0, s0, m0, f1, s1⟩, e⟩ := of_decide_eq_true h
  rw [two_iff _ _ _ _ f0 s0 m0] at e
  intro ev
  have := ev m.toNat f.toNat s.toNat (by omega) (by omega)
  omega
end Eb
namespace L2
open PySem PySem.Spec PyProof.Rows
/-- isinstance within a comprehension: K is said -/
theorem call_isiK {X : Cx} (K : PySem.W.Frag) (hK : X.K = K) : CallR X (.builtin "isinstance") (fun xs H Q => ∃ x T t b, xs = [x, .ty T] ∧ TyOf K H x t ∧ PySem.W.kitOne K t (.type T) = some b ∧ Q (.bl b) H) := hK ▸ call_isi
end L2
theorem Eb.max2_le' (a b m n : Int) : (if b > a then b else a) + m ≤ n ↔ a + m ≤ n ∧ b + m ≤ n := by
  split <;> omega

set_option maxHeartbeats 4000000
namespace L2
open PySem PySem.Spec PyProof.Rows
/-! ### a caught exception, tracked: its class is known -/
def ExcO (ea Ca : Addr) : HO := .ext fun h => (∃ ox, h.get? ea = some ox ∧ ox.cls = .ref Ca) ∧ Ctx0 h ea
theorem excO_ok {P : Program} {w : World} {H : Hp} {h : Heap} {ea Ca : Addr} {ob : Obj} (e : h.get? ea = some ob) (c : ob.cls = .ref Ca) (cx : Ctx0 h ea) : ObjOk P w H h ea (ExcO ea Ca) :=
  ⟨⟨⟨ob, e, c⟩, cx⟩, ⟨ob, e⟩, fun _ _ ⟨⟨o, e1, c1⟩, o2, vs, e2, d2, c2⟩ k => ⟨⟨o, k o e1, c1⟩, o2, vs, k o2 e2, d2, c2⟩⟩
theorem ObjOk.get {P : Program} {w : World} {H : Hp} {h : Heap} {a : Addr} {o : HO} (x : ObjOk P w H h a o) : ∃ ob, h.get? a = some ob := by
  cases o with
  | lst xs => obtain ⟨_, _, _, _, e⟩ := x; exact ⟨_, e⟩
  | tup xs => obtain ⟨_, _, _, ob, e, _⟩ := x; exact ⟨_, e⟩
  | dK kvs => obtain ⟨_, _, _, _, o, _, _, e, _⟩ := x; exact ⟨_, e⟩
  | dT kvs => obtain ⟨_, _, _, _, o, _, _, e, _⟩ := x; exact ⟨_, e⟩
  | set S n => obtain ⟨o, _, _, _, e, _⟩ := x; exact ⟨_, e⟩
  | ins C dx fs => obtain ⟨_, _, _, e, _⟩ := x; exact ⟨_, e⟩
  | own y => exact x
  | xd fs => obtain ⟨_, ⟨_, _, _, e, _⟩, _⟩ := x; exact ⟨_, e⟩
  | rng lo hi => obtain ⟨_, _, _, e⟩ := x; exact ⟨_, e⟩
  | frz ob u => obtain ⟨e, _⟩ := x; exact ⟨_, e⟩
  | tbl ps => exact ⟨_, (show h.get? a = some _ from x)⟩
  | met f y => exact ⟨_, (show h.get? a = some _ from x)⟩
  | ext φ => obtain ⟨_, e, _⟩ := x; exact e
theorem HOk.track {P : Program} {w : World} {H : Hp} {h : Heap} {a : Addr} {o : HO} (x : HOk P w H h) (hn : H a = none) (new : ObjOk P w (upd H a o) h a o) : HOk P w (upd H a o) h := fun b u e => by
  by_cases hb : b = a
  · subst hb; rw [upd_same] at e; cases e; exact new
  · rw [upd_ne hb] at e
    exact (x b u e).stay (fun c v _ q => q) (fun c q => by rw [upd_ne (ne_of_none q hn)]; exact q) fun c xs q => by rw [upd_ne (ne_of_none q hn)]; exact q
theorem Un.track {fs ex : List Addr} {H H1 : Hp} {h h1 : Heap} {a : Addr} {o : HO} (u : Un fs ex H H1 h h1) (ha : h.get? a = none) (h1a : H1 a = none) : Un fs ex H (upd H1 a o) h h1 where
  keep := u.keep
  slot := u.slot
  free := fun b ob q n hx => by
    have hb : b ≠ a := fun z => by subst z; rw [ha] at q; cases q
    rw [upd_ne hb]; exact u.free b ob q n hx
  there := u.there
  tups := fun b xs q => by have := u.tups b xs q; rw [upd_ne (ne_of_none this h1a)]; exact this
  frzs := fun b ob v q => by have := u.frzs b ob v q; rw [upd_ne (ne_of_none this h1a)]; exact this
  tbls := fun b ps q => by
    obtain ⟨m, this⟩ := u.tbls b ps q
    exact ⟨m, by rw [upd_ne (ne_of_none this h1a)]; exact this⟩
/-! ### isinstance(error, C) -/
section
variable {K : PySem.W.Frag} {x D : Addr}
/-- what isinstance asks of an error's class -/
structure XTy (K : PySem.W.Frag) (D : Addr) : Prop where
  cd : (PySem.W.clsIn K D).isSome = true
  ga : PySem.W.findIn K (.ref D) "__getattribute__" = some (some (.builtin "BaseException.__getattribute__"))
  gn : PySem.W.findIn K (.ref D) "__getattr__" = some none
  hb : PySem.W.mroIn K D (.type "BaseException") = some true
  ha : PySem.W.findIn K (.ref D) "__class__" = some (some (.builtin "object.__class__"))
  hn : PySem.W.specialIn K (.builtin "object.__class__") "__get__" = some (some (.builtin "getset_descriptor.__get__"))
  htk : PySem.W.takesIn K (.builtin "object.__class__") = some true
  hm : PySem.W.mroIn K D (.type "object") = some true
abbrev AtC (h : Heap) (x D : Addr) : Prop := ∃ ox, h.get? x = some ox ∧ ox.cls = .ref D
theorem AtC.type {M : Model} {h : Heap} (I : AtC h x D) : PySem.W.Looks M h (typeOf (.ref x)) (.ref D) := by
  obtain ⟨ox, e, c⟩ := I
  exact c ▸ (PySem.W.Looks.ld e).andThen .now
end
end L2

set_option maxHeartbeats 4000000
namespace L2
open PySem PySem.Spec PySem.Calls PySem.W PyProof.Rows PySem.Builtin.ObjectAttr PySem.Builtin PySem.Builtin.Getset_descriptor
section
variable {prog : Program} {w : World} {A : Around} {E : Value → Shared → Prop} {s : Shared} {K : Frag} {x D : Addr}
theorem exc_find {M : Model} {h : Heap} (X : K.In h) (Z : XTy K D) : Looks M h (find (.ref x) (.ref D) "__class__") (.bind (.builtin "getset_descriptor.__get__") (.builtin "object.__class__")) := by
  have L1 := looks_findIn (M := M) X Z.ha
  have L2 : Looks M h (getOf (some (.builtin "object.__class__"))) (some (.builtin "getset_descriptor.__get__")) := looks_specialIn X Z.hn
  have L3 := looks_takesIn (M := M) X Z.htk
  exact L1.andThen (L2.andThen ((show Looks M h (dataDescriptor? (some (.builtin "object.__class__")) (some (.builtin "getset_descriptor.__get__"))) (some (.builtin "getset_descriptor.__get__", .builtin "object.__class__")) from L3.andThen .now).andThen (Looks.tag .now)))
theorem exc_check {nameV : Value} {Q : Unit → Shared → Prop} (X : K.In s.heap) (I : AtC s.heap x D) (Z : XTy K D) (hq : Q () s) : wpAny (model prog w) A (checkBuiltinCall "BaseException.__getattribute__" ⟨[.ref x, nameV], []⟩) Q E s := by
  obtain ⟨hh, g, d, t, os⟩ := s
  have hk : builtinKind "BaseException.__getattribute__" = some .slot := by decide +kernel
  have hsplit : splitId "BaseException.__getattribute__" = some ("BaseException", "__getattribute__") := by decide +kernel
  have ha := F.args_bexc_ga (.ref x) nameV
  have L0 := AtC.type (M := model prog w) I
  have L1 := looks_mroIn (M := model prog w) X Z.hb
  simp only [checkBuiltinCall, hk, hsplit]
  refine wpAny_bind ?_
  unfold isInstance
  repeat (first | lk | wp_step)
  exact hq
theorem exc_entry {tk : Tok} {P : Value → Shared → Prop} (X : K.In s.heap) (I : AtC s.heap x D) (Z : XTy K D)
    (h : wpAny (model prog w) A (call (.builtin "getset_descriptor.__get__") [.builtin "object.__class__", .ref x, .ref D]) P E s) :
    wpAny (model prog w) A (Builtin.«object.__getattribute__» ⟨[.ref x, .str "__class__" tk], []⟩) (fun fin s' => match fin with | .done (.ret v) => P v s' | _ => False) E s := by
  obtain ⟨hh, gg, d, t, os⟩ := s
  have L0 := AtC.type (M := model prog w) I
  have L1 := exc_find (M := model prog w) (x := x) X Z
  refine wpAny_bind (wpAny_pure (wpAny_bind (wpAny_pure (wpAny_bind (L0.at (wpAny_bind (L1.at ?_)))))))
  show wpAny _ _ (holding [.builtin "object.__class__"] (call (.builtin "getset_descriptor.__get__") [.builtin "object.__class__", .ref x, .ref D]) >>= ret) _ _ _
  exact wpAny_bind (wpAny_holding (wpAny_mono h (fun v s' z => wpAny_pure z) fun _ _ z => z))
theorem exc_classget {R : Result → Shared → Prop} {tp : Value} (X : K.In s.heap) (I : AtC s.heap x D) (hm : mroIn K D (.type "object") = some true)
    (h : R (.ok (.ret (.ref D))) s) : codeAny (model prog w) A (.call (.builtin "getset_descriptor.__get__") ⟨[.builtin "object.__class__", .ref x, tp], []⟩) R s := by
  obtain ⟨hh, g, dr, t, os⟩ := s
  have L0 := AtC.type (M := model prog w) I
  have L1 := looks_mroIn (M := model prog w) X hm
  refine codeAny_call_builtin KF.slot_gs.plain KF.entry_gs (KF.slot_gs.check _ _ _ _ _ _ _ _ KF.type_class (KF.args_gs _ _ _) ?_)
  unfold Builtin.«getset_descriptor.__get__» descrGet
  rw [dga_obj]
  refine wpAny_bind (wpAny_pure ?_)
  unfold descrGetter descrCheckInstance descrNameAndClass isInstance
  simp only [KF.owner_class]
  repeat lk
  refine ⟨Code.quiet_builtin _ (by decide +kernel), codeAny_builtin KF.entry_class ?_⟩
  unfold Builtin.«object.__class__» shownTypeOf
  repeat lk
  exact h
theorem exc_class {Q : Option Value → Shared → Prop} (X : K.In s.heap) (I : AtC s.heap x D) (Z : XTy K D) (h : Q (some (.ref D)) { s with toks := s.toks + 1 }) : wpAny (model prog w) A (getAttr? (.ref x) "__class__") Q E s := by
  obtain ⟨hh, g, d, t, os⟩ := s
  have L0 := AtC.type (M := model prog w) I
  have L1 := looks_findIn (M := model prog w) X Z.ga
  have L2 := looks_findIn (M := model prog w) X Z.gn
  have f3 := F.excAttr_ValueError.ga.bind (.ref x)
  unfold getAttr? getAttrBy? getAttrBy
  refine wpAny_bind (wpAny_mkText (wpAny_bind (wpAny_attempt (wpAny_holding (wpAny_bind (L0.at (wpAny_bind (L1.at ?_))))))))
  show wpAny _ _ (getAttrByItsOwn _ _ _ _ _ _) _ _ _
  unfold getAttrByItsOwn
  refine wpAny_bind (L2.at (wpAny_bind (wpAny_attempt (wpAny_holding ?_))))
  show wpAny _ _ (boundAndCalled _ _ _) _ _ _
  unfold boundAndCalled
  rw [f3]
  refine wpAny_bind (wpAny_pure (wpAny_call (codeAny_call_builtin F.excAttr_ValueError.ga.plain F.entry_bexc_ga (exc_check (s := ⟨hh, g, d, t + 1, os⟩) X I Z ?_))))
  refine wpAny_mono (exc_entry (E := fun _ _ => False) (P := fun v s' => v = .ref D ∧ s' = ⟨hh, g, d, t + 1, os⟩) (s := ⟨hh, g, d, t + 1, os⟩) X I Z (wpAny_call (exc_classget (s := ⟨hh, g, d, t + 1, os⟩) X I Z.hm ⟨rfl, rfl⟩))) (fun fin s' z => ?_) fun _ _ z => z.elim
  rcases fin with (_ | _ | _ | _) | _ <;> first | exact z.elim | skip
  obtain ⟨rfl, rfl⟩ := z
  exact handed_on rfl (wpAny_pure h)
theorem kitx_exc (Z : XTy K D) : KitX K (.ref x) (.ref D) (fun h => AtC h x D) where
  ty := fun _ _ _ I => I.type
  it := fun _ _ X _ => by
    obtain ⟨cdD, hcD⟩ := Option.isSome_iff_exists.mp Z.cd
    unfold clsIn at hcD
    split at hcD
    · rename_i c' d' cd' sl' ho
      intro A' Q' E' s' k q
      unfold isType loadHead
      exact wpAny_bind (wpAny_loadPart (k _ _ (X _ _ ho)) (wpAny_pure q))
    · cases hcD
  ne := fun h tp dd its n sl X htp => by
    obtain ⟨cdD, hcD⟩ := Option.isSome_iff_exists.mp Z.cd
    refine Bool.eq_false_iff.mpr fun q => ?_
    have e : D = tp := Value.ref.inj (beq_iff_eq.mp q)
    subst e
    unfold clsIn at hcD
    split at hcD
    · rename_i c' d' cd' sl' ho
      have z := (X _ _ ho).symm.trans htp
      cases z
    · cases hcD
  ca := fun X I k => exc_class X I Z k
end
section
variable {X : Cx}
/-- isinstance(error, C), C an own class or a built-in one -/
def rIsX (K : Frag) : List V → Hp → VK → Prop := fun xs H Q => ∃ ea Ca cv cu b, xs = [.ref ea, cv] ∧ RelV cv cu ∧ H ea = some (ExcO ea Ca) ∧ XTy K Ca ∧ kitOne K (.ref Ca) cu = some b ∧ Q (.bl b) H
theorem call_isiX : CallR X (.builtin "isinstance") (rIsX X.K) := by
  intro pins s σ H xs us Q I r h
  obtain ⟨ea, Ca, cv, cu, b, rfl, rc, he, Z, e, q⟩ := h
  obtain ⟨u, w', rfl, rx, rT⟩ := vals2 r
  cases (show u = Value.ref ea from rx)
  have hw : w' = cu := by
    revert rc rT
    cases cv <;> intro rc rT <;> first
      | exact (show w' = _ from rT).trans (show cu = _ from rc).symm
      | (exfalso; obtain ⟨t, rfl⟩ := rc; revert e; unfold kitOne kitCls; simp)
  subst hw
  obtain ⟨⟨ac, _⟩, _, _⟩ := (show ObjOk X.prog X.w H s.heap ea (ExcO ea Ca) from I.hok ea _ he)
  exact kia_one (kitx_exc Z) I.kIn ac e (fun z => nomatch z) fun tk => ⟨.bl b, H, I.tok _, rfl, q⟩
end
end L2

set_option maxHeartbeats 4000000
namespace L2
open PySem PySem.Spec PyProof.Rows
/-! ### try: body / except C as n: suite -/
/-- behind the suite the names are forgotten -/
def Ends.gone (D : Ends) (n : Nat) : Ends := ⟨fun _ H => D.nx (List.replicate n none) H, D.rt, fun _ H => D.bk (List.replicate n none) H, fun _ H => D.ct (List.replicate n none) H⟩
theorem Inv.gone {X : Cx} {pins : List (Addr × Obj)} {σ : St} {H : Hp} {s : Shared} {h' : Heap} {m' : Str → Option Value} (t' : Nat) (I : Inv X pins σ H s) (hn' : h'.Ns X.env.locals m') (hs : Heap.SameBut X.env.locals s.heap h') :
    Inv X pins (List.replicate X.N.length none) H { s with heap := h', toks := t' } := by
  have cne := I.cne
  obtain ⟨m, hn, hl⟩ := id I.loc
  obtain ⟨oL, _, _, hoL, _⟩ := id hn
  refine ⟨I.ok, I.os, I.bare, ⟨fun b o e n hb hx => ?_, fun b o e n hb hx => ?_, I.base.free, fun b o e hx => ?_, I.base.tups, I.base.frzs, I.base.tbls⟩, ⟨m', hn', fun j y v' e1 e2 e3 => ?_⟩, fun y c e => ?_, I.free, I.freeC, fun p hp => ?_, fun b ob e => ?_, by simp⟩
  · exact (hs.2 b (Nat.ne_of_lt (Nat.lt_of_lt_of_le (Heap.lt_size e) I.ok.above))).trans (I.base.keep b o e n hb hx)
  · obtain ⟨sl, e1⟩ := I.base.slot b o e n hb hx
    exact ⟨sl, (hs.2 b (Nat.ne_of_lt (Nat.lt_of_lt_of_le (Heap.lt_size e) I.ok.above))).trans e1⟩
  · obtain ⟨o', e1⟩ := I.base.there b o e hx
    exact ⟨o', (hs.2 b (Nat.ne_of_lt (Nat.lt_of_lt_of_le (Heap.lt_size e) I.ok.above))).trans e1⟩
  · rw [List.getElem?_replicate] at e2
    split at e2 <;> cases e2
  · obtain ⟨w', z⟩ := I.cell y c e
    exact ⟨w', z.sameBut hs (cne y c e)⟩
  · obtain ⟨e, n, ne, nf, d⟩ := I.pin p hp
    exact ⟨(hs.2 p.1 ne).trans e, n, ne, nf, d⟩
  · have hfree := I.free
    refine (I.hok b ob e).stay (fun c w' hc q => (hs.2 c ?_).trans q) (fun _ q => q) fun _ _ q => q
    rintro rfl
    rcases hc with rfl | hc
    · rw [hfree] at e; cases e
    · rw [hfree] at hc; cases hc
theorem catch_as {X : Cx} {pins : List (Addr × Obj)} {σ : St} {H H' : Hp} {s s' : Shared} {i : Nat} {c n : Str} {CB Ca ea : Addr} {a0 : Value} {B : Heap} {np hpos : Pos} {b₀ : Stmt} {suite : List Stmt} {rest : List ExceptHandler} {th : TS} {D : Ends}
    (hstk : X.stack = X.env :: X.outer) (hfrm : X.env.frame = some X.env.locals) (I : Inv X pins σ H s) (hm : X.mg c = some (.ref CB)) (hex : PySem.W.exmOne X.K (.ref Ca) (.ref CB) = some true)
    (Fl : Fly X.prog X.w X.stack H s ea (.ref Ca) a0 B H' s') (hg : Gl X c) (hd : (c == ("__debug__" : Str)) = false) (hN : X.N.Nodup) (hi : X.N[i]? = some n) (hloc : X.env.kindOf n = some .local) (hL : X.env.scope.names.lookup n = some .local)
    (hsuite : PSs (X.hdl (.ref ea)) (b₀ :: suite) th) (q : th (D.gone X.N.length) (σ.set i (some (.ref ea))) (upd H' ea (ExcO ea Ca))) :
    wpAny (model X.prog X.w) X.A (noteFrame (.ref ea) X.env) (fun _ s₂ => wpAny (model X.prog X.w) X.A (setFlight (.ref ea) none) (fun _ s₃ =>
      wpAny (model X.prog X.w) X.A (handleBy (.ref ea) X.env (.ExceptHandler (some (.Name c np)) (some n) (b₀ :: suite) hpos :: rest)) (SP X pins D) X.xe s₃) X.xe s₂) X.xe s' := by
  have frm : X.A.frames = some (X.env :: X.outer) := hstk ▸ I.ok.frames
  have fl : Heap.FlyingW B (X.env :: X.outer) ea (.ref Ca) a0 s'.heap := hstk ▸ Fl.fly
  refine looks_on2 frm hfrm fl Fl.ctx fun h4 held ups4 cx4 => ?_
  refine lands2 held cx4 fun h5 fl5 ups5 cx5 => ?_
  have sub : ∀ b o, b ∈ frs X.stack → s'.heap.get? b = some o → ∀ h'', s'.heap.UpToSlots h'' → ∃ sl, h''.get? b = some { o with slots := sl } := fun b o hb e h'' u => slots_of Fl.fly.2.2.1 u b o hb e
  have noB : B.get? ea = none := Fl.fly.2.1
  have noS : s.heap.get? ea = none := by
    cases e : s.heap.get? ea with
    | none => rfl
    | some o =>
      exfalso
      by_cases hb : ea ∈ frs X.stack
      · obtain ⟨_, o', e', hd'⟩ := frames_plain Fl.fly.2.2.1 ea hb
        obtain ⟨oe, vs, _, _, _, he, _, hdv, _⟩ := Fl.fly.2.2.2
        rw [he] at e'; cases e'
        exact hd' vs hdv
      · obtain ⟨o', e'⟩ := Fl.hT ea o e hb
        rw [noB] at e'; cases e'
  have noH : H' ea = none := by
    cases e : H' ea with
    | none => rfl
    | some o =>
      obtain ⟨ob, e'⟩ := (Fl.hok ea o e).get
      rw [noB] at e'; cases e'
  have mk : ∀ h'', Heap.FlyingW B (X.env :: X.outer) ea (.ref Ca) a0 h'' → s'.heap.UpToSlots h'' → Ctx0 h'' ea → Inv X pins σ (upd H' ea (ExcO ea Ca)) { s' with heap := h'' } := fun h'' f'' u'' cx'' => by
    have os := Fl.os
    have un := (un_fly Fl.un Fl.hB Fl.hT f''.1 fun b o hb e => sub b o hb e h'' u'').track (o := ExcO ea Ca) noS noH
    have bare := Fl.bare
    obtain ⟨ob, hob, hobc⟩ := f''.there
    have hok : HOk X.prog X.w (upd H' ea (ExcO ea Ca)) h'' := (Fl.hok.kept f''.1).track noH (excO_ok hob hobc cx'')
    obtain ⟨hh, g, d, t, os'⟩ := s'
    obtain rfl : os' = s.os := os
    have J := I.call (h' := h'') (g' := g) (d' := d) (t' := t) (ch := []) un hok bare fun b z => absurd z (by simp)
    exact J
  have u5 : s'.heap.UpToSlots h5 := ups4.trans ups5
  have I5 := mk h5 fl5 u5 cx5
  refine wpAny_handleBy_cons (codeAny_handlers_test (ld_glob (X := X.hdl (.ref ea)) (I5.hdl (.ref ea)) hg hm ?_ hd)) (by intro z; cases z)
  obtain ⟨ob, hob, hobc⟩ := fl5.there
  refine (PySem.W.exm_one (M := model X.prog X.w) (h := h5) I5.kIn (AtC.type ⟨ob, hob, hobc⟩) hex) _ _ _ _ (fun _ _ e => e) ?_
  refine codeAny_handlers_suite_as ?_
  refine lands_again2 fl5 cx5 fun h6 fl6 ups6 cx6 => ?_
  refine store_ok (X := X.hdl (.ref ea)) (v := .ref ea) ((mk h6 fl6 (u5.trans ups6) cx6).hdl (.ref ea)) hN hi (Or.inl hL) rfl (fun s2 I2 => ?_) (.inr hL)
  refine wpAny_mono (hsuite pins s2 _ _ (D.gone X.N.length) I2 q) (fun f s3 r => ?_) fun _ _ z => z.elim
  have r' := r.unhdl I.ok
  have hp : (X.env.scope.kind == .class || (X.env.scope.kind == .module && X.env.locals != X.env.globals)) = false := by rw [I.ok.kind]; rfl
  show wpAny _ X.A (do bindName X.env n .none; unbindBehindTheSuite X.env n hpos) (fun _ s₃ => SP X pins D f s₃) X.xe s3
  cases f with
  | next =>
    obtain ⟨σ', H9, I9, q9⟩ := r'
    obtain ⟨m, hn, _⟩ := id I9.loc
    exact wpAny_nameGoes hloc hn hp fun h' m' hn' hs' => ⟨_, H9, I9.gone _ hn' hs', q9⟩
  | brk =>
    obtain ⟨σ', H9, I9, q9⟩ := r'
    obtain ⟨m, hn, _⟩ := id I9.loc
    exact wpAny_nameGoes hloc hn hp fun h' m' hn' hs' => ⟨_, H9, I9.gone _ hn' hs', q9⟩
  | cont =>
    obtain ⟨σ', H9, I9, q9⟩ := r'
    obtain ⟨m, hn, _⟩ := id I9.loc
    exact wpAny_nameGoes hloc hn hp fun h' m' hn' hs' => ⟨_, H9, I9.gone _ hn' hs', q9⟩
  | ret u =>
    obtain ⟨v, σ', H9, I9, rv, q9⟩ := r'
    obtain ⟨m, hn, _⟩ := id I9.loc
    exact wpAny_nameGoes hloc hn hp fun h' m' hn' hs' => ⟨v, _, H9, I9.gone _ hn' hs', rv, q9⟩
/-- a body under try: it goes on, or an exception leaves a call in it -/
abbrev TB := St → Hp → (Hp → Prop) → XK → Prop
def PB (X : Cx) (body : List Stmt) (tb : TB) : Prop := ∀ (pins : List (Addr × Obj)) (s : Shared) (σ : St) (H : Hp) (Q : Hp → Prop) (E : XK), Inv X pins σ H s → tb σ H Q E →
  wpAny (model X.prog X.w) X.A (execs body X.env) (fun f s' => f = .next ∧ ∃ H', Inv X pins σ H' s' ∧ Q H') (fun e s' => ∃ H1 s1, Inv X pins σ H1 s1 ∧ CXE X.prog X.w X.stack H1 s1 E e s') s
section
variable {X : Cx}
/-- g(..), its value dropped -/
theorem pb_call {k : Nat} {g : Str} {ps : List Str} {sp : Sp} {e : Expr} {es : List Expr} {t : TA} {gp cpos pos : Pos} (F : Kn X.prog X.w X.K X.mg X.base k g ps sp) (hr : Room k X.A) (ha : PA X.nox (e :: es) t)
    (hs : swapsWith (.Call (.Name g gp) (e :: es) [] cpos) none pos.line X.env = pure false := by rfl)
    (hgg : Gl X g := by rfl) (hdg : (g == ("__debug__" : Str)) = false := by decide)
    (he : starEach (e :: es) X.env = (false, eval e X.env) :: starEach es X.env := by rfl) (hpl : (backTo cpos (starEach es X.env)).any (·.1) = false := by rfl) :
    PB X [.Expr (.Call (.Name g gp) (e :: es) [] cpos) pos] (fun σ H Q E => t σ H fun vs H1 => sp vs H1 (fun _ H2 => Q H2) E) := by
  intro pins s σ H Q E I h
  obtain ⟨f, fd, G, hb, kp, m⟩ := F
  refine wpAny_execs_cons (wpAny_Expr_any (wpAny_Call_Name_kw (ld_glob I hgg m ?_ hdg)) I.quiet hs)
  refine PySem.W.callWith_K (h₀ := X.base) I.ok.mod.kin kp (wpAny_mono (ha cpos pins s σ H _ (I.wish _) h) (fun us s1 ⟨vs, H1, I1', r, q⟩ => ⟨I1'.unwish.kIn, ?_⟩) fun _ _ z => False.elim z) he hpl
  have I1 : Inv X pins σ H1 s1 := I1'.unwish
  have hl : us.length = ps.length := by rw [← r.length]; exact G.len _ _ _ _ q
  have hbd := hb s1 us I1.kIn (by rw [List.append_nil]; exact hl)
  rw [List.append_nil] at hbd
  refine wpAny_call (codeAny_mono (G.run X.A X.stack s1 H1 ⟨us, []⟩ us vs _ _ hr I1.env0 hbd r q) fun rr s' hq => ?_)
  cases rr with
  | error er => exact ⟨H1, s1, I1, hq⟩
  | ok fl =>
    cases fl with
    | ret u =>
      obtain ⟨v, H2, I2, rv, q2⟩ := I1.after hq
      exact wpAny_execs_nil ⟨rfl, H2, I2, q2⟩
    | next => exact False.elim hq
    | brk => exact False.elim hq
    | cont => exact False.elim hq
theorem pb_if {c : Expr} {a b : List Stmt} {tc : TT} {ta tb : TB} {pos : Pos} (hc : PT X.nox c tc) (ha : PB X a ta) (hb : PB X b tb) : PB X [.If c a b pos] (fun σ H Q E => tc σ H fun k H1 => if k = true then ta σ H1 Q E else tb σ H1 Q E) := by
  intro pins s σ H Q E I h
  refine wpAny_execs_cons (wpAny_If (wpAny_mono (hc pins s σ H _ (I.wish _) h) (fun k s1 ⟨H1, I1, q⟩ => ?_) fun _ _ z => False.elim z))
  have I1 : Inv X pins σ H1 s1 := I1.unwish
  have fin : ∀ (f : Flow) (s' : Shared), (f = .next ∧ ∃ H', Inv X pins σ H' s' ∧ Q H') → (match f with | .next => wpAny (model X.prog X.w) X.A (execs [] X.env) (fun f s' => f = .next ∧ ∃ H', Inv X pins σ H' s' ∧ Q H') (fun e s' => ∃ H1 s1, Inv X pins σ H1 s1 ∧ CXE X.prog X.w X.stack H1 s1 E e s') s' | f => (f = .next ∧ ∃ H', Inv X pins σ H' s' ∧ Q H')) := by
    rintro f s' ⟨rfl, z⟩
    exact wpAny_execs_nil ⟨rfl, z⟩
  cases k with
  | true =>
    rw [if_pos rfl] at q
    exact wpAny_mono (ha pins s1 σ H1 Q E I1 q) (fun f s' z => fin f s' z) fun _ _ z => z
  | false =>
    rw [if_neg Bool.false_ne_true] at q
    exact wpAny_mono (hb pins s1 σ H1 Q E I1 q) (fun f s' z => fin f s' z) fun _ _ z => z
theorem ps_tryAs {i : Nat} {c n : Str} {CB : Addr} {body : List Stmt} {tb : TB} {np hpos pos : Pos} {b₀ : Stmt} {suite : List Stmt} {th : TS}
    (hstk : X.stack = X.env :: X.outer) (hfrm : X.env.frame = some X.env.locals) (hm : X.mg c = some (.ref CB)) (hB : PB X body tb) (hN : X.N.Nodup) (hi : X.N[i]? = some n) (hL : X.env.scope.names.lookup n = some .local)
    (hsuite : ∀ v, PSs (X.hdl v) (b₀ :: suite) th) (hloc : X.env.kindOf n = some .local := by rfl) (hg : Gl X c := by rfl) (hd : (c == ("__debug__" : Str)) = false := by decide) :
    PS X (.Try body [.ExceptHandler (some (.Name c np)) (some n) (b₀ :: suite) hpos] [] [] pos)
      (fun D σ H => tb σ H (fun H2 => D.nx σ H2) fun C _ H2 => ∃ Ca, C = .ref Ca ∧ PySem.W.exmOne X.K (.ref Ca) (.ref CB) = some true ∧ ∀ ea, H2 ea = none → th (D.gone X.N.length) (σ.set i (some (.ref ea))) (upd H2 ea (ExcO ea Ca))) := by
  intro pins s σ H D I h
  refine wpAny_Try_except (wpAny_mono (hB pins s σ H _ _ I h) (fun f s1 hh => ?_) fun e s' hh => ?_)
  · obtain ⟨rfl, H', I', q⟩ := hh
    exact wpAny_execs_nil ⟨σ, H', I', q⟩
  · obtain ⟨H1, s1, I1, ea, C, a0, B, H', rfl, Fl, Ca, rfl, hex, hth⟩ := hh
    have noH : H' ea = none := by
      cases e : H' ea with
      | none => rfl
      | some o =>
        obtain ⟨ob, e'⟩ := (Fl.hok ea o e).get
        rw [Fl.fly.2.1] at e'; cases e'
    exact catch_as hstk hfrm I1 hm hex Fl hg hd hN hi hloc hL (hsuite _) (hth ea noH)
end
end L2

set_option maxHeartbeats 4000000
namespace L2
open PySem PySem.Spec PyProof.Rows PySem.SeqAt
/-! ### a def as a value, called -/
def KnF (P : Program) (w : World) (K : PySem.W.Frag) (mg : Str → Option Value) (base : Heap) (k : Nat) (f : Addr) (ps : List Str) (sp : Sp) : Prop :=
  ∃ fd, FnOk P w K mg base (CXE P w) k f fd ps sp ∧ Binds K fd ps [] ∧ PySem.W.keepIn K (.ref f) = true
theorem KnF.kn {P : Program} {w : World} {K : PySem.W.Frag} {mg : Str → Option Value} {base : Heap} {k : Nat} {f : Addr} {x : Str} {ps : List Str} {sp : Sp} (F : KnF P w K mg base k f ps sp) (m : mg x = some (.ref f)) : Kn P w K mg base k x ps sp := by
  obtain ⟨fd, G, b, kp⟩ := F
  exact ⟨f, fd, G, b, kp, m⟩
section
variable {X : Cx}
/-- e(..), e a value that is a def -/
def tCallV (P : Program) (w : World) (K : PySem.W.Frag) (mg : Str → Option Value) (base : Heap) (A : Around) (E : XK) (tf : TE) (t : TA) : TE := fun σ H Q => tf σ H fun x H1 => ∃ f k ps sp, x = .ref f ∧ KnF P w K mg base k f ps sp ∧ Room k A ∧ t σ H1 fun vs H2 => sp (vs ++ []) H2 Q E
theorem pe_callV {fe e : Expr} {es : List Expr} {tf : TE} {t : TA} {pos : Pos} {E : XK} (hf : PE X fe tf) (hx : Passes (CXE X.prog X.w) X E) (ha : PA X (e :: es) t)
    (he : starEach (e :: es) X.env = (false, eval e X.env) :: starEach es X.env := by rfl) (hpl : (backTo pos (starEach es X.env)).any (·.1) = false := by rfl)
    (hev : eval (.Call fe (e :: es) [] pos) X.env = (do callWith pos (← eval fe X.env) [] (backTo pos (starEach (e :: es) X.env)) (backToKw pos (keywordEach [] X.env))) := by rfl) :
    PE X (.Call fe (e :: es) [] pos) (tCallV X.prog X.w X.K X.mg X.base X.A E tf t) := by
  intro pins s σ H Q I h
  refine Call_ (thn (hf pins s σ H _ I h) fun v s1 ⟨x, H1, I1, r1, f, k, ps, sp, e1, ⟨fd, G, hb, kp⟩, hr, q1⟩ => ?_) hev
  subst e1
  cases r1
  exact PySem.W.callWith_K (h₀ := X.base) I.ok.mod.kin kp (thn (ha pos pins s1 σ H1 _ I1 q1) fun us s2 ⟨vs, H2, I2, r, q⟩ => ⟨I2.kIn, run_fn G hr hb .nil hx I2 r q⟩) he hpl
theorem pb_callV {fe e : Expr} {es : List Expr} {tf : TE} {t : TA} {cpos pos : Pos} (hf : PE X.nox fe tf) (ha : PA X.nox (e :: es) t)
    (hs : swapsWith (.Call fe (e :: es) [] cpos) none pos.line X.env = pure false := by rfl)
    (he : starEach (e :: es) X.env = (false, eval e X.env) :: starEach es X.env := by rfl) (hpl : (backTo cpos (starEach es X.env)).any (·.1) = false := by rfl)
    (hev : eval (.Call fe (e :: es) [] cpos) X.env = (do callWith cpos (← eval fe X.env) [] (backTo cpos (starEach (e :: es) X.env)) (backToKw cpos (keywordEach [] X.env))) := by rfl) :
    PB X [.Expr (.Call fe (e :: es) [] cpos) pos] (fun σ H Q E => tf σ H fun x H1 => ∃ f k ps sp, x = .ref f ∧ KnF X.prog X.w X.K X.mg X.base k f ps sp ∧ Room k X.A ∧ t σ H1 fun vs H2 => sp vs H2 (fun _ H3 => Q H3) E) := by
  intro pins s σ H Q E I h
  refine wpAny_execs_cons (wpAny_Expr_any (Call_ (wpAny_mono (hf pins s σ H _ (I.wish _) h) (fun v s1 ⟨x, H1, I1', r1, f, k, ps, sp, e1, ⟨fd, G, hb, kp⟩, hr, q1⟩ => ?_) fun _ _ z => False.elim z) hev) I.quiet hs)
  subst e1
  cases r1
  refine PySem.W.callWith_K (h₀ := X.base) I.ok.mod.kin kp (wpAny_mono (ha cpos pins s1 σ H1 _ I1' q1) (fun us s2 ⟨vs, H2, I2', r, q⟩ => ⟨I2'.unwish.kIn, ?_⟩) fun _ _ z => False.elim z) he hpl
  have I2 : Inv X pins σ H2 s2 := I2'.unwish
  have hl : us.length = ps.length := by rw [← r.length]; exact G.len _ _ _ _ q
  have hbd := hb s2 us I2.kIn (by rw [List.append_nil]; exact hl)
  rw [List.append_nil] at hbd
  refine wpAny_call (codeAny_mono (G.run X.A X.stack s2 H2 ⟨us, []⟩ us vs _ _ hr I2.env0 hbd r q) fun rr s' hq => ?_)
  cases rr with
  | error er => exact ⟨H2, s2, I2, hq⟩
  | ok fl =>
    cases fl with
    | ret u =>
      obtain ⟨v, H3, I3, rv, q3⟩ := I2.after hq
      exact wpAny_execs_nil ⟨rfl, H3, I3, q3⟩
    | next => exact False.elim hq
    | brk => exact False.elim hq
    | cont => exact False.elim hq
end
/-! ### == and != of two lists of one kind of flat values -/
structure Flat (α : Type) [DecidableEq α] (f : α → V) (d : α → PyData) (ok : α → Prop) : Prop where
  rd : ∀ (h : Heap) a u, RelV (f a) u → Reads h u (d a) []
  lay : ∀ a, ok a → PyData.canLay0 (d a) = true
  dep : ∀ a, PyData.depth (d a) = 0
  mix : ∀ a b, noMix (d a) (d b) = true
  same : ∀ a b, same (d a) (d b) = decide (a = b)
section
variable {α : Type} [DecidableEq α] {f : α → V} {d : α → PyData} {ok : α → Prop} (F : Flat α f d ok)
include F
theorem Flat.reads {h : Heap} : ∀ {ns : List α} {us : List Value}, Vals (ns.map f) us → ReadsAll h us (ns.map d) []
  | [], _, r => by cases r; exact .nil
  | n :: ns, _, r => by
    cases r with
    | cons a b => simpa using ReadsAll.cons (F.rd h n _ a) (Flat.reads b)
theorem Flat.lays : ∀ ns : List α, (∀ z ∈ ns, ok z) → PyData.canLayAll0 (ns.map d) = true
  | [], _ => by simp [PyData.canLayAll0]
  | n :: r, h => by simp [PyData.canLayAll0, F.lay n (h n (by simp)), Flat.lays r fun z hz => h z (List.mem_cons_of_mem _ hz)]
theorem Flat.deps : ∀ ns : List α, PyData.depthAll (ns.map d) = 0
  | [] => by simp [PyData.depthAll]
  | n :: r => by
    have := Flat.deps r
    simp only [List.map_cons, PyData.depthAll, F.dep n]
    omega
theorem Flat.shaped (ns : List α) (h : ∀ z ∈ ns, ok z) : SeqAt.shaped (.list (ns.map d)) = true := by
  have h1 := F.deps ns
  have h2 : PyData.depth (.list (ns.map d)) ≤ 64 := by simp only [PyData.depth]; omega
  show (PyData.canLay0 (.list (ns.map d)) && decide (PyData.depth (.list (ns.map d)) ≤ 64)) = true
  rw [Bool.and_eq_true]
  refine ⟨?_, decide_eq_true h2⟩
  simp only [PyData.canLay0]
  exact F.lays ns h
theorem Flat.mixes : ∀ ns ms : List α, noMixAll (ns.map d) (ms.map d) = true
  | [], [] => by simp [noMixAll]
  | [], _ :: _ => by simp [noMixAll]
  | _ :: _, [] => by simp [noMixAll]
  | a :: r, b :: q => by simp [noMixAll, F.mix a b, Flat.mixes r q]
theorem Flat.sames : ∀ ns ms : List α, PySem.Spec.sameAll (ns.map d) (ms.map d) = decide (ns = ms)
  | [], [] => by simp [PySem.Spec.sameAll]
  | [], _ :: _ => by simp [PySem.Spec.sameAll]
  | _ :: _, [] => by simp [PySem.Spec.sameAll]
  | n :: r, k :: q => by
    simp only [List.map_cons, PySem.Spec.sameAll, F.same n k, Flat.sames r q]
    by_cases h1 : n = k <;> by_cases h2 : r = q <;> simp [h1, h2]
theorem Flat.list {h : Heap} {a : Addr} {us : List Value} {ns : List α} (hl : h.IsList a us.toArray) (r : Vals (ns.map f) us) : Reads h (.ref a) (.list (ns.map d)) [a] := by
  obtain ⟨o, ho, hc, n, hd⟩ := hl
  exact Reads.list ho hc hd (by simpa using F.reads r)
theorem Flat.eq {X : Cx} (hu : X.A.units + 64 < cLine) : OpR X (compareOp .Eq) (fun x y H Q => ∃ a b, ∃ ns ms : List α, x = .ref a ∧ y = .ref b ∧ (∀ z ∈ ns, ok z) ∧ (∀ z ∈ ms, ok z) ∧ SqL X.K H a (ns.map f) ∧ SqL X.K H b (ms.map f) ∧ Q (.bl (decide (ns = ms))) H) := by
  intro pins s σ H x y v u Q I rx ry h
  obtain ⟨a, b, ns, ms, rfl, rfl, o1, o2, ha, hb, q⟩ := h
  cases rx
  cases ry
  obtain ⟨i1, r1, p1, _⟩ := I.list ha
  obtain ⟨i2, r2, p2, _⟩ := I.list hb
  exact eq_dataH_same (F.list p1.isList r1) (F.list p2.isList r2) (F.shaped ns o1) (F.shaped ms o2) hu (by simp only [noMix]; exact F.mixes ns ms) (by simp only [PySem.Spec.same]; rw [F.sames]; exact ⟨.bl _, H, I, rfl, q⟩)
theorem Flat.ne {X : Cx} (hu : X.A.units + 64 < cLine) : OpR X (compareOp .NotEq) (fun x y H Q => ∃ a b, ∃ ns ms : List α, x = .ref a ∧ y = .ref b ∧ (∀ z ∈ ns, ok z) ∧ (∀ z ∈ ms, ok z) ∧ SqL X.K H a (ns.map f) ∧ SqL X.K H b (ms.map f) ∧ Q (.bl (!decide (ns = ms))) H) := by
  intro pins s σ H x y v u Q I rx ry h
  obtain ⟨a, b, ns, ms, rfl, rfl, o1, o2, ha, hb, q⟩ := h
  cases rx
  cases ry
  obtain ⟨i1, r1, p1, _⟩ := I.list ha
  obtain ⟨i2, r2, p2, _⟩ := I.list hb
  exact ne_dataH_same (F.list p1.isList r1) (F.list p2.isList r2) (F.shaped ns o1) (F.shaped ms o2) hu (by simp only [noMix]; exact F.mixes ns ms) (by simp only [PySem.Spec.same]; rw [F.sames]; exact ⟨.bl _, H, I, rfl, q⟩)
end
theorem flatB : Flat Bool V.bl PyData.bool (fun _ => True) where
  rd := fun h a u r => by cases r; exact .bool a
  lay := fun _ _ => by simp [PyData.canLay0]
  dep := fun _ => by simp [PyData.depth]
  mix := fun _ _ => by simp [noMix]
  same := fun a b => by simp only [PySem.Spec.same]; cases a <;> cases b <;> rfl
theorem flatI : Flat Int V.int PyData.int (fun _ => True) where
  rd := fun h a u r => by obtain ⟨t, rfl⟩ := r; exact .int a t
  lay := fun _ _ => by simp [PyData.canLay0]
  dep := fun _ => by simp [PyData.depth]
  mix := fun _ _ => by simp [noMix]
  same := fun a b => by simp only [PySem.Spec.same]; exact Bool.beq_eq_decide_eq a b
theorem flatS : Flat Str V.str PyData.str (fun x => PyData.strOk x = true) where
  rd := fun h a u r => by obtain ⟨t, rfl⟩ := r; exact .str a t
  lay := fun _ h => by simpa [PyData.canLay0] using h
  dep := fun _ => by simp [PyData.depth]
  mix := fun _ _ => by simp [noMix]
  same := fun a b => by
    simp only [PySem.Spec.same]
    by_cases h : a = b
    · subst h; simp
    · rw [decide_eq_false h]; exact beq_eq_false_iff_ne.mpr h
end L2

set_option maxHeartbeats 4000000
namespace Eb
/-! ### the gaps of a ring, walked; folded, unfolded -/
def firstB (l : List Bool) : Nat := l.findIdx id
theorem firstB_lt {l : List Bool} (h : 1 ≤ cnt l) : firstB l < l.length := by
  refine List.findIdx_lt_length_of_exists ?_
  apply Classical.byContradiction
  intro hc
  have : l.filter id = [] := List.filter_eq_nil_iff.mpr fun a ha => fun e => hc ⟨a, ha, e⟩
  unfold cnt at h
  rw [this] at h; simp at h
theorem firstB_at {l : List Bool} (h : 1 ≤ cnt l) : l[firstB l]? = some true := by
  have hl := firstB_lt h
  rw [List.getElem?_eq_getElem hl]
  have := List.findIdx_getElem (p := id) (xs := l) (w := hl)
  exact congrArg some this
/-- what stands behind the first beat, around the ring -/
def tailB (l : List Bool) : List Bool := (rot l (firstB l)).tail
theorem rot_first {l : List Bool} (h : 1 ≤ cnt l) : rot l (firstB l) = true :: tailB l := by
  have hl := firstB_lt h
  have h0 := rot_get l (firstB l) 0 (by omega) (by omega) (by omega)
  rw [Nat.zero_add, Nat.mod_eq_of_lt hl, firstB_at h] at h0
  unfold tailB
  cases e : rot l (firstB l) with
  | nil => rw [e] at h0; simp at h0
  | cons b t => rw [e] at h0; simp at h0; subst h0; rfl
def gapsL (l : List Bool) : List Nat := gp 1 (tailB l)
theorem blocks_gapsL {l : List Bool} (h : 1 ≤ cnt l) : blocks (gapsL l) = rot l (firstB l) := by
  rw [rot_first h]
  have := gp_blocks (tailB l) 0
  simpa [gapsL] using this
theorem gapsL_pos (l : List Bool) : ∀ g ∈ gapsL l, 1 ≤ g := gp_pos _ 0
theorem gapsL_len {l : List Bool} (h : 1 ≤ cnt l) : ((gapsL l).length : Int) = cnt l := by
  rw [← cnt_blocks, blocks_gapsL h, cnt_rot]
/-- a step of the walk: the gaps found, the places since the last beat -/
def gstep (s : List Nat × Nat) (b : Bool) : List Nat × Nat := if b then (s.1 ++ [s.2 + 1], 0) else (s.1, s.2 + 1)
theorem gwalk : ∀ (t : List Bool) (f : List Nat) (c : Nat), (t ++ [true]).foldl gstep (f, c) = (f ++ gp (c + 1) t, 0)
  | [], f, c => by simp [gstep, gp]
  | true :: t, f, c => by
    rw [List.cons_append, List.foldl_cons]
    show (t ++ [true]).foldl gstep (f ++ [c + 1], 0) = _
    rw [gwalk t]; simp [gp]
  | false :: t, f, c => by
    rw [List.cons_append, List.foldl_cons]
    show (t ++ [true]).foldl gstep (f, c + 1) = _
    rw [gwalk t]; simp [gp]
/-- the signs that are walked: from behind the first beat on, once around -/
def walkB (l : List Bool) : List Bool := tailB l ++ [true]
theorem walkB_length {l : List Bool} (h : 1 ≤ cnt l) : (walkB l).length = l.length := by
  have := congrArg List.length (rot_first h)
  rw [rot_length, List.length_cons] at this
  simp [walkB]; omega
theorem walkB_get {l : List Bool} (h : 1 ≤ cnt l) (i : Nat) (hi : i < l.length) : (walkB l)[i]? = l[(firstB l + (1 + i)) % l.length]? := by
  have hl := firstB_lt h
  have e := congrArg List.length (rot_first h)
  rw [rot_length, List.length_cons] at e
  unfold walkB
  by_cases c : i < (tailB l).length
  · rw [List.getElem?_append_left c]
    have h1 := rot_get l (firstB l) (i + 1) (by omega) (by omega) (by omega)
    rw [rot_first h, List.getElem?_cons_succ] at h1
    rw [h1]; congr 2; omega
  · have ei : i = (tailB l).length := by omega
    rw [List.getElem?_append_right (by omega), ei, Nat.sub_self, show firstB l + (1 + (tailB l).length) = firstB l + l.length by omega, Nat.add_mod_right, Nat.mod_eq_of_lt hl, firstB_at h]; rfl
theorem gwalk_all (l : List Bool) : (walkB l).foldl gstep ([], 0) = (gapsL l, 0) := by
  unfold walkB gapsL
  rw [gwalk]; simp
theorem gwalk_succ (w : List Bool) (i : Nat) (b : Bool) (h : w[i]? = some b) : (w.take (i + 1)).foldl gstep ([], 0) = gstep ((w.take i).foldl gstep ([], 0)) b := by
  rw [List.take_add_one, h, List.foldl_append]; rfl
theorem gstep_bounds (w : List Bool) : ∀ i, i ≤ w.length → ((w.take i).foldl gstep ([], 0)).1.length ≤ i ∧ ((w.take i).foldl gstep ([], 0)).2 ≤ i
  | 0, _ => by simp
  | i + 1, h => by
    have ih := gstep_bounds w i (by omega)
    rw [gwalk_succ w i _ (List.getElem?_eq_getElem (by omega))]
    generalize (w.take i).foldl gstep ([], 0) = z at ih
    cases w[i] with
    | true => simp [gstep]; omega
    | false => simp [gstep]; omega
/-- unfolded by a gap -/
def unf (l : List Bool) (gap : Nat) : List Bool := blocks (l.map fun b => gap + if b then 1 else 0)
theorem gp_of_blocks : ∀ (r : List Nat) (c k : Nat), (∀ x ∈ r, 1 ≤ x) → gp (c + 1) (List.replicate k false ++ blocks r) = (c + 1 + k) :: r
  | [], c, 0, _ => by simp [blocks, gp]
  | x :: r, c, 0, h => by
    have ih := gp_of_blocks r 0 (x - 1) fun y hy => h y (List.mem_cons_of_mem _ hy)
    have hx := h x (by simp)
    simp only [List.replicate_zero, List.nil_append, blocks, gp, Nat.zero_add] at ih ⊢
    rw [ih, show 1 + (x - 1) = x by omega]
  | r, c, k + 1, h => by
    rw [List.replicate_succ, List.cons_append, gp, gp_of_blocks r (c + 1) k h]
    congr 1; omega
theorem gapsL_blocks {g : List Nat} (hb : 1 ≤ g.length) (h : ∀ x ∈ g, 1 ≤ x) : firstB (blocks g) = 0 ∧ gapsL (blocks g) = g := by
  cases g with
  | nil => simp at hb
  | cons x r =>
    have h0 : firstB (blocks (x :: r)) = 0 := by
      unfold firstB
      rw [blocks, List.findIdx_cons]; rfl
    refine ⟨h0, ?_⟩
    unfold gapsL tailB
    rw [h0]
    have e : (rot (blocks (x :: r)) 0).tail = List.replicate (x - 1) false ++ blocks r := by simp [rot, blocks]
    rw [e]
    have := gp_of_blocks r 0 (x - 1) fun y hy => h y (List.mem_cons_of_mem _ hy)
    have hx := h x (by simp)
    rw [Nat.zero_add] at this
    rw [this]
    congr 1; omega
theorem unf_gaps {l : List Bool} {gap : Nat} (hl : 1 ≤ l.length) (hg : 1 ≤ gap) : firstB (unf l gap) = 0 ∧ gapsL (unf l gap) = l.map fun b => gap + if b then 1 else 0 :=
  gapsL_blocks (by simpa using hl) fun x hx => by
    obtain ⟨b, _, rfl⟩ := List.mem_map.mp hx
    omega
/-- folded and unfolded by the least gap: the ring from its first beat on -/
theorem unf_fold {l : List Bool} (h : 1 ≤ cnt l) (d : Nat) (hd : ∀ x ∈ gapsL l, x = d ∨ x = d + 1) : unf (foldL (gapsL l) d) d = rot l (firstB l) := by
  rw [← blocks_gapsL h]
  unfold unf foldL
  rw [List.map_map]
  congr 1
  have : (gapsL l).map ((fun b : Bool => d + if b then 1 else 0) ∘ fun x => decide (d < x)) = (gapsL l).map id := List.map_congr_left fun x hx => by
    rcases hd x hx with rfl | rfl <;> simp
  rw [this, List.map_id]
theorem fold_unf {l : List Bool} {gap : Nat} : foldL (l.map fun b => gap + if b then 1 else 0) gap = l := by
  unfold foldL
  rw [List.map_map]
  have : l.map ((fun x => decide (gap < x)) ∘ fun b : Bool => gap + if b then 1 else 0) = l.map id := List.map_congr_left fun b _ => by cases b <;> simp
  rw [this, List.map_id]
theorem blocks_len_le : ∀ (g : List Nat) (m : Nat), (∀ x ∈ g, 1 ≤ x ∧ x ≤ m) → (blocks g).length ≤ g.length * m
  | [], m, _ => by simp [blocks]
  | x :: r, m, h => by
    have h1 := h x (by simp)
    have ih := blocks_len_le r m fun y hy => h y (List.mem_cons_of_mem _ hy)
    simp only [blocks, List.length_cons, List.length_append, List.length_replicate, Nat.succ_mul]
    omega
/-- a ring is even just if it can be folded and the folded one is -/
theorem even_step {l : List Bool} (h : 1 ≤ cnt l) (d : Nat) (hd : ∀ x ∈ gapsL l, x = d ∨ x = d + 1) : EvAll l ↔ EvAll (foldL (gapsL l) d) := by
  have hl := firstB_lt h
  have hb : 1 ≤ (gapsL l).length := by have := gapsL_len h; omega
  rw [← fold_even hb (gapsL_pos l) d hd, blocks_gapsL h, rot_even (by omega) _ (by omega)]
theorem even_alike {l : List Bool} (h : 1 ≤ cnt l) (e : EvAll l) : ∀ x ∈ gapsL l, ∀ y ∈ gapsL l, x ≤ y + 1 := by
  have hl := firstB_lt h
  have hb : 1 ≤ (gapsL l).length := by have := gapsL_len h; omega
  exact gaps_alike hb (gapsL_pos l) (by rw [blocks_gapsL h, rot_even (by omega) _ (by omega)]; exact e)
theorem even_rests {l : List Bool} (hn : 1 ≤ l.length) (h : cnt l = 0) : EvAll l := by
  have key : ∀ x, N l x = 0 := fun x => by
    have h1 := N_nonneg hn x
    obtain ⟨q, r, rfl, hr⟩ := split hn x
    rw [N_lt hn q r hr, h, Int.zero_mul, Int.zero_add]
    have e : cnt l = cnt (l.take r) + cnt (l.drop r) := by rw [← cnt_append, List.take_append_drop]
    have a := cnt_nonneg (l.take r)
    have b := cnt_nonneg (l.drop r)
    unfold pre; omega
  intro m i j
  rw [key, key, key, key]; omega
end Eb

set_option maxHeartbeats 4000000
namespace L2
open PySem PySem.Spec PyProof.Rows
theorem bo_ValueError : bootBuiltins "ValueError" = some (.type "ValueError") := by decide +kernel
theorem call_isiXK {X : Cx} (K : PySem.W.Frag) (hK : X.K = K := by rfl) : CallR X (.builtin "isinstance") (rIsX K) := hK ▸ call_isiX
theorem pv_isiX {σ : St} {H : Hp} {ta : TE} {K : PySem.W.Frag} {ea Ca : Addr} {cv : V} {cu : Value} {b : Bool} (ha : Pv ta σ H (.ref ea)) (rc : RelV cv cu) (he : H ea = some (ExcO ea Ca)) (Z : XTy K Ca) (e : PySem.W.kitOne K (.ref Ca) cu = some b) :
    Pv (tCB (rIsX K) (tCons ta (tCons (tC cv) tNil))) σ H (.bl b) := fun Q q => ha _ ⟨ea, Ca, cv, cu, b, rfl, rc, he, Z, e, q⟩
end L2
namespace Eb
open PySem L2
/-! ### what the defs of folding promise -/
def vG (g : List Nat) : List V := g.map fun x => V.int (x : Nat)
def spx_gaps (CN : Addr) : Sp := fun vs H Q E => ∃ l : List Bool, vs = [.str (rowS l)] ∧ 1 ≤ l.length ∧ l.length ≤ 1000 ∧
  (1 ≤ cnt l → ∀ p H', H p = none → Same H H' → H' p = some (.lst (vG (gapsL l))) → Q (.ref p) H') ∧ (cnt l = 0 → ∀ H', Same H H' → E (.ref CN) none H')
def spx_folded (CN CU : Addr) : Sp := fun vs H Q E => ∃ l : List Bool, vs = [.str (rowS l)] ∧ 1 ≤ l.length ∧ l.length ≤ 1000 ∧
  (1 ≤ cnt l → ∀ d, d ∈ gapsL l → (∀ x ∈ gapsL l, d ≤ x) → (∀ x ∈ gapsL l, x ≤ d + 1) → ∀ H', Same H H' → Q (.str (rowS (foldL (gapsL l) d))) H') ∧ (cnt l = 0 → ∀ H', Same H H' → E (.ref CN) none H') ∧
  (1 ≤ cnt l → ∀ d, d ∈ gapsL l → (∀ x ∈ gapsL l, d ≤ x) → ¬ (∀ x ∈ gapsL l, x ≤ d + 1) → ∀ H', Same H H' → E (.ref CU) none H')
def sp_unfolded : Sp := fun vs H Q _ => ∃ (l : List Bool) (gap : Int), vs = [.str (rowS l), .int gap] ∧ 1 ≤ l.length ∧ 1 ≤ gap ∧ l.length ≤ 1000 ∧ gap ≤ 1000 ∧ ∀ H', Same H H' → Q (.str (rowS (unf l gap.toNat))) H'
/-- the classes of errors -/
structure KX (K : PySem.W.Frag) (mg : Str → Option Value) (CT CR CC CN CU : Addr) : Prop where
  nT : mg "BeatError" = some (.ref CT)
  nR : mg "BadRing" = some (.ref CR)
  nC : mg "BadCount" = some (.ref CC)
  nN : mg "NoBeat" = some (.ref CN)
  nU : mg "Uneven" = some (.ref CU)
  nV : mg "ValueError" = none
/-- an error's class: what is asked of it -/
structure KE (K : PySem.W.Frag) (CT CR CC CN CU Ca : Addr) (r c n u : Bool) : Prop where
  ty : XTy K Ca
  ex : PySem.W.exmOne K (.ref Ca) (.ref CT) = some true
  kR : PySem.W.kitOne K (.ref Ca) (.ref CR) = some r
  kC : PySem.W.kitOne K (.ref Ca) (.ref CC) = some c
  kN : PySem.W.kitOne K (.ref Ca) (.ref CN) = some n
  kU : PySem.W.kitOne K (.ref Ca) (.ref CU) = some u
  kV : PySem.W.kitOne K (.ref Ca) (.type "ValueError") = some true
theorem min_gap {l : List Bool} (h : 1 ≤ cnt l) : ∃ d, d ∈ gapsL l ∧ ∀ x ∈ gapsL l, d ≤ x := by
  have hb : 1 ≤ (gapsL l).length := by have := gapsL_len h; omega
  obtain ⟨d, hd, hm⟩ := exists_best (fun (a b : Nat) => b ≤ a) (fun _ => True) (fun a b _ _ => by omega) (fun a b c _ _ _ h1 h2 => by omega) (gapsL l) (fun _ _ => trivial) (fun z => by rw [z] at hb; simp at hb)
  exact ⟨d, hd, hm⟩
end Eb

set_option maxHeartbeats 4000000
namespace Eb
open PySem L2
theorem mem_x (l : List Bool) : (120 ∈ (rowS l).cps.toList) ↔ true ∈ l := by
  show 120 ∈ (l.map sg).toArray.toList ↔ _
  rw [List.toList_toArray, List.mem_map]
  constructor
  · rintro ⟨b, hb, e⟩
    cases b
    · exact absurd e (by decide)
    · exact hb
  · intro h
    exact ⟨true, h, rfl⟩
theorem mem_dot (l : List Bool) : (46 ∈ (rowS l).cps.toList) ↔ false ∈ l := by
  show 46 ∈ (l.map sg).toArray.toList ↔ _
  rw [List.toList_toArray, List.mem_map]
  constructor
  · rintro ⟨b, hb, e⟩
    cases b
    · exact hb
    · exact absurd e (by decide)
  · intro h
    exact ⟨false, h, rfl⟩
theorem mem_true (l : List Bool) : true ∈ l ↔ 1 ≤ cnt l := by
  unfold cnt
  constructor
  · intro h
    have : true ∈ l.filter id := List.mem_filter.mpr ⟨h, rfl⟩
    have := List.length_pos_of_mem this
    omega
  · intro h
    cases e : l.filter id with
    | nil => rw [e] at h; simp at h
    | cons a r =>
      have ha : a ∈ l.filter id := by rw [e]; simp
      obtain ⟨h1, h2⟩ := List.mem_filter.mp ha
      have : a = true := h2
      subst this; exact h1
/-- "x" in row, "." in row -/
theorem in_x (l : List Bool) : (!(Builtin.Str.occurrences (rowS l) "x" 0 (rowS l).length 1).isEmpty) = decide (1 ≤ cnt l) := by
  rw [x_eq, PySem.StrLaws.found_one]
  exact decide_eq_decide.mpr ((mem_x l).trans (mem_true l))
theorem in_dot (l : List Bool) : (!(Builtin.Str.occurrences (rowS l) "." 0 (rowS l).length 1).isEmpty) = decide (false ∈ l) := by
  rw [dot_eq, PySem.StrLaws.found_one]
  exact decide_eq_decide.mpr (mem_dot l)
/-- row.index("x"): the first beat -/
theorem at_x (l : List Bool) (i : Nat) : StrLaws.At (rowS l) "x" (rowS l).length i ↔ l[i]? = some true := by
  rw [x_eq]
  refine (PySem.StrLaws.subAt_one (rowS l) 120 i).trans ?_
  show (l.map sg).toArray.toList[i]? = some 120 ↔ _
  rw [List.toList_toArray, List.getElem?_map]
  cases l[i]? with
  | none => simp
  | some b => cases b <;> simp [sg]
theorem find_x {l : List Bool} (h : 1 ≤ cnt l) : Txt.find (rowS l) "x" = (firstB l : Nat) := by
  rcases PyProof.Rows.find_whole (rowS l) "x" with ⟨_, hn⟩ | ⟨i, e, ha, hm⟩
  · exact absurd ((at_x l _).mpr (firstB_at h)) (hn _)
  · rw [e]
    have h1 := (at_x l i).mp ha
    have h2 : ¬ firstB l < i := fun z => hm _ z ((at_x l _).mpr (firstB_at h))
    have h3 : ¬ i < firstB l := fun z => by
      have hl := (List.getElem?_eq_some_iff.mp h1).1
      have := List.not_of_lt_findIdx (p := id) (xs := l) z
      rw [List.getElem?_eq_getElem hl] at h1
      have e1 := Option.some.inj h1
      rw [e1] at this
      exact absurd this (by decide)
    have : i = firstB l := by omega
    rw [this]
theorem pv_find {σ : St} {H : Hp} {ta tb : TE} {K : PySem.W.Frag} {l : List Bool} (h : 1 ≤ cnt l) (ha : Pv ta σ H (.str (rowS l))) (hb : Pv tb σ H (.str "x")) :
    Pv (tBM K "str" (fun x vs H Q => ∃ z y, x = .str z ∧ vs = [.str y] ∧ 0 ≤ Txt.find z y ∧ Q (.int (Txt.find z y)) H) ta (tCons tb tNil)) σ H (.int (firstB l : Nat)) := fun Q q => ha _ ⟨rfl, hb _ ⟨rowS l, "x", rfl, rfl, by rw [find_x h]; omega, by rw [find_x h]; exact q⟩⟩
end Eb

set_option maxHeartbeats 4000000
namespace L2
open PySem
/-! ### facts of the program's classes, from what the kit tells of the frozen heap -/
theorem OwnC.exm {K : PySem.W.Frag} {t : Value} {D : Addr} {b : Bool} (O : OwnC K D) (be : PySem.W.subIn K (.ref D) (.type "BaseException") = some true) (s : PySem.W.subIn K t (.ref D) = some b) : PySem.W.exmOne K t (.ref D) = some b := by
  unfold PySem.W.exmOne
  rw [if_pos (by rw [be]; rfl)]
  exact O.cls s
theorem kit_bty {K : PySem.W.Frag} {C : Addr} {T : String} {b : Bool} (m : PySem.W.kitMeta T = true) (s : PySem.W.subIn K (.ref C) (.type T) = some b) : PySem.W.kitOne K (.ref C) (.type T) = some b := by
  unfold PySem.W.kitOne
  rw [if_neg (by intro z; cases z)]
  unfold PySem.W.kitCls
  dsimp only
  rw [if_pos m]
  exact s
theorem meta_ValueError : PySem.W.kitMeta "ValueError" = true := by decide +kernel
theorem xty_mk {K : PySem.W.Frag} {D : Addr} {cd : ClassData} (c : PySem.W.clsIn K D = some cd) (ga : PySem.W.findIn K (.ref D) "__getattribute__" = some (some (.builtin "BaseException.__getattribute__"))) (gn : PySem.W.findIn K (.ref D) "__getattr__" = some none) (hb : PySem.W.mroIn K D (.type "BaseException") = some true)
    (ha : PySem.W.findIn K (.ref D) "__class__" = some (some (.builtin "object.__class__"))) (hn : PySem.W.specialIn K (.builtin "object.__class__") "__get__" = some (some (.builtin "getset_descriptor.__get__")))
    (htk : PySem.W.takesIn K (.builtin "object.__class__") = some true) (hm : PySem.W.mroIn K D (.type "object") = some true) : XTy K D := ⟨by rw [c]; rfl, ga, gn, hb, ha, hn, htk, hm⟩
end L2
namespace Eb
open PySem L2
theorem ke_mk {K : PySem.W.Frag} {CT CR CC CN CU Ca : Addr} {r c n u : Bool} (x : XTy K Ca) (oT : OwnC K CT) (bT : PySem.W.subIn K (.ref CT) (.type "BaseException") = some true) (oR : OwnC K CR) (oC : OwnC K CC) (oN : OwnC K CN) (oU : OwnC K CU)
    (sT : PySem.W.subIn K (.ref Ca) (.ref CT) = some true) (sR : PySem.W.subIn K (.ref Ca) (.ref CR) = some r) (sC : PySem.W.subIn K (.ref Ca) (.ref CC) = some c) (sN : PySem.W.subIn K (.ref Ca) (.ref CN) = some n) (sU : PySem.W.subIn K (.ref Ca) (.ref CU) = some u)
    (sV : PySem.W.subIn K (.ref Ca) (.type "ValueError") = some true) (hR : (Value.ref Ca == Value.ref CR) = true → r = true) (hC : (Value.ref Ca == Value.ref CC) = true → c = true) (hN : (Value.ref Ca == Value.ref CN) = true → n = true) (hU : (Value.ref Ca == Value.ref CU) = true → u = true) :
    KE K CT CR CC CN CU Ca r c n u := ⟨x, oT.exm bT sT, oR.kit sR hR, oC.kit sC hC, oN.kit sN hN, oU.kit sU hU, kit_bty meta_ValueError sV⟩
end Eb

set_option maxHeartbeats 4000000
namespace L2
open PySem PySem.Spec PyProof.Rows
section
variable {X : Cx}
/-! ### numbers.index(number) -/
def rIdxL (K : PySem.W.Frag) : V → List V → Hp → VK → Prop := fun x vs H Q => ∃ l k, ∃ ns : List Int, x = .ref l ∧ vs = [.int k] ∧ SqL K H l (ns.map V.int) ∧ k ∈ ns ∧ Q (.int (ns.idxOf k : Nat)) H
theorem mt_indexL : MtM X "list.index" (rIdxL X.K) := by
  intro pins s σ H x vs v us Q I rx rv h
  obtain ⟨l, k, ns, rfl, rfl, hq, hk, q⟩ := h
  cases rx
  obtain ⟨u, rfl, t, rfl⟩ := rv.one
  obtain ⟨its, r, p, hz⟩ := I.list hq
  have hi := intsAre_of r
  obtain ⟨o, n, ho, hc, hs, hd⟩ := p
  cases o with
  | mk cls dd data sl =>
    simp only at hc hd hs
    subst hc hd hs
    have el := hi.length
    have hz' : ns.length ≤ sizeLine := by rw [List.length_map] at hz; exact hz
    have hj : ns.idxOf k < ns.length := List.idxOf_lt_length_iff.mpr hk
    have hb : sizeLine < 2 ^ 60 := by decide +kernel
    have small : ((ns.idxOf k : Nat) : Int) < 2 ^ 63 - 1 := by omega
    have ok : EP X pins σ Q (.int (ns.idxOf k : Nat) s.toks) { s with toks := s.toks + 1 } := ⟨.int _, H, I.tok _, ⟨_, rfl⟩, q⟩
    have inb : ns.idxOf k < its.toArray.size := by simpa [el] using hj
    have hit : isInt k its.toArray[ns.idxOf k] = true := by
      show isInt k its[ns.idxOf k] = true
      rw [isInt_at k hi (ns.idxOf k) (by omega) hj]
      simpa using List.getElem_idxOf hj
    exact call_meets (A := X.A) PySem.F.slot_list_index ⟨_, ho, rfl⟩ PySem.F.entry_list_index (PySem.F.args_list_index_2 _ _)
      (PySem.SeqAt.list_indexAt l its.toArray n _ _ (.int k t) (isInt k) (ns.idxOf k) inb small hit (fun j h1 h2 => by
        show isInt k its[j] = false
        rw [isInt_at k hi j (by simpa using h1) (by omega)]
        exact ne_of_lt_idxOf h2 (by omega)))
      ⟨ho, fun y hy => (eq_isInt k t hi y (by simpa using hy)).at _ _, ok⟩
end
section
variable {σ : St} {H : Hp} {ta tb : TE} {K : PySem.W.Frag}
theorem pv_idxL {l : Addr} {k : Int} {ns : List Int} (ha : Pv ta σ H (.ref l)) (hb : Pv tb σ H (.int k)) (hq : SqL K H l (ns.map V.int)) (hk : k ∈ ns) :
    Pv (tBM K "list" (rIdxL K) ta (tCons tb tNil)) σ H (.int (ns.idxOf k : Nat)) := fun Q q => ha _ ⟨.inl ⟨rfl, _, hq⟩, hb _ ⟨l, k, ns, rfl, rfl, hq, hk, q⟩⟩
theorem pv_max1 {p : Addr} {ns : List Int} {m : Int} (ha : Pv ta σ H (.ref p)) (hS : SqL K H p (ns.map V.int)) (hm : m ∈ ns) (hx : ∀ a, a ∈ ns → a ≤ m) :
    Pv (tCB (fun xs H Q => ∃ p, ∃ ns : List Int, xs = [.ref p] ∧ SqL K H p (ns.map V.int) ∧ 0 < ns.length ∧ ∀ M, M ∈ ns → (∀ a, a ∈ ns → a ≤ M) → Q (.int M) H) (tCons ta tNil)) σ H (.int m) :=
  fun Q q => ha _ ⟨p, ns, rfl, hS, List.length_pos_of_mem hm, fun M hM aM => by
    have h1 := hx M hM
    have h2 := aM m hm
    have e : M = m := by omega
    rw [e]; exact q⟩
theorem pv_min1 {p : Addr} {ns : List Int} {m : Int} (ha : Pv ta σ H (.ref p)) (hS : SqL K H p (ns.map V.int)) (hm : m ∈ ns) (hx : ∀ a, a ∈ ns → m ≤ a) :
    Pv (tCB (fun xs H Q => ∃ p, ∃ ns : List Int, xs = [.ref p] ∧ SqL K H p (ns.map V.int) ∧ 0 < ns.length ∧ ∀ M, M ∈ ns → (∀ a, a ∈ ns → M ≤ a) → Q (.int M) H) (tCons ta tNil)) σ H (.int m) :=
  fun Q q => ha _ ⟨p, ns, rfl, hS, List.length_pos_of_mem hm, fun M hM aM => by
    have h1 := hx M hM
    have h2 := aM m hm
    have e : M = m := by omega
    rw [e]; exact q⟩
theorem ex_max : ∀ {ns : List Int}, ns ≠ [] → ∃ m, m ∈ ns ∧ ∀ a, a ∈ ns → a ≤ m
  | [], h => absurd rfl h
  | [x], _ => ⟨x, by simp, fun a ha => by have : a = x := by simpa using ha
                                          omega⟩
  | x :: y :: r, _ => by
    obtain ⟨m, hm, h⟩ := ex_max (ns := y :: r) (by simp)
    by_cases c : m ≤ x
    · refine ⟨x, by simp, fun a ha => ?_⟩
      rcases List.mem_cons.mp ha with e | e
      · omega
      · have := h a e; omega
    · refine ⟨m, List.mem_cons_of_mem _ hm, fun a ha => ?_⟩
      rcases List.mem_cons.mp ha with e | e
      · omega
      · exact h a e
theorem ex_min {ns : List Int} (hn : ns ≠ []) : ∃ m, m ∈ ns ∧ ∀ a, a ∈ ns → m ≤ a := by
  obtain ⟨m, hm, h⟩ := ex_max (ns := ns.map (- ·)) (by simpa using hn)
  obtain ⟨k, hk, rfl⟩ := List.mem_map.mp hm
  refine ⟨k, hk, fun a ha => ?_⟩
  have := h (-a) (List.mem_map.mpr ⟨a, ha, rfl⟩)
  omega
end
end L2

set_option maxHeartbeats 4000000
namespace L2
open PySem PySem.Spec PyProof.Rows
/-! ### list comprehensions: one for, any target, some ifs -/
def PCs (X : Cx) (ifs : List Expr) (tc : TT) : Prop :=
  ∀ (pins : List (Addr × Obj)) (s : Shared) (σ : St) (H : Hp) (Q : Bool → Hp → Prop), Inv X pins σ H s → tc σ H Q →
    wpAny (model X.prog X.w) X.A (forIn ifs true fun c r => if r = true then do let ok ← isTrue c X.env (eval c X.env); pure (ForInStep.yield ok) else pure (ForInStep.yield r)) (TP X pins σ Q) X.xe s
def tYes : TT := fun _ H Q => Q true H
theorem pc_nil {X : Cx} : PCs X [] tYes := fun _ _ _ H _ I h => wpAny_tests_nil ⟨H, I, h⟩
theorem pc_one {X : Cx} {c : Expr} {t : TT} (h : PT X c t) : PCs X [c] t := fun pins s σ H Q I q => wpAny_tests_one (h pins s σ H Q I q)
structure CompS2 (X : Cx) (scope : Scope) (cl : List (Str × Addr)) (zs ys : List Str) (js : List Nat) : Prop where
  clos : closureFor scope X.env = pure cl
  cell : ∀ z ∈ scope.names, z.2 ≠ .cell
  kind : scope.kind = .function
  names : ∀ z ∈ scope.names, z.2 = .local → scope.names.lookup z.1 = some .local
  sub : EachP (fun q : Str × Addr => X.env.cells.lookup q.1 = some q.2) cl
  has : EachP (fun q : Str × NameKind => q.2 = .local ∨ q.2 = .globalImplicit ∨ ∃ c, cl.lookup q.1 = some c) (relabel scope X.env).names
  cap : EachP (fun q : Str × Nat => X.N[q.2]? = some q.1 ∧ (X.env.kindOf q.1 = some .cell ∨ X.env.kindOf q.1 = some .free) ∧ ((relabel scope X.env).names.lookup q.1 = some .cell ∨ (relabel scope X.env).names.lookup q.1 = some .free)) (ys.zip js)
  len : ys.length = js.length
def tLC2 (J : It) (n : Nat) (g : TG) (tc : TT) (te : TE) (js : List Nat) (Q : VK) (σ : St) (H1 : Hp) : Prop :=
  ∀ D, H1 D = none → ∃ W : Nat → Nat → St → Hp → Prop, (∃ m, W 0 m (List.replicate n none ++ caps js σ) (upd H1 D (.lst []))) ∧ ∀ i m σ' H', W i m σ' H' →
    (J.stop i H' ∧ Q (.ref D) H') ∨ (J.go i H' ∧ ∃ N : St → Hp → Prop, (∀ σ'' H'', N σ'' H'' → ∃ m', m' < m ∧ W (i + 1) m' σ'' H'') ∧
      ∀ x H2, J.yld i H' x H2 → g x σ' H2 fun σ3 H3 => tc σ3 H3 fun b H4 => if b = true then te σ3 H4 fun v H5 => ∃ zs, H5 D = some (.lst zs) ∧ zs.length < sizeLine ∧ N σ3 (upd H5 D (.lst (zs ++ [v]))) else N σ3 H4)
theorem compLoop_any2 {prog : Program} {w : World} {A : Around} {R : Result → Shared → Prop} {s : Shared} {elt target iter : Expr} {ifs : List Expr} {scope : Scope} {pos : Pos} {it acc : Value} {env : Env} (I : Nat → Shared → Prop)
    (turn : ∀ n s, I n s → wpAny (model prog w) A (pyNext it) (fun r s₁ => match r with
      | none => R (.ok .next) s₁
      | some v => wpAny (model prog w) A (letOwnedTupleGo target it v) (fun _ s₁' => wpAny (model prog w) A (assign target env v) (fun _ s₂ =>
          wpAny (model prog w) A (forIn ifs true fun c r => if r = true then do let ok ← isTrue c env (eval c env); pure (ForInStep.yield ok) else pure (ForInStep.yield r)) (fun ok s₃ =>
            if ok = true then wpAny (model prog w) A (eval elt env) (fun x s₄ =>
                wpAny (model prog w) A (call (.builtin "list.append") [acc, x]) (fun _ s₅ => ∃ m, m < n ∧ I m s₅) (notedBy (model prog w) A env fun e s' => R (.error e) s') s₄) (notedBy (model prog w) A env fun e s' => R (.error e) s') s₃
              else ∃ m, m < n ∧ I m s₃) (notedBy (model prog w) A env fun e s' => R (.error e) s') s₂) (notedBy (model prog w) A env fun e s' => R (.error e) s') s₁') (notedBy (model prog w) A env fun e s' => R (.error e) s') s₁) (notedBy (model prog w) A env fun e s' => R (.error e) s') s)
    (n : Nat) (h : I n s) :
    codeAny (model prog w) A (.compLoop (.ListComp elt [⟨target, iter, ifs, 0⟩] scope pos) 0 it acc env) R s := by
  refine codeAny_loop rfl I (fun n s hI => ?_) n h
  show wpAny _ _ ((compTurn (.ListComp elt [⟨target, iter, ifs, 0⟩] scope pos) 0 it acc env).onRaise (fun x => do noteFrame x env; theTreesLotGoes x)) _ _ s
  refine wpAny_noted ?_
  rw [compTurn_list]
  refine wpAny_bind (wpAny_standAt (wpAny_bind (wpAny_mono (turn n s hI) (fun r s₁ h₁ => ?_) fun _ _ z => z)))
  cases r with
  | none => exact wpAny_pure h₁
  | some v =>
    refine wpAny_bind (wpAny_mono h₁ (fun _ s₁' h₁' => ?_) fun _ _ z => z)
    refine wpAny_bind (wpAny_mono h₁' (fun _ s₂ h₂ => wpAny_bind (wpAny_mono h₂ (fun ok s₃ h₃ => ?_) fun _ _ z => z)) fun _ _ z => z)
    cases ok with
    | false => exact wpAny_pure ⟨rfl, h₃⟩
    | true => exact wpAny_bind (wpAny_bind (wpAny_mono h₃ (fun x s₄ h₄ => wpAny_bind (wpAny_mono h₄ (fun _ s₅ h₅ => wpAny_pure (wpAny_pure ⟨rfl, h₅⟩)) fun _ _ z => z)) fun _ _ z => z))
section
variable {X : Cx} {elt iter tg : Expr} {ifs : List Expr} {pos : Pos} {scope : Scope} {cl : List (Str × Addr)} {zs ys : List Str} {js : List Nat} {te : TE} {tc : TT} {g : TG}
theorem CompS2.lookup (S : CompS2 X scope cl zs ys js) {x : Str} {c : Addr} (e : cl.lookup x = some c) : X.env.cells.lookup x = some c := S.sub.mem _ (PySem.mem_of_lookup e)

theorem comp_run2 (S : CompS2 X scope cl zs ys js) (hc : X.calm = true) (hgt : ∀ C s₀ H₀ fp, PG (X.comp scope cl C (zs ++ ys) s₀ H₀ fp) tg g) (hcs : ∀ C s₀ H₀ fp, PCs (X.comp scope cl C (zs ++ ys) s₀ H₀ fp) ifs tc) (helt : ∀ C s₀ H₀ fp, PE (X.comp scope cl C (zs ++ ys) s₀ H₀ fp) elt te)
    {pins : List (Addr × Obj)} {σ : St} {H2 : Hp} {s2 : Shared} {it : Addr} {fp : List Addr} {tn : Nat → Heap → Prop} {J : It} (I2 : Inv X pins σ H2 s2) (T : Turn X.prog X.w X.K tg J fp it tn) (st2 : tn 0 s2.heap) (f2 : ∀ b ∈ fp, FpOk X pins H2 b)
    {Q : VK} (q : tLC2 J zs.length g tc te js Q σ H2) {RR : Value → Addr → Result → Shared → Prop}
    (hRR : ∀ D C s' H' m, Inv X pins σ H' s' → s'.heap.Ns C m → H' C = none → s2.heap.objs.size ≤ C → Q (.ref D) H' → RR (.ref D) C (.ok .next) s') {E : Value → Shared → Prop} :
    wpAny (model X.prog X.w) X.A (newList []) (fun acc s3 => wpAny (model X.prog X.w) X.A (newFunctionEnv scope X.env.globals cl [] X.env.qual none .none (some X.env)) (fun cenv s4 =>
      codeAny (model X.prog X.w) X.A (.compStart (.ListComp elt [⟨tg, iter, ifs, 0⟩] scope pos) 0 (.ref it) acc { cenv with scope := relabel scope X.env }) (RR acc cenv.locals) s4) E s3) E s2 := by
  refine wpAny_newObj_type (wpAny_newFunctionEnv S.cell (by intro z hz; simp at hz) (fun h₁ hns₁ hsb₁ => ?_) S.kind)
  dsimp only at hns₁ hsb₁ ⊢
  generalize hH2 : s2.heap.push { cls := .type "list", dict := none, data := .seq ([] : List Value).toArray } = G at hns₁ hsb₁ ⊢
  have hC : G.objs.size = s2.heap.objs.size + 1 := by rw [← hH2, Heap.size_push]
  have hDC : s2.heap.objs.size ≠ G.objs.size := by rw [hC]; exact Nat.ne_of_lt (Nat.lt_succ_self _)
  have hCle : s2.heap.objs.size ≤ G.objs.size := by rw [hC]; exact Nat.le_succ _
  have below : ∀ b, b < s2.heap.objs.size → b ≠ G.objs.size ∧ b ≠ s2.heap.objs.size := fun b hb => ⟨by rw [hC]; exact Nat.ne_of_lt (Nat.lt_succ_of_lt hb), Nat.ne_of_lt hb⟩
  have old : ∀ b o, s2.heap.get? b = some o → h₁.get? b = some o := fun b o e => hsb₁.extBut b o (below b (Heap.lt_size e)).1 (Heap.get?_push_of_some _ (hH2 ▸ Heap.get?_push_of_some _ e))
  have hacc : h₁.get? s2.heap.objs.size = some { cls := .type "list", dict := none, data := .seq ([] : List Value).toArray } := hsb₁.extBut _ _ hDC (Heap.get?_push_of_some _ (hH2 ▸ Heap.get?_push_size _ rfl))
  have hDn : H2 s2.heap.objs.size = none := I2.hok.fresh (Nat.le_refl _)
  have hCn : H2 G.objs.size = none := I2.hok.fresh hCle
  have fpObj : ∀ b ∈ fp, b < s2.heap.objs.size := fun b hb => by
    obtain ⟨o, e, _⟩ := T.obj _ _ st2 b hb
    exact Heap.lt_size e
  obtain ⟨W, ⟨m0, w0⟩, turn⟩ := q s2.heap.objs.size hDn
  generalize hX : X.comp scope cl G.objs.size (zs ++ ys) s2 H2 fp = X'
  have okX : X'.Ok := by
    subst hX
    refine ⟨I2.ok.mod, S.kind, I2.ok.glob, I2.ok.blt, hCle, fun a b c h1 h2 => I2.ok.inj a b c (S.lookup h1) (S.lookup h2), fun a ha => ?_, fun a c h => (Bool.noConfusion h), fun h => I2.ok.hd h, I2.ok.frames, .inl rfl, fun b hb => ⟨(below b (fpObj b hb)).1, fun a c e => (f2 b hb).2.2.2.2.1 a c (S.lookup e)⟩,
      I2.bs, Nat.le_trans I2.ok.bsz I2.sz, fun b o e hb => ?_, fun b hb hs => ?_, I2.stack, I2.stkFree⟩
    · have hm : ∃ k, (a, k) ∈ (relabel scope X.env).names ∧ (k = .cell ∨ k = .free) := by
        rcases ha with ha | ha
        · exact ⟨_, PySem.mem_of_lookup ha, .inl rfl⟩
        · exact ⟨_, PySem.mem_of_lookup ha, .inr rfl⟩
      obtain ⟨k, hk, hk2⟩ := hm
      rcases S.has.mem _ hk with z | z | z
      · have z' : k = .local := z
        rcases hk2 with r | r <;> rw [r] at z' <;> cases z'
      · have z' : k = .globalImplicit := z
        rcases hk2 with r | r <;> rw [r] at z' <;> cases z'
      · exact z
    · rcases (f2 b hb).2.2.2.1 with z | z
      · exact I2.ok.noex b o e z
      · exact absurd (Nat.lt_of_lt_of_le (Heap.lt_size (I2.ok.bs b o e).1) z) (Nat.lt_irrefl _)
    · rcases List.mem_cons.mp (I2.stkSub b hs) with z | z
      · exact (f2 b hb).2.1 z
      · exact (f2 b hb).2.2.1 z
  have fpX : ∀ {H' : Hp} {b : Addr}, b ∈ fp → H' b = none → FpOk X' [] H' b := fun {H' b} hb hn => by
    subst hX
    exact ⟨hn, (below b (fpObj b hb)).1, fun z => okX.exfs b hb z, .inl hb, fun a c e => (f2 b hb).2.2.2.2.1 a c (S.lookup e), fun p hp => absurd (show p ∈ ([] : List (Addr × Obj)) from hp) (by simp)⟩
  have I3 : Inv X' [] (List.replicate zs.length none ++ caps js σ) (upd H2 s2.heap.objs.size (.lst [])) { s2 with heap := h₁, toks := s2.toks + ([] : List (Str × Value)).length } := by
    obtain ⟨m, hn, hl⟩ := I2.loc
    subst hX
    refine ⟨okX, rfl, I2.bare, Un.laid old (Nat.le_refl _) hDn, ⟨_, hns₁, fun i x v e1 e2 e3 => ?_⟩, fun x c e => ?_, ?_, fun x c e => ?_, fun p hp => absurd (show p ∈ ([] : List (Addr × Obj)) from hp) (by simp), I2.hok.laid old (Nat.le_refl _) ⟨Nat.zero_le _, [], _, .nil, hacc⟩, ?_⟩
    · by_cases hik : i < zs.length
      · rw [List.getElem?_append_left (by rw [List.length_replicate]; exact hik), List.getElem?_replicate, if_pos hik] at e2
        cases e2
      · obtain ⟨k, rfl⟩ : ∃ k, i = zs.length + k := ⟨i - zs.length, by omega⟩
        have e2' : (caps js σ)[k]? = some (some v) := by
          rw [List.getElem?_append_right (by rw [List.length_replicate]; omega), List.length_replicate, Nat.add_sub_cancel_left] at e2; exact e2
        have e1' : ys[k]? = some x := by
          have e1 : (zs ++ ys)[zs.length + k]? = some x := e1
          rw [List.getElem?_append_right (by omega), Nat.add_sub_cancel_left] at e1; exact e1
        unfold caps at e2'
        rw [List.getElem?_map] at e2'
        cases hj : js[k]? with
        | none => rw [hj] at e2'; cases e2'
        | some j =>
          rw [hj] at e2'
          have e2'' : (σ[j]?).join = some v := Option.some.inj e2'
          have hσ : σ[j]? = some (some v) := by
            cases hs : σ[j]? with
            | none => rw [hs] at e2''; cases e2''
            | some z => rw [hs] at e2''; cases z with
              | none => cases e2''
              | some z' => cases e2''; rfl
          have hz : (ys.zip js)[k]? = some (x, j) := by rw [List.getElem?_zip_eq_some]; exact ⟨e1', hj⟩
          obtain ⟨c1, c2, c3⟩ := S.cap.mem _ (List.mem_of_getElem? hz)
          obtain ⟨u, r, l⟩ := hl j x v c1 hσ (by rcases c2 with c2 | c2; exact .inr (.inl c2); exact .inr (.inr c2))
          refine ⟨u, r, .inr ⟨c3, ?_⟩⟩
          rcases l with ⟨k1, _⟩ | ⟨_, c, k2, o, ho, hd⟩
          · have k1' : X.env.kindOf x = some .local := k1
            rcases c2 with c2 | c2 <;> rw [show X.env.kindOf x = _ from c2] at k1' <;> cases k1'
          · have hcl : ∃ c', cl.lookup x = some c' := by
              have hm : ∃ k, (x, k) ∈ (relabel scope X.env).names ∧ (k = .cell ∨ k = .free) := by
                rcases c3 with ha | ha
                · exact ⟨_, PySem.mem_of_lookup ha, .inl rfl⟩
                · exact ⟨_, PySem.mem_of_lookup ha, .inr rfl⟩
              obtain ⟨k, hk, hk2⟩ := hm
              rcases S.has.mem _ hk with z | z | z
              · have z' : k = .local := z
                rcases hk2 with r | r <;> rw [r] at z' <;> cases z'
              · have z' : k = .globalImplicit := z
                rcases hk2 with r | r <;> rw [r] at z' <;> cases z'
              · exact z
            obtain ⟨c', hc'⟩ := hcl
            have ec : c' = c := by
              have := S.lookup hc'
              rw [k2] at this
              exact (Option.some.inj this).symm
            subst ec
            exact ⟨c', hc', o, old _ _ ho, hd⟩
    · obtain ⟨v, o, ho, hd⟩ := I2.cell x c (S.lookup e)
      exact ⟨v, o, old _ _ ho, hd⟩
    · show upd H2 s2.heap.objs.size (.lst []) G.objs.size = none
      rw [upd_ne (Ne.symm hDC)]; exact hCn
    · obtain ⟨v, o, ho, hd⟩ := I2.cell x c (S.lookup e)
      rw [upd_ne (below c (Heap.lt_size ho)).2]; exact I2.freeC x c (S.lookup e)
    · show (List.replicate zs.length none ++ caps js σ).length = (zs ++ ys).length
      simp [caps, S.len]
  -- back to the outer context
  have back : ∀ {pl : List (Addr × Obj)} {σ' : St} {H' : Hp} {s' : Shared}, Inv X' pl σ' H' s' → Inv X pins σ H' s' := fun {pl σ' H' s'} J' => by
    have os := J'.os
    have un := J'.base
    have hok := J'.hok
    have bare := J'.bare
    subst hX
    obtain ⟨hh, g, d, t, os'⟩ := s'
    obtain rfl : os' = s2.os := os
    exact I2.call (h' := hh) (g' := g) (d' := d) (t' := t) (ch := fp) un hok bare (fun b hb => ⟨(f2 b hb).2.2.2.1, (f2 b hb).2.1, (f2 b hb).2.2.2.2.1, (f2 b hb).2.2.2.2.2⟩)
  have xeX : ∀ e s', X'.xe e s' → False := by subst hX; exact fun _ _ h => h
  have heltX : PE X' elt te := by subst hX; exact helt _ _ _ _
  have hgX : PG X' tg g := by subst hX; exact hgt _ _ _ _
  have hcX : PCs X' ifs tc := by subst hX; exact hcs _ _ _ _
  have eA : X'.A = X.A := by subst hX; rfl
  have eP : X'.prog = X.prog := by subst hX; rfl
  have eW : X'.w = X.w := by subst hX; rfl
  have eK : X'.K = X.K := by subst hX; rfl
  have eC : X'.calm = true := by subst hX; exact hc
  have eE : X'.env = compEnvC scope cl G.objs.size X.env := by subst hX; rfl
  have locX : ∀ {pl : List (Addr × Obj)} {σ' : St} {H' : Hp} {s' : Shared}, Inv X' pl σ' H' s' → (∃ m, s'.heap.Ns G.objs.size m) ∧ H' G.objs.size = none := fun {pl σ' H' s'} J' => by
    obtain ⟨m, hn, _⟩ := J'.loc
    have hf := J'.free
    subst hX
    exact ⟨⟨m, hn⟩, hf⟩
  have loop : ∀ s3 : Shared, s3 = { s2 with heap := h₁, toks := s2.toks + ([] : List (Str × Value)).length } →
      codeAny (model X.prog X.w) X.A (.compLoop (.ListComp elt [⟨tg, iter, ifs, 0⟩] scope pos) 0 (.ref it) (.ref s2.heap.objs.size) (compEnvC scope cl G.objs.size X.env)) (RR (.ref s2.heap.objs.size) G.objs.size) s3 := by
    rintro s3 rfl
    refine compLoop_any2 (fun n s' => ∃ i σ' H', Inv X' [] σ' H' s' ∧ tn i s'.heap ∧ (∀ b ∈ fp, H' b = none) ∧ W i n σ' H') ?_ m0 ⟨0, _, _, I3, T.keep _ _ _ st2 fun b _ o e => old b o e, fun b hb => ?_, w0⟩
    · rintro n s4 ⟨i, σ4, H4, I4, st4, fr4, w4⟩
      rcases turn i n σ4 H4 w4 with ⟨stop, qn⟩ | ⟨go, N, hN, step⟩
      · have hT := T.done X' eP eW eK eC i [] s4 σ4 H4 (notedBy (model X.prog X.w) X.A (compEnvC scope cl G.objs.size X.env) fun e s' => RR (.ref s2.heap.objs.size) G.objs.size (.error e) s') I4 (fun b hb => fpX hb (fr4 b hb)) st4 stop
        rw [eA] at hT
        refine thn hT fun r s5 ⟨hr, I5⟩ => ?_
        subst hr
        obtain ⟨⟨m, hn⟩, hf⟩ := locX I5
        exact hRR _ _ s5 H4 m (back I5) hn hf hCle qn
      · have hT := T.item X' eP eW eK eC i [] s4 σ4 H4 (notedBy (model X.prog X.w) X.A (compEnvC scope cl G.objs.size X.env) fun e s' => RR (.ref s2.heap.objs.size) G.objs.size (.error e) s') I4 (fun b hb => fpX hb (fr4 b hb)) st4 go
        rw [eA] at hT
        refine thn hT fun r s5 ⟨u, hr, h5⟩ => ?_
        subst hr
        refine thn h5 fun _ s6 ⟨x, H6, I6, r6, y6, st6, fr6⟩ => ?_
        have I6' := I6.pinned (fun b hb => fpX hb (fr6 b hb)) (T.obj _ _ st6)
        have hg := hgX _ s6 σ4 H6 x u _ I6' r6 (step x H6 y6)
        rw [eP, eW, eA, eE] at hg
        refine wpAny_mono hg (fun _ s7 ⟨σ7, H7, I7, q7⟩ => ?_) fun _ _ f => (xeX _ _ f).elim
        have ht := hcX _ s7 σ7 H7 _ I7 q7
        rw [eP, eW, eA, eE] at ht
        refine wpAny_mono ht (fun ok s7' ⟨H7', I7', q7'⟩ => ?_) fun _ _ f => (xeX _ _ f).elim
        have fin : ∀ {H9 : Hp} {s9 : Shared} {σ9 : St}, Inv X' ([] ++ pinsAt fp s6.heap) σ9 H9 s9 → N σ9 H9 → ∃ m, m < n ∧ ∃ i σ' H', Inv X' [] σ' H' s9 ∧ tn i s9.heap ∧ (∀ b ∈ fp, H' b = none) ∧ W i m σ' H' := by
          intro H9 s9 σ9 I9 q9
          obtain ⟨m', hm, w9⟩ := hN _ _ q9
          refine ⟨m', hm, i + 1, _, _, I9.unpinned, T.keep _ _ _ st6 fun b hb o e => (I9.pin (b, o) (List.mem_append_right _ (List.mem_append_right _ (mem_pinsAt hb e)))).1, fun b hb => ?_, w9⟩
          obtain ⟨o, e, d⟩ := T.obj _ _ st6 b hb
          exact (I9.pin (b, o) (List.mem_append_right _ (List.mem_append_right _ (mem_pinsAt hb e)))).2.1
        cases ok with
        | false => rw [if_neg (by decide)] at q7' ⊢; exact fin I7' q7'
        | true =>
          rw [if_pos rfl] at q7' ⊢
          have he := heltX _ s7' σ7 H7' _ I7' q7'
          rw [eP, eW, eA, eE] at he
          refine wpAny_mono he (fun v s8 ⟨x8, H8, I8, r8, zs8, hD8, hz8, q8⟩ => ?_) fun _ _ f => (xeX _ _ f).elim
          have ha := mt_append (X := X') _ s8 _ H8 (.ref s2.heap.objs.size) [x8] (.ref s2.heap.objs.size) [v] (fun _ H9 => H9 = upd H8 s2.heap.objs.size (.lst (zs8 ++ [x8]))) I8 rfl (.cons r8 .nil) ⟨_, zs8, x8, rfl, rfl, hD8, hz8, rfl⟩
          rw [eP, eW, eA] at ha
          refine wpAny_mono ha (fun _ s9 ⟨x9, H9, I9, r9, e9⟩ => ?_) fun _ _ f => (xeX _ _ f).elim
          subst e9
          exact fin I9 q8
    · rw [upd_ne (below b (fpObj b hb)).2]; exact (f2 b hb).1
  exact codeAny_compStart_list (loop _ rfl) (T.self _ 0 _ _ _ (T.keep _ _ _ st2 fun b _ o e => old b o e) (loop _ rfl))

/-- the comprehension as a value -/
theorem pe_lc2 {wi : TI} (hi : PI X tg iter wi) (S : CompS2 X scope cl zs ys js) (hc : X.calm = true) (hgt : ∀ C s₀ H₀ fp, PG (X.comp scope cl C (zs ++ ys) s₀ H₀ fp) tg g) (hcs : ∀ C s₀ H₀ fp, PCs (X.comp scope cl C (zs ++ ys) s₀ H₀ fp) ifs tc) (helt : ∀ C s₀ H₀ fp, PE (X.comp scope cl C (zs ++ ys) s₀ H₀ fp) elt te)
    (hs : ∀ x, foldedSetIterable iter X.env x = pure x := by intro _; rfl) : PE X (.ListComp elt [⟨tg, iter, ifs, 0⟩] scope pos) (fun σ H Q => wi σ H fun J H1 => tLC2 J zs.length g tc te js Q σ H1) := by
  intro pins s σ H Q I h
  rw [eval_ListComp]
  refine wpAny_comprehension_free (use := none) rfl hs S.clos S.kind S.names (thn (hi pins s σ H _ I h) fun v s1 h1 => thn h1 fun itv s2 h2 => ?_)
  obtain ⟨it, fp, tn, J, H2, rfl, I2, T, st2, f2, q⟩ := h2
  refine comp_run2 S hc hgt hcs helt I2 T st2 f2 q (RR := fun acc C => compPost (model X.prog X.w) X.A X.xe none (EP X pins σ Q) acc C) fun D C s' H' m I' hn hC hle q' => ?_
  obtain ⟨g0, g1, g2, g3, g4, g5⟩ := I2.fpOk hle hC
  exact ⟨m, hn, fun h' sb => ⟨.ref D, H', I'.turned (t' := s'.toks) (fun b o hb e => sb.extBut b o hb e) g0 g1 g3 g4 g5, rfl, q'⟩⟩

/-- x = [.. for ..]: the store stands ahead of the end of the block -/
theorem ps_lc2 {wi : TI} {i : Nat} {x : Str} {px spos : Pos} (hi : PI X tg iter wi) (S : CompS2 X scope cl zs ys js) (hc : X.calm = true) (hgt : ∀ C s₀ H₀ fp, PG (X.comp scope cl C (zs ++ ys) s₀ H₀ fp) tg g) (hcs : ∀ C s₀ H₀ fp, PCs (X.comp scope cl C (zs ++ ys) s₀ H₀ fp) ifs tc) (helt : ∀ C s₀ H₀ fp, PE (X.comp scope cl C (zs ++ ys) s₀ H₀ fp) elt te)
    (hg : PG X (.Name x px) (gName i)) (hsw : swapsWith (.ListComp elt [⟨tg, iter, ifs, 0⟩] scope pos) (some (.Name x px)) spos.line X.env = pure true := by rfl)
    (hs : ∀ x, foldedSetIterable iter X.env x = pure x := by intro _; rfl) :
    PS X (.Assign [.Name x px] (.ListComp elt [⟨tg, iter, ifs, 0⟩] scope pos) spos) (fun D σ H => wi σ H fun J H1 => tLC2 J zs.length g tc te js (fun v H2 => D.nx (σ.set i (some v)) H2) σ H1) := by
  intro pins s σ H D I h
  rw [exec_Assign_Name_used _ _ _ _ hsw]
  refine wpAny_bind (wpAny_standAt (wpAny_bind ?_))
  show wpAny _ X.A (do let _ ← comprehension (.ListComp elt [⟨tg, iter, ifs, 0⟩] scope pos) scope X.env _ (newList []) false (eval iter X.env) (some (assign (.Name x px) X.env))) _ _ s
  refine wpAny_bind (wpAny_mono (wpAny_comprehension_free (use := some (assign (.Name x px) X.env)) (Q := fun _ s' => SP X pins D .next s') rfl hs S.clos S.kind S.names
    (thn (hi pins s σ H _ I h) fun v s1 h1 => thn h1 fun itv s2 h2 => ?_)) (fun _ s' hq => wpAny_pure (wpAny_pure hq)) fun _ _ e => e)
  obtain ⟨it, fp, tn, J, H2, rfl, I2, T, st2, f2, q⟩ := h2
  refine comp_run2 S hc hgt hcs helt I2 T st2 f2 q (RR := fun acc C => compPost (model X.prog X.w) X.A X.xe (some (assign (.Name x px) X.env)) (fun _ s' => SP X pins D .next s') acc C) fun L C s' H' m I' hn hC hle q' => ?_
  obtain ⟨g0, g1, g2, g3, g4, g5⟩ := I2.fpOk hle hC
  obtain ⟨oC, es, ep, hoC, hdC, hrC⟩ := id hn
  have IP : Inv X (pins ++ [(C, oC)]) σ H' s' := I'.pins_of fun p hp => (List.mem_append.mp hp).elim (fun z => I'.pin p (List.mem_append_right _ z)) fun z => by
    have e : p = (C, oC) := by simpa using z
    subst e
    exact ⟨hoC, hC, g1, g2, fun v z => by rw [hdC] at z; cases z⟩
  show wpAny _ X.A (assign (.Name x px) X.env (.ref L)) _ _ _
  refine thn (hg _ s' σ H' (.ref L) (.ref L) (fun σ3 H3 => σ3 = σ.set i (some (.ref L)) ∧ H3 = H') IP rfl ⟨rfl, rfl⟩) fun _ s3 ⟨σ3, H3, I3, e3, e4⟩ => ?_
  subst e3 e4
  have pC := I3.pin (C, oC) (List.mem_append_right _ (List.mem_append_right _ (List.mem_singleton.mpr rfl)))
  refine ⟨m, ⟨oC, es, ep, pC.1, hdC, hrC⟩, fun h' sb => ⟨_, _, I3.unpinned.turned (t' := s3.toks) (fun b o hb e => sb.extBut b o hb e) g0 g1 g3 g4 g5, q'⟩⟩
end

end L2

set_option maxHeartbeats 4000000
namespace L2
open PySem PySem.Spec PyProof.Rows
section
variable {X : Cx} {pins : List (Addr × Obj)} {σ : St} {H : Hp} {s : Shared} {h' : Heap}
/-- some of an iterator's own objects have turned, and a new object is laid -/
theorem Inv.movedLay {t' : Nat} {ch : List Addr} {T : Addr} {o : HO} (I : Inv X pins σ H s) (k : ∀ b u, b ∉ ch → s.heap.get? b = some u → h'.get? b = some u) (hf : ∀ b ∈ ch, FpOk X pins H b)
    (hT : s.heap.objs.size ≤ T) (new : ObjOk X.prog X.w (upd H T o) h' T o) : Inv X pins σ (upd H T o) { s with heap := h', toks := t' } := by
  have hn : H T = none := I.hok.fresh hT
  have neT : ∀ b u, H b = some u → b ≠ T := fun b u e z => by rw [z, hn] at e; cases e
  have nch : ∀ b u, H b = some u → b ∉ ch := fun b u e z => by rw [(hf b z).1] at e; cases e
  refine I.step (g' := s.gens) (d' := s.drawn) (ch := ch) (fun b hb => ?_) (fun b u _ _ hc e _ => k b u hc e) (fun b u _ _ hc e _ => ⟨u.slots, k b u hc e⟩) (fun b u _ e n => ?_)
    (fun b u hc e => ⟨u, k b u hc e⟩) (fun b xs e => ?_) (fun b u v e => ?_) (fun b ps e => ⟨#[], ?_⟩) (fun m hm => ?_) (fun b u e => ?_) I.bare
  · obtain ⟨f0, f1, f2, f3, f4, f5⟩ := hf b hb
    exact ⟨f3, f1, f4, f5⟩
  · rw [upd_ne (fun z => by rw [z] at e; exact absurd (Heap.lt_size e) (Nat.not_lt.mpr hT))]; exact n
  · rw [upd_ne (neT b _ e)]; exact e
  · rw [upd_ne (neT b _ e)]; exact e
  · rw [upd_ne (neT b _ e), e]; simp
  · obtain ⟨q, es, ep, ho, r⟩ := hm
    exact ⟨q, es, ep, k _ q (fun z => (hf _ z).2.1 rfl) ho, r⟩
  · by_cases c : b = T
    · subst c
      rw [upd_same] at e
      cases e
      exact new
    · rw [upd_ne c] at e
      refine (I.hok b u e).stay (fun c v hc q => k c v ?_ q) (fun c q => by rw [upd_ne (neT c _ q)]; exact q) fun c xs q => by rw [upd_ne (neT c _ q)]; exact q
      rcases hc with z | z
      · rw [z]; exact nch b u e
      · exact nch c _ z
theorem Inv.moved {t' : Nat} {ch : List Addr} (I : Inv X pins σ H s) (k : ∀ b u, b ∉ ch → s.heap.get? b = some u → h'.get? b = some u) (hf : ∀ b ∈ ch, FpOk X pins H b) : Inv X pins σ H { s with heap := h', toks := t' } := by
  have nch : ∀ b u, H b = some u → b ∉ ch := fun b u e z => by rw [(hf b z).1] at e; cases e
  refine I.step (g' := s.gens) (d' := s.drawn) (ch := ch) (fun b hb => ?_) (fun b u _ _ hc e _ => k b u hc e) (fun b u _ _ hc e _ => ⟨u.slots, k b u hc e⟩) (fun b u _ e n => n)
    (fun b u hc e => ⟨u, k b u hc e⟩) (fun b xs e => e) (fun b u v e => e) (fun b ps e => ⟨#[], by rw [e]; simp⟩) (fun m hm => ?_) (fun b u e => ?_) I.bare
  · obtain ⟨f0, f1, f2, f3, f4, f5⟩ := hf b hb
    exact ⟨f3, f1, f4, f5⟩
  · obtain ⟨q, es, ep, ho, r⟩ := hm
    exact ⟨q, es, ep, k _ q (fun z => (hf _ z).2.1 rfl) ho, r⟩
  · refine (I.hok b u e).stay (fun c v hc q => k c v ?_ q) (fun c q => q) fun c xs q => q
    rcases hc with z | z
    · rw [z]; exact nch b u e
    · exact nch c _ z
end
/-- pairs of two lists -/
def Itz (K : PySem.W.Frag) (l1 l2 : Addr) : It :=
  ⟨fun i H => ∃ xs ys x y, SqL K H l1 xs ∧ SqL K H l2 ys ∧ xs[i]? = some x ∧ ys[i]? = some y,
   fun i H v H' => ∃ T x y, v = .ref T ∧ H T = none ∧ H' = upd H T (.tup [x, y]) ∧ (∀ xs, SqL K H l1 xs → xs[i]? = some x) ∧ ∀ ys, SqL K H l2 ys → ys[i]? = some y,
   fun i H => ∃ xs ys, SqL K H l1 xs ∧ SqL K H l2 ys ∧ i = min xs.length ys.length⟩
theorem turn_zip {P : Program} {w : World} {K : PySem.W.Frag} {elts : List Expr} {k : Nat} {tp : Pos} (z TI TO i1 i2 l1 l2 : Addr) (D : ZipApart z TI TO i1 i2 l1 l2) :
    Turn P w K (.Tuple elts k tp) (Itz K l1 l2) [z, TI, TO, i1, i2] z (fun i h => IsZip h z TI TO .none ∧ IsPair h TI (.ref i1) (.ref i2) ∧ (∃ a b, IsPair h TO a b) ∧ h.IsListIter i1 l1 i ∧ h.IsListIter i2 l2 i) where
  mem := by simp
  obj := fun i h st b hb => by
    obtain ⟨g1, g2, ⟨a, c, g3⟩, ⟨o4, g4, c4, d4⟩, ⟨o5, g5, c5, d5⟩⟩ := st
    rcases List.mem_cons.mp hb with rfl | hb
    · exact ⟨_, g1, fun v z => by cases z⟩
    rcases List.mem_cons.mp hb with rfl | hb
    · exact ⟨_, g2, fun v z => by cases z⟩
    rcases List.mem_cons.mp hb with rfl | hb
    · exact ⟨_, g3, fun v z => by cases z⟩
    rcases List.mem_cons.mp hb with rfl | hb
    · exact ⟨_, g4, fun v z => by rw [d4] at z; cases z⟩
    · have e : b = i2 := by simpa using hb
      subst e
      exact ⟨_, g5, fun v z => by rw [d5] at z; cases z⟩
  keep := fun i h h' st kk => by
    obtain ⟨g1, g2, ⟨a, c, g3⟩, g4, g5⟩ := st
    exact ⟨kk z (by simp) _ g1, kk TI (by simp) _ g2, ⟨a, c, kk TO (by simp) _ g3⟩, g4.at fun o e => kk i1 (by simp) o e, g5.at fun o e => kk i2 (by simp) o e⟩
  item := by
    intro X hP hw hK hc i pins s σ H E I hf st hg
    subst hP hw hK
    obtain ⟨xs, ys, x, y, q1, q2, hx, hy⟩ := hg
    obtain ⟨us, r1, p1, z1⟩ := I.list q1
    obtain ⟨vs, r2, p2, z2⟩ := I.list q2
    obtain ⟨u, hu, ru⟩ := r1.get hx
    obtain ⟨v, hv, rv⟩ := r2.get hy
    obtain ⟨g1, g2, g3, g4, g5⟩ := st
    have W := WalksT.zip2 (prog := X.prog) (w := X.w) (A := X.A) (I.ok.hd hc) z TI TO i1 i2 l1 l2 D us.toArray vs.toArray
    have iu : i < us.length := (List.getElem?_eq_some_iff.mp hu).1
    have iv : i < vs.length := (List.getElem?_eq_some_iff.mp hv).1
    refine W.item i s _ E (by simp; omega) ⟨g1, g2, g3, g4, g5, p1.isList, p2.isList⟩ fun T vals h' tk hPt hT hTup hMid hk => ⟨.ref T, rfl, ?_⟩
    obtain ⟨u', v', hu', hv', rfl⟩ := hPt
    have eu : u' = u := by
      have h := hu'
      rw [List.getElem?_toArray, hu] at h; exact (Option.some.inj h).symm
    have ev : v' = v := by
      have h := hv'
      rw [List.getElem?_toArray, hv] at h; exact (Option.some.inj h).symm
    subst eu ev
    have fps : ∀ b ∈ [z, TO, i1, i2], FpOk X pins H b := fun b hb => hf b (by simp at hb ⊢; rcases hb with rfl | rfl | rfl | rfl <;> simp)
    have hTn : H T = none := I.hok.fresh hT
    have ltT : ∀ b ∈ [z, TI, TO, i1, i2], b ≠ T := fun b hb e => by
      have lt : ∀ {c o}, s.heap.get? c = some o → c ≠ T := fun q z => by rw [z] at q; exact absurd (Heap.lt_size q) (Nat.not_lt.mpr hT)
      obtain ⟨a, c, g3'⟩ := g3
      obtain ⟨o4, g4', _⟩ := g4
      obtain ⟨o5, g5', _⟩ := g5
      simp at hb
      rcases hb with rfl | rfl | rfl | rfl | rfl
      · exact lt g1 e
      · exact lt g2 e
      · exact lt g3' e
      · exact lt g4' e
      · exact lt g5' e
    have I1 : Inv X pins σ (upd H T (.tup [x, y])) { s with heap := h', toks := tk } := I.movedLay (ch := [z, TO, i1, i2]) (fun b o hb e => hk b o hb e) fps hT ⟨by show 2 ≤ sizeLine; decide, [u', v'], .cons ru (.cons rv .nil), hTup⟩
    have fps1 : ∀ b ∈ [z, TI, TO, i1, i2], FpOk X pins (upd H T (.tup [x, y])) b := fun b hb => by
      obtain ⟨f0, f⟩ := hf b hb
      exact ⟨by rw [upd_ne (ltT b hb)]; exact f0, f⟩
    refine W.go elts k tp i T _ _ E hMid fun h'' st' hk' => ⟨.ref T, _, I1.moved (t' := tk) (ch := [z, TO, i1, i2]) (fun b o hb e => hk' b o hb e) (fun b hb => fps1 b (by simp at hb ⊢; rcases hb with rfl | rfl | rfl | rfl <;> simp)), rfl, ⟨T, x, y, rfl, hTn, rfl, fun zs hz => ?_, fun zs hz => ?_⟩, ?_, fun b hb => (fps1 b hb).1⟩
    · rw [I.list_inj hz q1]; exact hx
    · rw [I.list_inj hz q2]; exact hy
    · obtain ⟨s1, s2, s3, s4, s5, _, _⟩ := st'
      exact ⟨s1, s2, s3, s4, s5⟩
  done := by
    intro X hP hw hK hc i pins s σ H E I hf st hg
    subst hP hw hK
    obtain ⟨xs, ys, q1, q2, rfl⟩ := hg
    obtain ⟨us, r1, p1, z1⟩ := I.list q1
    obtain ⟨vs, r2, p2, z2⟩ := I.list q2
    obtain ⟨g1, g2, g3, g4, g5⟩ := st
    have W := WalksT.zip2 (prog := X.prog) (w := X.w) (A := X.A) (I.ok.hd hc) z TI TO i1 i2 l1 l2 D us.toArray vs.toArray
    have e : min us.toArray.size vs.toArray.size = min xs.length ys.length := by simp [r1.length, r2.length]
    refine W.done s _ E ?_ fun h' tk hk => ⟨rfl, I.moved (ch := [z, TO, i1, i2]) (fun b o hb e => hk b o hb e) fun b hb => hf b (by simp at hb ⊢; rcases hb with rfl | rfl | rfl | rfl <;> simp)⟩
    rw [e]
    exact ⟨g1, g2, g3, g4, g5, p1.isList, p2.isList⟩
  self := fun _ _ _ _ _ st h => wpAny_pyIter_zip st.1 h
theorem apart_of {a b : Nat} (h : a < b ∨ b < a) : a ≠ b := by omega
theorem zip_apart (n a b : Nat) (h1 : a < n) (h2 : b < n) : ZipApart (n + 4) (n + 2) (n + 3) n (n + 1) a b := by
  constructor <;> exact apart_of (by omega)
theorem bo_zip : bootBuiltins "zip" = some (.type "zip") := by decide +kernel
section
variable {X : Cx}
def iZip (K : PySem.W.Frag) (ta : TA) : TI := fun σ H R => ta σ H fun vs H1 => ∃ l1 l2 xs ys, vs = [.ref l1, .ref l2] ∧ SqL K H1 l1 xs ∧ SqL K H1 l2 ys ∧ R (Itz K l1 l2) H1
theorem pi_zip {elts : List Expr} {k : Nat} {a b : Expr} {ta : TA} {p pos tp : Pos} (hg : Gl X "zip") (hm : X.mg "zip" = none) (ha : PA X [a, b] ta) (hs : starEach [a, b] X.env = [(false, eval a X.env), (false, eval b X.env)] := by rfl) (hs2 : starEach [b] X.env = [(false, eval b X.env)] := by rfl) :
    PI X (.Tuple elts k tp) (.Call (.Name "zip" p) [a, b] [] pos) (iZip X.K ta) := by
  intro pins s σ H R I h
  refine Call_ (ld_blt I hg hm bo_zip (PyProof.Rows.callWith_type1 (thn (ha pos pins s σ H _ I h) fun us s1 ⟨vs, H1, I1, r1, q1⟩ => ?_) (by rw [hs, hs2]) (by rw [hs2]; rfl)))
  obtain ⟨l1, l2, xs, ys, rfl, q1, q2, q⟩ := q1
  obtain ⟨u, u', rfl, e1, e2⟩ := vals2 r1
  cases e1
  cases e2
  obtain ⟨vs1, rr1, p1, z1⟩ := I1.list q1
  obtain ⟨vs2, rr2, p2, z2⟩ := I1.list q2
  have lt1 : l1 < s1.heap.objs.size := by obtain ⟨o, e, _⟩ := p1.isList; exact Heap.lt_size e
  have lt2 : l2 < s1.heap.objs.size := by obtain ⟨o, e, _⟩ := p2.isList; exact Heap.lt_size e
  have D : ZipApart (s1.heap.objs.size + 4) (s1.heap.objs.size + 2) (s1.heap.objs.size + 3) s1.heap.objs.size (s1.heap.objs.size + 1) l1 l2 := zip_apart _ _ _ lt1 lt2
  refine call_zip_2 p1.isList p2.isList fun h' hz hTI hTO h1 h2 hsz hk => wpAny_pyIter_zip hz ?_
  refine ⟨_, [s1.heap.objs.size + 4, s1.heap.objs.size + 2, s1.heap.objs.size + 3, s1.heap.objs.size, s1.heap.objs.size + 1], _, _, H1, rfl, I1.kept (t' := s1.toks) hk, turn_zip _ _ _ _ _ l1 l2 D, ⟨hz, hTI, ⟨_, _, hTO⟩, h1, h2⟩, fun b hb => ?_, q⟩
  have hb' : s1.heap.objs.size ≤ b := by
    simp at hb
    rcases hb with rfl | rfl | rfl | rfl | rfl
    · exact Nat.le_add_right _ _
    · exact Nat.le_add_right _ _
    · exact Nat.le_add_right _ _
    · exact Nat.le_refl _
    · exact Nat.le_add_right _ _
  exact I1.fpOk hb' (I1.hok.fresh hb')
end
/-! ### readings -/
theorem lc2_rangeIf {te : TE} {tc : TT} {js : List Nat} {Q : VK} {σ : St} {H : Hp} {lo : Int} {n : Nat} (f : Nat → V) (b : Nat → Bool) (hn : n ≤ sizeLine)
    (hc : ∀ i D zs (R : Bool → Hp → Prop), i < n → H D = none → R (b i) (upd H D (.lst zs)) → tc (some (.int (lo + i)) :: caps js σ) (upd H D (.lst zs)) R)
    (he : ∀ i D zs (R : VK), i < n → b i = true → H D = none → R (f i) (upd H D (.lst zs)) → te (some (.int (lo + i)) :: caps js σ) (upd H D (.lst zs)) R)
    (hq : ∀ D, H D = none → Q (.ref D) (upd H D (.lst (((List.range n).filter b).map f)))) : tLC2 (Itr lo n) 1 (gName 0) tc te js Q σ H := by
  intro D hD
  refine ⟨fun i m σ' H' => m = n - i ∧ i ≤ n ∧ (∃ z, σ' = z :: caps js σ) ∧ H' = upd H D (.lst (((List.range i).filter b).map f)), ⟨n, by simp, Nat.zero_le _, ⟨_, rfl⟩, rfl⟩, ?_⟩
  rintro i m σ' H' ⟨rfl, hi, ⟨z, rfl⟩, rfl⟩
  by_cases hlt : i < n
  · refine .inr ⟨hlt, fun σ'' H'' => (∃ z, σ'' = z :: caps js σ) ∧ H'' = upd H D (.lst (((List.range (i + 1)).filter b).map f)), fun σ'' H'' p => ⟨n - (i + 1), by omega, rfl, hlt, p⟩, fun x H2 y => ?_⟩
    obtain ⟨e, y⟩ := y
    subst e y
    refine hc i D _ _ hlt hD ?_
    by_cases cb : b i = true
    · rw [if_pos cb]
      refine he i D _ _ hlt cb hD ⟨_, upd_same, ?_, ⟨_, rfl⟩, ?_⟩
      · have := List.length_filter_le b (List.range i)
        rw [List.length_range] at this
        rw [List.length_map]; omega
      · rw [upd_upd, List.range_succ, List.filter_append, List.map_append]
        simp [cb]
    · rw [if_neg cb]
      refine ⟨⟨_, rfl⟩, ?_⟩
      rw [List.range_succ, List.filter_append]
      simp [cb]
  · have e : i = n := by omega
    subst e
    exact .inl ⟨Nat.le_refl _, hq D hD⟩
theorem Same.upd_none {H H' : Hp} {D : Addr} {o : HO} (g : Same H H') (hD : H D = none) : Same H (upd H' D o) := fun b u e => by
  rw [upd_ne (fun z => by rw [z, hD] at e; cases e)]; exact g b u e
theorem lc2_zip {K : PySem.W.Frag} {te : TE} {js : List Nat} {Q : VK} {σ : St} {H : Hp} {l1 l2 : Addr} {xs ys : List V} (f : V → V → V) (hlen : xs.length = ys.length) (hn : xs.length ≤ sizeLine) (hS1 : SqL K H l1 xs) (hS2 : SqL K H l2 ys)
    (he : ∀ (i : Nat) x y H2 (R : VK), xs[i]? = some x → ys[i]? = some y → Same H H2 → R (f x y) H2 → te (some x :: some y :: caps js σ) H2 R)
    (hq : ∀ D H', H D = none → Same H H' → H' D = some (.lst (List.zipWith f xs ys)) → Q (.ref D) H') : tLC2 (Itz K l1 l2) 2 (gTup K 2 (gCons (gName 0) (gCons (gName 1) gNil))) tYes te js Q σ H := by
  intro D hD
  refine ⟨fun i m σ' H' => m = xs.length - i ∧ i ≤ xs.length ∧ (∃ z1 z2, σ' = z1 :: z2 :: caps js σ) ∧ Same H H' ∧ H' D = some (.lst (List.zipWith f (xs.take i) (ys.take i))), ⟨xs.length, by simp, Nat.zero_le _, ⟨_, _, rfl⟩, (Same.refl _).upd_none hD, by rw [upd_same]; simp⟩, ?_⟩
  rintro i m σ' H' ⟨rfl, hi, ⟨z1, z2, rfl⟩, g, hD'⟩
  by_cases hlt : i < xs.length
  · have hx : xs[i]? = some xs[i] := List.getElem?_eq_getElem hlt
    have hy : ys[i]? = some (ys[i]'(by omega)) := List.getElem?_eq_getElem (by omega)
    refine .inr ⟨⟨xs, ys, _, _, g.seq hS1, g.seq hS2, hx, hy⟩, fun σ'' H'' => (∃ z1 z2, σ'' = z1 :: z2 :: caps js σ) ∧ Same H H'' ∧ H'' D = some (.lst (List.zipWith f (xs.take (i + 1)) (ys.take (i + 1)))), fun σ'' H'' p => ⟨xs.length - (i + 1), by omega, rfl, hlt, p⟩, fun v H2 y => ?_⟩
    obtain ⟨T, x', y', rfl, hT, rfl, e1, e2⟩ := y
    have e1 := e1 _ (g.seq hS1)
    have e2 := e2 _ (g.seq hS2)
    have gT := same_new hT (HO.tup [x', y'])
    refine ⟨T, [x', y'], rfl, SqT.of upd_same, rfl, x', [y'], rfl, y', [], rfl, rfl, ?_⟩
    unfold tYes
    dsimp only
    rw [if_pos rfl]
    refine he i x' y' _ _ e1 e2 (g.trans gT) ⟨_, gT _ _ hD', ?_, ⟨_, _, rfl⟩, (g.trans gT).upd_none hD, ?_⟩
    · rw [List.length_zipWith, List.length_take, List.length_take]; omega
    · rw [upd_same, List.take_add_one, e1, List.take_add_one, e2, List.zipWith_append (by rw [List.length_take, List.length_take]; omega)]; rfl
  · have e : i = xs.length := by omega
    subst e
    refine .inl ⟨⟨xs, ys, g.seq hS1, g.seq hS2, by omega⟩, ?_⟩
    refine hq D H' hD g ?_
    rw [hD', List.take_length, List.take_of_length_le (by omega)]
end L2

set_option maxHeartbeats 4000000
namespace Eb
open PySem L2
/-! ### the places of the beats, and the gaps between them -/
def pl : Nat → List Bool → List Nat
  | _, [] => []
  | o, true :: t => o :: pl (o + 1) t
  | o, false :: t => pl (o + 1) t
theorem pl_length : ∀ (t : List Bool) (o : Nat), ((pl o t).length : Int) = cnt t
  | [], _ => rfl
  | true :: t, o => by
    have := pl_length t (o + 1)
    rw [pl, cnt_cons, List.length_cons]; simp; omega
  | false :: t, o => by
    have := pl_length t (o + 1)
    rw [pl, cnt_cons]; simp; omega
theorem pl_filter : ∀ (t : List Bool) (o : Nat), (List.range' o t.length).filter (fun i => t.getD (i - o) false) = pl o t
  | [], _ => rfl
  | b :: t, o => by
    have ih := pl_filter t (o + 1)
    rw [List.length_cons, List.range'_succ, List.filter_cons]
    have e : (List.range' (o + 1) t.length).filter (fun i => (b :: t).getD (i - o) false) = (List.range' (o + 1) t.length).filter (fun i => t.getD (i - (o + 1)) false) := by
      refine List.filter_congr fun i hi => ?_
      have h := (List.mem_range'_1.mp hi).1
      obtain ⟨k, rfl⟩ : ∃ k, i = o + 1 + k := ⟨i - (o + 1), by omega⟩
      rw [show o + 1 + k - o = k + 1 by omega, show o + 1 + k - (o + 1) = k by omega]
      rfl
    rw [e, ih]
    cases b
    · simp [pl]
    · simp [pl]
theorem pl_range (l : List Bool) : (List.range l.length).filter (fun i => l.getD i false) = pl 0 l := by
  have := pl_filter l 0
  rw [← List.range_eq_range'] at this
  exact this
def difs (qs : List Nat) (e p : Nat) : List Nat := List.zipWith (fun later place => later - place) (qs ++ [e]) (p :: qs)
theorem gp_difs (f : Nat) : ∀ (t : List Bool) (c o : Nat), c ≤ o → gp c (t ++ List.replicate f false) = difs (pl o t) (o + t.length + f) (o - c)
  | [], c, o, h => by
    have : ∀ k c, gp c (List.replicate k false) = [c + k] := fun k => by
      induction k with
      | zero => intro c; rfl
      | succ k ih => intro c; rw [List.replicate_succ, gp, ih]; congr 1; omega
    rw [List.nil_append, this, pl, difs]
    simp; omega
  | true :: t, c, o, h => by
    have ih := gp_difs f t 1 (o + 1) (by omega)
    rw [List.cons_append, gp, ih, pl, difs, difs, List.length_cons, show o + 1 + t.length + f = o + (t.length + 1) + f by omega, List.cons_append, List.zipWith_cons_cons, Nat.add_sub_cancel]
    congr 1
    omega
  | false :: t, c, o, h => by
    have ih := gp_difs f t (c + 1) (o + 1) (by omega)
    rw [List.cons_append, gp, ih, pl, List.length_cons, show o + 1 + t.length + f = o + (t.length + 1) + f by omega, show o + 1 - (c + 1) = o - c by omega]
theorem first_split : ∀ {l : List Bool}, 1 ≤ cnt l → ∃ suf, l = List.replicate (firstB l) false ++ true :: suf
  | [], h => by simp [cnt] at h
  | true :: t, _ => ⟨t, by simp [firstB, List.findIdx_cons]⟩
  | false :: t, h => by
    rw [cnt_cons] at h
    obtain ⟨suf, e⟩ := first_split (l := t) (by simpa using h)
    refine ⟨suf, ?_⟩
    have : firstB (false :: t) = firstB t + 1 := by simp [firstB, List.findIdx_cons]
    rw [this, List.replicate_succ, List.cons_append, ← e]
theorem pl_rests : ∀ (k o : Nat) (t : List Bool), pl o (List.replicate k false ++ t) = pl (o + k) t
  | 0, o, t => by simp
  | k + 1, o, t => by rw [List.replicate_succ, List.cons_append, pl, pl_rests k (o + 1) t]; congr 1; omega
/-- the gaps by the places of the beats -/
theorem gaps_places {l : List Bool} (h : 1 ≤ cnt l) : ∃ f r, pl 0 l = f :: r ∧ gapsL l = difs r (f + l.length) f := by
  obtain ⟨suf, e⟩ := first_split h
  generalize hf : firstB l = f at e
  refine ⟨f, pl (f + 1) suf, ?_, ?_⟩
  · rw [e, pl_rests, Nat.zero_add, pl]
  · have el : l.length = f + 1 + suf.length := by rw [e]; simp; omega
    have et : tailB l = suf ++ List.replicate f false := by
      unfold tailB rot
      rw [hf, e, List.drop_left' (by simp), List.take_left' (by simp)]; rfl
    rw [gapsL, et, gp_difs f suf 1 (f + 1) (by omega), el, Nat.add_sub_cancel]
    congr 1; omega
theorem pl_bound : ∀ (t : List Bool) (o : Nat), ∀ x ∈ pl o t, o ≤ x ∧ x < o + t.length
  | [], _, x, h => by simp [pl] at h
  | true :: t, o, x, h => by
    rw [pl, List.mem_cons] at h
    rcases h with rfl | h
    · simp
    · have := pl_bound t (o + 1) x h
      rw [List.length_cons]; omega
  | false :: t, o, x, h => by
    have := pl_bound t (o + 1) x h
    rw [List.length_cons]; omega
theorem pl_zero {l : List Bool} (h : cnt l = 0) : pl 0 l = [] := by
  have := pl_length l 0
  rw [h] at this
  exact List.eq_nil_of_length_eq_zero (by omega)
/-- each place is below the one behind it -/
theorem pl_le : ∀ (t : List Bool) (o p : Nat), p ≤ o → ∀ (e : Nat), o + t.length ≤ e → ∀ (i x y : Nat), (p :: pl o t)[i]? = some x → (pl o t ++ [e])[i]? = some y → x ≤ y
  | [], o, p, hp, e, he, i, x, y, hx, hy => by
    cases i with
    | zero => simp [pl] at hx hy he; omega
    | succ i => simp [pl] at hx
  | true :: t, o, p, hp, e, he, i, x, y, hx, hy => by
    rw [pl] at hx hy
    cases i with
    | zero => simp at hx hy; omega
    | succ i =>
      rw [List.length_cons] at he
      exact pl_le t (o + 1) o (by omega) e (by omega) i x y (by simpa using hx) (by simpa using hy)
  | false :: t, o, p, hp, e, he, i, x, y, hx, hy => by
    rw [pl] at hx hy
    rw [List.length_cons] at he
    exact pl_le t (o + 1) p (by omega) e (by omega) i x y hx hy
theorem pl_cons {l : List Bool} {f : Nat} {r : List Nat} (h : pl 0 l = f :: r) (i x y : Nat) (hx : (f :: r)[i]? = some x) (hy : (r ++ [f + l.length])[i]? = some y) : x ≤ y := by
  have hb := pl_bound l 0
  have hc : 1 ≤ cnt l := by have := pl_length l 0; rw [h, List.length_cons] at this; omega
  obtain ⟨suf, e⟩ := first_split hc
  generalize firstB l = k at e
  have e2 : pl 0 l = k :: pl (k + 1) suf := by rw [e, pl_rests, Nat.zero_add, pl]
  rw [h] at e2
  obtain ⟨rfl, rfl⟩ := List.cons.inj e2
  have el : l.length = f + 1 + suf.length := by rw [e]; simp; omega
  exact pl_le suf (f + 1) f (by omega) (f + l.length) (by omega) i x y hx hy
end Eb

set_option maxHeartbeats 4000000
namespace Eb
open PySem L2
/-! ### unfolded, a text for each place -/
def piece (gap : Nat) (b : Bool) : List Bool := true :: (List.replicate (gap - 1) false ++ if b then [false] else [])
theorem unf_pieces {gap : Nat} (hg : 1 ≤ gap) : ∀ l : List Bool, unf l gap = (l.map (piece gap)).flatten
  | [] => rfl
  | b :: l => by
    have ih := unf_pieces hg l
    unfold unf at ih ⊢
    rw [List.map_cons, blocks, ih, List.map_cons, List.flatten_cons, piece]
    cases b
    · simp
    · have e : gap + (if true = true then 1 else 0) - 1 = (gap - 1) + 1 := by simp; omega
      rw [e, List.replicate_succ']
      simp
theorem glue_rows (glue : Str) (hg : glue.cps = #[]) : ∀ (bs : List (List Bool)) (acc : Array Nat), (bs.map rowS).foldl (fun acc p => acc ++ glue.cps ++ p.cps) acc = acc ++ (bs.flatten.map sg).toArray
  | [], acc => by simp
  | b :: l, acc => by
    rw [List.map_cons, List.foldl_cons, glue_rows glue hg l, hg]
    show acc ++ #[] ++ (b.map sg).toArray ++ _ = _
    simp
theorem join_pieces (bs : List (List Bool)) : Txt.join "" (bs.map rowS) = rowS bs.flatten := by
  have hg : ("" : Str).cps = #[] := by rw [empty_eq]
  cases bs with
  | nil => show Builtin.Str.glued "" [] = _; decide +kernel
  | cons b l =>
    show Str.mk (((l.map rowS)).foldl (fun acc p => acc ++ ("" : Str).cps ++ p.cps) (rowS b).cps) = rowS (b :: l).flatten
    rw [glue_rows _ hg]
    simp [rowS]
theorem joinOk_pieces (bs : List (List Bool)) (h : bs.flatten.length ≤ 1100000) : JoinOk "" (bs.map rowS) = true := by
  refine PyProof.Rows.joinOk_of ?_
  have e0 : ("" : Str).length = 0 := by decide +kernel
  have e : ∀ r : List (List Bool), ((r.map rowS).map (·.length)).sum = r.flatten.length := by
    intro r
    induction r with
    | nil => rfl
    | cons b r ih => rw [List.map_cons, List.map_cons, List.sum_cons, ih, rowS_length, List.flatten_cons, List.length_append]
  rw [e, e0]
  omega
theorem unf_length_le {l : List Bool} {gap : Nat} (hg : 1 ≤ gap) : (unf l gap).length ≤ l.length * (gap + 1) := by
  rw [unf_pieces hg]
  induction l with
  | nil => simp
  | cons b l ih =>
    rw [List.map_cons, List.flatten_cons, List.length_append, List.length_cons, Nat.add_mul]
    have : (piece gap b).length ≤ gap + 1 := by cases b <;> simp [piece] <;> omega
    omega
theorem piece_short (gap : Nat) (b : Bool) : piece gap b = (true :: List.replicate (gap - 1) false) ++ if b then [false] else [] := by simp [piece]
theorem vG_map (g : List Nat) : vG g = (g.map fun x => ((x : Nat) : Int)).map V.int := by simp [vG]
def fold1 (d : Nat) : V → V
  | .int a => .str (signS (decide ((d : Int) < a)))
  | _ => .non
theorem fold1_map (d : Nat) (g : List Nat) : (vG g).map (fold1 d) = ((foldL g d).map signS).map V.str := by
  unfold vG foldL
  rw [List.map_map, List.map_map, List.map_map]
  refine List.map_congr_left fun x _ => ?_
  show V.str (signS (decide ((d : Int) < (x : Int)))) = V.str (signS (decide (d < x)))
  congr 2
  simp
def short (gap : Nat) : List Bool := true :: List.replicate (gap - 1) false
end Eb

set_option maxHeartbeats 4000000
namespace L2
open PySem PySem.Spec PyProof.Rows
/-! ### a list walked to its end within an except suite: the end's own error takes the caught one as its context -/
theorem entry_unchain : entryFor table "proto.unchain" = some Builtin.«proto.unchain» := entryFor_of_tree (by kernel_rfl)
section
variable {prog : Program} {w : World} {A : Around} {E : Value → Shared → Prop} {s : Shared}
theorem unchain_ctx0 {e : Value} {ea : Addr} {Q : Value → Shared → Prop} (c : Ctx0 s.heap ea) (h : Q .none s) : wpAny (model prog w) A (runValue (.builtin "proto.unchain" ⟨[e, .ref ea, .ref ea, .bool false], []⟩)) Q E s := by
  obtain ⟨oe, vs, he, hd, h2⟩ := c
  refine wpAny_runValue (codeAny_builtin entry_unchain ?_)
  show wpAny _ _ (field (.ref ea) 2 >>= _) _ _ s
  refine wpAny_bind (wpAny_field he hd h2 ?_)
  rw [if_pos (by decide)]
  exact wpAny_pure h
theorem raise_held {ea a : Addr} {oa : Obj} {vs : Array Value} (hh : A.handled = some (.ref ea)) (c : Ctx0 s.heap ea) (ne : ea ≠ a) (ha : s.heap.get? a = some oa) (hd : oa.data = .fields vs) (hz : 2 < vs.size)
    {α : Type} {Q : α → Shared → Prop} (h : E (.ref a) { s with heap := s.heap.update a (Obj.mapFields (·.setIfInBounds 2 (.ref ea))) }) : wpAny (model prog w) A (raiseNew (α := α) (.ref a)) Q E s := by
  unfold raiseNew
  refine wpAny_bind (wpAny_handled ?_)
  rw [hh]
  dsimp only
  rw [if_pos (by simpa using fun z => ne (Value.ref.inj z))]
  refine wpAny_bind (wpAny_holding (unchain_ctx0 c ?_))
  refine wpAny_bind ?_
  unfold updateField
  refine wpAny_bind (wpAny_load ha ?_)
  rw [hd]
  dsimp only
  rw [if_pos hz]
  exact wpAny_update ha (wpAny_throw h)
/-- the end of a list, an error being handled -/
theorem next_end_held {it l ea : Addr} {i : Nat} {items : Array Value} {Q : Option Value → Shared → Prop} (hh : A.handled = some (.ref ea)) (c : Ctx0 s.heap ea) (ne : ea ≠ it)
    (hit : s.heap.IsListIter it l i) (hl : s.heap.IsList l items) (hx : items[i]? = none)
    (hQ : ∀ h', Heap.ExtBut it s.heap h' → Q none { s with heap := h' }) : wpAny (model prog w) A (pyNext (.ref it)) Q E s := by
  obtain ⟨oI, gI, _, dI⟩ := id hit
  obtain ⟨oL, gL, _, nL, dL⟩ := hl
  obtain ⟨oe, vs, he, hde, h2⟩ := c
  unfold pyNext
  refine wpAny_bind (wpAny_attempt (wpAny_callSpecial?_slot (name := Str.ofString "__next__") hit.typeIs slot_listiter_next (wpAny_call_entry slot_listiter_next hit.typeIs entry_listiter_next ?_ (args_listiter_next _))))
  show wpAny _ A.in1 (field (.ref it) 0 >>= _) _ _ s
  refine wpAny_bind (wpAny_field gI dI (x := .ref l) rfl ?_)
  show wpAny _ A.in1 (if (Value.ref l == Value.none) = true then _ else _) _ _ s
  have nl : ¬ ((Value.ref l == Value.none) = true) := Bool.false_ne_true
  rw [if_neg nl]
  show wpAny _ A.in1 (field (.ref it) 1 >>= _) _ _ s
  refine wpAny_bind (wpAny_field gI dI (x := .int i 0) rfl ?_)
  show wpAny _ A.in1 (seqItems? (.ref l) >>= _) _ _ s
  refine wpAny_bind (wpAny_seqItems gL dL ?_); simp only [Int.toNat_natCast, hx]
  refine wpAny_bind (wpAny_rule (wpAny_bind (wpAny_setField gI dI (by simp) ?_)))
  show wpAny _ A.in1 (newExc (.type "StopIteration") [] >>= _) _ _ _
  refine wpAny_bind ?_; simp only [newExc, newTuple]
  refine wpAny_bind (wpAny_newObj_type (wpAny_bind (m := firstArgMember _ _) (wpAny_of_eq (a := Value.none) (by first | rfl | (simp only [firstArgMember]; rfl)) (wpAny_newObj_type ?_ (by size_fits)))) (by size_fits))
  have e1 : (s.heap.update it (Obj.mapFields (·.setIfInBounds 0 Value.none))).get? ea = some oe := (Heap.get?_update_other _ _ (Ne.symm ne)).trans he
  have e2 := Heap.get?_push_of_some (h := s.heap.update it (Obj.mapFields (·.setIfInBounds 0 Value.none))) { cls := .type "tuple", data := .seq ([] : List Value).toArray } e1
  refine raise_held (A := A.in1) hh ⟨oe, vs, Heap.get?_push_of_some _ e2, hde, h2⟩ (fun z => ?_) (Heap.get?_push_size _ rfl) rfl (by simp; omega) ?_
  · have := Heap.lt_size e2
    rw [z] at this
    exact absurd this (Nat.lt_irrefl _)
  · have g := Heap.get?_update_self (Obj.mapFields (·.setIfInBounds 2 (.ref ea))) (Heap.get?_push_size ((s.heap.update it (Obj.mapFields (·.setIfInBounds 0 Value.none))).push { cls := .type "tuple", data := .seq ([] : List Value).toArray }) (o := { cls := .type "StopIteration", data := .fields (#[.ref (s.heap.update it (Obj.mapFields (·.setIfInBounds 0 Value.none))).objs.size, .none, .none, .none, .bool false, .none] ++ ownMembersOf (.type "StopIteration") []) }) rfl) (Obj.isFreed_of_fields (Obj.data_mapFields rfl _))
    refine wpAny_bind (wpAny_isInstance (T := "StopIteration") (b := true) ⟨_, g, Obj.cls_mapFields _ _⟩ isSubtype_stop ?_)
    refine wpAny_pure (hQ _ fun b o hb e => ?_)
    have k1 : (s.heap.update it (Obj.mapFields (·.setIfInBounds 0 Value.none))).get? b = some o := (Heap.get?_update_other _ _ (Ne.symm hb)).trans e
    have k2 := Heap.get?_push_of_some (h := s.heap.update it (Obj.mapFields (·.setIfInBounds 0 Value.none))) { cls := .type "tuple", data := .seq ([] : List Value).toArray } k1
    exact (Heap.get?_update_other _ _ (Nat.ne_of_gt (Heap.lt_size k2))).trans (Heap.get?_push_of_some _ k2)
/-- a list's items, an error being handled -/
theorem walks_held {ea : Addr} (hh : A.handled = some (.ref ea)) (I ax : Addr) (hne : ax ≠ I) (hei : ea ≠ I) (items : Array Value) :
    Walks prog w A I [I, ax, ea] [I] items.size (fun i v => items[i]? = some v) (fun i h => h.IsListIter I ax i ∧ h.IsList ax items ∧ Ctx0 h ea) where
  sub := fun b hb => by simp at hb; simp [hb]
  frame := fun _ _ _ st hk => ⟨st.1.at fun o e => hk I (by simp) o e, st.2.1.at fun o e => hk ax (by simp) o e, by
    obtain ⟨oe, vs, he, r⟩ := st.2.2
    exact ⟨oe, vs, hk ea (by simp) _ he, r⟩⟩
  item := fun i s Q E hi st hQ => by
    refine wpAny_pyNext_list_item st.1 st.2.1 (x := items[i]) (by simp [hi]) fun h' it' sm => hQ _ h' s.toks (by simp [hi]) ⟨it', st.2.1.extBut sm.extBut hne, ?_⟩ fun b o hb e => sm.extBut b o (fun h => hb (by simp [h])) e
    obtain ⟨oe, vs, he, r⟩ := st.2.2
    exact ⟨oe, vs, sm.extBut _ _ hei he, r⟩
  done := fun s Q E st hQ => next_end_held hh st.2.2 hei st.1 st.2.1 (by simp) fun h' he' => hQ h' s.toks fun b o hb e => he' b o (fun h => hb (by simp [h])) e
  self := fun _ _ _ _ st hQ => wpAny_pyIter_listiter st.1 hQ
end
end L2

set_option maxHeartbeats 4000000
namespace L2
open PySem PySem.Spec PyProof.Rows
section
variable {X : Cx}
def rAnyH (K : PySem.W.Frag) (ea : Addr) : List V → Hp → VK → Prop := fun xs H Q => ∃ p Ca, ∃ bs : List Bool, xs = [.ref p] ∧ SqL K H p (bs.map V.bl) ∧ H ea = some (ExcO ea Ca) ∧ Q (.bl (bs.any id)) H
/-- any(..) within an except suite -/
theorem call_anyH {ea : Addr} (hh : X.A.handled = some (.ref ea)) : CallR X (.builtin "any") (rAnyH X.K ea) := by
  intro pins s σ H xs us Q I r h
  obtain ⟨p, Ca, bs, rfl, hq, hx, q⟩ := h
  obtain ⟨u, rfl, rx⟩ := vals1 r
  cases rx
  obtain ⟨its, r', pl, hz⟩ := I.list hq
  obtain ⟨⟨_, cx⟩, _, _⟩ := (show ObjOk X.prog X.w H s.heap ea (ExcO ea Ca) from I.hok ea _ hx)
  have hl := pl.isList
  have hlt : p < s.heap.objs.size := by obtain ⟨_, e, _⟩ := hl; exact Heap.lt_size e
  obtain ⟨oe, vs, he, rest⟩ := cx
  have helt : ea < s.heap.objs.size := Heap.lt_size he
  refine call_any_walk (wpAny_pyIter_list hl ?_)
  refine ⟨s.heap.objs.size, [s.heap.objs.size, p, ea], [s.heap.objs.size], its.toArray.size, _, _, fun i => (bs[i]?).getD false, rfl, walks_held (A := X.A.in1) hh _ p (Nat.ne_of_lt hlt) (Nat.ne_of_lt helt) its.toArray,
    ⟨⟨_, Heap.get?_push_size _ rfl, rfl, rfl⟩, hl.push _, oe, vs, Heap.get?_push_of_some _ he, rest⟩, fun i v s' Q' E' hP hQ => ?_, fun h' tk hk => ?_⟩
  · obtain ⟨b, e, rfl⟩ := bools_at r' (by simpa using hP)
    simp only [e, Option.getD_some] at hQ
    exact wpAny_truthy_bool hQ
  · have e : ((List.range its.toArray.size).any fun i => (bs[i]?).getD false) = bs.any id := by
      rw [List.size_toArray, ← r'.length, List.length_map]; exact range_any' bs
    rw [e]
    exact ⟨.bl _, H, I.kept (kept_it hk), rfl, q⟩
/-- try: body / except C as n: suite, the suite knows the error that is handled -/
theorem ps_tryE {i : Nat} {c n : Str} {CB : Addr} {body : List Stmt} {tb : TB} {np hpos pos : Pos} {b₀ : Stmt} {suite : List Stmt} {th : Addr → TS}
    (hstk : X.stack = X.env :: X.outer) (hfrm : X.env.frame = some X.env.locals) (hm : X.mg c = some (.ref CB)) (hB : PB X body tb) (hN : X.N.Nodup) (hi : X.N[i]? = some n) (hL : X.env.scope.names.lookup n = some .local)
    (hsuite : ∀ ea : Addr, PSs (X.hdl (.ref ea)) (b₀ :: suite) (th ea)) (hloc : X.env.kindOf n = some .local := by rfl) (hg : Gl X c := by rfl) (hd : (c == ("__debug__" : Str)) = false := by decide) :
    PS X (.Try body [.ExceptHandler (some (.Name c np)) (some n) (b₀ :: suite) hpos] [] [] pos)
      (fun D σ H => tb σ H (fun H2 => D.nx σ H2) fun C _ H2 => ∃ Ca, C = .ref Ca ∧ PySem.W.exmOne X.K (.ref Ca) (.ref CB) = some true ∧ ∀ ea, H2 ea = none → th ea (D.gone X.N.length) (σ.set i (some (.ref ea))) (upd H2 ea (ExcO ea Ca))) := by
  intro pins s σ H D I h
  refine wpAny_Try_except (wpAny_mono (hB pins s σ H _ _ I h) (fun f s1 hh => ?_) fun e s' hh => ?_)
  · obtain ⟨rfl, H', I', q⟩ := hh; exact wpAny_execs_nil ⟨σ, H', I', q⟩
  · obtain ⟨H1, s1, I1, ea, C, a0, B, H', rfl, Fl, Ca, rfl, hex, hth⟩ := hh
    have noH : H' ea = none := by
      cases e : H' ea with
      | none => rfl
      | some o =>
        obtain ⟨ob, e'⟩ := (Fl.hok ea o e).get
        rw [Fl.fly.2.1] at e'; cases e'
    exact catch_as hstk hfrm I1 hm hex Fl hg hd hN hi hloc hL (hsuite _) (hth ea noH)
end
section
variable {σ : St} {H : Hp} {ta : TE} {K : PySem.W.Frag}
theorem pv_anyH {p ea Ca : Addr} {bs : List Bool} (ha : Pv ta σ H (.ref p)) (hS : SqL K H p (bs.map V.bl)) (hx : H ea = some (ExcO ea Ca)) : Pv (tCB (rAnyH K ea) (tCons ta tNil)) σ H (.bl (bs.any id)) := fun Q q => ha _ ⟨p, Ca, bs, rfl, hS, hx, q⟩
end
end L2

set_option maxHeartbeats 4000000
namespace Eb
open PySem L2
/-! ### rings folded again and again -/
structure Chain (l : List Bool) (L : List (List Bool)) : Prop where
  head : L[0]? = some l
  step : ∀ (i : Nat) x y, L[i]? = some x → L[i + 1]? = some y → 1 ≤ cnt x ∧ ∃ d, d ∈ gapsL x ∧ (∀ g ∈ gapsL x, d ≤ g) ∧ (∀ g ∈ gapsL x, g ≤ d + 1) ∧ y = foldL (gapsL x) d
  ok : ∀ x ∈ L, (EvAll l ↔ EvAll x) ∧ 1 ≤ x.length ∧ x.length ≤ l.length
theorem Chain.one {l : List Bool} (h : 1 ≤ l.length) : Chain l [l] := ⟨rfl, fun i x y hx hy => by cases i <;> simp at hy, fun x hx => by
  have : x = l := by simpa using hx
  subst this
  exact ⟨Iff.rfl, h, Nat.le_refl _⟩⟩
theorem fold_len {x : List Bool} (hc : 1 ≤ cnt x) (d : Nat) : ((foldL (gapsL x) d).length : Int) = cnt x := by
  rw [foldL, List.length_map]; exact gapsL_len hc
theorem Chain.more {l x : List Bool} {L : List (List Bool)} (C : Chain l (L ++ [x])) (hc : 1 ≤ cnt x) {d : Nat} (hd : d ∈ gapsL x) (h1 : ∀ g ∈ gapsL x, d ≤ g) (h2 : ∀ g ∈ gapsL x, g ≤ d + 1) : Chain l (L ++ [x] ++ [foldL (gapsL x) d]) := by
  have hl := fold_len hc d
  have cl := cnt_le x
  obtain ⟨e1, e2, e3⟩ := C.ok x (by simp)
  refine ⟨?_, fun i a b ha hb => ?_, fun y hy => ?_⟩
  · have := C.head
    rw [List.getElem?_append_left (by simp)]; exact this
  · by_cases hi : i + 1 < (L ++ [x]).length
    · rw [List.getElem?_append_left (by omega)] at ha
      rw [List.getElem?_append_left hi] at hb
      exact C.step i a b ha hb
    · have hb' := (List.getElem?_eq_some_iff.mp hb).1
      simp only [List.length_append, List.length_cons, List.length_nil] at hi hb'
      have ei : i = L.length := by omega
      subst ei
      have ea : a = x := by
        rw [List.getElem?_append_left (by simp), List.getElem?_append_right (Nat.le_refl _)] at ha
        simpa using ha.symm
      have eb : b = foldL (gapsL x) d := by
        rw [List.getElem?_append_right (by simp)] at hb
        simpa using hb.symm
      subst ea eb
      exact ⟨hc, d, hd, h1, h2, rfl⟩
  · rcases List.mem_append.mp hy with h | h
    · exact C.ok y h
    · have : y = foldL (gapsL x) d := by simpa using h
      subst this
      refine ⟨e1.trans (even_step hc d fun g hg => ?_), by omega, by omega⟩
      have := h1 g hg
      have := h2 g hg
      omega
/-- how far it is from the end -/
def far (x : List Bool) : Nat := 2 * x.length + if cnt x = 0 then 0 else 1
theorem ones_fold : ∀ {x : List Bool}, cnt x = x.length → ∀ g ∈ gapsL x, g = 1 := by
  intro x hx
  have e : x = List.replicate x.length true := by
    have : ∀ y : List Bool, cnt y = y.length → y = List.replicate y.length true := by
      intro y
      induction y with
      | nil => intro _; rfl
      | cons b t ih =>
        intro h
        rw [cnt_cons, List.length_cons] at h
        have := cnt_le t
        cases b
        · simp at h; omega
        · simp at h
          rw [List.length_cons, List.replicate_succ, ← ih (by omega)]
    exact this x hx
  have gen : ∀ (k : Nat) (g : Nat), g ∈ gp 1 (List.replicate k true) → g = 1 := by
    intro k
    induction k with
    | zero => intro g hg; simpa [gp] using hg
    | succ k ih =>
      intro g hg
      rw [List.replicate_succ, gp, List.mem_cons] at hg
      exact hg.elim id (ih g)
  intro g hg
  cases hn : x.length with
  | zero =>
    have : x = [] := List.eq_nil_of_length_eq_zero hn
    subst this
    simpa [gapsL, tailB, rot, firstB, gp] using hg
  | succ k =>
    rw [hn] at e
    have ef : firstB x = 0 := by rw [e, List.replicate_succ]; simp [firstB, List.findIdx_cons]
    have et : tailB x = List.replicate k true := by
      unfold tailB rot
      rw [ef, e, List.replicate_succ]; simp
    rw [gapsL, et] at hg
    exact gen k g hg
theorem far_fold {x : List Bool} (hc : 1 ≤ cnt x) {d : Nat} (hd : d ∈ gapsL x) : far (foldL (gapsL x) d) < far x := by
  have hl := fold_len hc d
  have cl := cnt_le x
  unfold far
  rw [if_neg (by omega : ¬ cnt x = 0)]
  by_cases e : cnt x = x.length
  · have o := ones_fold e
    have hz : cnt (foldL (gapsL x) d) = 0 := by
      have hd1 := o d hd
      subst hd1
      have : foldL (gapsL x) 1 = (gapsL x).map fun _ => false := by
        unfold foldL
        refine List.map_congr_left fun g hg => ?_
        rw [o g hg]; rfl
      rw [this]
      induction gapsL x with
      | nil => rfl
      | cons a t ih => rw [List.map_cons, cnt_cons, ih]; rfl
    rw [if_pos hz]
    omega
  · split <;> omega
/-- a told list of rings, as values -/
def vR (L : List (List Bool)) : List V := L.map fun x => V.str (rowS x)
def spx_folds (CU : Addr) : Sp := fun vs H Q E => ∃ l : List Bool, vs = [.str (rowS l)] ∧ 1 ≤ l.length ∧ l.length ≤ 1000 ∧
  (EvAll l → ∀ p H' L z, H p = none → Same H H' → H' p = some (.lst (vR (L ++ [z]))) → Chain l (L ++ [z]) → cnt z = 0 → L.length ≤ 2 * l.length + 1 → Q (.ref p) H') ∧ (¬ EvAll l → ∀ H', Same H H' → E (.ref CU) none H')
theorem vR_last (L : List (List Bool)) (z : List Bool) : atI (vR (L ++ [z])) (-1) = some (.str (rowS z)) := by
  unfold vR
  rw [List.map_append]
  exact atI_last _ _
theorem vR_length (L : List (List Bool)) : (vR L).length = L.length := by simp [vR]
theorem vR_at (L : List (List Bool)) (i : Int) (h0 : 0 ≤ i) (h : i < L.length) : ∃ x, L[i.toNat]? = some x ∧ atI (vR L) i = some (.str (rowS x)) := by
  obtain ⟨k, rfl⟩ := Int.eq_ofNat_of_zero_le h0
  have hk : k < L.length := by omega
  exact ⟨L[k], by simp [hk], atI_nat (by simp [vR, hk])⟩
/-- the gaps once more: place by place, the last one around -/
theorem gaps_steps {l : List Bool} {f : Nat} {r : List Nat} (e : pl 0 l = f :: r) (hg : gapsL l = difs r (f + l.length) f) :
    gapsL l = (List.range r.length).map (fun i => (f :: r).getD (i + 1) 0 - (f :: r).getD i 0) ++ [f + l.length - (f :: r).getD r.length 0] := by
  rw [hg]
  apply List.ext_getElem?
  intro i
  unfold difs
  rw [List.getElem?_zipWith]
  by_cases h1 : i < r.length
  · rw [List.getElem?_append_left (l₁ := r) h1, List.getElem?_append_left (by simpa using h1), List.getElem?_map, List.getElem?_range h1]
    have a1 : (f :: r)[i]? = some ((f :: r)[i]'(by simp; omega)) := List.getElem?_eq_getElem (by simp; omega)
    have a2 : r[i]? = some r[i] := List.getElem?_eq_getElem h1
    rw [Option.map_some, List.getD_eq_getElem?_getD, List.getD_eq_getElem?_getD, a1, List.getElem?_cons_succ, a2]
    rfl
  · by_cases h2 : i = r.length
    · subst h2
      rw [List.getElem?_append_right (Nat.le_refl _), List.getElem?_append_right (by simp), List.getElem?_eq_getElem (by simp : r.length < (f :: r).length)]
      simp [List.getD_eq_getElem?_getD]
    · rw [List.getElem?_eq_none (l := r ++ [f + l.length]) (by simp; omega), List.getElem?_eq_none (l := f :: r) (by simp; omega), List.getElem?_eq_none (by simp; omega)]
theorem kit_list_list {K : PySem.W.Frag} : PySem.W.kitOne K (.type "list") (.type "list") = some true := by rfl
theorem call_min1K {X : Cx} (K : PySem.W.Frag) (hc : X.calm = true) (hK : X.K = K := by rfl) : CallR X (.builtin "min") (fun xs H Q => ∃ p, ∃ ns : List Int, xs = [.ref p] ∧ SqL K H p (ns.map V.int) ∧ 0 < ns.length ∧ ∀ M, M ∈ ns → (∀ a, a ∈ ns → M ≤ a) → Q (.int M) H) := hK ▸ call_min1 hc
theorem strOk_row (l : List Bool) : PyData.strOk (rowS l) = true := by
  unfold PyData.strOk
  rw [Array.all_eq_true]
  intro i hi
  obtain ⟨b, hb, e⟩ := rowS_get l i (rowS l).cps[i] (by simp)
  rw [e]
  cases b <;> decide
theorem vR_cut (L : List (List Bool)) (l : List Bool) (h : L[0]? = some l) : cutV (vR L) none (some 1) = [V.str (rowS l)] := by
  cases L with
  | nil => cases h
  | cons x r =>
    have : x = l := by simpa using h
    subst this
    unfold cutV
    rw [HT.sIx_none]
    show ((vR (x :: r)).drop 0).take (min 1 (vR (x :: r)).length - 0) = _
    rw [vR_length, List.length_cons, show min 1 (r.length + 1) - 0 = 1 by omega]
    rfl
theorem pv_in {σ : St} {H : Hp} {ta tb : TE} {x y : Str} (ha : Pv ta σ H (.str x)) (hb : Pv tb σ H (.str y)) :
    Pv (tOp (fun x y H Q => ∃ i j, x = .str i ∧ y = .str j ∧ Q (.bl (!(Builtin.Str.occurrences j i 0 j.length 1).isEmpty)) H) ta tb) σ H (.bl (!(Builtin.Str.occurrences y x 0 y.length 1).isEmpty)) := fun Q q => ha _ (hb _ ⟨x, y, rfl, rfl, q⟩)
theorem pv_notIn {σ : St} {H : Hp} {ta tb : TE} {x y : Str} (ha : Pv ta σ H (.str x)) (hb : Pv tb σ H (.str y)) :
    Pv (tOp (fun x y H Q => ∃ i j, x = .str i ∧ y = .str j ∧ Q (.bl (!(!(Builtin.Str.occurrences j i 0 j.length 1).isEmpty))) H) ta tb) σ H (.bl (!(!(Builtin.Str.occurrences y x 0 y.length 1).isEmpty))) := fun Q q => ha _ (hb _ ⟨x, y, rfl, rfl, q⟩)
end Eb

set_option maxHeartbeats 4000000
namespace K05
open PySem L2 Eb
def top (i : Nat) : Stmt := PySem.Challenge.pw_evenbeats_k05_whole_folds.main.body.getD i (.Pass ⟨0, 0, 0, 0⟩)
/-- the file's names -/
structure Md (K : PySem.W.Frag) (mg : Str → Option Value) (CB : Addr) : Prop where
  b_len : mg "len" = none
  b_isinstance : mg "isinstance" = none
  b_sum : mg "sum" = none
  b_max : mg "max" = none
  b_min : mg "min" = none
  b_range : mg "range" = none
  b_list : mg "list" = none
  b_int : mg "int" = none
  b_bool : mg "bool" = none
  b_str : mg "str" = none
  c_BEAT : ∃ t, mg "BEAT" = some (.str "x" t)
  c_REST : ∃ t, mg "REST" = some (.str "." t)
  x_bad : XCls K mg "BadCount" CB
section
variable {P : Program} {w : World} {K : PySem.W.Frag} {mg : Str → Option Value} {base : Heap} {f CB : Addr} {fd : FuncData}

abbrev s_is_row : Stmt := top 9
theorem sc_is_row : FnScope ["value"] ["value"] (defScope s_is_row) := ⟨rfl, rfl, rfl, by decide +kernel, rfl, by decide +kernel, by decide +kernel⟩
theorem ok_is_row (M : Md K mg CB) (F : Fun K "is_row" "is_row" s_is_row f fd) : FnOk P w K mg base (CXE P w) 1 f fd ["value"] sp_is_row := by
  refine F.okN sc_is_row (fun vs H Q E h => ?_) (fun cdv A outer s H vs Q E hr h => ?_)
  · obtain ⟨l, rfl, _⟩ := h; rfl
  obtain ⟨l, rfl, hl, q⟩ := h
  refine ⟨_, (pss_one (ps_ret (pe_and (pe_callB call_isi rfl M.b_isinstance bo_isinstance (pa_cons (pv 0) (pa_cons (pe_bty M.b_str bo_str) pa_nil))) (pe_one (pe_cmpR op_eq (pe_op op_add (pe_bm PySem.F.plainAttrs_str PySem.F.slot_str_count PySem.F.type_str_count mt_count (pv 0) (pa_cons (pe_gstr M.c_BEAT) pa_nil)) (pe_bm PySem.F.plainAttrs_str PySem.F.slot_str_count PySem.F.type_str_count mt_count (pv 0) (pa_cons (pe_gstr M.c_REST) pa_nil))) (pe_callB call_len_str rfl M.b_len bo_len (pa_cons (pv 0) pa_nil)) (nomark _)))))), ?_⟩
  refine rd_ret (pv_and (pv_isi (pv_var rfl) (.str _) kit_str_str) fun _ => pv_eq (pv_op (pv_count (pv_var rfl) pv_c) (pv_count (pv_var rfl) pv_c)) (pv_len (pv_var rfl) (by rw [rowS_length]; exact sizeOk (by omega))) rfl) ?_
  have e : V.int (Txt.count (rowS l) "x" + Txt.count (rowS l) ".") = V.int ((rowS l).length : Nat) := by
    rw [count_rows, count_dots, rowS_length]
    exact congrArg V.int (by omega)
  show Q (V.bl (true && decide (V.int (Txt.count (rowS l) "x" + Txt.count (rowS l) ".") = V.int ((rowS l).length : Nat)))) H
  rw [decide_eq_true e]
  exact q

abbrev s_is_ring : Stmt := top 10
theorem sc_is_ring : FnScope ["value"] ["value"] (defScope s_is_ring) := ⟨rfl, rfl, rfl, by decide +kernel, rfl, by decide +kernel, by decide +kernel⟩
theorem ok_is_ring (M : Md K mg CB) (F_is_row : Kn P w K mg base 1 "is_row" ["value"] sp_is_row) (F : Fun K "is_ring" "is_ring" s_is_ring f fd) : FnOk P w K mg base (CXE P w) 2 f fd ["value"] sp_is_ring := by
  refine F.okN sc_is_ring (fun vs H Q E h => ?_) (fun cdv A outer s H vs Q E hr h => ?_)
  · obtain ⟨l, rfl, _⟩ := h; rfl
  obtain ⟨l, rfl, hl, q⟩ := h
  refine ⟨_, (pss_one (ps_ret (pe_and (pe_fn F_is_row (hr.mono (by decide)) (pa_cons (pv 0) pa_nil)) (pe_one (pe_cmpR op_ge (pe_callB call_len_str rfl M.b_len bo_len (pa_cons (pv 0) pa_nil)) pe_int (nomark _)))))), ?_⟩
  refine rd_ret (pv_and (pv_call (pa_1 (pv_var rfl) pa_0) fun Q' q' => ⟨l, rfl, hl, q'⟩) fun _ => pv_op (pv_len (pv_var rfl) (by rw [rowS_length]; exact sizeOk (by omega))) pv_c) ?_
  show Q (V.bl (true && decide ((1 : Int) ≤ ((rowS l).length : Nat)))) H
  rw [rowS_length, Bool.true_and, show decide ((1 : Int) ≤ (l.length : Nat)) = decide (1 ≤ l.length) from decide_eq_decide.mpr (by omega)]
  exact q

end
end K05

set_option maxHeartbeats 4000000
namespace K05
open PySem L2 Eb
section
variable {P : Program} {w : World} {K : PySem.W.Frag} {mg : Str → Option Value} {base : Heap} {f CB CN CU : Addr} {fd : FuncData}

abbrev s_check_ring : Stmt := top 11
theorem sc_check_ring : FnScope ["value"] ["value"] (defScope s_check_ring) := ⟨rfl, rfl, rfl, by decide +kernel, rfl, by decide +kernel, by decide +kernel⟩
theorem ok_check_ring (F_is_ring : Kn P w K mg base 2 "is_ring" ["value"] sp_is_ring) (F : Fun K "check_ring" "check_ring" s_check_ring f fd) : FnOk P w K mg base (CXE P w) 3 f fd ["value"] sp_check_ring := by
  refine F.okN sc_check_ring (fun vs H Q E h => ?_) (fun cdv A outer s H vs Q E hr h => ?_)
  · obtain ⟨l, rfl, _⟩ := h; rfl
  obtain ⟨l, rfl, h1, h2, q⟩ := h
  refine ⟨_, (pss_one (ps_if (pt_not (pt_val (pe_fn F_is_ring (hr.mono (by decide)) (pa_cons (pv 0) pa_nil)))) (pss_one ps_never) pss_nil)), ?_⟩
  refine rd_if1 (pb_not (pb_val (pv_call (pa_1 (pv_var rfl) pa_0) fun Q' q' => ⟨l, rfl, h2, q'⟩))) (fun c => ?_) (fun _ => q)
  rw [decide_eq_true h1] at c; cases c

abbrev s_gaps : Stmt := top 13
theorem sc_gaps : FnScope ["ring", "beats", "following"] ["ring"] (defScope s_gaps) := ⟨rfl, rfl, rfl, by decide +kernel, rfl, by decide +kernel, by decide +kernel⟩
def sub2 : V → V → V
  | .int a, .int b => .int (b - a)
  | _, _ => .non
theorem ok_gaps (M : Md K mg CB) (hzip : mg "zip" = none) (xN : XCls K mg "NoBeat" CN) (F_check_ring : Kn P w K mg base 3 "check_ring" ["value"] sp_check_ring) (F : Fun K "gaps" "gaps" s_gaps f fd) : FnOk P w K mg base (CXE P w) 4 f fd ["ring"] (spx_gaps CN) := by
  refine F.okX sc_gaps (fun vs H Q E h => ?_) (fun cdv A outer s H vs Q E hr h => ?_)
  · obtain ⟨l, rfl, _⟩ := h; rfl
  obtain ⟨l, rfl, h1, h2, qG, qN⟩ := h
  have nd := sc_gaps.nd
  have nd1 : ((["place"] : List Str) ++ (["ring"] : List Str)).Nodup := by decide +kernel
  have nd2 : ((["place", "later"] : List Str) ++ ([] : List Str)).Nodup := by decide +kernel
  have hz : (rowS l).length ≤ sizeLine := by rw [rowS_length]; exact sizeOk (by omega)
  refine ⟨_, (pss_cons (ps_expr (pe_fn F_check_ring (hr.mono (by decide)) (pa_cons (pv 0) pa_nil)))
    (pss_cons (ps_lc2 (zs := ["place"]) (ys := ["ring"]) (js := [0]) (cl := [("ring", s.heap.objs.size + 1)]) (pi_range1 rfl M.b_range (pa_cons (pe_callB call_len_str rfl M.b_len bo_len (pa_cons (pv 0) pa_nil)) pa_nil))
        ⟨rfl, by decide +kernel, rfl, by decide +kernel, ⟨rfl, trivial⟩, ⟨.inl rfl, .inl rfl, .inr (.inl rfl), .inr (.inr ⟨_, rfl⟩), trivial⟩, ⟨⟨rfl, .inl rfl, .inl rfl⟩, trivial⟩, rfl⟩ rfl (fun _ _ _ _ => pg_name (i := 0) nd1 rfl (.inl rfl) (.inr rfl))
        (fun _ _ _ _ => pc_one (pt_cmpR op_eq (pe_ix (r := rIxS) ix_str (pv 1) (pv 0) (fun _ _ => rfl)) (pe_gstr M.c_BEAT) (nomark _))) (fun _ _ _ _ => (pv 0)) (pg_name (i := 1) nd rfl (Or.inl rfl) (Or.inl rfl)))
    (pss_cons (ps_if (pt_cmpR op_eq (pe_callB call_len_seq rfl M.b_len bo_len (pa_cons (pv 1) pa_nil)) pe_int (nomark _)) (pss_one (ps_raise xN (pa_cons pe_str pa_nil))) pss_nil)
    (pss_cons (ps_set (i := 2) nd rfl (Or.inl rfl) (pe_op op_cat (pe_slice sl_list (pv 1) (po_some pe_int) po_none) (pe_lst (pa_cons (pe_op op_add (pe_ix ix_list (pv 1) pe_int (fun _ _ => rfl)) (pe_callB call_len_str rfl M.b_len bo_len (pa_cons (pv 0) pa_nil))) pa_nil))))
    (pss_one (ps_ret (pe_lc2 (g := gTup K 2 (gCons (gName 0) (gCons (gName 1) gNil))) (zs := ["place", "later"]) (ys := []) (js := []) (cl := []) (pi_zip rfl hzip (pa_cons (pv 1) (pa_cons (pv 2) pa_nil)))
        ⟨rfl, by decide +kernel, rfl, by decide +kernel, trivial, ⟨.inl rfl, .inl rfl, .inl rfl, trivial⟩, trivial, rfl⟩ rfl (fun _ _ _ _ => pg_tup rfl (pgs_cons (pg_name (i := 0) nd2 rfl (.inl rfl) (.inr rfl)) (pgs_cons (pg_name (i := 1) nd2 rfl (.inl rfl) (.inr rfl)) pgs_nil)))
        (fun _ _ _ _ => pc_nil) (fun _ _ _ _ => (pe_op op_sub (pv 1) (pv 0)))))))))), ?_⟩
  refine rd_expr (pv_call (pa_1 (pv_var rfl) pa_0) fun Q' q' => ⟨l, rfl, h1, by omega, q'⟩) ?_
  refine rd_seq (ti_rng1 (pa_1 (pv_len (pv_var rfl) hz) pa_0) ⟨_, rfl, by omega, by rw [rowS_length]; omega, ?_⟩)
  rw [rowS_length, show ((l.length : Nat) : Int).toNat = l.length by omega]
  refine lc2_rangeIf (fun i => V.int ((i : Nat) : Int)) (fun i => l.getD i false) (sizeOk (by omega)) (fun i D zs R hi hD r => ?_) (fun i D zs R hi hb hD r => ?_) (fun D hD => ?_)
  · obtain ⟨b, hb, ha⟩ := ix_row l ((0 : Int) + (i : Nat)) (by omega) (by omega)
    have eb : l.getD i false = b := by
      rw [show ((0 : Int) + (i : Nat)).toNat = i by omega] at hb
      rw [List.getD_eq_getElem?_getD, hb]; rfl
    rw [eb] at r
    refine (pb_test (pv_eq (pv_ixS (pv_var rfl) (pv_var rfl) hz ha) pv_c rfl)) R ?_
    rw [sign_sg]
    cases b
    · exact r
    · exact r
  · refine ⟨_, rfl, ?_⟩
    rw [Int.zero_add]; exact r
  rw [pl_range]
  have gD := same_new hD (HO.lst ((pl 0 l).map fun i => V.int ((i : Nat) : Int)))
  have hB0 : upd H D (HO.lst ((pl 0 l).map fun i => V.int ((i : Nat) : Int))) D = some (HO.lst (vG (pl 0 l))) := upd_same
  generalize upd H D (HO.lst ((pl 0 l).map fun i => V.int ((i : Nat) : Int))) = H1 at gD hB0
  have hB : SqL K H1 D (vG (pl 0 l)) := SqL.of hB0
  have lenP := pl_length l 0
  have c0 := cnt_nonneg l
  have vl : ∀ g : List Nat, (vG g).length = g.length := fun g => by simp [vG]
  dsimp only
  refine rd_ifn (pb_test (pv_eq (pv_lenL (pv_var rfl) hB) pv_c rfl)) (fun c => ?_) (fun c => ?_)
  · have c' := of_decide_eq_true c
    rw [vl] at c'
    have e0 : ((pl 0 l).length : Int) = 0 := V.int.inj c'
    exact ⟨by show 1 ≤ sizeLine; decide, qN (by omega) _ gD⟩
  · have c' := of_decide_eq_false c
    rw [vl] at c'
    have e0 : ((pl 0 l).length : Int) ≠ 0 := fun z => c' (by rw [z])
    have hc : 1 ≤ cnt l := by omega
    obtain ⟨f0, r, ep, eg⟩ := gaps_places hc
    have c1 := cnt_le l
    rw [ep] at hB hB0 lenP
    have lr : r.length + 1 ≤ 1000 := by rw [List.length_cons] at lenP; omega
    have a0 : atI (vG (f0 :: r)) ((0 : Nat) : Int) = some (.int (f0 : Nat)) := atI_nat rfl
    refine rd_setK (te_op ⟨_, rfl, 1, rfl, D, vG (f0 :: r), rfl, hB, fun p1 hp1 => ?_⟩)
    have g1 := same_new hp1 (HO.lst (cutV (vG (f0 :: r)) (some 1) none))
    have h1' : upd H1 p1 (HO.lst (cutV (vG (f0 :: r)) (some 1) none)) p1 = some (HO.lst (vG r)) := by
      rw [upd_same]
      congr 2
      unfold cutV
      rw [show HT.sIx (vG (f0 :: r)).length 0 (some 1) = 1 by show min 1 (vG (f0 :: r)).length = 1; rw [vl, List.length_cons]; omega, HT.sIx_none]
      show ((vG (f0 :: r)).drop 1).take ((vG (f0 :: r)).length - 1) = vG r
      rw [show (vG (f0 :: r)).drop 1 = vG r from rfl, List.take_of_length_le (by rw [vl, vl, List.length_cons]; omega)]
    generalize upd H1 p1 (HO.lst (cutV (vG (f0 :: r)) (some 1) none)) = H2 at g1 h1'
    have hB2 := g1.seq hB
    refine te_lst ((pa_1 (pv_op (pv_ixL (pv_var rfl) pv_c hB2 a0) (pv_len (pv_var rfl) hz)) pa_0) _ ⟨by show 1 ≤ sizeLine; decide, fun p2 hp2 => ?_⟩)
    rw [rowS_length]
    have g2 := same_new hp2 (HO.lst [V.int ((f0 : Nat) + (l.length : Nat))])
    refine ⟨p1, p2, vG r, [V.int ((f0 : Nat) + (l.length : Nat))], rfl, rfl, g2 _ _ h1', upd_same, by rw [vl]; exact sizeOk (by show r.length + 1 ≤ _; omega), fun p3 hp3 => ?_⟩
    have g3 := same_new hp3 (HO.lst (vG r ++ [V.int ((f0 : Nat) + (l.length : Nat))]))
    have g23 : Same H2 (upd (upd H2 p2 (HO.lst [V.int ((f0 : Nat) + (l.length : Nat))])) p3 (HO.lst (vG r ++ [V.int ((f0 : Nat) + (l.length : Nat))]))) := g2.trans g3
    have hF : SqL K (upd (upd H2 p2 (HO.lst [V.int ((f0 : Nat) + (l.length : Nat))])) p3 (HO.lst (vG r ++ [V.int ((f0 : Nat) + (l.length : Nat))]))) p3 (vG (r ++ [f0 + l.length])) := SqL.of (by rw [upd_same]; simp [vG])
    have hB3 := g23.seq hB2
    have g03 : Same H _ := gD.trans (g1.trans g23)
    generalize upd (upd H2 p2 (HO.lst [V.int ((f0 : Nat) + (l.length : Nat))])) p3 (HO.lst (vG r ++ [V.int ((f0 : Nat) + (l.length : Nat))])) = H3 at g23 hF hB3 g03
    refine rd_retK ((pa_1 (pv_var rfl) (pa_1 (pv_var rfl) pa_0)) _ ⟨D, p3, _, _, rfl, hB3, hF, ?_⟩)
    refine lc2_zip sub2 (by rw [vl, vl]; simp) (by rw [vl]; exact sizeOk (by rw [List.length_cons]; omega)) hB3 hF (fun i x y H4 R hx hy g4 rr => ?_) (fun D4 H4 hD4 g4 h4 => ?_)
    · unfold vG at hx hy
      rw [List.getElem?_map] at hx hy
      obtain ⟨x', hx', rfl⟩ := Option.map_eq_some_iff.mp hx
      obtain ⟨y', hy', rfl⟩ := Option.map_eq_some_iff.mp hy
      exact (pv_op (pv_var rfl) (pv_var rfl)) R rr
    · refine qG hc D4 H4 ?_ (g03.trans g4) ?_
      · cases e : H D4 with
        | none => rfl
        | some o => rw [g03 _ _ e] at hD4; cases hD4
      · rw [h4, eg]
        congr 2
        apply List.ext_getElem?
        intro i
        unfold difs vG
        rw [List.getElem?_zipWith, List.getElem?_map, List.getElem?_map, List.getElem?_map, List.getElem?_zipWith]
        cases hx : (f0 :: r)[i]? with
        | none => cases (r ++ [f0 + l.length])[i]? <;> rfl
        | some x =>
          cases hy : (r ++ [f0 + l.length])[i]? with
          | none => rfl
          | some y =>
            have := pl_cons ep i x y hx hy
            show some (V.int ((y : Int) - (x : Int))) = some (V.int ((y - x : Nat) : Int))
            rw [Int.ofNat_sub this]

abbrev s_folded : Stmt := top 14
theorem sc_folded : FnScope ["ring", "between", "least"] ["ring"] (defScope s_folded) := ⟨rfl, rfl, rfl, by decide +kernel, rfl, by decide +kernel, by decide +kernel⟩
theorem ok_folded (M : Md K mg CB) (xU : XCls K mg "Uneven" CU) (F_gaps : Kn P w K mg base 4 "gaps" ["ring"] (spx_gaps CN)) (F : Fun K "folded" "folded" s_folded f fd) : FnOk P w K mg base (CXE P w) 5 f fd ["ring"] (spx_folded CN CU) := by
  refine F.okX sc_folded (fun vs H Q E h => ?_) (fun cdv A outer s H vs Q E hr h => ?_)
  · obtain ⟨l, rfl, _⟩ := h; rfl
  obtain ⟨l, rfl, h1, h2, qF, qN, qU⟩ := h
  have nd := sc_folded.nd
  have c0 := cnt_nonneg l
  have c1 := cnt_le l
  refine ⟨_, (pss_cons (ps_set (i := 1) nd rfl (Or.inl rfl) (pe_fnX F_gaps (hr.mono (by decide)) (pa_cons (pv 0) pa_nil)))
    (pss_cons (ps_set (i := 2) nd rfl (Or.inr rfl) (pe_callB (call_min1 rfl) rfl M.b_min bo_min (pa_cons (pv 1) pa_nil)))
    (pss_cons (ps_if (pt_cmpR op_gt (pe_callB (call_max1 rfl) rfl M.b_max bo_max (pa_cons (pv 1) pa_nil)) (pe_op op_add (pv 2) pe_int) (nomark _)) (pss_one (ps_raise xU (pa_cons pe_str pa_nil))) pss_nil)
    (pss_one (ps_ret (pe_bm PySem.F.plainAttrs_str PySem.F.slot_str_join PySem.F.type_str_join mt_join pe_str (pa_cons (pe_lc (js := [2]) (ys := ["least"]) (cl := [("least", s.heap.objs.size + 1)]) (pi_list (pv 1))
        ⟨rfl, by decide +kernel, rfl, by decide +kernel, rfl, by decide +kernel, ⟨rfl, trivial⟩, ⟨.inl rfl, .inl rfl, .inr (.inl rfl), .inr (.inl rfl), .inr (.inr ⟨_, rfl⟩), trivial⟩, ⟨⟨rfl, .inl rfl, .inl rfl⟩, trivial⟩, rfl⟩ rfl (fun _ _ _ _ => (pe_ifExp (pt_cmpR op_gt (pv 0) (pv 1) (nomark _)) (pe_gstr M.c_BEAT) (pe_gstr M.c_REST)))) pa_nil))))))), ?_⟩
  refine rd_setK ⟨_, rfl, l, rfl, h1, h2, fun hc p H1 _ g1 hp => ?_, fun hc H1 g1 => qN hc H1 g1⟩
  have hp' : SqL K H1 p (((gapsL l).map fun x => ((x : Nat) : Int)).map V.int) := SqL.of (by rw [hp, vG_map])
  have hv : SqL K H1 p (vG (gapsL l)) := SqL.of hp
  obtain ⟨d, hd, hm⟩ := min_gap hc
  have hne : (gapsL l).map (fun x => ((x : Nat) : Int)) ≠ [] := fun z => by
    have e := List.map_eq_nil_iff.mp z
    rw [e] at hd; cases hd
  obtain ⟨mx, hmx, amx⟩ := ex_max hne
  have lg := gapsL_len hc
  refine rd_set (pv_min1 (m := (d : Int)) (pv_var rfl) hp' (List.mem_map.mpr ⟨d, hd, rfl⟩) (fun a ha => by
    obtain ⟨x, hx, rfl⟩ := List.mem_map.mp ha
    have := hm x hx; omega)) ?_
  refine rd_ifn (pb_test (pv_op (pv_max1 (pv_var rfl) hp' hmx amx) (pv_op (pv_var rfl) pv_c))) (fun c => ?_) (fun c => ?_)
  · have c' : (d : Int) + 1 < mx := of_decide_eq_true c
    refine ⟨by show 1 ≤ sizeLine; decide, qU hc d hd hm (fun z => ?_) H1 g1⟩
    obtain ⟨x, hx, rfl⟩ := List.mem_map.mp hmx
    have := z x hx; omega
  · have c' : ¬ (d : Int) + 1 < mx := of_decide_eq_false c
    refine rd_retK ⟨rfl, _, rfl, p, rfl, ⟨_, hv⟩, ?_⟩
    refine lc_list (fold1 d) (by simp [vG]; exact sizeOk (by omega)) hv (fun i x D zs R hi hD r => ?_) (fun D hD => ?_)
    · unfold vG at hi
      rw [List.getElem?_map] at hi
      obtain ⟨x', hx', rfl⟩ := Option.map_eq_some_iff.mp hi
      refine (pv_if (v := fold1 d (V.int (x' : Nat))) (b := decide ((d : Int) < (x' : Nat))) (pb_test (pv_op (pv_var rfl) (pv_var rfl))) (fun z => ?_) (fun z => ?_)) R r
      · have e : fold1 d (V.int (x' : Nat)) = V.str "x" := by unfold fold1; dsimp only; rw [z]; rfl
        rw [e]; exact pv_c
      · have e : fold1 d (V.int (x' : Nat)) = V.str "." := by unfold fold1; dsimp only; rw [z]; rfl
        rw [e]; exact pv_c
    · refine ⟨"", D, (foldL (gapsL l) d).map signS, rfl, rfl, SqL.of ?_, joinOk_rows _ (by simp [foldL]; omega), ?_⟩
      · rw [upd_same, fold1_map]
      · rw [join_rows]
        refine qF hc d hd hm (fun x hx => ?_) _ (g1.trans (same_new hD _))
        have := amx _ (List.mem_map.mpr ⟨x, hx, rfl⟩)
        omega

end
end K05

set_option maxHeartbeats 4000000
namespace K05
open PySem L2 Eb
section
variable {P : Program} {w : World} {K : PySem.W.Frag} {mg : Str → Option Value} {base : Heap} {f CB C : Addr} {fd : FuncData}

abbrev s_law_reckoned : Stmt := top 17
theorem sc_law_reckoned : FnScope ["_law_beats", "_law_places", "_law_shift", "_law_many", "_law_rest", "_law_signs", "_law_at"] ["_law_beats", "_law_places", "_law_shift", "_law_many"] (defScope s_law_reckoned) := ⟨rfl, rfl, rfl, by decide +kernel, rfl, by decide +kernel, by decide +kernel⟩
theorem ok_law_reckoned (M : Md K mg CB) (F : Fun K "_law_reckoned" "_law_reckoned" s_law_reckoned f fd) : FnOk P w K mg base (CXE P w) 1 f fd ["_law_beats", "_law_places", "_law_shift", "_law_many"] sp_law_reckoned := by
  refine F.okN sc_law_reckoned (fun vs H Q E h => ?_) (fun cdv A outer s H vs Q E hr h => ?_)
  · obtain ⟨b, p, sh, m, rfl, _⟩ := h; rfl
  obtain ⟨b, p, sh, m, rfl, hp, hm, hm2, q⟩ := h
  have nd := sc_law_reckoned.nd
  have hp' : (0 : Int) < p := by omega
  refine ⟨_, (pss_cons (ps_set (i := 4) nd rfl (Or.inl rfl) (pe_op op_mod (pv 2) (pv 1)))
    (pss_cons (ps_set (i := 5) nd rfl (Or.inl rfl) (pe_lst pa_nil))
    (pss_cons (ps_for PassesOwn.never rfl (pi_range1 rfl M.b_range (pa_cons (pv 3) pa_nil)) (pg_name (i := 6) nd rfl (Or.inl rfl) (Or.inl rfl))
      (pss_cons (ps_expr (pe_bm PySem.F.plainAttrs_list PySem.F.slot_list_append PySem.F.type_list_append mt_append (pv 5) (pa_cons (pe_ifExp (pt_cmpR op_lt (pv 4) (pv 0) (nomark _)) pe_str pe_str) pa_nil)))
      (pss_one (ps_set (i := 4) nd rfl (Or.inl rfl) (pe_op op_mod (pe_op op_add (pv 4) (pv 0)) (pv 1))))))
    (pss_one (ps_ret (pe_bm PySem.F.plainAttrs_str PySem.F.slot_str_join PySem.F.type_str_join mt_join pe_str (pa_cons (pv 5) pa_nil))))))), ?_⟩
  refine ⟨_, rfl, _, rfl, sh, p, rfl, rfl, hp', ?_⟩
  refine ⟨(by show 0 ≤ sizeLine; decide), fun l hl => ?_⟩
  refine ⟨_, rfl, m, rfl, by omega, by omega, ?_⟩
  refine for_range (n := m.toNat) (fun i σ H' => (∃ z, σ = [some (.int b), some (.int p), some (.int sh), some (.int m), some (.int ((sh + (i : Int) * b) % p)), some (.ref l), z]) ∧ H' = upd H l (.lst ((reck b p sh i).map fun x => V.str (signS x)))) ⟨⟨none, ?_⟩, rfl⟩ (fun i σ H' hi h => ?_) (fun σ H' h => ?_)
  · rw [show (sh + ((0 : Nat) : Int) * b) % p = sh % p by simp]; rfl
  · obtain ⟨⟨z, rfl⟩, rfl⟩ := h
    refine ⟨_, rfl, .inl ⟨rfl, _, SqL.of upd_same⟩, ?_⟩
    have e : (if decide ((sh + (i : Int) * b) % p < b) = true then (V.str "x") else V.str ".") = V.str (signS (decide ((sh + (i : Int) * b) % p < b))) := by
      unfold signS; split <;> rfl
    have go : ∀ x : V, x = V.str (signS (decide ((sh + (i : Int) * b) % p < b))) → rAppend (.ref l) [x] (upd H l (.lst ((reck b p sh i).map fun x => V.str (signS x)))) (fun _ H2 => (tAsg (tOp (rI (fun _ j => 0 < j) fun i j => .int (i % j)) (tOp (rI0 fun i j => .int (i + j)) (tVar 4) (tVar 0)) (tVar 1)) (gName 4))
        { nx := fun σ H' => (∃ z, σ = [some (.int b), some (.int p), some (.int sh), some (.int m), some (.int ((sh + ((i + 1 : Nat) : Int) * b) % p)), some (.ref l), z]) ∧ H' = upd H l (.lst ((reck b p sh (i + 1)).map fun x => V.str (signS x))), rt := Q, bk := fun _ _ => True, ct := fun _ _ => True }
        [some (.int b), some (.int p), some (.int sh), some (.int m), some (.int ((sh + (i : Int) * b) % p)), some (.ref l), some (.int (0 + (i : Nat)))] H2) := by
      intro x hx
      refine ⟨l, _, x, rfl, rfl, upd_same, ?_, ?_⟩
      · rw [List.length_map, reck_length]; exact sizeLt (by omega)
      · refine ⟨_, rfl, _, rfl, _, _, rfl, rfl, _, rfl, _, _, rfl, rfl, hp', ⟨some (.int (0 + (i : Nat))), ?_⟩, ?_⟩
        · rw [← rest_step]; rfl
        · rw [upd_upd, reck_succ, List.map_append, hx]; rfl
    by_cases c : (sh + (i : Int) * b) % p < b
    · refine ⟨_, rfl, _, rfl, _, _, rfl, rfl, _, rfl, ?_⟩
      rw [decide_eq_true c] at e go ⊢
      exact iteT (go _ e)
    · refine ⟨_, rfl, _, rfl, _, _, rfl, rfl, _, rfl, ?_⟩
      rw [decide_eq_false c] at e go ⊢
      exact iteF (go _ e)
  · obtain ⟨⟨z, rfl⟩, rfl⟩ := h
    refine ⟨rfl, _, rfl, "", l, (reck b p sh m.toNat).map signS, rfl, rfl, SqL.of ?_, joinOk_rows _ (by rw [reck_length]; omega), ?_⟩
    · rw [upd_same, List.map_map]; rfl
    · rw [join_rows]
      exact q _ (same_new hl _)


abbrev s_law_drawn : Stmt := top 18
theorem sc_law_drawn : FnScope ["_law_script", "_law_many", "_law_mixed", "_law_kind", "_law_beats", "_law_ring", "_law_one", "_law_other", "_law_signs"] ["_law_script"] (defScope s_law_drawn) := ⟨rfl, rfl, rfl, by decide +kernel, rfl, by decide +kernel, by decide +kernel⟩
theorem ok_law_drawn (M : Md K mg CB) (F__law_reckoned : Kn P w K mg base 1 "_law_reckoned" ["_law_beats", "_law_places", "_law_shift", "_law_many"] sp_law_reckoned)
    (F : Fun K "_law_drawn" "_law_drawn" s_law_drawn f fd) : FnOk P w K mg base (CXE P w) 2 f fd ["_law_script"] (sp_drawn K) := by
  refine F.okN sc_law_drawn (fun vs H Q E h => ?_) (fun cdv A outer s H vs Q E hr h => ?_)
  · obtain ⟨a, ns, rfl, _⟩ := h; rfl
  obtain ⟨a, ns, rfl, hS, h1, h63, q⟩ := h
  have nd := sc_law_drawn.nd
  have hl : (ns.map V.int).length = ns.length := List.length_map _
  refine ⟨_, (pss_cons (ps_set (i := 1) nd rfl (Or.inl rfl) (pe_callB call_len_seq rfl M.b_len bo_len (pa_cons (pv 0) pa_nil)))
    (pss_cons (ps_set (i := 2) nd rfl (Or.inl rfl) (pe_callB (call_sum rfl) rfl M.b_sum bo_sum (pa_cons (pv 0) pa_nil)))
    (pss_cons (ps_set (i := 3) nd rfl (Or.inl rfl) (pe_op op_mod (pv 2) pe_int))
    (pss_cons (ps_if (pt_cmpR op_eq (pv 3) pe_int (nomark _)) (pss_one (ps_ret (pe_bm PySem.F.plainAttrs_str PySem.F.slot_str_join PySem.F.type_str_join mt_join pe_str (pa_cons (pe_lc (js := []) (ys := []) (cl := []) (pi_list (pv 0))
        ⟨rfl, by decide +kernel, rfl, by decide +kernel, rfl, by decide +kernel, trivial, ⟨.inl rfl, .inl rfl, trivial⟩, trivial, rfl⟩ rfl (fun _ _ _ _ => (pe_ix (r := rIxS) ix_str pe_str (pe_op op_mod (pv 0) pe_int) (fun _ _ => rfl)))) pa_nil)))) pss_nil)
    (pss_cons (ps_set (i := 4) nd rfl (Or.inl rfl) (pe_op op_mod (pe_ix ix_list (pv 0) (pe_op op_mod (pe_op op_fdiv (pv 2) pe_int) (pv 1)) (fun _ _ => rfl)) (pe_op op_add (pv 1) pe_int)))
    (pss_cons (ps_set (i := 5) nd rfl (Or.inl rfl) (pe_fn F__law_reckoned (hr.mono (by decide)) (pa_cons (pv 4) (pa_cons (pv 1) (pa_cons (pe_op op_mulG (pe_op op_fdiv (pv 2) pe_int) (pv 4)) (pa_cons (pv 1) pa_nil))))))
    (pss_cons (ps_set (i := 6) nd rfl (Or.inl rfl) (pe_op op_mod (pe_ix ix_list (pv 0) pe_int (fun _ _ => rfl)) (pv 1)))
    (pss_cons (ps_set (i := 7) nd rfl (Or.inl rfl) (pe_op op_mod (pe_op op_fdiv (pe_ix ix_list (pv 0) (pe_un un_neg pe_int) (fun _ _ => rfl)) pe_int) (pv 1)))
    (pss_cons (ps_if (pt_cmpR op_eq (pv 3) pe_int (nomark _)) (pss_cons (ps_set (i := 8) nd rfl (Or.inl rfl) (pe_callTy (call_list_str' rfl) rfl M.b_list bo_list (pa_cons (pv 5) pa_nil)))
      (pss_cons (ps_asg (pe_ix ix_str (pv 5) (pv 7) (fun _ _ => rfl)) (pg_sub (pv 8) (pv 6) set_list))
      (pss_cons (ps_asg (pe_ix ix_str (pv 5) (pv 6) (fun _ _ => rfl)) (pg_sub (pv 8) (pv 7) set_list))
      (pss_one (ps_ret (pe_bm PySem.F.plainAttrs_str PySem.F.slot_str_join PySem.F.type_str_join mt_join pe_str (pa_cons (pv 8) pa_nil))))))) pss_nil)
    (pss_cons (ps_if (pt_cmpR op_eq (pv 3) pe_int (nomark _)) (pss_one (ps_ret (pe_op op_add_str (pe_op op_add_str (pe_slice sl_str (pv 5) po_none (po_some (pv 6))) pe_str) (pe_slice sl_str (pv 5) (po_some (pe_op op_add (pv 6) pe_int)) po_none)))) pss_nil)
    (pss_one (ps_ret (pv 5))))))))))))), ?_⟩
  refine rd_setK ⟨_, rfl, a, _, rfl, .inl hS, ?_⟩
  refine rd_setK ⟨_, rfl, a, ns, rfl, hS, ?_⟩
  dsimp only
  rw [hl]
  obtain ⟨n, hn⟩ : ∃ n : Int, n = (ns.length : Int) := ⟨_, rfl⟩
  obtain ⟨mx, hmx⟩ : ∃ mx : Int, mx = ns.sum := ⟨_, rfl⟩
  rw [← hn, ← hmx]
  refine rd_set (pv_opC (pv_var rfl) pv_c (by show (0 : Int) < 5; decide)) ?_
  refine rd_ifn (pb_test (pv_eq (pv_var rfl) pv_c rfl)) (fun c => ?_) (fun c0 => ?_)
  · refine rd_retK ⟨rfl, _, rfl, a, rfl, ⟨_, hS⟩, ?_⟩
    refine lc_list cellS (by rw [hl]; exact sizeOk (by omega)) hS (fun i x D zs R hi hD r => ?_) (fun D hD => ?_)
    · obtain ⟨v, hv, rfl⟩ : ∃ v, v ∈ ns ∧ V.int v = x := List.mem_map.mp (List.mem_of_getElem? hi)
      refine (pv_ixS pv_c (pv_opC (pv_var rfl) pv_c (by show (0 : Int) < 2; decide)) (by decide +kernel) (dotx v)) _ ?_
      rw [sign_sg]
      exact r
    · refine ⟨"", D, (ns.map fun v => decide (v % 2 = 1)).map signS, rfl, rfl, SqL.of ?_, joinOk_rows _ (by rw [List.length_map]; omega), ?_⟩
      · rw [upd_same, List.map_map, List.map_map, List.map_map]; rfl
      · rw [join_rows]
        exact q _ _ (List.length_map _) (same_new hD _)
  have hn0 : 0 < n := by omega
  have i0 := Int.emod_nonneg (mx / 5) (by omega : n ≠ 0)
  have i1 := Int.emod_lt_of_pos (mx / 5) hn0
  obtain ⟨v0, hv0⟩ := cell_at ns (mx / 5 % n) i0 (by omega)
  refine rd_set (pv_opC (pv_ixL (pv_var rfl) (pv_opC (pv_opC (pv_var rfl) pv_c ⟨by decide, by decide⟩) (pv_var rfl) hn0) hS hv0) (pv_op (pv_var rfl) pv_c) (by show (0 : Int) < n + 1; omega)) ?_
  have b0 := Int.emod_nonneg v0 (by omega : n + 1 ≠ 0)
  have b1 := Int.emod_lt_of_pos v0 (by omega : 0 < n + 1)
  obtain ⟨b, hb⟩ : ∃ b : Int, b = v0 % (n + 1) := ⟨_, rfl⟩
  rw [← hb] at b0 b1 ⊢
  refine rd_setK ((pa_1 (pv_var rfl) (pa_1 (pv_var rfl) (pa_1 (pv_opC (pv_opC (pv_var rfl) pv_c ⟨by decide, by decide⟩) (pv_var rfl) (IntMulOk.of_right (intBits_le_64 (by omega) (by omega)))) (pa_1 (pv_var rfl) pa_0)))) _ ⟨b, n, mx / 5 * b, n, rfl, by omega, by omega, by omega, fun H1 g1 => ?_⟩)
  obtain ⟨r, hr'⟩ : ∃ r : List Bool, r = reck b n (mx / 5 * b) n.toNat := ⟨_, rfl⟩
  rw [← hr']
  have rl : r.length = ns.length := by rw [hr', reck_length]; omega
  have S1 : SqL K H1 a (ns.map V.int) := g1.seq hS
  have hz : (rowS r).length ≤ sizeLine := by rw [rowS_length]; exact sizeOk (by omega)
  obtain ⟨v1, hv1⟩ := cell_at ns 0 (by omega) (by omega)
  obtain ⟨v2, hv2⟩ := cell_last ns h1
  refine rd_set (pv_opC (pv_ixL (pv_var rfl) pv_c S1 hv1) (pv_var rfl) hn0) ?_
  refine rd_set (pv_opC (pv_opC (pv_ixL (pv_var rfl) (pv_neg pv_c) S1 hv2) pv_c ⟨by decide, by decide⟩) (pv_var rfl) hn0) ?_
  have o0 := Int.emod_nonneg v1 (by omega : n ≠ 0)
  have o1 := Int.emod_lt_of_pos v1 hn0
  have t0 := Int.emod_nonneg (v2 / 3) (by omega : n ≠ 0)
  have t1 := Int.emod_lt_of_pos (v2 / 3) hn0
  obtain ⟨o, ho⟩ : ∃ o : Int, o = v1 % n := ⟨_, rfl⟩
  obtain ⟨t, ht⟩ : ∃ t : Int, t = v2 / 3 % n := ⟨_, rfl⟩
  rw [← ho] at o0 o1 ⊢
  rw [← ht] at t0 t1 ⊢
  obtain ⟨x1, gx1, ax1⟩ := ix_row r o o0 (by omega)
  obtain ⟨x2, gx2, ax2⟩ := ix_row r t t0 (by omega)
  refine rd_ifn (pb_test (pv_eq (pv_var rfl) pv_c rfl)) (fun c => ?_) (fun c3 => ?_)
  · refine rd_setK ⟨_, rfl, _, rfl, by rw [rowS_size]; exact sizeOk (by omega), fun p hp => ?_⟩
    dsimp only
    rw [chars_row]
    refine (pv_ixS (pv_var rfl) (pv_var rfl) hz ax2) _ ⟨_, rfl, _, rfl, p, _, o, o.toNat, rfl, rfl, upd_same, ixN_ok _ _ o0 (by rw [List.length_map]; omega), ?_⟩
    refine (pv_ixS (pv_var rfl) (pv_var rfl) hz ax1) _ ⟨_, rfl, _, rfl, p, _, t, t.toNat, rfl, rfl, upd_same, ixN_ok _ _ t0 (by rw [List.length_set, List.length_map]; omega), ?_⟩
    dsimp only
    refine rd_retK ⟨rfl, _, rfl, "", p, ((r.set o.toNat x2).set t.toNat x1).map signS, rfl, rfl, SqL.of ?_, joinOk_rows _ (by rw [List.length_set, List.length_set]; omega), ?_⟩
    · rw [upd_same, sign_sg, sign_sg, List.map_map]
      show _ = some (HO.lst (((r.set o.toNat x2).set t.toNat x1).map fun b => V.str (signS b)))
      rw [List.map_set, List.map_set]
    · rw [join_rows]
      refine q _ _ (by rw [List.length_set, List.length_set]; exact rl) (g1.trans fun y u e => ?_)
      rw [upd_upd, upd_upd]
      exact same_new hp _ y u e
  refine rd_ifn (pb_test (pv_eq (pv_var rfl) pv_c rfl)) (fun c => ?_) (fun c4 => ?_)
  · have lx : ("x" : Str).length = 1 := by decide +kernel
    have ex : ("x" : Str) = rowS [true] := by decide +kernel
    refine rd_ret (pv_strcat (pv_strcat (pv_slTo (pv_var rfl) (pv_var rfl) hz) pv_c ?_) (pv_slFrom (pv_var rfl) (pv_op (pv_var rfl) pv_c) hz) ?_) ?_
    · rw [slice_to r o o0 (by omega), rowS_length, lx, List.length_take]; exact sizeOk (by omega)
    · rw [slice_to r o o0 (by omega), slice_from r (o + 1) (by omega) (by omega), ex, rowS_append, rowS_length, rowS_length, List.length_append, List.length_take, List.length_drop]
      exact sizeOk (by simp; omega)
    · rw [slice_to r o o0 (by omega), slice_from r (o + 1) (by omega) (by omega), ex, rowS_append, rowS_append]
      refine q _ _ ?_ g1
      rw [List.length_append, List.length_append, List.length_take, List.length_drop]
      simp
      omega
  exact rd_ret (pv_var rfl) (q _ _ rl g1)
end
end K05


set_option maxHeartbeats 4000000
namespace K05
open PySem L2 Eb
section
variable {P : Program} {w : World} {K : PySem.W.Frag} {mg : Str → Option Value} {base : Heap} {f CB : Addr} {fd : FuncData}

abbrev s_law_sums : Stmt := top 19
theorem sc_law_sums : FnScope ["_law_row", "_law_found", "_law_sign"] ["_law_row"] (defScope s_law_sums) := ⟨rfl, rfl, rfl, by decide +kernel, rfl, by decide +kernel, by decide +kernel⟩
theorem ok_law_sums (F : Fun K "_law_sums" "_law_sums" s_law_sums f fd) : FnOk P w K mg base (CXE P w) 1 f fd ["_law_row"] sp_law_sums := by
  refine F.okN sc_law_sums (fun vs H Q E h => ?_) (fun cdv A outer s H vs Q E hr h => ?_)
  · obtain ⟨l, rfl, _⟩ := h; rfl
  obtain ⟨r, rfl, hl, q⟩ := h
  have nd := sc_law_sums.nd
  refine ⟨_, (pss_cons (ps_set (i := 1) nd rfl (Or.inl rfl) (pe_lst (pa_cons pe_int pa_nil)))
    (pss_cons (ps_for PassesOwn.never rfl (pi_str (pv 0)) (pg_name (i := 2) nd rfl (Or.inl rfl) (Or.inl rfl))
      (pss_one (ps_expr (pe_bm PySem.F.plainAttrs_list PySem.F.slot_list_append PySem.F.type_list_append mt_append (pv 1) (pa_cons (pe_op op_add (pe_ix ix_list (pv 1) (pe_un un_neg pe_int) (fun _ _ => rfl)) (pe_ifExp (pt_cmpR op_eq (pv 2) pe_str (nomark _)) pe_int pe_int)) pa_nil)))))
    (pss_one (ps_ret (pv 1))))), ?_⟩
  refine ⟨(by show 1 ≤ sizeLine; decide), fun l hl' => ?_⟩
  refine ⟨_, rfl, rowS r, rfl, rowS_ascii r, ?_⟩
  refine for_str (fun i σ H' => (∃ z, σ = [some (.str (rowS r)), some (.ref l), z]) ∧ H' = upd H l (.lst (((List.range (i + 1)).map fun (k : Nat) => pre r k).map V.int))) ⟨⟨_, rfl⟩, ?_⟩ (fun i c σ H' hc h => ?_) (fun σ H' h => ?_)
  · congr 2
  · obtain ⟨⟨z, rfl⟩, rfl⟩ := h
    obtain ⟨b, hb, rfl⟩ := rowS_get r i c hc
    have hi : i < r.length := by
      have := List.getElem?_eq_some_iff.mp hb
      exact this.1
    refine ⟨_, rfl, .inl ⟨rfl, _, SqL.of upd_same⟩, ?_⟩
    have hat : atI (((List.range (i + 1)).map fun (k : Nat) => pre r k).map V.int) (-1) = some (.int (pre r i)) := by
      rw [List.range_succ, List.map_append, List.map_append]
      exact atI_last _ _
    refine ⟨_, rfl, _, rfl, l, _, _, _, rfl, rfl, SqL.of upd_same, hat, ?_⟩
    refine ⟨_, rfl, rfl, _, rfl, ?_⟩
    have go : ∀ n : Int, n = (if b then 1 else 0) → (rI0 fun i j => V.int (i + j)) (.int (pre r i)) (.int n) (upd H l (.lst (((List.range (i + 1)).map fun (k : Nat) => pre r k).map V.int)))
        (fun x H2 => rAppend (.ref l) [x] H2 fun _ H3 => (∃ z, [some (.str (rowS r)), some (.ref l), some (V.str ⟨#[sg b]⟩)] = [some (.str (rowS r)), some (.ref l), z]) ∧ H3 = upd H l (.lst (((List.range (i + 1 + 1)).map fun (k : Nat) => pre r k).map V.int))) := by
      intro n hn
      refine ⟨_, _, rfl, rfl, l, _, _, rfl, rfl, upd_same, ?_, ⟨_, rfl⟩, ?_⟩
      · simp only [List.length_map, List.length_range]; exact sizeLt (by omega)
      · dsimp only
        rw [upd_upd, List.range_succ (n := i + 1), List.map_append, List.map_append, hn, ← pre_succ r i b hb]; rfl
    cases b
    · have e : decide (V.str (⟨#[sg false]⟩ : Str) = V.str "x") = false := by decide +kernel
      rw [e]
      exact iteF (go 0 rfl)
    · have e : decide (V.str (⟨#[sg true]⟩ : Str) = V.str "x") = true := by decide +kernel
      rw [e]
      exact iteT (go 1 rfl)
  · obtain ⟨⟨z, rfl⟩, rfl⟩ := h
    refine ⟨_, rfl, q l _ (same_new hl' _) ?_⟩
    rw [upd_same, rowS_size]; rfl
end
end K05

set_option maxHeartbeats 4000000
namespace K05
open PySem L2 Eb
section
variable {P : Program} {w : World} {K : PySem.W.Frag} {mg : Str → Option Value} {base : Heap} {f CB : Addr} {fd : FuncData}

abbrev s_law_is_even : Stmt := top 20
theorem sc_law_is_even : FnScope ["_law_ring", "_law_sums_here", "_law_many", "_law_counts"] ["_law_ring"] (defScope s_law_is_even) := ⟨rfl, rfl, rfl, by decide +kernel, rfl, by decide +kernel, by decide +kernel⟩
theorem ok_law_is_even (M : Md K mg CB) (F__law_sums : Kn P w K mg base 1 "_law_sums" ["_law_row"] sp_law_sums) (F : Fun K "_law_is_even" "_law_is_even" s_law_is_even f fd) : FnOk P w K mg base (CXE P w) 2 f fd ["_law_ring"] sp_law_is_even := by
  refine F.okN sc_law_is_even (fun vs H Q E h => ?_) (fun cdv A outer s H vs Q E hr h => ?_)
  · obtain ⟨l, rfl, _⟩ := h; rfl
  obtain ⟨l, rfl, hl1, hl2, q⟩ := h
  have nd := sc_law_is_even.nd
  have hS : (rowS l).length ≤ sizeLine := by rw [rowS_length]; exact sizeOk (by omega)
  refine ⟨_, (pss_cons (ps_set (i := 1) nd rfl (Or.inr rfl) (pe_fn F__law_sums (hr.mono (by decide)) (pa_cons (pe_op op_add_str (pv 0) (pv 0)) pa_nil)))
    (pss_cons (ps_for PassesOwn.never rfl (pi_range2 rfl M.b_range (pa_cons pe_int (pa_cons (pe_callB call_len_str rfl M.b_len bo_len (pa_cons (pv 0) pa_nil)) pa_nil))) (pg_name (i := 2) nd rfl (Or.inr rfl) (Or.inl rfl))
      (pss_cons (ps_lc (js := [1, 2]) (ys := ["_law_sums_here", "_law_many"]) (cl := [("_law_sums_here", s.heap.objs.size + 1), ("_law_many", s.heap.objs.size + 1 + 1)]) (pi_range1 rfl M.b_range (pa_cons (pe_callB call_len_str rfl M.b_len bo_len (pa_cons (pv 0) pa_nil)) pa_nil))
        ⟨rfl, by decide +kernel, rfl, by decide +kernel, rfl, by decide +kernel, ⟨rfl, rfl, trivial⟩, ⟨.inl rfl, .inl rfl, .inr (.inr ⟨_, rfl⟩), .inr (.inr ⟨_, rfl⟩), trivial⟩, ⟨⟨rfl, .inl rfl, .inl rfl⟩, ⟨rfl, .inl rfl, .inl rfl⟩, trivial⟩, rfl⟩ rfl (fun _ _ _ _ => (pe_op op_sub (pe_ix (r := rIxL K) ix_list (pv 1) (pe_op op_add (pv 0) (pv 2)) (fun _ _ => rfl)) (pe_ix (r := rIxL K) ix_list (pv 1) (pv 0) (fun _ _ => rfl)))) (pg_name (i := 3) nd rfl (Or.inl rfl) (Or.inl rfl)))
      (pss_one (ps_if (pt_cmpR op_gt (pe_callB (call_max1 rfl) rfl M.b_max bo_max (pa_cons (pv 3) pa_nil)) (pe_op op_add (pe_callB (call_min1 rfl) rfl M.b_min bo_min (pa_cons (pv 3) pa_nil)) pe_int) (nomark _)) (pss_one (ps_ret pe_bl)) pss_nil))))
    (pss_one (ps_ret pe_bl)))), ?_⟩
  -- sums of the ring told twice
  refine ⟨_, rfl, _, rfl, _, _, rfl, rfl, ?_, l ++ l, ?_, ?_, fun p H1 g1 hp => ?_⟩
  · rw [rowS_length]; exact sizeOk (by omega)
  · rw [rowS_append]; rfl
  · rw [List.length_append]; omega
  refine ⟨_, rfl, rowS l, rfl, hS, _, _, rfl, ⟨by omega, by omega, ?_, ?_⟩, ?_⟩
  · rw [rowS_length]; omega
  · rw [rowS_length]; omega
  refine for_range (fun i σ H' => (∃ x y, σ = [some (.str (rowS l)), some (.ref p), x, y]) ∧ Same H1 H' ∧ ∀ m a b : Nat, 1 ≤ m → m < 1 + i → a < l.length → b < l.length → win l m a ≤ win l m b + 1) ⟨⟨_, _, rfl⟩, Same.refl _, fun m a b h1 h2 => by omega⟩ (fun i σ H' hi h => ?_) (fun σ H' h => ?_)
  · obtain ⟨⟨x, y, rfl⟩, g2, hw⟩ := h
    have hi' : i + 1 < l.length := by
      rw [rowS_length] at hi; omega
    refine ⟨_, rfl, rowS l, rfl, hS, _, rfl, by rw [rowS_length]; omega, by rw [rowS_length]; omega, ?_⟩
    have hpl := g2 _ _ hp
    have at1 : ∀ k : Nat, k ≤ l.length + l.length → atI ((sums (l ++ l)).map V.int) (k : Int) = some (.int (pre (l ++ l) k)) := fun k hk => by
      refine atI_nat ?_
      rw [List.getElem?_map, sums_get _ k (by rw [List.length_append]; exact hk)]; rfl
    refine lc_range (fun k => V.int (win l (1 + i) k)) (by rw [rowS_length]; exact sizeOk (by omega)) (fun k D zs R hk hD r => ?_) (fun D hD => ?_)
    · have hk' : k < l.length := by rw [rowS_length] at hk; omega
      have ne : p ≠ D := fun z => by rw [z, hD] at hpl; cases hpl
      have hpD : upd H' D (.lst zs) p = some (.lst ((sums (l ++ l)).map V.int)) := by rw [upd_ne ne]; exact hpl
      have e1 : (0 : Int) + (k : Nat) + (1 + (i : Nat)) = ((k + (1 + i) : Nat) : Int) := by omega
      have e2 : (0 : Int) + (k : Nat) = ((k : Nat) : Int) := by omega
      have a1 : atI ((sums (l ++ l)).map V.int) ((0 : Int) + (k : Nat) + (1 + (i : Nat))) = some (.int (pre (l ++ l) (k + (1 + i)))) := by rw [e1]; exact at1 _ (by omega)
      have a2 : atI ((sums (l ++ l)).map V.int) ((0 : Int) + (k : Nat)) = some (.int (pre (l ++ l) k)) := by rw [e2]; exact at1 _ (by omega)
      exact ⟨_, rfl, _, rfl, _, rfl, _, _, rfl, rfl, p, _, _, _, rfl, rfl, SqL.of hpD, a1, _, rfl, _, rfl, p, _, _, _, rfl, rfl, SqL.of hpD, a2, _, _, rfl, rfl, r⟩
    · -- the counts
      have hne : 0 < ((List.range (rowS l).length).map fun k => win l (1 + i) k).length := by simp [rowS_length]; omega
      have eL : ((List.range (((rowS l).length : Nat) : Int).toNat).map fun k => V.int (win l (1 + i) k)) = ((List.range (rowS l).length).map fun k => win l (1 + i) k).map V.int := by
        rw [List.map_map]; rfl
      refine ⟨_, rfl, D, (List.range (rowS l).length).map fun k => win l (1 + i) k, rfl, SqL.of (by rw [upd_same, eL]), hne, fun mx hmx amx => ?_⟩
      refine ⟨_, rfl, D, (List.range (rowS l).length).map fun k => win l (1 + i) k, rfl, SqL.of (by rw [upd_same, eL]), hne, fun mn hmn amn => ?_⟩
      refine ⟨_, _, rfl, rfl, _, _, rfl, rfl, _, rfl, ?_⟩
      have mem : ∀ k : Nat, k < l.length → win l (1 + i) k ∈ (List.range (rowS l).length).map fun k => win l (1 + i) k := fun k hk => List.mem_map.mpr ⟨k, List.mem_range.mpr (by rw [rowS_length]; exact hk), rfl⟩
      refine ite2 (fun c => ?_) (fun c => ?_)
      · have c' : mn + 1 < mx := of_decide_eq_true c
        refine q false _ (g1.trans (g2.trans (same_new hD _))) ⟨(fun z => Bool.noConfusion z), fun ev => ?_⟩
        obtain ⟨a, ha, rfl⟩ := List.mem_map.mp hmx
        obtain ⟨b, hb, rfl⟩ := List.mem_map.mp hmn
        rw [List.mem_range, rowS_length] at ha hb
        have := ev (1 + i) a b (by omega) (by omega) ha hb
        omega
      · have c' : ¬ mn + 1 < mx := fun z => c (decide_eq_true z)
        refine ⟨⟨_, _, rfl⟩, g2.trans (same_new hD _), fun m a b h1 h2 ha hb => ?_⟩
        by_cases hm : m < 1 + i
        · exact hw m a b h1 hm ha hb
        · have e : m = 1 + i := by omega
          subst e
          have := amx _ (mem a ha)
          have := amn _ (mem b hb)
          omega
  · obtain ⟨⟨x, y, rfl⟩, g2, hw⟩ := h
    refine q true _ (g1.trans g2) ⟨fun _ m a b h1 h2 ha hb => ?_, fun _ => rfl⟩
    refine hw m a b h1 ?_ ha hb
    rw [rowS_length]; omega

def sp_law (K : PySem.W.Frag) : Sp := fun vs H Q _ => ∃ (a : Addr) (ns : List Int), vs = [.ref a] ∧ SqL K H a (ns.map V.int) ∧ ns.length ≤ 63 ∧ (∀ n ∈ ns, Builtin.Int.intBits n ≤ 2 ^ 20) ∧ ∀ H', Q (.bl true) H'
end
end K05

set_option maxHeartbeats 4000000
namespace K05
open PySem L2 Eb
theorem while_rel {c : TT} {tb : TS} {D : Ends} {σ : St} {H : Hp} (W : Nat → St → Hp → Prop) {m0 : Nat} (h0 : W m0 σ H)
    (hs : ∀ m σ H, W m σ H → c σ H fun b H1 => if b = true then ∃ N : St → Hp → Prop, (∀ σ' H', N σ' H' → ∃ m', m' < m ∧ W m' σ' H') ∧ tb { D with nx := N, ct := N, bk := D.nx } σ H1 else D.nx σ H1) : tWhile c tb D σ H := ⟨W, ⟨m0, h0⟩, hs⟩
section
variable {P : Program} {w : World} {K : PySem.W.Frag} {mg : Str → Option Value} {base : Heap} {f CB CN CU : Addr} {fd : FuncData}
abbrev s_folds : Stmt := top 15
theorem sc_folds : FnScope ["ring", "told"] ["ring"] (defScope s_folds) := ⟨rfl, rfl, rfl, by decide +kernel, rfl, by decide +kernel, by decide +kernel⟩
theorem ok_folds (M : Md K mg CB) (F_check_ring : Kn P w K mg base 3 "check_ring" ["value"] sp_check_ring) (F_folded : Kn P w K mg base 5 "folded" ["ring"] (spx_folded CN CU)) (F : Fun K "folds" "folds" s_folds f fd) : FnOk P w K mg base (CXE P w) 6 f fd ["ring"] (spx_folds CU) := by
  refine F.okX sc_folds (fun vs H Q E h => ?_) (fun cdv A outer s H vs Q E hr h => ?_)
  · obtain ⟨l, rfl, _⟩ := h; rfl
  obtain ⟨l, rfl, h1, h2, qQ, qE⟩ := h
  have nd := sc_folds.nd
  refine ⟨_, (pss_cons (ps_expr (pe_fn F_check_ring (hr.mono (by decide)) (pa_cons (pv 0) pa_nil)))
    (pss_cons (ps_set (i := 1) nd rfl (Or.inl rfl) (pe_lst (pa_cons (pv 0) pa_nil)))
    (pss_cons (ps_while PassesOwn.leaving (pt_cmpR op_in_str (pe_gstr M.c_BEAT) (pe_ix ix_list (pv 1) (pe_un un_neg pe_int) (fun _ _ => rfl)) rfl)
      (pss_one (ps_expr (pe_bm PySem.F.plainAttrs_list PySem.F.slot_list_append PySem.F.type_list_append mt_append (pv 1) (pa_cons (pe_fnX F_folded (hr.mono (by decide)) (pa_cons (pe_ix ix_list (pv 1) (pe_un un_neg pe_int) (fun _ _ => rfl)) pa_nil)) pa_nil)))))
    (pss_one (ps_ret (pv 1)))))), ?_⟩
  refine rd_expr (pv_call (pa_1 (pv_var rfl) pa_0) fun Q' q' => ⟨l, rfl, h1, by omega, q'⟩) ?_
  refine rd_setK (te_lst ((pa_1 (pv_var rfl) pa_0) _ ⟨by show 1 ≤ sizeLine; decide, fun p hp => ?_⟩))
  have hfar : far l ≤ 2 * l.length + 1 := by unfold far; split <;> omega
  refine rd_seq (while_rel (fun m σ H' => ∃ L z, σ = [some (.str (rowS l)), some (.ref p)] ∧ Same H H' ∧ H' p = some (.lst (vR (L ++ [z]))) ∧ Chain l (L ++ [z]) ∧ L.length + far z ≤ far l ∧ m = far z) (m0 := far l) ⟨[], l, rfl, same_new hp _, upd_same, Chain.one h1, by simp, rfl⟩ (fun m σ H' h => ?_))
  obtain ⟨L, z, rfl, g, hL, C, hb, rfl⟩ := h
  have hS : SqL K H' p (vR (L ++ [z])) := SqL.of hL
  obtain ⟨ev, z1, z2⟩ := C.ok z (by simp)
  refine (pb_test (pv_in pv_c (pv_ixL (pv_var rfl) (pv_neg pv_c) hS (vR_last L z)))) _ ?_
  rw [in_x]
  by_cases hc : 1 ≤ cnt z
  · rw [decide_eq_true hc, if_pos rfl]
    refine ⟨fun σ' H2 => ∃ L2 z2, σ' = [some (.str (rowS l)), some (.ref p)] ∧ Same H H2 ∧ H2 p = some (.lst (vR (L2 ++ [z2]))) ∧ Chain l (L2 ++ [z2]) ∧ L2.length + far z2 ≤ far l ∧ far z2 < far z, fun σ' H2 ⟨L2, z2, a1, a2, a3, a4, a5, a6⟩ => ⟨far z2, a6, L2, z2, a1, a2, a3, a4, a5, rfl⟩, ?_⟩
    refine ⟨_, rfl, .inl ⟨rfl, _, hS⟩, ta_cons (te_callE ((pa_1 (pv_ixL (pv_var rfl) (pv_neg pv_c) hS (vR_last L z)) pa_0) _ ⟨z, rfl, z1, by omega, fun _ d hd d1 d2 H2 g2 => ?_, fun c0 => by omega, fun _ d hd d1 d2 H2 g2 => ?_⟩))⟩
    · have hL2 := g2 _ _ hL
      have fd' := far_fold hc hd
      refine ⟨p, _, _, rfl, rfl, hL2, ?_, L ++ [z], foldL (gapsL z) d, rfl, (g.trans g2).upd_none hp, ?_, C.more hc hd d1 d2, ?_, fd'⟩
      · rw [vR_length, List.length_append]
        exact sizeLt (by simp; omega)
      · rw [upd_same]
        simp [vR]
      · rw [List.length_append]; simp; omega
    · refine qE (fun e => ?_) H2 (g.trans g2)
      have := even_alike hc (ev.mp e)
      exact d2 fun x hx => this x hx d hd
  · rw [decide_eq_false hc, if_neg (by decide)]
    have c0 : cnt z = 0 := by have := cnt_nonneg z; omega
    have el : EvAll l := ev.mpr (even_rests z1 c0)
    exact ⟨_, rfl, qQ el p H' L z hp g hL C c0 (by omega)⟩
end
end K05

set_option maxHeartbeats 4000000
namespace K05
open PySem L2 Eb
def sp_refused : Sp := fun vs H Q _ => ∃ l : List Bool, vs = [.str (rowS l)] ∧ 1 ≤ l.length ∧ l.length ≤ 1000 ∧ ¬ EvAll l ∧ ∀ H', Same H H' → Q (.bl true) H'
section
variable {P : Program} {w : World} {K : PySem.W.Frag} {mg : Str → Option Value} {base : Heap} {f CB CT CR CC CN CU : Addr} {fd : FuncData}
abbrev s_law_refused : Stmt := top 21
theorem sc_law_refused : FnScope ["_law_ring", "error", "_law_others"] ["_law_ring"] (defScope s_law_refused) := ⟨rfl, rfl, rfl, by decide +kernel, rfl, by decide +kernel, by decide +kernel⟩
theorem ok_law_refused (M : Md K mg CB) (hany : mg "any" = none) (Z : KX K mg CT CR CC CN CU) (T : KE K CT CR CC CN CU CU false false false true) (F_folds : Kn P w K mg base 6 "folds" ["ring"] (spx_folds CU)) (F : Fun K "_law_refused" "_law_refused" s_law_refused f fd) : FnOk P w K mg base (CXE P w) 7 f fd ["_law_ring"] sp_refused := by
  refine F.okX sc_law_refused (fun vs H Q E h => ?_) (fun cdv A outer s H vs Q E hr h => ?_)
  · obtain ⟨_, rfl, _⟩ := h; rfl
  obtain ⟨l, rfl, h1, h2, hne, q⟩ := h
  have nd := sc_law_refused.nd
  refine ⟨_, (pss_cons (ps_tryE (i := 1) rfl rfl Z.nT (pb_call F_folds (hr.mono (by decide)) (pa_cons (pv 0) pa_nil)) nd rfl rfl (fun ea =>
      (pss_cons (ps_set (i := 2) nd rfl (Or.inl rfl) (pe_lst (pa_cons (pe_callB (call_isiXK K) rfl M.b_isinstance bo_isinstance (pa_cons (pv 1) (pa_cons (pe_gref Z.nR) pa_nil))) (pa_cons (pe_callB (call_isiXK K) rfl M.b_isinstance bo_isinstance (pa_cons (pv 1) (pa_cons (pe_gref Z.nC) pa_nil))) (pa_cons (pe_callB (call_isiXK K) rfl M.b_isinstance bo_isinstance (pa_cons (pv 1) (pa_cons (pe_gref Z.nN) pa_nil))) pa_nil)))))
      (pss_one (ps_ret (pe_and (pe_callB (call_isiXK K) rfl M.b_isinstance bo_isinstance (pa_cons (pv 1) (pa_cons (pe_gref Z.nU) pa_nil))) (pe_and (pe_callB (call_isiXK K) rfl M.b_isinstance bo_isinstance (pa_cons (pv 1) (pa_cons (pe_bty Z.nV bo_ValueError) pa_nil))) (pe_one (pe_not (pe_callB (call_anyH (ea := ea) rfl) rfl hany bo_any (pa_cons (pv 2) pa_nil)))))))))))
    (pss_one (ps_ret pe_bl))), ?_⟩
  refine rd_seq ⟨_, rfl, l, rfl, h1, h2, fun ev => absurd ev hne, fun _ H1 g1 => ⟨CU, rfl, T.ex, fun ea hea => ?_⟩⟩
  have he : (upd H1 ea (ExcO ea CU)) ea = some (ExcO ea CU) := upd_same
  have g2 := g1.trans (same_new hea (ExcO ea CU))
  generalize upd H1 ea (ExcO ea CU) = H2 at he g2
  refine rd_setK (te_lst ((pa_1 (pv_isiX (cv := .ref CR) (cu := .ref CR) (pv_var rfl) rfl he T.ty T.kR) (pa_1 (pv_isiX (cv := .ref CC) (cu := .ref CC) (pv_var rfl) rfl he T.ty T.kC) (pa_1 (pv_isiX (cv := .ref CN) (cu := .ref CN) (pv_var rfl) rfl he T.ty T.kN) pa_0))) _ ⟨by show 3 ≤ sizeLine; decide, fun p hp => ?_⟩))
  have g3 := same_new hp (HO.lst [V.bl false, .bl false, .bl false])
  have L3 : SqL K (upd H2 p (HO.lst [V.bl false, .bl false, .bl false])) p ([false, false, false].map V.bl) := SqL.of upd_same
  generalize upd H2 p (HO.lst [V.bl false, .bl false, .bl false]) = H3 at g3 L3
  have he3 := g3 _ _ he
  exact rd_retK ((pv_and (pv_isiX (cv := .ref CU) (cu := .ref CU) (pv_var rfl) rfl he3 T.ty T.kU) fun _ => pv_and (pv_isiX (cv := .ty "ValueError") (cu := .type "ValueError") (pv_var rfl) rfl he3 T.ty T.kV) fun _ => pv_not (pv_anyH (pv_var rfl) L3 he3)) _ (q _ (g2.trans g3)))
end
end K05

set_option maxHeartbeats 4000000
namespace K05
open PySem L2 Eb
def sp_law_folded : Sp := fun vs H Q _ => ∃ (l : List Bool) (d : Nat), vs = [.str (rowS l)] ∧ 1 ≤ cnt l ∧ l.length ≤ 1000 ∧ d ∈ gapsL l ∧ (∀ x ∈ gapsL l, d ≤ x) ∧ ∀ H', Same H H' → Q (.str (rowS (foldL (gapsL l) d))) H'
section
variable {P : Program} {w : World} {K : PySem.W.Frag} {mg : Str → Option Value} {base : Heap} {f CB : Addr} {fd : FuncData}
abbrev s_law_folded : Stmt := top 22
theorem sc_law_folded : FnScope ["_law_ring", "_law_places", "_law_found"] ["_law_ring"] (defScope s_law_folded) := ⟨rfl, rfl, rfl, by decide +kernel, rfl, by decide +kernel, by decide +kernel⟩
theorem ok_law_folded (M : Md K mg CB) (F : Fun K "_law_folded" "_law_folded" s_law_folded f fd) : FnOk P w K mg base (CXE P w) 1 f fd ["_law_ring"] sp_law_folded := by
  refine F.okN sc_law_folded (fun vs H Q E h => ?_) (fun cdv A outer s H vs Q E hr h => ?_)
  · obtain ⟨l, d, rfl, _⟩ := h; rfl
  obtain ⟨l, d, rfl, hc, h2, hd, hm, q⟩ := h
  have nd := sc_law_folded.nd
  have nd1 : ((["_law_at"] : List Str) ++ (["_law_ring"] : List Str)).Nodup := by decide +kernel
  have hz : (rowS l).length ≤ sizeLine := by rw [rowS_length]; exact sizeOk (by omega)
  have c1 := cnt_le l
  refine ⟨_, (pss_cons (ps_set (i := 1) nd rfl (Or.inr rfl) (pe_lc2 (zs := ["_law_at"]) (ys := ["_law_ring"]) (js := [0]) (cl := [("_law_ring", s.heap.objs.size + 1)]) (pi_range1 rfl M.b_range (pa_cons (pe_callB call_len_str rfl M.b_len bo_len (pa_cons (pv 0) pa_nil)) pa_nil))
        ⟨rfl, by decide +kernel, rfl, by decide +kernel, ⟨rfl, trivial⟩, ⟨.inl rfl, .inl rfl, .inr (.inr ⟨_, rfl⟩), trivial⟩, ⟨⟨rfl, .inl rfl, .inl rfl⟩, trivial⟩, rfl⟩ rfl (fun _ _ _ _ => pg_name (i := 0) nd1 rfl (.inl rfl) (.inr rfl))
        (fun _ _ _ _ => pc_one (pt_cmpR op_eq (pe_ix (r := rIxS) ix_str (pv 1) (pv 0) (fun _ _ => rfl)) pe_str (nomark _))) (fun _ _ _ _ => (pv 0))))
    (pss_cons (ps_set (i := 2) nd rfl (Or.inr rfl) (pe_lc (js := [1]) (ys := ["_law_places"]) (cl := [("_law_places", s.heap.objs.size + 1 + 1)]) (pi_range1 rfl M.b_range (pa_cons (pe_op op_sub (pe_callB call_len_seq rfl M.b_len bo_len (pa_cons (pv 1) pa_nil)) pe_int) pa_nil))
        ⟨rfl, by decide +kernel, rfl, by decide +kernel, rfl, by decide +kernel, ⟨rfl, trivial⟩, ⟨.inl rfl, .inl rfl, .inr (.inr ⟨_, rfl⟩), trivial⟩, ⟨⟨rfl, .inl rfl, .inl rfl⟩, trivial⟩, rfl⟩ rfl (fun _ _ _ _ => (pe_op op_sub (pe_ix (r := rIxL K) ix_list (pv 1) (pe_op op_add (pv 0) pe_int) (fun _ _ => rfl)) (pe_ix (r := rIxL K) ix_list (pv 1) (pv 0) (fun _ _ => rfl))))))
    (pss_cons (ps_expr (pe_bm PySem.F.plainAttrs_list PySem.F.slot_list_append PySem.F.type_list_append mt_append (pv 2) (pa_cons (pe_op op_sub (pe_op op_add (pe_ix ix_list (pv 1) pe_int (fun _ _ => rfl)) (pe_callB call_len_str rfl M.b_len bo_len (pa_cons (pv 0) pa_nil))) (pe_ix ix_list (pv 1) (pe_un un_neg pe_int) (fun _ _ => rfl))) pa_nil)))
    (pss_one (ps_ret (pe_bm PySem.F.plainAttrs_str PySem.F.slot_str_join PySem.F.type_str_join mt_join pe_str (pa_cons (pe_lc (js := [2]) (ys := ["_law_found"]) (cl := [("_law_found", s.heap.objs.size + 1 + 1 + 1)]) (pi_list (pv 2))
        ⟨rfl, by decide +kernel, rfl, by decide +kernel, rfl, by decide +kernel, ⟨rfl, trivial⟩, ⟨.inl rfl, .inl rfl, .inr (.inl rfl), .inr (.inr ⟨_, rfl⟩), trivial⟩, ⟨⟨rfl, .inl rfl, .inl rfl⟩, trivial⟩, rfl⟩ rfl (fun _ _ _ _ => (pe_ifExp (pt_cmpR op_gt (pv 0) (pe_callB (call_min1K K rfl) rfl M.b_min bo_min (pa_cons (pv 1) pa_nil)) (nomark _)) pe_str pe_str))) pa_nil))))))), ?_⟩
  refine rd_setK (ti_rng1 (pa_1 (pv_len (pv_var rfl) hz) pa_0) ⟨_, rfl, by omega, by rw [rowS_length]; omega, ?_⟩)
  rw [rowS_length, show ((l.length : Nat) : Int).toNat = l.length by omega]
  refine lc2_rangeIf (fun i => V.int ((i : Nat) : Int)) (fun i => l.getD i false) (sizeOk (by omega)) (fun i D zs R hi hD r => ?_) (fun i D zs R hi hb hD r => ?_) (fun D hD => ?_)
  · obtain ⟨b, hb, ha⟩ := ix_row l ((0 : Int) + (i : Nat)) (by omega) (by omega)
    have eb : l.getD i false = b := by
      rw [show ((0 : Int) + (i : Nat)).toNat = i by omega] at hb
      rw [List.getD_eq_getElem?_getD, hb]; rfl
    rw [eb] at r
    refine (pb_test (pv_eq (pv_ixS (pv_var rfl) (pv_var rfl) hz ha) pv_c rfl)) R ?_
    rw [sign_sg]
    cases b
    · exact r
    · exact r
  · refine ⟨_, rfl, ?_⟩
    rw [Int.zero_add]; exact r
  rw [pl_range]
  have gD := same_new hD (HO.lst ((pl 0 l).map fun i => V.int ((i : Nat) : Int)))
  have hB0 : upd H D (HO.lst ((pl 0 l).map fun i => V.int ((i : Nat) : Int))) D = some (HO.lst (vG (pl 0 l))) := upd_same
  generalize upd H D (HO.lst ((pl 0 l).map fun i => V.int ((i : Nat) : Int))) = H1 at gD hB0
  have lenP := pl_length l 0
  have vl : ∀ g : List Nat, (vG g).length = g.length := fun g => by simp [vG]
  obtain ⟨f0, r, ep, eg⟩ := gaps_places hc
  have es := gaps_steps ep eg
  rw [ep] at hB0 lenP
  rw [List.length_cons] at lenP
  have hB : SqL K H1 D (vG (f0 :: r)) := SqL.of hB0
  dsimp only
  refine rd_setK (ti_rng1 (pa_1 (pv_op (pv_lenL (pv_var rfl) hB) pv_c) pa_0) ⟨_, rfl, by rw [vl, List.length_cons]; omega, by rw [vl, List.length_cons]; omega, ?_⟩)
  rw [vl, List.length_cons, show (((r.length + 1 : Nat) : Int) - 1).toNat = r.length by omega]
  have at' : ∀ k : Nat, k ≤ r.length → atI (vG (f0 :: r)) ((k : Nat) : Int) = some (.int (((f0 :: r).getD k 0 : Nat) : Int)) := fun k hk => by
    refine atI_nat ?_
    have hk' : k < (f0 :: r).length := by rw [List.length_cons]; omega
    unfold vG
    rw [List.getElem?_map, List.getElem?_eq_getElem hk', List.getD_eq_getElem?_getD, List.getElem?_eq_getElem hk']; rfl
  have step : ∀ k : Nat, k < r.length → (f0 :: r).getD k 0 ≤ (f0 :: r).getD (k + 1) 0 := fun k hk => by
    have hk' : k < (f0 :: r).length := by rw [List.length_cons]; omega
    rw [List.getD_eq_getElem?_getD, List.getD_eq_getElem?_getD, List.getElem?_cons_succ, List.getElem?_eq_getElem hk', List.getElem?_eq_getElem hk]
    exact pl_cons ep k _ _ (List.getElem?_eq_getElem hk') (by rw [List.getElem?_append_left hk, List.getElem?_eq_getElem hk]; rfl)
  have fin : (f0 :: r).getD r.length 0 ≤ f0 + l.length := by
    have hk' : r.length < (f0 :: r).length := by rw [List.length_cons]; omega
    rw [List.getD_eq_getElem?_getD, List.getElem?_eq_getElem hk']
    exact pl_cons ep r.length _ _ (List.getElem?_eq_getElem hk') (by rw [List.getElem?_append_right (Nat.le_refl _)]; simp)
  refine lc_range (fun i => V.int (((f0 :: r).getD (i + 1) 0 - (f0 :: r).getD i 0 : Nat) : Int)) (sizeOk (by omega)) (fun i D2 zs R hi hD2 rr => ?_) (fun D2 hD2 => ?_)
  · have hB' := (same_new hD2 (HO.lst zs)).seq hB
    have a1 : atI (vG (f0 :: r)) ((0 : Int) + (i : Nat) + 1) = some (.int (((f0 :: r).getD (i + 1) 0 : Nat) : Int)) := by
      rw [show (0 : Int) + (i : Nat) + 1 = ((i + 1 : Nat) : Int) by omega]; exact at' (i + 1) (by omega)
    have a2 : atI (vG (f0 :: r)) ((0 : Int) + (i : Nat)) = some (.int (((f0 :: r).getD i 0 : Nat) : Int)) := by
      rw [Int.zero_add]; exact at' i (by omega)
    rw [Int.ofNat_sub (step i hi)] at rr
    exact (pv_op (pv_ixL (pv_var rfl) (pv_op (pv_var rfl) pv_c) hB' a1) (pv_ixL (pv_var rfl) (pv_var rfl) hB' a2)) R rr
  have g2 := same_new hD2 (HO.lst ((List.range r.length).map fun i => V.int (((f0 :: r).getD (i + 1) 0 - (f0 :: r).getD i 0 : Nat) : Int)))
  have hF0 : upd H1 D2 (HO.lst ((List.range r.length).map fun i => V.int (((f0 :: r).getD (i + 1) 0 - (f0 :: r).getD i 0 : Nat) : Int))) D2 = some (HO.lst (vG ((List.range r.length).map fun i => (f0 :: r).getD (i + 1) 0 - (f0 :: r).getD i 0))) := by
    rw [upd_same]; unfold vG; rw [List.map_map]; rfl
  have hn1 := ne_of_none hB0 hD2
  generalize upd H1 D2 (HO.lst ((List.range r.length).map fun i => V.int (((f0 :: r).getD (i + 1) 0 - (f0 :: r).getD i 0 : Nat) : Int))) = H2 at g2 hF0
  have hB2 := g2.seq hB
  have a0 : atI (vG (f0 :: r)) ((0 : Nat) : Int) = some (.int (f0 : Nat)) := at' 0 (by omega)
  have aL : atI (vG (f0 :: r)) (-1) = some (.int (((f0 :: r).getD r.length 0 : Nat) : Int)) := by
    obtain ⟨ys, y, ey⟩ : ∃ ys y, f0 :: r = ys ++ [y] := ⟨_, _, (List.dropLast_concat_getLast (by simp)).symm⟩
    have el : r.length = ys.length := by have := congrArg List.length ey; simp at this; omega
    rw [ey, el]
    unfold vG
    rw [List.map_append, List.getD_eq_getElem?_getD, List.getElem?_append_right (Nat.le_refl _)]
    simpa using atI_last _ _
  refine rd_exprK ⟨_, rfl, .inl ⟨rfl, _, SqL.of hF0⟩, ?_⟩
  refine (pa_1 (pv_op (pv_op (pv_ixL (pv_var rfl) pv_c hB2 a0) (pv_len (pv_var rfl) hz)) (pv_ixL (pv_var rfl) (pv_neg pv_c) hB2 aL)) pa_0) _ ⟨D2, _, _, rfl, rfl, hF0, by rw [vl, List.length_map, List.length_range]; exact sizeLt (by omega), ?_⟩
  rw [rowS_length, show (f0 : Int) + (l.length : Int) - (((f0 :: r).getD r.length 0 : Nat) : Int) = ((f0 + l.length - (f0 :: r).getD r.length 0 : Nat) : Int) by omega]
  have hG0 : upd H2 D2 (HO.lst (vG ((List.range r.length).map fun i => (f0 :: r).getD (i + 1) 0 - (f0 :: r).getD i 0) ++ [V.int ((f0 + l.length - (f0 :: r).getD r.length 0 : Nat) : Int)])) D2 = some (HO.lst (vG (gapsL l))) := by
    rw [upd_same, es]; simp [vG]
  have g3 : Same H (upd H2 D2 (HO.lst (vG ((List.range r.length).map fun i => (f0 :: r).getD (i + 1) 0 - (f0 :: r).getD i 0) ++ [V.int ((f0 + l.length - (f0 :: r).getD r.length 0 : Nat) : Int)]))) := (gD.trans g2).upd_none (by
    cases e : H D2 with
    | none => rfl
    | some o => rw [gD _ _ e] at hD2; cases hD2)
  generalize upd H2 D2 (HO.lst (vG ((List.range r.length).map fun i => (f0 :: r).getD (i + 1) 0 - (f0 :: r).getD i 0) ++ [V.int ((f0 + l.length - (f0 :: r).getD r.length 0 : Nat) : Int)])) = H3 at hG0 g3
  have hv : SqL K H3 D2 (vG (gapsL l)) := SqL.of hG0
  have hi : SqL K H3 D2 (((gapsL l).map fun x => ((x : Nat) : Int)).map V.int) := SqL.of (by rw [hG0, vG_map])
  have lg := gapsL_len hc
  refine rd_retK ⟨rfl, _, rfl, D2, rfl, ⟨_, hv⟩, ?_⟩
  refine lc_list (fold1 d) (by rw [vl]; exact sizeOk (by omega)) hv (fun i x D4 zs R hx hD4 rr => ?_) (fun D4 hD4 => ?_)
  · unfold vG at hx
    rw [List.getElem?_map] at hx
    obtain ⟨x', hx', rfl⟩ := Option.map_eq_some_iff.mp hx
    have hi' := (same_new hD4 (HO.lst zs)).seq hi
    refine (pv_if (v := fold1 d (V.int (x' : Nat))) (b := decide ((d : Int) < (x' : Nat))) (pb_test (pv_op (pv_var rfl) (pv_min1 (m := (d : Int)) (pv_var rfl) hi' (List.mem_map.mpr ⟨d, hd, rfl⟩) (fun a ha => by
      obtain ⟨y, hy, rfl⟩ := List.mem_map.mp ha
      have := hm y hy; omega)))) (fun z => ?_) (fun z => ?_)) R rr
    · have e : fold1 d (V.int (x' : Nat)) = V.str "x" := by unfold fold1; dsimp only; rw [z]; rfl
      rw [e]; exact pv_c
    · have e : fold1 d (V.int (x' : Nat)) = V.str "." := by unfold fold1; dsimp only; rw [z]; rfl
      rw [e]; exact pv_c
  · refine ⟨"", D4, (foldL (gapsL l) d).map signS, rfl, rfl, SqL.of ?_, joinOk_rows _ (by simp [foldL]; omega), ?_⟩
    · rw [upd_same, fold1_map]
    · rw [join_rows]
      exact q _ (g3.trans (same_new hD4 _))
end
end K05

set_option maxHeartbeats 4000000
namespace K05
open PySem L2 Eb
section
variable {P : Program} {w : World} {K : PySem.W.Frag} {mg : Str → Option Value} {base : Heap} {f CB CU : Addr} {fd : FuncData}
abbrev s_law : Stmt := top 23
theorem sc_law : FnScope ["_law_script", "_law_ring", "_law_again", "_law_found", "_law_at"] ["_law_script"] (defScope s_law) := ⟨rfl, rfl, rfl, by decide +kernel, rfl, by decide +kernel, by decide +kernel⟩
theorem ok_law (M : Md K mg CB) (F__law_drawn : Kn P w K mg base 2 "_law_drawn" ["_law_script"] (sp_drawn K)) (F__law_is_even : Kn P w K mg base 2 "_law_is_even" ["_law_ring"] sp_law_is_even) (F__law_refused : Kn P w K mg base 7 "_law_refused" ["_law_ring"] sp_refused)
    (F_folds : Kn P w K mg base 6 "folds" ["ring"] (spx_folds CU)) (F__law_folded : Kn P w K mg base 1 "_law_folded" ["_law_ring"] sp_law_folded) (F : Fun K "law" "law" s_law f fd) : FnOk P w K mg base (CXE P w) 8 f fd ["_law_script"] (sp_law K) := by
  refine F.okN sc_law (fun vs H Q E h => ?_) (fun cdv A outer s H vs Q E hr h => ?_)
  · obtain ⟨a, ns, rfl, _⟩ := h; rfl
  obtain ⟨a, ns, rfl, hS, h63, _, q⟩ := h
  have nd := sc_law.nd
  refine ⟨_, (pss_cons (ps_if (pt_cmpR (op_eq_list hr.units) (pv 0) (pe_lst pa_nil) (nomark _)) (pss_one (ps_ret pe_bl)) pss_nil)
    (pss_cons (ps_set (i := 1) nd rfl (Or.inl rfl) (pe_fn F__law_drawn (hr.mono (by decide)) (pa_cons (pv 0) pa_nil)))
    (pss_cons (ps_if (pt_not (pt_val (pe_fn F__law_is_even (hr.mono (by decide)) (pa_cons (pv 1) pa_nil)))) (pss_one (ps_ret (pe_fn F__law_refused (hr.mono (by decide)) (pa_cons (pv 1) pa_nil)))) pss_nil)
    (pss_cons (ps_for PassesOwn.never rfl (pi_range1 rfl M.b_range (pa_cons pe_int pa_nil)) (pg_name (i := 2) nd rfl (Or.inl rfl) (Or.inl rfl))
      (pss_cons (ps_set (i := 3) nd rfl (Or.inl rfl) (pe_fn F_folds (hr.mono (by decide)) (pa_cons (pv 1) pa_nil)))
      (pss_cons (ps_if (PW.pt (pw_or (pt_not (pt_val (pe_callB call_isi rfl M.b_isinstance bo_isinstance (pa_cons (pv 3) (pa_cons (pe_bty M.b_list bo_list) pa_nil))))) (pw_or (pt_cmpR (flatS.ne hr.units) (pe_slice sl_list (pv 3) po_none (po_some pe_int)) (pe_lst (pa_cons (pv 1) pa_nil)) (nomark _)) (pw_or1 (pt_cmpR op_in_str pe_str (pe_ix ix_list (pv 3) (pe_un un_neg pe_int) (fun _ _ => rfl)) rfl))))) (pss_one (ps_ret pe_bl)) pss_nil)
      (pss_cons (ps_for PassesOwn.never rfl (pi_range1 rfl M.b_range (pa_cons (pe_op op_sub (pe_callB call_len_seq rfl M.b_len bo_len (pa_cons (pv 3) pa_nil)) pe_int) pa_nil)) (pg_name (i := 4) nd rfl (Or.inl rfl) (Or.inl rfl))
        (pss_one (ps_if (PW.pt (pw_or (pt_cmpR op_notIn_str pe_str (pe_ix ix_list (pv 3) (pv 4) (fun _ _ => rfl)) rfl) (pw_or (pt_cmpR op_ne (pe_ix ix_list (pv 3) (pe_op op_add (pv 4) pe_int) (fun _ _ => rfl)) (pe_fn F__law_folded (hr.mono (by decide)) (pa_cons (pe_ix ix_list (pv 3) (pv 4) (fun _ _ => rfl)) pa_nil)) (nomark _)) (pw_or1 (pt_not (pt_val (pe_fn F__law_is_even (hr.mono (by decide)) (pa_cons (pe_ix ix_list (pv 3) (pe_op op_add (pv 4) pe_int) (fun _ _ => rfl)) pa_nil)))))))) (pss_one (ps_ret pe_bl)) pss_nil)))
      (pss_one (ps_expr (pe_bm PySem.F.plainAttrs_list PySem.F.slot_list_append PySem.F.type_list_append mt_append (pv 3) (pa_cons pe_str pa_nil))))))))
    (pss_one (ps_ret pe_bl)))))), ?_⟩
  refine rd_ifK ⟨_, rfl, by show 0 ≤ sizeLine; decide, fun p hp => ⟨a, p, ns, [], rfl, rfl, (same_new hp _).seq hS, SqL.of upd_same, _, rfl, iteD (fun c => ?_) (fun c => ?_)⟩⟩
  · exact rd_ret pv_c (q _)
  have h1 : 1 ≤ ns.length := by
    cases ns with
    | nil => exact absurd rfl c
    | cons _ _ => simp
  have S1 := (same_new hp (HO.lst [])).seq hS
  generalize upd H p (HO.lst []) = H0 at S1
  refine rd_setK ⟨_, rfl, a, ns, rfl, S1, h1, h63, fun l H1 hl g1 => ?_⟩
  have hn : 1 ≤ l.length := by omega
  refine rd_ifK (tt_notB (te_call ⟨_, rfl, l, rfl, hn, by omega, fun b H2 g2 hb => ⟨b, rfl, ?_⟩⟩))
  have hb' : b = true ↔ EvAll l := hb.trans (ev_evAll hn)
  cases b with
  | false =>
    have ne : ¬ EvAll l := fun z => by have := hb'.mpr z; cases this
    refine iteT ?_
    exact rd_retK (te_call ⟨_, rfl, l, rfl, hn, by omega, ne, fun H3 _ => q _⟩)
  | true =>
    have ev : EvAll l := hb'.mp rfl
    refine iteF ?_
    refine rd_seq (ti_rng1 (pa_1 pv_c pa_0) ⟨2, rfl, by decide, by decide, ?_⟩)
    refine for_range (fun i σ H' => Same H2 H' ∧ ∃ z2 z3 z4, σ = [some (.ref a), some (.str (rowS l)), z2, z3, z4]) ⟨Same.refl _, _, _, _, rfl⟩ (fun i σ H' hi h => ?_) (fun σ H' h => ?_)
    · obtain ⟨g, z2, z3, z4, rfl⟩ := h
      refine rd_setK (te_call ⟨_, rfl, l, rfl, hn, by omega, fun _ p H3 L z hp0 g3 hL C c0 lenL => ?_, fun z => absurd ev z⟩)
      have ll : (L ++ [z]).length = L.length + 1 := by simp
      have SL : SqL K H3 p (vR (L ++ [z])) := SqL.of hL
      have hd := C.head
      refine rd_ifK (tt_or ((pb_not (pb_val (pv_isi (pv_var rfl) (.lst hL) kit_list_list))) _ (iteF (tt_or (tt_test (te_op ⟨_, rfl, 1, rfl, p, _, rfl, SL, fun p1 hp1 => ?_⟩))))))
      have g4 := same_new hp1 (HO.lst (cutV (vR (L ++ [z])) none (some 1)))
      have h4 : upd H3 p1 (HO.lst (cutV (vR (L ++ [z])) none (some 1))) p1 = some (HO.lst [V.str (rowS l)]) := by rw [upd_same, vR_cut _ l hd]
      generalize upd H3 p1 (HO.lst (cutV (vR (L ++ [z])) none (some 1))) = H4 at g4 h4
      refine te_lst ((pa_1 (pv_var rfl) pa_0) _ ⟨by show 1 ≤ sizeLine; decide, fun p2 hp2 => ?_⟩)
      have g5 := same_new hp2 (HO.lst [V.str (rowS l)])
      have h5 : upd H4 p2 (HO.lst [V.str (rowS l)]) p2 = some (HO.lst [V.str (rowS l)]) := upd_same
      generalize upd H4 p2 (HO.lst [V.str (rowS l)]) = H5 at g5 h5
      refine ⟨p1, p2, [rowS l], [rowS l], rfl, rfl, fun x hx => ?_, fun x hx => ?_, SqL.of (g5 _ _ h4), SqL.of h5, _, rfl, iteNS rfl ?_⟩
      · have : x = rowS l := by simpa using hx
        rw [this]; exact strOk_row l
      · have : x = rowS l := by simpa using hx
        rw [this]; exact strOk_row l
      have S5 := g5.seq (g4.seq SL)
      have hL5 := g5 _ _ (g4 _ _ hL)
      refine (pb_test (pv_in pv_c (pv_ixL (pv_var rfl) (pv_neg pv_c) S5 (vR_last L z)))) _ ?_
      rw [in_x, decide_eq_false (by omega : ¬ 1 ≤ cnt z)]
      refine iteF ?_
      have gb : Same H' H5 := g3.trans (g4.trans g5)
      refine rd_seq (ti_rng1 (pa_1 (pv_op (pv_lenL (pv_var rfl) S5) pv_c) pa_0) ⟨_, rfl, by rw [vR_length]; omega, by rw [vR_length]; omega, ?_⟩)
      rw [vR_length, show (((L ++ [z]).length : Nat) : Int) - 1 = (L.length : Int) by omega, show ((L.length : Nat) : Int).toNat = L.length by omega]
      refine for_range (fun j σ H'' => Same H5 H'' ∧ ∃ y4, σ = [some (.ref a), some (.str (rowS l)), some (.int (0 + (i : Nat))), some (.ref p), y4]) ⟨Same.refl _, _, rfl⟩ (fun j σ H'' hj h => ?_) (fun σ H'' h => ?_)
      · obtain ⟨g6, y4, rfl⟩ := h
        have S6 := g6.seq S5
        obtain ⟨x, hx, ax⟩ := vR_at (L ++ [z]) ((0 : Int) + (j : Nat)) (by omega) (by omega)
        obtain ⟨y, hy, ay⟩ := vR_at (L ++ [z]) ((0 : Int) + (j : Nat) + 1) (by omega) (by omega)
        rw [show ((0 : Int) + (j : Nat)).toNat = j by omega] at hx
        rw [show ((0 : Int) + (j : Nat) + 1).toNat = j + 1 by omega] at hy
        obtain ⟨cx, d, d1, d2, d3, rfl⟩ := C.step j x y hx hy
        obtain ⟨_, x1, x2⟩ := C.ok x (List.mem_of_getElem? hx)
        obtain ⟨ey, y1, y2⟩ := C.ok _ (List.mem_of_getElem? hy)
        refine rd_if1K (tt_or ((pb_test (pv_notIn pv_c (pv_ixL (pv_var rfl) (pv_var rfl) S6 ax))) _ ?_))
        rw [in_x, decide_eq_true cx]
        refine iteF (tt_or (tt_test (te_op ((pv_ixL (pv_var rfl) (pv_op (pv_var rfl) pv_c) S6 ay) _ (te_call ((pa_1 (pv_ixL (pv_var rfl) (pv_var rfl) S6 ax) pa_0) _ ⟨x, d, rfl, cx, by omega, d1, d2, fun H7 g7 => ⟨rfl, _, rfl, iteNS rfl ?_⟩⟩))))))
        refine tt_notB (te_call ((pa_1 (pv_ixL (pv_var rfl) (pv_op (pv_var rfl) pv_c) (g7.seq S6) ay) pa_0) _ ⟨_, rfl, y1, by omega, fun b H8 g8 hb8 => ⟨b, rfl, ?_⟩⟩))
        have : b = true := hb8.mpr ((ev_evAll y1).mpr (ey.mp ev))
        subst this
        exact iteF ⟨g6.trans (g7.trans g8), _, rfl⟩
      · obtain ⟨g6, y4, rfl⟩ := h
        have hL6 := g6 _ _ hL5
        dsimp only
        refine ⟨_, rfl, .inl ⟨rfl, _, SqL.of hL6⟩, p, _, _, rfl, rfl, hL6, ?_, (g.trans (gb.trans g6)).upd_none (by
          cases e : H2 p with
          | none => rfl
          | some o => rw [g _ _ e] at hp0; cases hp0), _, _, _, rfl⟩
        rw [vR_length, ll]
        exact sizeLt (by omega)
    · obtain ⟨g, z2, z3, z4, rfl⟩ := h
      dsimp only
      exact rd_ret pv_c (q _)
end
end K05

set_option maxHeartbeats 4000000
namespace K05
open PySem L2 Eb
set_option maxHeartbeats 8000000 in
theorem all_mk {l : PySem.W.OpenLaw} {w : World} {K : PySem.W.Frag} {h : Heap} {mg : Str → Option Value} {fa CB CT CR CN CU : Addr}
    {f_is_row f_is_ring f_check_ring f_gaps f_folded f_folds f_law_reckoned f_law_drawn f_law_sums f_law_is_even f_law_refused f_law_folded f_law : Addr} {d_is_row d_is_ring d_check_ring d_gaps d_folded d_folds d_law_reckoned d_law_drawn d_law_sums d_law_is_even d_law_refused d_law_folded : FuncData} {u_BEAT u_REST : Value}
    {od an : Option Addr} {sl : Array (Option Value)} {oc kV dc pm cd ct : Value} (X : K.In h) (G : h.Ns mainGlobals mg) (hfa : mg "law" = some (.ref fa))
    (a_is_row : At K "is_row" s_is_row f_is_row d_is_row)
    (a_is_ring : At K "is_ring" s_is_ring f_is_ring d_is_ring)
    (a_check_ring : At K "check_ring" s_check_ring f_check_ring d_check_ring)
    (a_gaps : At K "gaps" s_gaps f_gaps d_gaps)
    (a_folded : At K "folded" s_folded f_folded d_folded)
    (a_folds : At K "folds" s_folds f_folds d_folds)
    (a_law_reckoned : At K "_law_reckoned" s_law_reckoned f_law_reckoned d_law_reckoned)
    (a_law_drawn : At K "_law_drawn" s_law_drawn f_law_drawn d_law_drawn)
    (a_law_sums : At K "_law_sums" s_law_sums f_law_sums d_law_sums)
    (a_law_is_even : At K "_law_is_even" s_law_is_even f_law_is_even d_law_is_even)
    (a_law_refused : At K "_law_refused" s_law_refused f_law_refused d_law_refused)
    (a_law_folded : At K "_law_folded" s_law_folded f_law_folded d_law_folded)
    (e_BadCount : PySem.W.nsIn K mainGlobals "BadCount" = some (some (.ref CB))) (ec_BadCount : PySem.W.excIn K CB veMro "ValueError.__new__" = true)
    (n_law : PySem.W.nsIn K mainGlobals "law" = some (some (.ref f_law))) (l_law : K.lookup f_law = some ⟨oc, od, .func (PySem.W.fnOf "law" "law" (defArgs s_law) (defBody s_law) (defScope s_law) .none kV dc pm an cd ct), sl⟩) (c_law : PySem.W.codeIn K cd "law" = true) (k_law : PySem.W.keepIn K (.ref f_law) = true)
    (z_len : PySem.W.nsIn K mainGlobals "len" = some none)
    (z_isinstance : PySem.W.nsIn K mainGlobals "isinstance" = some none)
    (z_sum : PySem.W.nsIn K mainGlobals "sum" = some none)
    (z_max : PySem.W.nsIn K mainGlobals "max" = some none)
    (z_min : PySem.W.nsIn K mainGlobals "min" = some none)
    (z_range : PySem.W.nsIn K mainGlobals "range" = some none)
    (z_list : PySem.W.nsIn K mainGlobals "list" = some none)
    (z_int : PySem.W.nsIn K mainGlobals "int" = some none)
    (z_bool : PySem.W.nsIn K mainGlobals "bool" = some none)
    (z_str : PySem.W.nsIn K mainGlobals "str" = some none)
    (y_BEAT : PySem.W.nsIn K mainGlobals "BEAT" = some (some u_BEAT)) (v_BEAT : ∃ t, u_BEAT = Value.str "x" t)
    (y_REST : PySem.W.nsIn K mainGlobals "REST" = some (some u_REST)) (v_REST : ∃ t, u_REST = Value.str "." t)
    (z_any : PySem.W.nsIn K mainGlobals "any" = some none)
    (z_zip : PySem.W.nsIn K mainGlobals "zip" = some none)
    (z_ValueError : PySem.W.nsIn K mainGlobals "ValueError" = some none)
    (e_BeatError : PySem.W.nsIn K mainGlobals "BeatError" = some (some (.ref CT)))
    (e_BadRing : PySem.W.nsIn K mainGlobals "BadRing" = some (some (.ref CR)))
    (e_NoBeat : PySem.W.nsIn K mainGlobals "NoBeat" = some (some (.ref CN))) (ec_NoBeat : PySem.W.excIn K CN veMro "ValueError.__new__" = true)
    (e_Uneven : PySem.W.nsIn K mainGlobals "Uneven" = some (some (.ref CU))) (ec_Uneven : PySem.W.excIn K CU veMro "ValueError.__new__" = true)
    (x_Uneven : KE K CT CR CB CN CU CU false false false true) :
    ∃ fd : FuncData, (∀ (s : Shared) (v : Value), BindsTo s fd ⟨[v], []⟩ [("_law_script", v)]) ∧ ∀ base : Heap, K.In base → base.Ns mainGlobals mg → FnOk l.prog w K mg base (CXE l.prog w) 8 fa fd ["_law_script"] (sp_law K) := by
  have e := hfa.symm.trans (PySem.W.mg_of X G n_law)
  cases e
  have F_law := fun_mk (st := s_law) l_law c_law k_law
  obtain ⟨t_BEAT, rfl⟩ := v_BEAT
  obtain ⟨t_REST, rfl⟩ := v_REST
  have M : Md K mg CB := ⟨PySem.W.mg_none_of X G z_len, PySem.W.mg_none_of X G z_isinstance, PySem.W.mg_none_of X G z_sum, PySem.W.mg_none_of X G z_max, PySem.W.mg_none_of X G z_min, PySem.W.mg_none_of X G z_range, PySem.W.mg_none_of X G z_list, PySem.W.mg_none_of X G z_int, PySem.W.mg_none_of X G z_bool, PySem.W.mg_none_of X G z_str, ⟨t_BEAT, PySem.W.mg_of X G y_BEAT⟩, ⟨t_REST, PySem.W.mg_of X G y_REST⟩, xcls_mk X G e_BadCount ec_BadCount⟩
  have hany : mg "any" = none := PySem.W.mg_none_of X G z_any
  have hzip : mg "zip" = none := PySem.W.mg_none_of X G z_zip
  have xN : XCls K mg "NoBeat" CN := xcls_mk X G e_NoBeat ec_NoBeat
  have xU : XCls K mg "Uneven" CU := xcls_mk X G e_Uneven ec_Uneven
  have Z : KX K mg CT CR CB CN CU := ⟨PySem.W.mg_of X G e_BeatError, PySem.W.mg_of X G e_BadRing, PySem.W.mg_of X G e_BadCount, PySem.W.mg_of X G e_NoBeat, PySem.W.mg_of X G e_Uneven, PySem.W.mg_none_of X G z_ValueError⟩
  refine ⟨PySem.W.fnOf "law" "law" (defArgs s_law) (defBody s_law) (defScope s_law) .none kV dc pm an cd ct, fun s v => .of_eq rfl, fun base _ _ => ?_⟩
  have k_is_row := a_is_row.kn X G (ok_is_row (P := l.prog) (w := w) (mg := mg) (base := base) M a_is_row.fn) (fun _ _ _ _ _ _ us hl => match us, hl with | [_], _ => rfl)
  have k_is_ring := a_is_ring.kn X G (ok_is_ring M k_is_row a_is_ring.fn) (fun _ _ _ _ _ _ us hl => match us, hl with | [_], _ => rfl)
  have k_check_ring := a_check_ring.kn X G (ok_check_ring k_is_ring a_check_ring.fn) (fun _ _ _ _ _ _ us hl => match us, hl with | [_], _ => rfl)
  have k_gaps := a_gaps.kn X G (ok_gaps M hzip xN k_check_ring a_gaps.fn) (fun _ _ _ _ _ _ us hl => match us, hl with | [_], _ => rfl)
  have k_folded := a_folded.kn X G (ok_folded M xU k_gaps a_folded.fn) (fun _ _ _ _ _ _ us hl => match us, hl with | [_], _ => rfl)
  have k_folds := a_folds.kn X G (ok_folds M k_check_ring k_folded a_folds.fn) (fun _ _ _ _ _ _ us hl => match us, hl with | [_], _ => rfl)
  have k_law_reckoned := a_law_reckoned.kn X G (ok_law_reckoned (P := l.prog) (w := w) (mg := mg) (base := base) M a_law_reckoned.fn) (fun _ _ _ _ _ _ us hl => match us, hl with | [_, _, _, _], _ => rfl)
  have k_law_drawn := a_law_drawn.kn X G (ok_law_drawn M k_law_reckoned a_law_drawn.fn) (fun _ _ _ _ _ _ us hl => match us, hl with | [_], _ => rfl)
  have k_law_sums := a_law_sums.kn X G (ok_law_sums (P := l.prog) (w := w) (mg := mg) (base := base) a_law_sums.fn) (fun _ _ _ _ _ _ us hl => match us, hl with | [_], _ => rfl)
  have k_law_is_even := a_law_is_even.kn X G (ok_law_is_even M k_law_sums a_law_is_even.fn) (fun _ _ _ _ _ _ us hl => match us, hl with | [_], _ => rfl)
  have k_law_refused := a_law_refused.kn X G (ok_law_refused M hany Z x_Uneven k_folds a_law_refused.fn) (fun _ _ _ _ _ _ us hl => match us, hl with | [_], _ => rfl)
  have k_law_folded := a_law_folded.kn X G (ok_law_folded (P := l.prog) (w := w) (mg := mg) (base := base) M a_law_folded.fn) (fun _ _ _ _ _ _ us hl => match us, hl with | [_], _ => rfl)
  exact ok_law M k_law_drawn k_law_is_even k_law_refused k_folds k_law_folded F_law
theorem walk {l : PySem.W.OpenLaw} {q : Program} {loose : List Str} {XP : (Str → Option Value) → Heap → Prop} {YP : World → Heap → Prop} {d : DefRec} {K : Params → PySem.W.Frag} (hn : l.most = some 63) (hdf : d.params.defaults = [])
    (hY : ∀ (w : World) (h : Heap), YP w h → (K w.params).In h)
    (F : ∀ (w : World) (mg : Str → Option Value) (fa : Addr) (h : Heap), (K w.params).In h → h.Ns mainGlobals mg → mg d.name = some (.ref fa) →
      ∃ fd : FuncData, (∀ (s : Shared) (u : Value), BindsTo s fd ⟨[u], []⟩ [("_law_script", u)]) ∧ ∀ base : Heap, (K w.params).In base → base.Ns mainGlobals mg → FnOk l.prog w (K w.params) mg base (CXE l.prog w) 8 fa fd ["_law_script"] (sp_law (K w.params))) :
    PySem.W.WalkO q loose XP YP l.row.toRowW d [] (fun f vs => PySem.call f vs) :=
  L2.walk_ofB (n := 63) (k := 8) (x := "_law_script") (CX := fun w => CXE l.prog w) (sp := fun w => sp_law (K w.params)) hn (by decide) hdf ⟨rfl, by decide, by decide⟩ hY F (fun _ _ a ns hl hb _ hS => ⟨a, ns, rfl, hS, hl, hb, fun _ => rfl⟩) fun _ _ _ _ _ ⟨_, _, _, _, _, _, _, z⟩ => z
end K05
open PySem PySem.W PyProof.Rows
set_option maxRecDepth 100000 in
set_option maxHeartbeats 0 in
theorem PySem.Challenge.cw_evenbeats_k05_whole_folds_holds : PySem.Challenge.rw_evenbeats_k05_whole_folds.Holds := by
  w_on; o_law; k_head; (case hw => w_witness2)
  k_fill
  refine K05.walk (l := PySem.Challenge.rw_evenbeats_k05_whole_folds) rfl rfl (fun w h Y => PySem.W.kIn_of Y) ?F
  case F =>
    intro w mg fa h KX G hmg
    refine' K05.all_mk KX G hmg (L2.at_mk ?ga_is_row ?gl_is_row ?gc_is_row ?gk_is_row) (L2.at_mk ?ga_is_ring ?gl_is_ring ?gc_is_ring ?gk_is_ring) (L2.at_mk ?ga_check_ring ?gl_check_ring ?gc_check_ring ?gk_check_ring) (L2.at_mk ?ga_gaps ?gl_gaps ?gc_gaps ?gk_gaps) (L2.at_mk ?ga_folded ?gl_folded ?gc_folded ?gk_folded) (L2.at_mk ?ga_folds ?gl_folds ?gc_folds ?gk_folds) (L2.at_mk ?ga_law_reckoned ?gl_law_reckoned ?gc_law_reckoned ?gk_law_reckoned) (L2.at_mk ?ga_law_drawn ?gl_law_drawn ?gc_law_drawn ?gk_law_drawn) (L2.at_mk ?ga_law_sums ?gl_law_sums ?gc_law_sums ?gk_law_sums) (L2.at_mk ?ga_law_is_even ?gl_law_is_even ?gc_law_is_even ?gk_law_is_even) (L2.at_mk ?ga_law_refused ?gl_law_refused ?gc_law_refused ?gk_law_refused) (L2.at_mk ?ga_law_folded ?gl_law_folded ?gc_law_folded ?gk_law_folded) ?ge_BadCount ?gx_BadCount ?gn_law ?gl_law ?gc_law ?gk_law ?gz_len ?gz_isinstance ?gz_sum ?gz_max ?gz_min ?gz_range ?gz_list ?gz_int ?gz_bool ?gz_str ?gy_BEAT ?gv_BEAT ?gy_REST ?gv_REST ?gz_any ?gz_zip ?gz_ValueError ?ge_BeatError ?ge_BadRing ?ge_NoBeat ?gxc_NoBeat ?ge_Uneven ?gxc_Uneven (Eb.ke_mk (L2.xty_mk ?gx0_Uneven ?gx1_Uneven ?gx2_Uneven ?gx3_Uneven ?gx4_Uneven ?gx5_Uneven ?gx6_Uneven ?gx7_Uneven) (L2.own_mk ?goCT_Uneven ?gtCT_Uneven) ?gb_Uneven (L2.own_mk ?goCR_Uneven ?gtCR_Uneven) (L2.own_mk ?goCB_Uneven ?gtCB_Uneven) (L2.own_mk ?goCN_Uneven ?gtCN_Uneven) (L2.own_mk ?goCU_Uneven ?gtCU_Uneven) ?gs0_Uneven ?gs1_Uneven ?gs2_Uneven ?gs3_Uneven ?gs4_Uneven ?gs5_Uneven ?gh0_Uneven ?gh1_Uneven ?gh2_Uneven ?gh3_Uneven)
    (case ga_is_row => k_is); (case gl_is_row => k_is); (case gc_is_row => k_is); (case gk_is_row => k_is)
    (case ga_is_ring => k_is); (case gl_is_ring => k_is); (case gc_is_ring => k_is); (case gk_is_ring => k_is)
    (case ga_check_ring => k_is); (case gl_check_ring => k_is); (case gc_check_ring => k_is); (case gk_check_ring => k_is)
    (case ga_gaps => k_is); (case gl_gaps => k_is); (case gc_gaps => k_is); (case gk_gaps => k_is)
    (case ga_folded => k_is); (case gl_folded => k_is); (case gc_folded => k_is); (case gk_folded => k_is)
    (case ga_folds => k_is); (case gl_folds => k_is); (case gc_folds => k_is); (case gk_folds => k_is)
    (case ga_law_reckoned => k_is); (case gl_law_reckoned => k_is); (case gc_law_reckoned => k_is); (case gk_law_reckoned => k_is)
    (case ga_law_drawn => k_is); (case gl_law_drawn => k_is); (case gc_law_drawn => k_is); (case gk_law_drawn => k_is)
    (case ga_law_sums => k_is); (case gl_law_sums => k_is); (case gc_law_sums => k_is); (case gk_law_sums => k_is)
    (case ga_law_is_even => k_is); (case gl_law_is_even => k_is); (case gc_law_is_even => k_is); (case gk_law_is_even => k_is)
    (case ga_law_refused => k_is); (case gl_law_refused => k_is); (case gc_law_refused => k_is); (case gk_law_refused => k_is)
    (case ga_law_folded => k_is); (case gl_law_folded => k_is); (case gc_law_folded => k_is); (case gk_law_folded => k_is)
    (case ge_BadCount => k_is)
    (case gx_BadCount => k_exc)
    (case gn_law => k_is)
    (case gl_law => k_is)
    (case gc_law => k_is)
    (case gk_law => k_is)
    (case gz_len => k_is)
    (case gz_isinstance => k_is)
    (case gz_sum => k_is)
    (case gz_max => k_is)
    (case gz_min => k_is)
    (case gz_range => k_is)
    (case gz_list => k_is)
    (case gz_int => k_is)
    (case gz_bool => k_is)
    (case gz_str => k_is)
    (case gy_BEAT => k_is)
    (case gv_BEAT => exact ⟨_, rfl⟩)
    (case gy_REST => k_is)
    (case gv_REST => exact ⟨_, rfl⟩)
    (case gz_any => k_is)
    (case gz_zip => k_is)
    (case gz_ValueError => k_is)
    (case ge_BeatError => k_is)
    (case ge_BadRing => k_is)
    (case ge_NoBeat => k_is); (case gxc_NoBeat => k_exc)
    (case ge_Uneven => k_is); (case gxc_Uneven => k_exc)
    (case gx0_Uneven => k_is); (case gx1_Uneven => k_is); (case gx2_Uneven => k_is); (case gx3_Uneven => k_is); (case gx4_Uneven => k_is); (case gx5_Uneven => k_is); (case gx6_Uneven => k_is); (case gx7_Uneven => k_is); (case goCT_Uneven => k_is); (case gtCT_Uneven => k_is); (case goCR_Uneven => k_is); (case gtCR_Uneven => k_is); (case goCB_Uneven => k_is); (case gtCB_Uneven => k_is); (case goCN_Uneven => k_is); (case gtCN_Uneven => k_is); (case goCU_Uneven => k_is); (case gtCU_Uneven => k_is); (case gb_Uneven => k_is); (case gs0_Uneven => k_is); (case gs1_Uneven => k_is); (case gs2_Uneven => k_is); (case gs3_Uneven => k_is); (case gs4_Uneven => k_is); (case gs5_Uneven => k_is); (case gh0_Uneven => decide); (case gh1_Uneven => decide); (case gh2_Uneven => decide); (case gh3_Uneven => decide)
