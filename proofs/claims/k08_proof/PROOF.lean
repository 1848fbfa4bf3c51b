import PyProof.Rows.All
import Wide.All
import OpenK.AllK
import Wide.FinOn
import Lean
import PyProof.EqAt
import PyProof.EqKinds
import PyProof.TupleCall
import PySem.Challenge.RW_evenbeats_k08_refused
set_option Elab.async false
set_option linter.all false
set_option maxRecDepth 100000
set_option genSizeOfSpec false
namespace L2
open PySem PySem.Spec PyProof.Rows
abbrev Key := Sum Int Str
def keyIs : Key → Value → Bool
  | .inl k, v => Value.isInt k v
  | .inr x, v => Value.isStrOf x v
def keyH (w : World) : Key → Int
  | .inl k => hashInt k
  | .inr x => hashStr w x
theorem keyIs_shape : ∀ {k : Key} {v : Value}, keyIs k v = true → (∃ i t, k = Sum.inl i ∧ v = Value.int i t) ∨ (∃ x t, k = Sum.inr x ∧ v = Value.str x t)
  | .inl i, v, h => by
    obtain ⟨t, e⟩ := Value.isInt_shape (k := i) (v := v) h
    exact .inl ⟨i, t, rfl, e⟩
  | .inr x, v, h => by
    obtain ⟨t, e⟩ := Value.isStrOf_shape (x := x) (v := v) h
    exact .inr ⟨x, t, rfl, e⟩
theorem key_ll (a b : Int) : decide ((Sum.inl a : Key) = Sum.inl b) = (a == b) := by
  by_cases e : a = b
  · subst e; simp
  · have h : ¬ (Sum.inl a : Key) = Sum.inl b := fun q => e (Sum.inl.inj q)
    rw [decide_eq_false h]
    exact (beq_eq_false_iff_ne.mpr e).symm
theorem key_rr (a b : Str) : decide ((Sum.inr a : Key) = Sum.inr b) = decide (a = b) := by
  by_cases e : a = b
  · subst e; simp
  · have h : ¬ (Sum.inr a : Key) = Sum.inr b := fun q => e (Sum.inr.inj q)
    rw [decide_eq_false h, decide_eq_false e]
theorem key_lr (a : Int) (b : Str) : decide ((Sum.inl a : Key) = Sum.inr b) = false := decide_eq_false (fun q => nomatch q)
theorem key_rl (a : Str) (b : Int) : decide ((Sum.inr a : Key) = Sum.inl b) = false := decide_eq_false (fun q => nomatch q)
def mixKind (prog : Program) (w : World) : PySem.KeyKind prog w Key where
  is := keyIs
  hash := keyH w
  inj := fun v a b ha hb => by
    rcases keyIs_shape ha with ⟨i, t, rfl, rfl⟩ | ⟨x, t, rfl, rfl⟩
    · rcases keyIs_shape hb with ⟨j, u, rfl, e⟩ | ⟨y, u, rfl, e⟩
      · injection e with e1 _; rw [e1]
      · exact nomatch e
    · rcases keyIs_shape hb with ⟨j, u, rfl, e⟩ | ⟨y, u, rfl, e⟩
      · exact nomatch e
      · injection e with e1 _; rw [e1]
  byValue := fun k v h => by
    rcases keyIs_shape h with ⟨i, t, rfl, rfl⟩ | ⟨x, t, rfl, rfl⟩ <;> rfl
  pyHash := fun hv h => by
    rcases keyIs_shape hv with ⟨i, t, rfl, rfl⟩ | ⟨x, t, rfl, rfl⟩
    · exact wpAny_pyHash_int h
    · exact wpAny_pyHash_str h
  eqBool := fun hu hv h => by
    rcases keyIs_shape hu with ⟨i, t, rfl, rfl⟩ | ⟨x, t, rfl, rfl⟩
    · rcases keyIs_shape hv with ⟨j, u, rfl, rfl⟩ | ⟨y, u, rfl, rfl⟩
      · rw [key_ll] at h; exact wpAny_eqBool_int h
      · rw [key_lr] at h; exact SeqAt.EqAt.int_str i t y u _ _ _ _ h
    · rcases keyIs_shape hv with ⟨j, u, rfl, rfl⟩ | ⟨y, u, rfl, rfl⟩
      · rw [key_rl] at h; exact SeqAt.EqAt.str_int x t j u _ _ _ _ h
      · rw [key_rr] at h; exact wpAny_eqBool_str h
  «strs» := fun k x t v h => by
    rcases keyIs_shape h with ⟨i, u, rfl, e⟩ | ⟨y, u, rfl, e⟩
    · exact nomatch e
    · injection e with e1 _
      subst e1
      cases v <;> rfl
end L2
namespace L2
open PySem PySem.Spec PyProof.Rows
inductive V where
  | non | bl (b : Bool) | int (i : Int) | str (x : Str) | byt (b : Array UInt8) | flt (b : UInt64) | ref (a : Addr) | ty (n : String)
  deriving DecidableEq
def RelV : V → Value → Prop
  | .non, u => u = Value.none
  | .bl b, u => u = Value.bool b
  | .int i, u => ∃ t, u = Value.int i t
  | .str x, u => ∃ t, u = Value.str x t
  | .byt b, u => ∃ t, u = Value.bytes b t
  | .flt b, u => ∃ t, u = Value.float b t
  | .ref a, u => u = Value.ref a
  | .ty n, u => u = Value.type n
abbrev Vals : List V → List Value → Prop := Paired RelV
theorem Vals.length {xs : List V} {us : List Value} (r : Vals xs us) : xs.length = us.length := Paired.length r
theorem Vals.get : ∀ {xs : List V} {us : List Value} {i : Nat} {x : V}, Vals xs us → xs[i]? = some x → ∃ u, us[i]? = some u ∧ RelV x u
  | _, _, _, _, .nil, e => by simp at e
  | _, _, 0, _, .cons r _, e => by simp at e; subst e; exact ⟨_, rfl, r⟩
  | _, _, i + 1, x, .cons _ t, e => by
    obtain ⟨u, h1, h2⟩ := Vals.get (i := i) (x := x) t (by simpa using e)
    exact ⟨u, by simpa using h1, h2⟩
theorem Vals.append : ∀ {xs ys : List V} {us ws : List Value}, Vals xs us → Vals ys ws → Vals (xs ++ ys) (us ++ ws)
  | _, _, _, _, .nil, s => s
  | _, _, _, _, .cons r t, s => .cons r (Vals.append t s)
theorem Vals.take : ∀ {xs : List V} {us : List Value} (n : Nat), Vals xs us → Vals (xs.take n) (us.take n)
  | _, _, 0, _ => .nil
  | _, _, _ + 1, .nil => .nil
  | _, _, n + 1, .cons r t => .cons r (Vals.take n t)
theorem Vals.drop : ∀ {xs : List V} {us : List Value} (n : Nat), Vals xs us → Vals (xs.drop n) (us.drop n)
  | _, _, 0, r => r
  | _, _, _ + 1, .nil => .nil
  | _, _, n + 1, .cons _ t => Vals.drop n t
def RelO : Option V → Option Value → Prop
  | some v, some u => RelV v u
  | none, none => True
  | _, _ => False
def KV {κ : Type} : List (κ × V) → List (κ × Value) → Prop := Paired fun (p : κ × V) (q : κ × Value) => p.1 = q.1 ∧ RelV p.2 q.2
def kV : Key → V
  | .inl i => .int i
  | .inr x => .str x
inductive HO where
    | lst (xs : List V)
    | tup (xs : List V)
    | dK (kvs : List (Key × V)) | dT (kvs : List (List Key × V))
    | set (S : Int → Bool) (n : Nat)
    | ins (C dx : Addr) (fs : List (Str × V))
    | own (x : Addr)
    | xd (fs : List (Str × V))
    | met (f x : Addr)
    | rng (lo hi : Int)
    | frz (o : Obj) (u : HO)
    | tbl (ps : Array Value)
    | ext (φ : Heap → Prop)
abbrev Hp := Addr → Option HO
def upd (H : Hp) (a : Addr) (o : HO) : Hp := fun b => if b = a then some o else H b
theorem upd_same {H : Hp} {a : Addr} {o : HO} : upd H a o a = some o := by unfold upd; rw [if_pos rfl]
theorem upd_ne {H : Hp} {a b : Addr} {o : HO} (h : b ≠ a) : upd H a o b = H b := by unfold upd; rw [if_neg h]
theorem upd_upd {H : Hp} {a : Addr} {o u : HO} : upd (upd H a o) a u = upd H a u := by
  funext b; unfold upd; split <;> rfl
theorem ne_of_none {H : Hp} {a b : Addr} {o : HO} (h : H a = some o) (h' : H b = none) : a ≠ b := by
  intro e; subst e; rw [h] at h'; cases h'
section
variable (P : Program) (w : World)
def ObjOk (H : Hp) (h : Heap) (a : Addr) : HO → Prop
  | .lst xs => xs.length ≤ sizeLine ∧ ∃ (its : List Value) (n : Nat), Vals xs its ∧ h.get? a = some { cls := .type "list", data := .seq its.toArray n }
  | .tup xs => xs.length ≤ sizeLine ∧ ∃ its : List Value, Vals xs its ∧ IsTup h a its.toArray
  | .dK kvs => kvs.length ≤ sizeLine ∧ (a == sysModules) = false ∧ ∃ vs, KV kvs vs ∧ h.DictOf (mixKind P w) a vs
  | .dT kvs => kvs.length ≤ sizeLine ∧ (a == sysModules) = false ∧ ∃ xs : List (List Key × Addr × Value),
      Paired (fun (p : List Key × V) (q : List Key × Addr × Value) => p.1 = q.1 ∧ H q.2.1 = some (.tup (p.1.map kV)) ∧ RelV p.2 q.2.2) kvs xs ∧
      ∃ o es ep, h.get? a = some o ∧ o.ExactDict ∧ o.data = .dict es ep ∧ es.toList = xs.map (entryOfKey (tupleKind (mixKind P w))) ∧ (xs.map (·.1)).Nodup
  | .set S n => h.SetOf (intKind P w) a S n
  | .ins C dx fs => H dx = some (.own a) ∧ fs.length ≤ 1000 ∧ dx ≠ a ∧ h.get? a = some (PySem.W.instObj C dx) ∧
      ∃ mA, h.Ns1 dx mA ∧ (∀ f, RelO (fs.lookup f) (mA f)) ∧ PySem.Within mA (fs.map (·.1))
  | .own _ => ∃ o, h.get? a = some o
  | .xd fs => ∃ mA, h.Ns1 a mA ∧ ∀ f, RelO (fs.lookup f) (mA f)
  | .rng lo hi => ∃ t u v, h.get? a = some { cls := .type "range", data := .fields #[.int lo t, .int hi u, .int 1 v] }
  | .frz o u => h.get? a = some o ∧ ObjOk H h a u
  | .tbl ps => h.get? a = some { cls := .none, data := .fields ps }
  | .met f x => h.get? a = some (PySem.W.methodObj (.ref f) (.ref x))
  | .ext φ => φ h ∧ (∃ o, h.get? a = some o) ∧ ∀ h1 h2 : Heap, φ h1 → (∀ o, h1.get? a = some o → h2.get? a = some o) → φ h2
def HOk (H : Hp) (h : Heap) : Prop := ∀ a o, H a = some o → ObjOk P w H h a o
end
section
variable {P : Program} {w : World} {H H' : Hp} {h h' : Heap} {a : Addr} {o : HO}
theorem ObjOk.lt (x : ObjOk P w H h a o) : a < h.objs.size := by
  cases o with
  | lst xs => obtain ⟨_, _, _, _, e⟩ := x; exact Heap.lt_size e
  | tup xs => obtain ⟨_, _, _, p⟩ := x; exact p.lt
  | dK kvs => obtain ⟨_, _, _, _, o, _, _, e, _⟩ := x; exact Heap.lt_size e
  | dT kvs => obtain ⟨_, _, _, _, o, _, _, e, _⟩ := x; exact Heap.lt_size e
  | set S n => obtain ⟨o, _, _, _, e, _⟩ := x; exact Heap.lt_size e
  | ins C dx fs => obtain ⟨_, _, _, e, _⟩ := x; exact Heap.lt_size e
  | own y => obtain ⟨_, e⟩ := x; exact Heap.lt_size e
  | xd fs => obtain ⟨_, ⟨_, _, _, e, _⟩, _⟩ := x; exact Heap.lt_size e
  | rng lo hi => obtain ⟨_, _, _, e⟩ := x; exact Heap.lt_size e
  | frz ob u => obtain ⟨e, _⟩ := x; exact Heap.lt_size e
  | tbl ps => exact Heap.lt_size (show h.get? a = some _ from x)
  | met f y => exact Heap.lt_size (show h.get? a = some _ from x)
  | ext φ => obtain ⟨_, ⟨_, e⟩, _⟩ := x; exact Heap.lt_size e
theorem Paired.mapP {α β : Type} {F G : α → β → Prop} : ∀ {l₁ : List α} {l₂ : List β}, Paired F l₁ l₂ → (∀ a b, F a b → G a b) → Paired G l₁ l₂
  | _, _, .nil, _ => .nil
  | _, _, .cons r t, f => .cons (f _ _ r) (Paired.mapP t f)
theorem ObjOk.stay (x : ObjOk P w H h a o) (k : ∀ b u, (b = a ∨ H b = some (.own a)) → h.get? b = some u → h'.get? b = some u)
    (ho : ∀ b, H b = some (.own a) → H' b = some (.own a)) (ht : ∀ b xs, H b = some (.tup xs) → H' b = some (.tup xs)) : ObjOk P w H' h' a o := by
  induction o with
  | lst xs => obtain ⟨z, its, n, r, e⟩ := x; exact ⟨z, its, n, r, k _ _ (.inl rfl) e⟩
  | tup xs => obtain ⟨z, its, r, ob, e, c⟩ := x; exact ⟨z, its, r, ob, k _ _ (.inl rfl) e, c⟩
  | dK kvs => obtain ⟨z, y, vs, r, ob, es, ep, e, c⟩ := x; exact ⟨z, y, vs, r, ob, es, ep, k _ _ (.inl rfl) e, c⟩
  | dT kvs =>
    obtain ⟨z, y, xs, r, ob, es, ep, e, c⟩ := x
    exact ⟨z, y, xs, Paired.mapP r fun p q z => ⟨z.1, ht _ _ z.2.1, z.2.2⟩, ob, es, ep, k _ _ (.inl rfl) e, c⟩
  | set S n => obtain ⟨ob, es, ep, t, e, c⟩ := x; exact ⟨ob, es, ep, t, k _ _ (.inl rfl) e, c⟩
  | ins C dx fs =>
    obtain ⟨d, z, ne, e, mA, ⟨od, es, ep, e2, c⟩, r⟩ := x
    exact ⟨ho _ d, z, ne, k _ _ (.inl rfl) e, mA, ⟨od, es, ep, k _ _ (.inr d) e2, c⟩, r⟩
  | own y => obtain ⟨ob, e⟩ := x; exact ⟨ob, k _ _ (.inl rfl) e⟩
  | xd fs => obtain ⟨mA, ⟨od, es, ep, e, c⟩, r⟩ := x; exact ⟨mA, ⟨od, es, ep, k _ _ (.inl rfl) e, c⟩, r⟩
  | rng lo hi => obtain ⟨t, u, v, e⟩ := x; exact ⟨t, u, v, k _ _ (.inl rfl) e⟩
  | frz ob u ih => obtain ⟨e, q⟩ := x; exact ⟨k _ _ (.inl rfl) e, ih q⟩
  | tbl ps =>
    have e : h.get? a = some { cls := .none, data := .fields ps } := x
    show h'.get? a = some { cls := .none, data := .fields ps }
    exact k a _ (.inl rfl) e
  | met f y =>
    have e : h.get? a = some (PySem.W.methodObj (.ref f) (.ref y)) := x
    show h'.get? a = some (PySem.W.methodObj (.ref f) (.ref y))
    exact k a _ (.inl rfl) e
  | ext φ => obtain ⟨p, ⟨o, e⟩, st⟩ := x; exact ⟨st _ _ p fun o q => k _ _ (.inl rfl) q, ⟨o, k _ _ (.inl rfl) e⟩, st⟩
theorem HOk.lt (x : HOk P w H h) (e : H a = some o) : a < h.objs.size := (x a o e).lt
theorem HOk.fresh (x : HOk P w H h) (e : h.objs.size ≤ a) : H a = none := by
  cases q : H a with
  | none => rfl
  | some u => exact absurd (Nat.lt_of_lt_of_le (x.lt q) e) (Nat.lt_irrefl _)
theorem HOk.kept (x : HOk P w H h) (k : ∀ b u, h.get? b = some u → h'.get? b = some u) : HOk P w H h' := fun a o e =>
  (x a o e).stay (fun b u _ q => k b u q) (fun _ q => q) fun _ _ q => q
theorem HOk.laid (x : HOk P w H h) (k : ∀ b u, h.get? b = some u → h'.get? b = some u) (hp : h.objs.size ≤ a) (new : ObjOk P w (upd H a o) h' a o) : HOk P w (upd H a o) h' := fun b u e => by
  have hn := x.fresh hp
  by_cases hb : b = a
  · subst hb; rw [upd_same] at e; cases e; exact new
  · rw [upd_ne hb] at e
    exact (x b u e).stay (fun c v _ q => k c v q) (fun c q => by rw [upd_ne (ne_of_none q hn)]; exact q) fun c xs q => by rw [upd_ne (ne_of_none q hn)]; exact q
end
def Rd (H : Hp) (a : Addr) (u : HO) : Prop := H a = some u ∨ ∃ o, H a = some (.frz o u)
theorem Rd.ok {P : Program} {w : World} {H : Hp} {h : Heap} {a : Addr} {u : HO} (r : Rd H a u) (x : HOk P w H h) : ObjOk P w H h a u := by
  rcases r with r | ⟨o, r⟩
  · exact x a u r
  · obtain ⟨_, q⟩ := x a _ r
    exact q
def Mut : Option HO → Prop
  | some (.lst _) => True
  | some (.dK _) => True
  | some (.dT _) => True
  | some (.set _ _) => True
  | some (.ins _ _ _) => True
  | some (.ext _) => True
  | _ => False
section
variable {P : Program} {w : World} {H : Hp} {h h' : Heap} {x e : Addr} {o' : HO}
theorem HOk.write (ok : HOk P w H h) (mu : Mut (H x)) (he : e = x ∨ H e = some (.own x)) (k : ∀ b u, b ≠ e → h.get? b = some u → h'.get? b = some u) (heo : ∃ u, h'.get? e = some u)
    (new : ObjOk P w (upd H x o') h' x o') : HOk P w (upd H x o') h' := fun b u q => by
  have nown : ∀ c y, H c = some (.own y) → c ≠ x := fun c y r z => by subst z; rw [r] at mu; exact mu
  have ntup : ∀ c xs, H c = some (.tup xs) → c ≠ x := fun c xs r z => by subst z; rw [r] at mu; exact mu
  by_cases hb : b = x
  · subst hb; rw [upd_same] at q; cases q; exact new
  · rw [upd_ne hb] at q
    by_cases hbe : b = e
    · have q' : H b = some (.own x) := by
        rcases he with z | z
        · exact absurd (hbe.trans z) hb
        · rw [hbe]; exact z
      rw [q] at q'; cases q'
      obtain ⟨v, hv⟩ := heo
      exact ⟨v, by rw [hbe]; exact hv⟩
    · refine (ok b u q).stay (fun c v hc r => k c v ?_ r) (fun c r => by rw [upd_ne (nown c b r)]; exact r) fun c xs r => by rw [upd_ne (ntup c xs r)]; exact r
      rcases hc with rfl | hc
      · exact hbe
      · rintro rfl
        rcases he with z | z
        · exact nown c b hc z
        · rw [hc] at z; cases z; exact hb rfl
end
structure Un (fs ex : List Addr) (H H' : Hp) (h h' : Heap) : Prop where
  keep : ∀ b o, h.get? b = some o → H b = none → b ∉ fs → b ∉ ex → h'.get? b = some o
  slot : ∀ b o, h.get? b = some o → H b = none → b ∈ fs → b ∉ ex → ∃ sl, h'.get? b = some { o with slots := sl }
  free : ∀ b o, h.get? b = some o → H b = none → b ∉ ex → H' b = none
  there : ∀ b o, h.get? b = some o → b ∉ ex → ∃ o', h'.get? b = some o'
  tups : ∀ b xs, H b = some (.tup xs) → H' b = some (.tup xs)
  frzs : ∀ b o u, H b = some (.frz o u) → H' b = some (.frz o u)
  tbls : ∀ b ps, H b = some (.tbl ps) → ∃ more, H' b = some (.tbl (ps ++ more))
section
variable {fs fs' ex ex' : List Addr} {H H1 H2 : Hp} {h h1 h2 h' : Heap} {a x e : Addr} {o : HO}
theorem Un.any (u : Un fs ex H H1 h h1) {b : Addr} {ob : Obj} (q : h.get? b = some ob) (n : H b = none) (hx : b ∉ ex) : ∃ sl, h1.get? b = some { ob with slots := sl } := by
  by_cases hb : b ∈ fs
  · exact u.slot b ob q n hb hx
  · exact ⟨ob.slots, u.keep b ob q n hb hx⟩
theorem Un.kept (k : ∀ b u, h.get? b = some u → h'.get? b = some u) : Un fs ex H H h h' :=
  ⟨fun b ob q _ _ _ => k b ob q, fun b ob q _ _ _ => ⟨ob.slots, k b ob q⟩, fun _ _ _ n _ => n, fun b ob q _ => ⟨ob, k b ob q⟩, fun _ _ q => q, fun _ _ _ q => q, fun _ ps q => ⟨#[], by rw [q]; simp⟩⟩
theorem Un.refl : Un fs ex H H h h := Un.kept fun _ _ q => q
theorem Un.laid (k : ∀ b u, h.get? b = some u → h'.get? b = some u) (hp : h.objs.size ≤ a) (hn : H a = none) : Un fs ex H (upd H a o) h h' where
  keep := fun b u q _ _ _ => k b u q
  slot := fun b u q _ _ _ => ⟨u.slots, k b u q⟩
  free := fun b u q n _ => by rw [upd_ne (Nat.ne_of_lt (Nat.lt_of_lt_of_le (Heap.lt_size q) hp))]; exact n
  there := fun b u q _ => ⟨u, k b u q⟩
  tups := fun b xs q => by rw [upd_ne (ne_of_none q hn)]; exact q
  frzs := fun b u xs q => by rw [upd_ne (ne_of_none q hn)]; exact q
  tbls := fun b ps q => ⟨#[], by rw [upd_ne (ne_of_none q hn), q]; simp⟩
theorem Un.write (mu : Mut (H x)) (he : e = x ∨ H e = some (.own x)) (k : ∀ b u, b ≠ e → h.get? b = some u → h'.get? b = some u) (heo : ∃ u, h'.get? e = some u) : Un fs ex H (upd H x o) h h' := by
  have hx : ∀ b, H b = none → b ≠ x := fun b n z => by subst z; rw [n] at mu; exact mu
  have hb : ∀ b, H b = none → b ≠ e := fun b n z => by
    subst z
    rcases he with r | r
    · exact hx b n r
    · rw [n] at r; cases r
  have hm : ∀ b u, H b = some u → ¬ Mut (some u) → b ≠ x := fun b u q nm z => by subst z; rw [q] at mu; exact nm mu
  refine ⟨fun b u q n _ _ => k b u (hb b n) q, fun b u q n _ _ => ⟨u.slots, k b u (hb b n) q⟩, fun b u q n _ => by rw [upd_ne (hx b n)]; exact n, fun b u q _ => ?_,
    fun b xs q => by rw [upd_ne (hm b _ q fun z => z)]; exact q, fun b u xs q => by rw [upd_ne (hm b _ q fun z => z)]; exact q, fun b ps q => ⟨#[], by rw [upd_ne (hm b _ q fun z => z), q]; simp⟩⟩
  by_cases hbe : b = e
  · subst hbe; exact heo
  · exact ⟨u, k b u hbe q⟩
end
def trk (h : Heap) (H : Hp) : List Addr := (List.range h.objs.size).filter fun a => (H a).isSome
def hidT (h : Heap) (H : Hp) : Heap := PySem.W.hideAll h (trk h H)
theorem hidT_size (h : Heap) (H : Hp) : (hidT h H).objs.size = h.objs.size := PySem.W.hideAll_size _ _
theorem hidT_get {h : Heap} {H : Hp} {b : Addr} {o : Obj} (e : h.get? b = some o) (n : H b = none) : (hidT h H).get? b = some o :=
  PySem.W.hideAll_get _ e fun hm => by
    have q : (H b).isSome = true := (List.mem_filter.mp hm).2
    rw [n] at q; simp at q
theorem of_hidT {h : Heap} {H : Hp} {b : Addr} {o : Obj} (e : (hidT h H).get? b = some o) : h.get? b = some o ∧ H b = none := by
  have e' : h.get? b = some o := PySem.W.of_hideAll (trk h H) e
  refine ⟨e', ?_⟩
  cases q : H b with
  | none => rfl
  | some x =>
    have hm : b ∈ trk h H := List.mem_filter.mpr ⟨List.mem_range.mpr (Heap.lt_size e'), by simp [q]⟩
    have z : (hidT h H).get? b = none := PySem.W.hideAll_none (trk h H) hm
    rw [z] at e; cases e
end L2
namespace L2
open PySem PySem.Spec PyProof.Rows
structure Mod (K : PySem.W.Frag) (mg : Str → Option Value) (base : Heap) : Prop where
  kin : K.In base
  glob : base.Ns mainGlobals mg
  blt : ∃ mb, base.Ns builtinsNs mb ∧ ∀ x : Str, x ≠ "__name__" → mb x = bootBuiltins x
  nolimit : base.NoLimit
structure Cx where
  prog : Program
  w : World
  K : PySem.W.Frag
  mg : Str → Option Value
  base : Heap
  A : Around
  N : List Str
  s₀ : Shared
  H₀ : Hp
  env : Env
  outer : List Env
  stack : List Env
  ex : List Addr
  fn : Str → Bool
  calm : Bool
  pn : List (Addr × Obj)
  xe : Value → Shared → Prop
def frs (l : List Env) : List Addr := l.filterMap (·.frame)
abbrev Cx.fs (X : Cx) : List Addr := frs X.outer
def Vis (sc : Scope) (x : Str) : Prop := sc.names.lookup x = some .local ∨ sc.names.lookup x = some .cell ∨ sc.names.lookup x = some .free
def Loc (sc : Scope) (x : Str) : Prop := sc.names.lookup x = some .local ∨ sc.names.lookup x = some .cell
def Look (env : Env) (h : Heap) (m : Str → Option Value) (x : Str) (u : Value) : Prop :=
  (env.kindOf x = some .local ∧ m x = some u) ∨ ((env.kindOf x = some .cell ∨ env.kindOf x = some .free) ∧ ∃ c, env.cells.lookup x = some c ∧ h.IsCell c (some u))
structure Cx.Ok (X : Cx) : Prop where
  mod : Mod X.K X.mg X.base
  kind : X.env.scope.kind = .function
  glob : X.env.globals = mainGlobals
  blt : X.env.builtins = builtinsNs
  above : X.s₀.heap.objs.size ≤ X.env.locals
  inj : ∀ x y c, X.env.cells.lookup x = some c → X.env.cells.lookup y = some c → x = y
  has : ∀ x, (X.env.kindOf x = some .cell ∨ X.env.kindOf x = some .free) → ∃ c, X.env.cells.lookup x = some c
  cab : ∀ x c, X.fn x = true → X.env.cells.lookup x = some c → X.s₀.heap.objs.size ≤ c
  hd : X.calm = true → X.A.handled = none
  frames : X.A.frames = some X.stack
  stk : X.stack = X.outer ∨ (X.stack = X.env :: X.outer ∧ X.env.frame = some X.env.locals)
  exf : ∀ b ∈ X.ex, b ≠ X.env.locals ∧ ∀ x c, X.env.cells.lookup x = some c → c ≠ b
  bs : ∀ b o, X.base.get? b = some o → X.s₀.heap.get? b = some o ∧ X.H₀ b = none
  bsz : X.base.objs.size ≤ X.s₀.heap.objs.size
  noex : ∀ b o, X.base.get? b = some o → b ∉ X.ex
  exfs : ∀ b ∈ X.ex, b ∉ X.fs
  funs : X.s₀.heap.FunFrames X.base X.outer
  frf : ∀ b ∈ X.fs, X.H₀ b = none
structure Inv (X : Cx) (pins : List (Addr × Obj)) (σ : List (Option V)) (H : Hp) (s : Shared) : Prop where
  ok : X.Ok
  os : s.os = X.s₀.os
  bare : AllBare s.gens
  base : Un X.fs X.ex X.H₀ H X.s₀.heap s.heap
  loc : ∃ m, s.heap.Ns X.env.locals m ∧ ∀ (i : Nat) (x : Str) (v : V), X.N[i]? = some x → σ[i]? = some (some v) → Vis X.env.scope x → ∃ u, RelV v u ∧ Look X.env s.heap m x u
  cell : ∀ x c, X.env.cells.lookup x = some c → ∃ v, s.heap.IsCell c v
  free : H X.env.locals = none
  freeC : ∀ x c, X.env.cells.lookup x = some c → H c = none
  pin : ∀ p ∈ X.pn ++ pins, s.heap.get? p.1 = some p.2 ∧ H p.1 = none ∧ p.1 ≠ X.env.locals ∧ p.1 ∉ X.fs ∧ ∀ v, p.2.data ≠ .cell v
  hok : HOk X.prog X.w H s.heap
  len : σ.length = X.N.length
section
variable {X : Cx} {pins : List (Addr × Obj)} {σ : List (Option V)} {H H' : Hp} {s : Shared} {h' : Heap}
theorem Cx.Ok.nofr (ok : X.Ok) {b : Addr} {o : Obj} (e : X.base.get? b = some o) : b ∉ X.fs := fun hb => by
  have := (ok.funs.mem hb).1
  rw [e] at this; cases this
theorem Inv.bs (I : Inv X pins σ H s) : ∀ b o, X.base.get? b = some o → s.heap.get? b = some o ∧ H b = none := fun b o e =>
  ⟨I.base.keep b o (I.ok.bs b o e).1 (I.ok.bs b o e).2 (I.ok.nofr e) (I.ok.noex b o e), I.base.free b o (I.ok.bs b o e).1 (I.ok.bs b o e).2 (I.ok.noex b o e)⟩
theorem Inv.bk (I : Inv X pins σ H s) : ∀ b o, X.base.get? b = some o → s.heap.get? b = some o := fun b o e => (I.bs b o e).1
theorem Inv.mod (I : Inv X pins σ H s) : Mod X.K X.mg X.base := I.ok.mod
theorem Inv.kIn (I : Inv X pins σ H s) : X.K.In s.heap := I.ok.mod.kin.keeps I.bk
theorem Inv.lt (I : Inv X pins σ H s) : X.env.locals < s.heap.objs.size := let ⟨_, hn, _⟩ := I.loc; hn.lt
theorem Inv.sz (I : Inv X pins σ H s) : X.s₀.heap.objs.size ≤ s.heap.objs.size := Nat.le_trans I.ok.above (Nat.le_of_lt I.lt)
theorem Inv.nofs (I : Inv X pins σ H s) {a : Addr} (h : s.heap.objs.size ≤ a) : a ∉ X.fs := fun hb => by
  obtain ⟨_, o, ho, _⟩ := I.ok.funs.mem hb
  exact absurd (Nat.lt_of_lt_of_le (Heap.lt_size ho) (Nat.le_trans I.sz h)) (Nat.lt_irrefl _)
theorem Inv.cne (I : Inv X pins σ H s) : ∀ x c, X.env.cells.lookup x = some c → c ≠ X.env.locals := fun x c e z => by
  obtain ⟨v, o, ho, hd⟩ := I.cell x c e
  obtain ⟨m, ⟨o', es, ep, ho', hd', _⟩, _⟩ := I.loc
  rw [z, ho'] at ho; cases ho; rw [hd'] at hd; cases hd
theorem Inv.funs (I : Inv X pins σ H s) : s.heap.FunFrames X.base X.outer := by
  have all : ∀ (l : List Env), (∀ b ∈ frs l, b ∈ X.fs) → X.s₀.heap.FunFrames X.base l → s.heap.FunFrames X.base l := by
    intro l
    induction l with
    | nil => intro _ _; trivial
    | cons env r ih =>
      intro hs hl
      obtain ⟨hk, ⟨L, o, hf, hn, ho, hd⟩, hr⟩ := hl
      have hL : L ∈ X.fs := hs L (by unfold frs; rw [List.filterMap_cons, hf]; exact List.mem_cons_self)
      obtain ⟨sl, e⟩ := I.base.slot L o ho (I.ok.frf L hL) hL fun z => I.ok.exfs L z hL
      exact ⟨hk, ⟨L, _, hf, hn, e, hd⟩, ih (fun b hb => hs b (by unfold frs; rw [List.filterMap_cons, hf]; exact List.mem_cons_of_mem _ hb)) hr⟩
  exact all X.outer (fun _ hb => hb) I.ok.funs
theorem Inv.stack (I : Inv X pins σ H s) : s.heap.FunFrames X.base X.stack := by
  rcases I.ok.stk with e | ⟨e, hf⟩
  · rw [e]; exact I.funs
  · rw [e]
    obtain ⟨m, hn, _⟩ := I.loc
    refine .cons (by rw [I.ok.kind]; decide) hf hn ?_ I.funs
    exact Heap.get?_none_of_le (Nat.le_trans I.ok.bsz I.ok.above)
theorem Inv.stkSub (I : Inv X pins σ H s) : ∀ b ∈ frs X.stack, b ∈ X.env.locals :: X.fs := fun b hb => by
  rcases I.ok.stk with e | ⟨e, hf⟩
  · rw [e] at hb; exact List.mem_cons_of_mem _ hb
  · rw [e] at hb
    unfold frs at hb
    rw [List.filterMap_cons, hf] at hb
    exact hb
theorem Inv.stkFree (I : Inv X pins σ H s) : ∀ b ∈ frs X.stack, H b = none := fun b hb => by
  rcases List.mem_cons.mp (I.stkSub b hb) with e | hb
  · rw [e]; exact I.free
  · obtain ⟨_, o, ho, _⟩ := I.ok.funs.mem hb
    exact I.base.free b o ho (I.ok.frf b hb) fun z => I.ok.exfs b z hb
theorem Inv.step {g' : Array GenState} {t' : Nat} {d' : Drawn} {ch : List Addr} (I : Inv X pins σ H s)
    (hch : ∀ b ∈ ch, (b ∈ X.ex ∨ X.s₀.heap.objs.size ≤ b) ∧ b ≠ X.env.locals ∧ (∀ x c, X.env.cells.lookup x = some c → c ≠ b) ∧ ∀ p ∈ X.pn ++ pins, p.1 ≠ b)
    (keep : ∀ b o, b ≠ X.env.locals → b ∉ X.fs → b ∉ ch → s.heap.get? b = some o → H b = none → h'.get? b = some o)
    (slot : ∀ b o, b ≠ X.env.locals → b ∈ X.fs → b ∉ ch → s.heap.get? b = some o → H b = none → ∃ sl, h'.get? b = some { o with slots := sl }) (free : ∀ b o, b ∉ ch → s.heap.get? b = some o → H b = none → H' b = none)
    (there : ∀ b o, b ∉ ch → s.heap.get? b = some o → ∃ o', h'.get? b = some o')
    (tups : ∀ b xs, H b = some (.tup xs) → H' b = some (.tup xs)) (frzs : ∀ b o u, H b = some (.frz o u) → H' b = some (.frz o u)) (tbls : ∀ b ps, H b = some (.tbl ps) → ∃ more, H' b = some (.tbl (ps ++ more)))
    (ns : ∀ m, s.heap.Ns X.env.locals m → h'.Ns X.env.locals m) (hok : HOk X.prog X.w H' h') (hg : AllBare g') :
    Inv X pins σ H' { s with heap := h', gens := g', drawn := d', toks := t' } := by
  have neL : ∀ b o, X.s₀.heap.get? b = some o → b ≠ X.env.locals := fun b o e => Nat.ne_of_lt (Nat.lt_of_lt_of_le (Heap.lt_size e) I.ok.above)
  have neC : ∀ b o, X.s₀.heap.get? b = some o → b ∉ X.ex → b ∉ ch := fun b o e hx hb => by
    rcases (hch b hb).1 with z | z
    · exact hx z
    · exact absurd (Nat.lt_of_lt_of_le (Heap.lt_size e) z) (Nat.lt_irrefl _)
  have cellK : ∀ x c, X.env.cells.lookup x = some c → ∀ v, s.heap.IsCell c v → h'.IsCell c v := fun x c e v ⟨o, ho, hd⟩ => by
    have nch : c ∉ ch := fun z => (hch c z).2.2.1 x c e rfl
    by_cases hc : c ∈ X.fs
    · obtain ⟨sl, q⟩ := slot c o (I.cne x c e) hc nch ho (I.freeC x c e)
      exact ⟨_, q, hd⟩
    · exact ⟨o, keep c o (I.cne x c e) hc nch ho (I.freeC x c e), hd⟩
  refine ⟨I.ok, I.os, hg, ⟨fun b o e n hb hx => ?_, fun b o e n hb hx => ?_, fun b o e n hx => ?_, fun b o e hx => ?_, fun b xs e => tups b xs (I.base.tups b xs e), fun b o xs e => frzs b o xs (I.base.frzs b o xs e), fun b ps e => ?_⟩, ?_, fun x c e => ?_, ?_, fun x c e => ?_, fun p hp => ?_, hok, I.len⟩
  · exact keep b o (neL b o e) hb (neC b o e hx) (I.base.keep b o e n hb hx) (I.base.free b o e n hx)
  · obtain ⟨sl, e1⟩ := I.base.slot b o e n hb hx
    obtain ⟨sl', e2⟩ := slot b _ (neL b o e) hb (neC b o e hx) e1 (I.base.free b o e n hx)
    exact ⟨sl', e2⟩
  · obtain ⟨o', e1⟩ := I.base.there b o e hx
    exact free b o' (neC b o e hx) e1 (I.base.free b o e n hx)
  · obtain ⟨o', e1⟩ := I.base.there b o e hx
    exact there b o' (neC b o e hx) e1
  · obtain ⟨m1, e1⟩ := I.base.tbls b ps e
    obtain ⟨m2, e2⟩ := tbls b _ e1
    exact ⟨m1 ++ m2, by rw [e2, Array.append_assoc]⟩
  · obtain ⟨m, hn, hl⟩ := I.loc
    refine ⟨m, ns m hn, fun i x v e1 e2 e3 => ?_⟩
    obtain ⟨u, r, l⟩ := hl i x v e1 e2 e3
    refine ⟨u, r, ?_⟩
    rcases l with l | ⟨k, c, e, z⟩
    · exact .inl l
    · exact .inr ⟨k, c, e, cellK x c e _ z⟩
  · obtain ⟨v, z⟩ := I.cell x c e
    exact ⟨v, cellK x c e v z⟩
  · obtain ⟨m, ⟨o, _, _, ho, _⟩, _⟩ := I.loc
    exact free _ o (fun z => (hch _ z).2.1 rfl) ho I.free
  · obtain ⟨v, o, ho, hd⟩ := I.cell x c e
    exact free c o (fun z => (hch c z).2.2.1 x c e rfl) ho (I.freeC x c e)
  · obtain ⟨e, n, ne, nf, d⟩ := I.pin p hp
    have nch : p.1 ∉ ch := fun z => (hch p.1 z).2.2.2 p hp rfl
    exact ⟨keep p.1 p.2 ne nf nch e n, free p.1 p.2 nch e n, ne, nf, d⟩
theorem Inv.un {t' : Nat} (I : Inv X pins σ H s) (u : Un X.fs [] H H' s.heap h') (hok : HOk X.prog X.w H' h') : Inv X pins σ H' { s with heap := h', toks := t' } := by
  obtain ⟨m, ⟨o, es, ep, ho, r⟩, _⟩ := id I.loc
  obtain ⟨sl, hL⟩ := u.any ho I.free (by simp)
  exact I.step (g' := s.gens) (d' := s.drawn) (ch := []) (fun _ z => nomatch z) (fun b o _ hb _ e n => u.keep b o e n hb (by simp)) (fun b o _ hb _ e n => u.slot b o e n hb (by simp)) (fun b o _ e n => u.free b o e n (by simp)) (fun b o _ e => u.there b o e (by simp)) u.tups u.frzs u.tbls (fun m' hm => by
    obtain ⟨o', es', ep', ho', r'⟩ := hm
    rw [ho] at ho'; cases ho'
    exact ⟨_, es', ep', hL, r'⟩) hok I.bare
theorem Inv.call {g' : Array GenState} {t' : Nat} {d' : Drawn} {ch : List Addr} (I : Inv X pins σ H s) (u : Un (frs X.stack) ch H H' s.heap h') (hok : HOk X.prog X.w H' h') (hg : AllBare g')
    (hch : ∀ b ∈ ch, (b ∈ X.ex ∨ X.s₀.heap.objs.size ≤ b) ∧ b ≠ X.env.locals ∧ (∀ x c, X.env.cells.lookup x = some c → c ≠ b) ∧ ∀ p ∈ X.pn ++ pins, p.1 ≠ b) :
    Inv X pins σ H' { s with heap := h', gens := g', drawn := d', toks := t' } := by
  obtain ⟨m, ⟨o, es, ep, ho, r⟩, _⟩ := id I.loc
  obtain ⟨sl, hL⟩ := u.any ho I.free fun z => (hch _ z).2.1 rfl
  exact I.step (ch := ch) hch (fun b o hL hb hc e n => u.keep b o e n (fun z => (List.mem_cons.mp (I.stkSub b z)).elim hL hb) hc) (fun b o _ _ hc e n => u.any e n hc) (fun b o hc e n => u.free b o e n hc) (fun b o hc e => u.there b o e hc) u.tups u.frzs u.tbls (fun m' hm => by
    obtain ⟨o', es', ep', ho', r'⟩ := hm
    rw [ho] at ho'; cases ho'
    exact ⟨_, es', ep', hL, r'⟩) hok hg
theorem Inv.turned {t' : Nat} {it : Addr} (I : Inv X pins σ H s) (k : ∀ b o, b ≠ it → s.heap.get? b = some o → h'.get? b = some o) (hn : H it = none) (hL : it ≠ X.env.locals)
    (h1 : it ∈ X.ex ∨ X.s₀.heap.objs.size ≤ it) (h2 : ∀ x c, X.env.cells.lookup x = some c → c ≠ it) (h3 : ∀ p ∈ X.pn ++ pins, p.1 ≠ it) : Inv X pins σ H { s with heap := h', toks := t' } := by
  have nit : ∀ b u, H b = some u → b ≠ it := fun b u e z => by rw [z, hn] at e; cases e
  refine I.step (g' := s.gens) (d' := s.drawn) (ch := [it]) (fun b hb => ?_) (fun b o _ _ hc e _ => k b o (fun z => hc (by simp [z])) e) (fun b o _ _ hc e _ => ⟨o.slots, k b o (fun z => hc (by simp [z])) e⟩) (fun _ _ _ _ n => n)
    (fun b o hc e => ⟨o, k b o (fun z => hc (by simp [z])) e⟩) (fun _ _ e => e) (fun _ _ _ e => e) (fun b ps e => ⟨#[], by rw [e]; simp⟩) (fun m hm => ?_) (fun b u e => ?_) I.bare
  · have e : b = it := by simpa using hb
    subst e
    exact ⟨h1, hL, h2, h3⟩
  · obtain ⟨o, es, ep, ho, r⟩ := hm
    exact ⟨o, es, ep, k _ o (Ne.symm hL) ho, r⟩
  · refine (I.hok b u e).stay (fun c v hc q => k c v ?_ q) (fun _ q => q) fun _ _ q => q
    rcases hc with z | z
    · rw [z]; exact nit b u e
    · exact nit c _ z
theorem Inv.tok (I : Inv X pins σ H s) (t : Nat) : Inv X pins σ H { s with toks := t } := I.un (h' := s.heap) (t' := t) Un.refl I.hok
theorem Inv.kept {t' : Nat} (I : Inv X pins σ H s) (k : ∀ b u, s.heap.get? b = some u → h'.get? b = some u) : Inv X pins σ H { s with heap := h', toks := t' } := I.un (Un.kept k) (I.hok.kept k)
theorem Inv.laid {a : Addr} {o : HO} {t' : Nat} (I : Inv X pins σ H s) (k : ∀ b u, s.heap.get? b = some u → h'.get? b = some u) (hp : s.heap.objs.size ≤ a) (new : ObjOk X.prog X.w (upd H a o) h' a o) :
    Inv X pins σ (upd H a o) { s with heap := h', toks := t' } := I.un (Un.laid k hp (I.hok.fresh hp)) (I.hok.laid k hp new)
theorem Inv.write {x e : Addr} {o : HO} {t' : Nat} (I : Inv X pins σ H s) (mu : Mut (H x)) (he : e = x ∨ H e = some (.own x)) (k : ∀ b u, b ≠ e → s.heap.get? b = some u → h'.get? b = some u) (heo : ∃ u, h'.get? e = some u)
    (new : ObjOk X.prog X.w (upd H x o) h' x o) : Inv X pins σ (upd H x o) { s with heap := h', toks := t' } := I.un (Un.write mu he k heo) (I.hok.write mu he k heo new)
theorem Inv.pins_of {pins' : List (Addr × Obj)} (I : Inv X pins σ H s) (h : ∀ p ∈ pins', s.heap.get? p.1 = some p.2 ∧ H p.1 = none ∧ p.1 ≠ X.env.locals ∧ p.1 ∉ X.fs ∧ ∀ v, p.2.data ≠ .cell v) : Inv X pins' σ H s :=
  ⟨I.ok, I.os, I.bare, I.base, I.loc, I.cell, I.free, I.freeC, fun p hp => (List.mem_append.mp hp).elim (fun z => I.pin p (List.mem_append_left _ z)) (h p), I.hok, I.len⟩
theorem nodup_ix {N : List Str} (hN : N.Nodup) {i j : Nat} {x : Str} (a : N[i]? = some x) (b : N[j]? = some x) : i = j := by
  obtain ⟨h1, e1⟩ := List.getElem?_eq_some_iff.mp a
  obtain ⟨h2, e2⟩ := List.getElem?_eq_some_iff.mp b
  exact (List.getElem_inj hN).mp (e1.trans e2.symm)
theorem store_ok2 {M : Model} {A : Around} {E : Value → Shared → Prop} {i : Nat} {x : Str} {v : V} {u : Value} {Q : Unit → Shared → Prop} (I : Inv X pins σ H s) (hN : X.N.Nodup) (hi : X.N[i]? = some x) (hx : Loc X.env.scope x) (r : RelV v u)
    (h : ∀ s', Inv X pins (σ.set i (some v)) H s' → (∃ a, Heap.SameBut a s.heap s'.heap ∧ (a = X.env.locals ∨ X.env.cells.lookup x = some a)) → Q () s') (hf : X.fn x = true ∨ X.env.scope.names.lookup x = some .local := by first | exact .inl rfl | exact .inr rfl | assumption) : wpAny M A (storeName X.env x u) Q E s := by
  obtain ⟨m, hn, hl⟩ := id I.loc
  have hcls : (X.env.scope.kind == .class || (X.env.scope.kind == .module && X.env.locals != X.env.globals)) = false := by rw [I.ok.kind]; rfl
  have hiσ : i < σ.length := by rw [I.len]; exact (List.getElem?_eq_some_iff.mp hi).1
  have cne := I.cne
  have tracked : ∀ {a : Addr} {h' : Heap}, (∃ o, s.heap.get? a = some o ∧ H a = none) → Heap.SameBut a s.heap h' → HOk X.prog X.w H h' := fun {a h'} ha hs b ob e => by
    obtain ⟨_, _, hfree⟩ := ha
    refine (I.hok b ob e).stay (fun c w' hc q => (hs.2 c ?_).trans q) (fun _ q => q) fun _ _ q => q
    rintro rfl
    rcases hc with rfl | hc
    · rw [hfree] at e; cases e
    · rw [hfree] at hc; cases hc
  rcases hx with hk | hk
  · refine wpAny_storeName_local hk hn (fun h' hn' hs => ?_) hcls
    obtain ⟨oL, _, _, hoL, _⟩ := id hn
    refine h _ ⟨I.ok, I.os, I.bare, ⟨fun b o e n hb hx => ?_, fun b o e n hb hx => ?_, I.base.free, fun b o e hx => ?_, I.base.tups, I.base.frzs, I.base.tbls⟩, ⟨_, hn', fun j y v' e1 e2 e3 => ?_⟩, fun y c e => ?_, I.free, I.freeC, fun p hp => ?_, tracked ⟨oL, hoL, I.free⟩ hs, by simpa using I.len⟩ ⟨_, hs, .inl rfl⟩
    · exact (hs.2 b (Nat.ne_of_lt (Nat.lt_of_lt_of_le (Heap.lt_size e) I.ok.above))).trans (I.base.keep b o e n hb hx)
    · obtain ⟨sl, e1⟩ := I.base.slot b o e n hb hx
      exact ⟨sl, (hs.2 b (Nat.ne_of_lt (Nat.lt_of_lt_of_le (Heap.lt_size e) I.ok.above))).trans e1⟩
    · obtain ⟨o', e1⟩ := I.base.there b o e hx
      exact ⟨o', (hs.2 b (Nat.ne_of_lt (Nat.lt_of_lt_of_le (Heap.lt_size e) I.ok.above))).trans e1⟩
    · by_cases hj : j = i
      · subst hj
        rw [hi] at e1; cases e1
        rw [List.getElem?_set_self hiσ] at e2
        cases e2
        exact ⟨u, r, .inl ⟨hk, by simp⟩⟩
      · rw [List.getElem?_set_ne (Ne.symm hj)] at e2
        obtain ⟨u', r', q⟩ := hl j y v' e1 e2 e3
        refine ⟨u', r', ?_⟩
        rcases q with ⟨k, e⟩ | ⟨k, c, e, z⟩
        · refine .inl ⟨k, ?_⟩
          have : y ≠ x := fun e => hj (nodup_ix hN e1 (e ▸ hi))
          simp [this, e]
        · exact .inr ⟨k, c, e, z.sameBut hs (cne y c e)⟩
    · obtain ⟨w', z⟩ := I.cell y c e
      exact ⟨w', z.sameBut hs (cne y c e)⟩
    · obtain ⟨e, n, ne, nf, d⟩ := I.pin p hp
      exact ⟨(hs.2 p.1 ne).trans e, n, ne, nf, d⟩
  · have hfn : X.fn x = true := by
      rcases hf with z | z
      · exact z
      · rw [z] at hk; cases hk
    obtain ⟨c, hc⟩ := I.ok.has x (.inl hk)
    obtain ⟨w', z⟩ := I.cell x c hc
    refine wpAny_storeName_cell I.ok.kind hk hc z (fun h' hc' hs => ?_)
    obtain ⟨oc, hoc, hocd⟩ := id z
    refine h { s with heap := h' } ⟨I.ok, I.os, I.bare, ⟨fun b o e n hb hx => ?_, fun b o e n hb hx => ?_, I.base.free, fun b o e hx => ?_, I.base.tups, I.base.frzs, I.base.tbls⟩, ⟨m, hn.sameBut hs (Ne.symm (cne x c hc)), fun j y v' e1 e2 e3 => ?_⟩, fun y c' e => ?_, I.free, I.freeC, fun p hp => ?_, tracked ⟨oc, hoc, I.freeC x c hc⟩ hs, by simpa using I.len⟩ ⟨c, hs, .inr hc⟩
    · exact (hs.2 b (Nat.ne_of_lt (Nat.lt_of_lt_of_le (Heap.lt_size e) (I.ok.cab x c hfn hc)))).trans (I.base.keep b o e n hb hx)
    · obtain ⟨sl, e1⟩ := I.base.slot b o e n hb hx
      exact ⟨sl, (hs.2 b (Nat.ne_of_lt (Nat.lt_of_lt_of_le (Heap.lt_size e) (I.ok.cab x c hfn hc)))).trans e1⟩
    · obtain ⟨o', e1⟩ := I.base.there b o e hx
      exact ⟨o', (hs.2 b (Nat.ne_of_lt (Nat.lt_of_lt_of_le (Heap.lt_size e) (I.ok.cab x c hfn hc)))).trans e1⟩
    · by_cases hj : j = i
      · subst hj
        rw [hi] at e1; cases e1
        rw [List.getElem?_set_self hiσ] at e2
        cases e2
        exact ⟨u, r, .inr ⟨.inl hk, c, hc, hc'⟩⟩
      · rw [List.getElem?_set_ne (Ne.symm hj)] at e2
        obtain ⟨u', r', q⟩ := hl j y v' e1 e2 e3
        refine ⟨u', r', ?_⟩
        rcases q with q | ⟨k, c', e, z'⟩
        · exact .inl q
        · refine .inr ⟨k, c', e, z'.sameBut hs ?_⟩
          rintro rfl
          exact hj (nodup_ix hN e1 (I.ok.inj _ _ _ e hc ▸ hi))
    · by_cases hcc : c' = c
      · subst hcc; exact ⟨_, hc'⟩
      · obtain ⟨w2, z2⟩ := I.cell y c' e
        exact ⟨w2, z2.sameBut hs hcc⟩
    · obtain ⟨e, n, ne, nf, d⟩ := I.pin p hp
      refine ⟨(hs.2 p.1 ?_).trans e, n, ne, nf, d⟩
      intro q
      rw [q, hoc] at e
      have q' : oc = p.2 := Option.some.inj e
      exact d w' (by rw [← q']; exact hocd)
theorem store_ok {M : Model} {A : Around} {E : Value → Shared → Prop} {i : Nat} {x : Str} {v : V} {u : Value} {Q : Unit → Shared → Prop} (I : Inv X pins σ H s) (hN : X.N.Nodup) (hi : X.N[i]? = some x) (hx : Loc X.env.scope x) (r : RelV v u)
    (h : ∀ s', Inv X pins (σ.set i (some v)) H s' → Q () s') (hf : X.fn x = true ∨ X.env.scope.names.lookup x = some .local := by first | exact .inl rfl | exact .inr rfl | assumption) : wpAny M A (storeName X.env x u) Q E s :=
  store_ok2 I hN hi hx r (fun s' I' _ => h s' I') hf
end
abbrev XK := Value → Option Addr → Hp → Prop
abbrev St := List (Option V)
abbrev VK := V → Hp → Prop
abbrev TE := St → Hp → VK → Prop
abbrev TT := St → Hp → (Bool → Hp → Prop) → Prop
abbrev TA := St → Hp → (List V → Hp → Prop) → Prop
structure Ends where
  nx : St → Hp → Prop
  rt : VK
  bk : St → Hp → Prop := fun _ _ => False
  ct : St → Hp → Prop := fun _ _ => False
abbrev TS := Ends → St → Hp → Prop
def EP (X : Cx) (pins : List (Addr × Obj)) (σ : St) (Q : VK) (u : Value) (s' : Shared) : Prop := ∃ v H', Inv X pins σ H' s' ∧ RelV v u ∧ Q v H'
def TP (X : Cx) (pins : List (Addr × Obj)) (σ : St) (Q : Bool → Hp → Prop) (b : Bool) (s' : Shared) : Prop := ∃ H', Inv X pins σ H' s' ∧ Q b H'
def AP (X : Cx) (pins : List (Addr × Obj)) (σ : St) (Q : List V → Hp → Prop) (us : List Value) (s' : Shared) : Prop := ∃ vs H', Inv X pins σ H' s' ∧ Vals vs us ∧ Q vs H'
def SP (X : Cx) (pins : List (Addr × Obj)) (D : Ends) (f : Flow) (s' : Shared) : Prop :=
  match f with
  | .next => ∃ σ' H', Inv X pins σ' H' s' ∧ D.nx σ' H'
  | .brk => ∃ σ' H', Inv X pins σ' H' s' ∧ D.bk σ' H'
  | .cont => ∃ σ' H', Inv X pins σ' H' s' ∧ D.ct σ' H'
  | .ret u => ∃ v σ' H', Inv X pins σ' H' s' ∧ RelV v u ∧ D.rt v H'
def PE (X : Cx) (e : Expr) (t : TE) : Prop :=
  ∀ (pins : List (Addr × Obj)) (s : Shared) (σ : St) (H : Hp) (Q : VK), Inv X pins σ H s → t σ H Q → wpAny (model X.prog X.w) X.A (eval e X.env) (EP X pins σ Q) X.xe s
def PT (X : Cx) (e : Expr) (t : TT) : Prop :=
  ∀ (pins : List (Addr × Obj)) (s : Shared) (σ : St) (H : Hp) (Q : Bool → Hp → Prop), Inv X pins σ H s → t σ H Q → wpAny (model X.prog X.w) X.A (isTrue e X.env (eval e X.env)) (TP X pins σ Q) X.xe s
def PA (X : Cx) (es : List Expr) (t : TA) : Prop :=
  ∀ (pos : Pos) (pins : List (Addr × Obj)) (s : Shared) (σ : St) (H : Hp) (Q : List V → Hp → Prop), Inv X pins σ H s → t σ H Q → wpAny (model X.prog X.w) X.A (spliced (backTo pos (starEach es X.env))) (AP X pins σ Q) X.xe s
def PS (X : Cx) (st : Stmt) (t : TS) : Prop :=
  ∀ (pins : List (Addr × Obj)) (s : Shared) (σ : St) (H : Hp) (D : Ends), Inv X pins σ H s → t D σ H → wpAny (model X.prog X.w) X.A (exec st X.env) (SP X pins D) X.xe s
def PSs (X : Cx) (st : List Stmt) (t : TS) : Prop :=
  ∀ (pins : List (Addr × Obj)) (s : Shared) (σ : St) (H : Hp) (D : Ends), Inv X pins σ H s → t D σ H → wpAny (model X.prog X.w) X.A (execs st X.env) (SP X pins D) X.xe s
theorem thn {α : Type} {t : Sem α} {Q Q' : α → Shared → Prop} {M : Model} {A : Around} {E : Value → Shared → Prop} {s : Shared} (h : wpAny M A t Q E s) (hQ : ∀ a s, Q a s → Q' a s) : wpAny M A t Q' E s := wpAny_mono h hQ fun _ _ x => x
end L2
namespace L2
open PySem PySem.Spec PyProof.Rows
section
variable {X : Cx}
def tVar (i : Nat) : TE := fun σ H Q => ∃ v, σ[i]? = some (some v) ∧ Q v H
def tC (v : V) : TE := fun _ H Q => Q v H
theorem pe_var {i : Nat} {x : Str} {pos : Pos} (hN : X.N[i]? = some x) (hv : Vis X.env.scope x) (hd : (x == ("__debug__" : Str)) = false := by decide) (hcd : (x == ("__classdict__" : Str)) = false := by decide) : PE X (.Name x pos) (tVar i) := by
  intro pins s σ H Q I h
  obtain ⟨v, e, h⟩ := h
  obtain ⟨m, hn, hl⟩ := I.loc
  obtain ⟨u, r, l⟩ := hl i x v hN e hv
  have fin : EP X pins σ Q u s := ⟨v, H, I, r, h⟩
  rcases l with ⟨hk, hm⟩ | ⟨hk, c, hc, hcell⟩
  · exact wpAny_Name (wpAny_loadName_local I.ok.kind hk hn hm fin) hd
  · rcases hk with hk | hk
    · exact wpAny_Name (wpAny_loadName_cell I.ok.kind hk hc hcell fin) hd
    · exact wpAny_Name (wpAny_loadName_free I.ok.kind hk hc hcell fin hcd) hd
theorem pe_int {i j pos} : PE X (.Constant (.int i) j pos) (tC (.int i)) := fun _ _ _ H _ I h => wpAny_Constant_int ⟨.int i, H, I.tok _, ⟨_, rfl⟩, h⟩
theorem pe_bl {b j pos} : PE X (.Constant (.bool b) j pos) (tC (.bl b)) := fun _ _ _ H _ I h => Constant_bool ⟨.bl b, H, I, rfl, h⟩
theorem pe_non {j pos} : PE X (.Constant .none j pos) (tC .non) := fun _ _ _ H _ I h => Constant_none ⟨.non, H, I, rfl, h⟩
theorem pe_str {x j pos} : PE X (.Constant (.str x) j pos) (tC (.str x)) := fun _ _ _ H _ I h => Calls.Constant_str ⟨.str x, H, I.tok _, ⟨_, rfl⟩, h⟩
def Gl (X : Cx) (x : Str) : Prop := X.env.kindOf x = some .globalImplicit
theorem ld_glob {E : Value → Shared → Prop} {pins : List (Addr × Obj)} {s : Shared} {σ : St} {H : Hp} {x : Str} {u : Value} {pos : Pos} {Q : Value → Shared → Prop} (I : Inv X pins σ H s) (hg : Gl X x) (hm : X.mg x = some u) (h : Q u s)
    (hd : (x == ("__debug__" : Str)) = false := by decide) : wpAny (model X.prog X.w) X.A (eval (.Name x pos) X.env) Q E s :=
  Calls.Name_function_global I.ok.kind hg (Calls.loadGlobal_global (by rw [I.ok.glob]; exact I.mod.glob.keeps I.bk) hm h) hd
theorem ld_blt {E : Value → Shared → Prop} {pins : List (Addr × Obj)} {s : Shared} {σ : St} {H : Hp} {x : Str} {u : Value} {pos : Pos} {Q : Value → Shared → Prop} (I : Inv X pins σ H s) (hg : Gl X x) (hm : X.mg x = none) (hv : bootBuiltins x = some u) (h : Q u s)
    (hn : x ≠ "__name__" := by decide) (hd : (x == ("__debug__" : Str)) = false := by decide) : wpAny (model X.prog X.w) X.A (eval (.Name x pos) X.env) Q E s := by
  obtain ⟨mb, h1, h2⟩ := I.mod.blt
  exact Calls.Name_function_global I.ok.kind hg (Calls.loadGlobal_builtin (by rw [I.ok.glob]; exact I.mod.glob.keeps I.bk) hm (by rw [I.ok.blt]; exact h1.keeps I.bk) ((h2 x hn).trans hv) h) hd
theorem pe_glob {x : Str} {v : V} {u : Value} {pos : Pos} (hg : Gl X x) (hm : X.mg x = some u) (r : RelV v u) (hd : (x == ("__debug__" : Str)) = false := by decide) : PE X (.Name x pos) (tC v) :=
  fun _ _ _ H _ I h => ld_glob I hg hm ⟨v, H, I, r, h⟩ hd
theorem pe_bltn {x : Str} {v : V} {u : Value} {pos : Pos} (hg : Gl X x) (hm : X.mg x = none) (hv : bootBuiltins x = some u) (r : RelV v u) (hn : x ≠ "__name__" := by decide) (hd : (x == ("__debug__" : Str)) = false := by decide) : PE X (.Name x pos) (tC v) :=
  fun _ _ _ H _ I h => ld_blt I hg hm hv ⟨v, H, I, r, h⟩ hn hd
variable {a b : Expr} {ta tb : TE} {pos : Pos}
def tB (t : TE) : TT := fun σ H Q => t σ H fun x H1 => ∃ c, x = .bl c ∧ Q c H1
theorem pt_val {e : Expr} {t : TE} (h : PE X e t) (he : ∀ whole, isTrue e X.env whole = (do let v ← whole; standAt e.pos; holding [v] (truthy v)) := by intro _; rfl) : PT X e (tB t) := by
  intro pins s σ H Q I hw
  refine isTrue_plain (thn (h pins s σ H _ I hw) fun v s1 ⟨x, H1, I1, r1, q1⟩ => ?_) (he _)
  obtain ⟨d, rfl, q⟩ := q1
  cases r1
  exact wpAny_truthy_bool ⟨H1, I1, q⟩
variable {tA tB' : TT} {rest : List Expr}
def tNot (t : TT) : TT := fun σ H Q => t σ H fun c H1 => Q (!c) H1
theorem pt_not (ha : PT X a tA) : PT X (.UnaryOp .Not a pos) (tNot tA) := by
  intro pins s σ H Q I h
  exact isTrue_not (ha pins s σ H (fun c H1 => Q (!c) H1) I h)
def tAndV (ta tb : TE) : TE := fun σ H Q => ta σ H fun x H1 => ∃ c, x = .bl c ∧ if c = true then tb σ H1 Q else Q (.bl false) H1
def tNotV (ta : TE) : TE := fun σ H Q => ta σ H fun x H1 => ∃ c, x = .bl c ∧ Q (.bl (!c)) H1
theorem pe_one {op} {t : TE} (h : PE X a t) : PE X (.BoolOp op [a] pos) t := fun pins s σ H Q I hw => BoolOp_one (h pins s σ H Q I hw)
theorem pe_and (ha : PE X a ta) (hb : PE X (.BoolOp .And (b :: rest) pos) tb) : PE X (.BoolOp .And (a :: b :: rest) pos) (tAndV ta tb) := by
  intro pins s σ H Q I h
  refine BoolOp_and (thn (ha pins s σ H _ I h) fun v s1 ⟨x, H1, I1, r1, q1⟩ => ?_)
  obtain ⟨c, rfl, q1⟩ := q1
  cases r1
  refine wpAny_truthy_bool ?_
  cases c with
  | true => exact hb pins s1 σ H1 Q I1 q1
  | false => exact ⟨.bl false, H1, I1, rfl, q1⟩
theorem pe_not (ha : PE X a ta) : PE X (.UnaryOp .Not a pos) (tNotV ta) := by
  intro pins s σ H Q I h
  refine UnaryOp_ (thn (ha pins s σ H _ I h) fun v s1 ⟨x, H1, I1, r1, q1⟩ => ?_)
  obtain ⟨c, rfl, q1⟩ := q1
  cases r1
  exact not_of (wpAny_truthy_bool ⟨.bl (!c), H1, I1, rfl, q1⟩)
def tIf (t : TT) (ta tb : TE) : TE := fun σ H Q => t σ H fun c H1 => if c = true then ta σ H1 Q else tb σ H1 Q
theorem pe_ifExp {c : Expr} (hc : PT X c tA) (ha : PE X a ta) (hb : PE X b tb) : PE X (.IfExp c a b pos) (tIf tA ta tb) := by
  intro pins s σ H Q I h
  refine wpAny_IfExp (thn (hc pins s σ H _ I h) fun d s1 ⟨H1, I1, q1⟩ => ?_)
  cases d with
  | true => exact ha pins s1 σ H1 Q I1 q1
  | false => exact hb pins s1 σ H1 Q I1 q1
end
end L2
namespace L2
open PySem PySem.Spec PyProof.Rows
def SqL (K : PySem.W.Frag) (H : Hp) (a : Addr) (xs : List V) : Prop :=
  Rd H a (.lst xs) ∨
    ∃ (o : Obj) (its : Array Value) (n : Nat), K.lookup a = some o ∧ o.cls = .type "list" ∧ o.dict = none ∧ o.data = .seq its n ∧ its.size ≤ sizeLine ∧ Vals xs its.toList
def SqT (K : PySem.W.Frag) (H : Hp) (a : Addr) (xs : List V) : Prop :=
  Rd H a (.tup xs) ∨
    ∃ (o : Obj) (its : Array Value) (n : Nat), K.lookup a = some o ∧ o.cls = .type "tuple" ∧ o.data = .seq its n ∧ its.size ≤ sizeLine ∧ Vals xs its.toList
def absV : Value → Option V
  | .none => some .non
  | .bool b => some (.bl b)
  | .int i _ => some (.int i)
  | .str x _ => some (.str x)
  | .bytes b _ => some (.byt b)
  | .float b _ => some (.flt b)
  | .ref a => some (.ref a)
  | .type n => some (.ty n)
  | _ => none
theorem RelV.abs {x : V} {u : Value} (r : RelV x u) : absV u = some x := by
  cases x with
  | non => cases r; rfl
  | bl _ => cases r; rfl
  | int _ => obtain ⟨t, rfl⟩ := r; rfl
  | str _ => obtain ⟨t, rfl⟩ := r; rfl
  | byt _ => obtain ⟨t, rfl⟩ := r; rfl
  | flt _ => obtain ⟨t, rfl⟩ := r; rfl
  | ref _ => cases r; rfl
  | ty _ => cases r; rfl
theorem RelV.inj {x y : V} {u : Value} (r : RelV x u) (q : RelV y u) : x = y := Option.some.inj (r.abs.symm.trans q.abs)
theorem Vals.inj : ∀ {xs ys : List V} {us : List Value}, Vals xs us → Vals ys us → xs = ys
  | _, _, _, .nil, .nil => rfl
  | _, _, _, .cons r t, .cons r' t' => by rw [r.inj r', Vals.inj t t']
section
variable {X : Cx} {pins : List (Addr × Obj)} {σ : St} {H : Hp} {s : Shared} {a : Addr} {xs ys : List V}
theorem SqL.of {K : PySem.W.Frag} (h : H a = some (.lst xs)) : SqL K H a xs := .inl (.inl h)
theorem SqT.of {K : PySem.W.Frag} (h : H a = some (.tup xs)) : SqT K H a xs := .inl (.inl h)
theorem Inv.list (I : Inv X pins σ H s) (h : SqL X.K H a xs) : ∃ its : List Value, Vals xs its ∧ PlainL s.heap a its.toArray ∧ xs.length ≤ sizeLine := by
  rcases h with h | ⟨o, its, n, hk, hc, hd, hs, hz, r⟩
  · obtain ⟨z, its, n, r, e⟩ := h.ok I.hok
    exact ⟨its, r, ⟨_, n, e, rfl, rfl, rfl⟩, z⟩
  · refine ⟨its.toList, r, ⟨o, n, I.kIn a o hk, hc, hd, by simpa using hs⟩, ?_⟩
    have e := r.length
    simp only [Array.length_toList] at e
    omega
theorem Inv.tuple (I : Inv X pins σ H s) (h : SqT X.K H a xs) : ∃ its : List Value, Vals xs its ∧ IsTup s.heap a its.toArray ∧ xs.length ≤ sizeLine := by
  rcases h with h | ⟨o, its, n, hk, hc, hs, hz, r⟩
  · obtain ⟨z, its, r, p⟩ := h.ok I.hok
    exact ⟨its, r, p, z⟩
  · refine ⟨its.toList, r, ⟨o, I.kIn a o hk, hc, n, by simpa using hs⟩, ?_⟩
    have e := r.length
    simp only [Array.length_toList] at e
    omega
theorem Inv.list_inj (I : Inv X pins σ H s) (h : SqL X.K H a xs) (h' : SqL X.K H a ys) : xs = ys := by
  obtain ⟨its, r, ⟨o, n, e, _, _, d⟩, _⟩ := I.list h
  obtain ⟨its', r', ⟨o', n', e', _, _, d'⟩, _⟩ := I.list h'
  rw [e] at e'; cases e'
  rw [d] at d'
  injection d' with d1 _
  have : its = its' := by simpa using congrArg Array.toList d1
  subst this
  exact r.inj r'
end
abbrev Cx.wish (X : Cx) (E : Value → Shared → Prop) : Cx := { X with xe := E }
abbrev Cx.nox (X : Cx) : Cx := X.wish fun _ _ => False
theorem Cx.Ok.wish {X : Cx} (ok : X.Ok) (E : Value → Shared → Prop) : (X.wish E).Ok :=
  ⟨ok.mod, ok.kind, ok.glob, ok.blt, ok.above, ok.inj, ok.has, ok.cab, ok.hd, ok.frames, ok.stk, ok.exf, ok.bs, ok.bsz, ok.noex, ok.exfs, ok.funs, ok.frf⟩
theorem Cx.Ok.unwish {X : Cx} {E : Value → Shared → Prop} (ok : (X.wish E).Ok) : X.Ok :=
  ⟨ok.mod, ok.kind, ok.glob, ok.blt, ok.above, ok.inj, ok.has, ok.cab, ok.hd, ok.frames, ok.stk, ok.exf, ok.bs, ok.bsz, ok.noex, ok.exfs, ok.funs, ok.frf⟩
section
variable {X : Cx} {pins : List (Addr × Obj)} {σ : St} {H : Hp} {s : Shared} {E : Value → Shared → Prop}
theorem Inv.wish (I : Inv X pins σ H s) (E : Value → Shared → Prop) : Inv (X.wish E) pins σ H s := ⟨I.ok.wish E, I.os, I.bare, I.base, I.loc, I.cell, I.free, I.freeC, I.pin, I.hok, I.len⟩
theorem Inv.unwish (I : Inv (X.wish E) pins σ H s) : Inv X pins σ H s := ⟨I.ok.unwish, I.os, I.bare, I.base, I.loc, I.cell, I.free, I.freeC, I.pin, I.hok, I.len⟩
theorem SP.unwish {D : Ends} {f : Flow} {s' : Shared} (h : SP (X.wish E) pins D f s') : SP X pins D f s' := by
  cases f with
  | next => obtain ⟨σ', H', I, q⟩ := h; exact ⟨σ', H', I.unwish, q⟩
  | brk => obtain ⟨σ', H', I, q⟩ := h; exact ⟨σ', H', I.unwish, q⟩
  | cont => obtain ⟨σ', H', I, q⟩ := h; exact ⟨σ', H', I.unwish, q⟩
  | ret u => obtain ⟨v, σ', H', I, r, q⟩ := h; exact ⟨v, σ', H', I.unwish, r, q⟩
theorem PSs.nox {st : List Stmt} {t : TS} (h : PSs X.nox st t) : PSs X st t := fun pins s σ H D I hw =>
  wpAny_mono (h pins s σ H D (I.wish _) hw) (fun _ _ q => q.unwish) fun _ _ z => False.elim z
end
section
variable {X : Cx} {st : Stmt} {rest : List Stmt} {t u : TS} {e : Expr} {te : TE} {pos : Pos}
def tNext : TS := fun D σ H => D.nx σ H
def tSeq (t u : TS) : TS := fun D σ H => t { D with nx := u D } σ H
theorem pss_nil : PSs X [] tNext := fun _ _ σ H _ I h => wpAny_execs_nil ⟨σ, H, I, h⟩
theorem pss_cons (h1 : PS X st t) (h2 : PSs X rest u) : PSs X (st :: rest) (tSeq t u) := by
  intro pins s σ H D I h
  refine wpAny_execs_cons (thn (h1 pins s σ H { D with nx := u D } I h) fun f s1 q => ?_)
  cases f with
  | next =>
    obtain ⟨σ', H', I', q⟩ := q
    exact h2 pins s1 σ' H' D I' q
  | ret v => exact q
  | brk => exact q
  | cont => exact q
theorem pss_one (h1 : PS X st t) : PSs X [st] t := by
  intro pins s σ H D I h
  refine wpAny_execs_cons (thn (h1 pins s σ H D I h) fun f s1 q => ?_)
  cases f with
  | next => exact wpAny_execs_nil q
  | ret v => exact q
  | brk => exact q
  | cont => exact q
theorem Inv.quiet {pins : List (Addr × Obj)} {σ : St} {H : Hp} {s : Shared} (I : Inv X pins σ H s) : interactive X.env = false := by simp [interactive, I.ok.kind]
def tDrop (te : TE) : TS := fun D σ H => te σ H fun _ H1 => D.nx σ H1
theorem ps_expr (he : PE X e te) (hs : swapsWith e none pos.line X.env = pure false := by rfl) : PS X (.Expr e pos) (tDrop te) := by
  intro pins s σ H D I h
  exact wpAny_Expr_any (thn (he pins s σ H _ I h) fun v s1 ⟨x, H1, I1, r1, q1⟩ => ⟨σ, H1, I1, q1⟩) I.quiet hs
def tRet (te : TE) : TS := fun D σ H => te σ H D.rt
theorem ps_ret (he : PE X e te) : PS X (.Return (some e) pos) (tRet te) := by
  intro pins s σ H D I h
  exact wpAny_Return_some (thn (he pins s σ H _ I h) fun v s1 ⟨x, H1, I1, r1, q1⟩ => ⟨x, σ, H1, I1, r1, q1⟩)
def tIfS (c : TT) (t u : TS) : TS := fun D σ H => c σ H fun b H1 => if b = true then t D σ H1 else u D σ H1
theorem ps_if {c : Expr} {a b : List Stmt} {tc : TT} (hc : PT X c tc) (ha : PSs X a t) (hb : PSs X b u) : PS X (.If c a b pos) (tIfS tc t u) := by
  intro pins s σ H D I h
  refine wpAny_If (thn (hc pins s σ H _ I h) fun d s1 ⟨H1, I1, q1⟩ => ?_)
  cases d with
  | true => exact ha pins s1 σ H1 D I1 q1
  | false => exact hb pins s1 σ H1 D I1 q1
def tNever : TS := fun _ _ _ => False
theorem ps_never : PS X st tNever := fun _ _ _ _ _ _ h => h.elim
theorem pss_never {sts : List Stmt} : PSs X sts tNever := fun _ _ _ _ _ _ h => h.elim
end
abbrev TG := V → St → Hp → (St → Hp → Prop) → Prop
abbrev TGs := List V → St → Hp → (St → Hp → Prop) → Prop
def PG (X : Cx) (target : Expr) (t : TG) : Prop :=
  ∀ (pins : List (Addr × Obj)) (s : Shared) (σ : St) (H : Hp) (v : V) (u : Value) (Q : St → Hp → Prop), Inv X pins σ H s → RelV v u → t v σ H Q →
    wpAny (model X.prog X.w) X.A (assign target X.env u) (fun _ s' => ∃ σ' H', Inv X pins σ' H' s' ∧ Q σ' H') X.xe s
def PGs (X : Cx) (ts : List Expr) (t : TGs) : Prop :=
  ∀ (pins : List (Addr × Obj)) (s : Shared) (σ : St) (H : Hp) (vs : List V) (us : List Value) (Q : St → Hp → Prop), Inv X pins σ H s → Vals vs us → t vs σ H Q →
    wpAny (model X.prog X.w) X.A (assignInOrder ((assignEach ts X.env).map (·.2)) us) (fun _ s' => ∃ σ' H', Inv X pins σ' H' s' ∧ Q σ' H') X.xe s
section
variable {X : Cx} {pos : Pos}
def gName (i : Nat) : TG := fun v σ H Q => Q (σ.set i (some v)) H
theorem pg_name {i : Nat} {x : Str} (hN : X.N.Nodup) (hi : X.N[i]? = some x) (hx : Loc X.env.scope x) (hf : X.fn x = true ∨ X.env.scope.names.lookup x = some .local := by first | exact .inl rfl | exact .inr rfl | assumption) : PG X (.Name x pos) (gName i) := by
  intro pins s σ H v u Q I r h
  exact wpAny_assign_Name (store_ok I hN hi hx r (fun s' I' => ⟨_, H, I', h⟩) hf)
def gNil : TGs := fun vs σ H Q => vs = [] ∧ Q σ H
def gCons (t : TG) (u : TGs) : TGs := fun vs σ H Q => ∃ v r, vs = v :: r ∧ t v σ H fun σ' H' => u r σ' H' Q
theorem pgs_nil : PGs X [] gNil := by
  intro pins s σ H vs us Q I r h
  obtain ⟨e, h⟩ := h
  subst e
  cases r
  exact assignInOrder_nil ⟨σ, H, I, h⟩
theorem pgs_cons {e : Expr} {es : List Expr} {t : TG} {u : TGs} (h1 : PG X e t) (h2 : PGs X es u)
    (hs : (assignEach (e :: es) X.env).map (·.2) = assign e X.env :: (assignEach es X.env).map (·.2) := by rfl) : PGs X (e :: es) (gCons t u) := by
  intro pins s σ H vs us Q I r h
  obtain ⟨v, vr, e1, h⟩ := h
  subst e1
  cases r with
  | cons r rr =>
    rw [hs]
    refine assignInOrder_cons (thn (h1 pins s σ H _ _ _ I r h) fun _ s1 ⟨σ1, H1, I1, q1⟩ => ?_)
    exact h2 pins s1 σ1 H1 _ _ Q I1 rr q1
def gTup (K : PySem.W.Frag) (n : Nat) (t : TGs) : TG := fun v σ H Q => ∃ a xs, v = .ref a ∧ SqT K H a xs ∧ xs.length = n ∧ t xs σ H Q
theorem pg_tup {es : List Expr} {k : Nat} {t : TGs} {n : Nat} (hc : X.calm = true) (h : PGs X es t)
    (hn : (assignEach es X.env).length = n := by rfl) (hst : (assignEach es X.env).findIdx? (·.1) = none := by rfl) : PG X (.Tuple es k pos) (gTup X.K n t) := by
  intro pins s σ H v u Q I r hw
  obtain ⟨a, xs, e1, hq, hl, hw⟩ := hw
  subst e1
  cases r
  obtain ⟨its, rv, ht, hz⟩ := I.tuple hq
  refine assign_Tuple_tuple (I.ok.hd hc) ht (by simp [hn, ← hl, rv.length]) hst fun h' hx => ?_
  have I1 : Inv X pins σ H { s with heap := h' } := I.kept (t' := s.toks) fun b o e => hx b o (Nat.ne_of_lt (Heap.lt_size e)) e
  exact h pins _ σ H xs _ Q I1 (by simpa using rv) hw
def tAsg (te : TE) (g : TG) : TS := fun D σ H => te σ H fun x H1 => g x σ H1 D.nx
theorem ps_set {i : Nat} {x : Str} {e : Expr} {te : TE} {pos' : Pos} (hN : X.N.Nodup) (hi : X.N[i]? = some x) (hx : Loc X.env.scope x) (he : PE X e te) (hs : swapsWith e (some (.Name x pos')) pos.line X.env = pure false := by rfl) (hf : X.fn x = true ∨ X.env.scope.names.lookup x = some .local := by first | exact .inl rfl | exact .inr rfl | assumption) :
    PS X (.Assign [.Name x pos'] e pos) (tAsg te (gName i)) := by
  intro pins s σ H D I h
  refine wpAny_Assign_Name (thn (he pins s σ H _ I h) fun v s1 ⟨y, H1, I1, r1, q1⟩ => ?_) hs
  exact store_ok I1 hN hi hx r1 (fun s2 I2 => ⟨_, H1, I2, q1⟩) hf
end
section
variable {X : Cx} {pos : Pos}
def tWhile (c : TT) (tb : TS) : TS := fun D σ H => ∃ W : Nat → St → Hp → Prop, (∃ m, W m σ H) ∧ ∀ m σ H, W m σ H →
  c σ H fun b H1 => if b = true then ∃ N : St → Hp → Prop, (∀ σ' H', N σ' H' → ∃ m', m' < m ∧ W m' σ' H') ∧ tb { D with nx := N, ct := N, bk := D.nx } σ H1 else D.nx σ H1
theorem ps_while {c : Expr} {body : List Stmt} {tc : TT} {tb : TS} (hp : PassesOwn (model X.prog X.w) X.A X.env X.xe) (hc : PT X c tc) (hb : PSs X body tb) : PS X (.While c body [] pos) (tWhile tc tb) := by
  intro pins s σ H D I h
  obtain ⟨W, ⟨m0, w0⟩, turn⟩ := h
  refine wpAny_While (codeAny_whileLoop (fun n s' => ∃ σ' H', Inv X pins σ' H' s' ∧ W n σ' H') ?_ m0 ⟨σ, H, I, w0⟩)
  rintro n s1 ⟨σ1, H1, I1, w1⟩
  refine wpAny_passesOwn hp (thn (hc pins s1 σ1 H1 _ I1 (turn n σ1 H1 w1)) fun b s2 ⟨H2, I2, q2⟩ => ?_)
  cases b with
  | true =>
    obtain ⟨N, hN, q2⟩ := q2
    rw [if_pos rfl]
    refine wpAny_passesOwn hp (thn (hb pins s2 σ1 H2 _ I2 q2) fun f s3 q3 => ?_)
    cases f with
    | next =>
      obtain ⟨σ3, H3, I3, n3⟩ := q3
      obtain ⟨m', hm, w3⟩ := hN σ3 H3 n3
      exact ⟨m', hm, σ3, H3, I3, w3⟩
    | cont =>
      obtain ⟨σ3, H3, I3, n3⟩ := q3
      obtain ⟨m', hm, w3⟩ := hN σ3 H3 n3
      exact ⟨m', hm, σ3, H3, I3, w3⟩
    | brk => exact q3
    | ret v => exact q3
  | false =>
    rw [if_neg Bool.false_ne_true]
    exact wpAny_execs_nil ⟨σ1, H2, I2, q2⟩
end
structure It where
  go : Nat → Hp → Prop
  yld : Nat → Hp → V → Hp → Prop
  stop : Nat → Hp → Prop
def FpOk (X : Cx) (pins : List (Addr × Obj)) (H : Hp) (b : Addr) : Prop :=
  H b = none ∧ b ≠ X.env.locals ∧ b ∉ X.fs ∧ (b ∈ X.ex ∨ X.s₀.heap.objs.size ≤ b) ∧ (∀ x c, X.env.cells.lookup x = some c → c ≠ b) ∧ ∀ p ∈ X.pn ++ pins, p.1 ≠ b
theorem Inv.fpOk {X : Cx} {pins : List (Addr × Obj)} {σ : St} {H H' : Hp} {s : Shared} {b : Addr} (I : Inv X pins σ H s) (hb : s.heap.objs.size ≤ b) (hn : H' b = none) : FpOk X pins H' b := by
  refine ⟨hn, Nat.ne_of_gt (Nat.lt_of_lt_of_le I.lt hb), I.nofs hb, .inr (Nat.le_trans I.sz hb), fun x c e z => ?_, fun p hp z => ?_⟩
  · obtain ⟨v, q⟩ := I.cell x c e
    exact absurd (Nat.lt_of_lt_of_le q.lt (by rw [z]; exact hb)) (Nat.lt_irrefl _)
  · exact absurd (Nat.lt_of_lt_of_le (Heap.lt_size (I.pin p hp).1) (by rw [z]; exact hb)) (Nat.lt_irrefl _)
structure Turn (P : Program) (w : World) (K : PySem.W.Frag) (tg : Expr) (J : It) (fp : List Addr) (it : Addr) (tn : Nat → Heap → Prop) : Prop where
  mem : it ∈ fp
  obj : ∀ i h, tn i h → ∀ b ∈ fp, ∃ o, h.get? b = some o ∧ ∀ v, o.data ≠ .cell v
  keep : ∀ i h h', tn i h → (∀ b ∈ fp, ∀ o, h.get? b = some o → h'.get? b = some o) → tn i h'
  item : ∀ (X : Cx), X.prog = P → X.w = w → X.K = K → X.calm = true → ∀ (i : Nat) (pins : List (Addr × Obj)) (s : Shared) (σ : St) (H : Hp) (E : Value → Shared → Prop), Inv X pins σ H s → (∀ b ∈ fp, FpOk X pins H b) → tn i s.heap → J.go i H →
    wpAny (model P w) X.A (pyNext (.ref it)) (fun r s1 => ∃ u, r = some u ∧
      wpAny (model P w) X.A (letOwnedTupleGo tg (.ref it) u) (fun _ s2 => ∃ x H', Inv X pins σ H' s2 ∧ RelV x u ∧ J.yld i H x H' ∧ tn (i + 1) s2.heap ∧ ∀ b ∈ fp, H' b = none) E s1) E s
  done : ∀ (X : Cx), X.prog = P → X.w = w → X.K = K → X.calm = true → ∀ (i : Nat) (pins : List (Addr × Obj)) (s : Shared) (σ : St) (H : Hp) (E : Value → Shared → Prop), Inv X pins σ H s → (∀ b ∈ fp, FpOk X pins H b) → tn i s.heap → J.stop i H →
    wpAny (model P w) X.A (pyNext (.ref it)) (fun r s1 => r = none ∧ Inv X pins σ H s1) E s
  self : ∀ (A : Around) (i : Nat) (s : Shared) (Q : Value → Shared → Prop) (E : Value → Shared → Prop), tn i s.heap → Q (.ref it) s → wpAny (model P w) A (pyIter (.ref it)) Q E s
abbrev TI := St → Hp → (It → Hp → Prop) → Prop
def PIE (X : Cx) (pins : List (Addr × Obj)) (σ : St) (tg : Expr) (R : It → Hp → Prop) (itv : Value) (s2 : Shared) : Prop :=
  ∃ (it : Addr) (fp : List Addr) (tn : Nat → Heap → Prop) (J : It) (H' : Hp), itv = .ref it ∧ Inv X pins σ H' s2 ∧ Turn X.prog X.w X.K tg J fp it tn ∧ tn 0 s2.heap ∧ (∀ b ∈ fp, FpOk X pins H' b) ∧ R J H'
def PI (X : Cx) (tg iter : Expr) (wi : TI) : Prop :=
  ∀ (pins : List (Addr × Obj)) (s : Shared) (σ : St) (H : Hp) (R : It → Hp → Prop), Inv X pins σ H s → wi σ H R →
    wpAny (model X.prog X.w) X.A (eval iter X.env) (fun v s1 => wpAny (model X.prog X.w) X.A (pyIter v) (PIE X pins σ tg R) X.xe s1) X.xe s
theorem go_of {M : Model} {A : Around} {E : Value → Shared → Prop} {s : Shared} {tg : Expr} {it : Addr} {u : Value} {o : Obj} {n : String} {vs : Array Value} {Q : Unit → Shared → Prop} (ho : s.heap.get? it = some o) (hc : o.cls = .type n) (hd : o.data = .fields vs)
    (hn : ["enumerate", "zip", "dict_itemiterator", "dict_reverseitemiterator", "odict_iterator", "itertools.zip_longest", "itertools.pairwise"].contains n = false) (hQ : Q () s) : wpAny M A (letOwnedTupleGo tg (.ref it) u) Q E s := by
  unfold letOwnedTupleGo
  cases tg <;> first
    | exact wpAny_pure hQ
    | (cases u <;> first
        | exact wpAny_pure hQ
        | (refine wpAny_bind (wpAny_load ho ?_)
           rw [hc, hd]
           show wpAny M A (if (["enumerate", "zip", "dict_itemiterator", "dict_reverseitemiterator", "odict_iterator", "itertools.zip_longest", "itertools.pairwise"].contains n && vs[0]? == some (rawInt _)) = true then _ else _) Q E s
           rw [if_neg (by intro h; rw [hn, Bool.false_and] at h; cases h)]
           exact wpAny_pure hQ))
def Itl (K : PySem.W.Frag) (a : Addr) : It :=
  ⟨fun i H => ∃ xs x, SqL K H a xs ∧ xs[i]? = some x, fun i H x H' => H' = H ∧ ∀ xs, SqL K H a xs → xs[i]? = some x, fun i H => ∃ xs, SqL K H a xs ∧ xs.length ≤ i⟩
def Itr (lo : Int) (n : Nat) : It := ⟨fun i _ => i < n, fun i H x H' => H' = H ∧ x = .int (lo + i), fun i _ => n ≤ i⟩
theorem turn_list {P : Program} {w : World} {K : PySem.W.Frag} {tg : Expr} (a it : Addr) : Turn P w K tg (Itl K a) [it] it (fun i h => h.IsListIter it a i) where
  mem := by simp
  obj := fun i h st b hb => by
    have e : b = it := by simpa using hb
    subst e
    obtain ⟨o, e, c, d⟩ := st
    exact ⟨o, e, fun v z => by rw [d] at z; cases z⟩
  keep := fun i h h' st k => st.at fun o e => k it (by simp) o e
  item := by
    intro X hP hw hK hc i pins s σ H E I hf st hg
    subst hP hw hK
    obtain ⟨xs, x, hq, hx⟩ := hg
    obtain ⟨its, rv, p, hz⟩ := I.list hq
    obtain ⟨u, hu, ru⟩ := rv.get hx
    obtain ⟨f0, f1, f2, f3, f4, f5⟩ := hf it (by simp)
    refine wpAny_pyNext_list_item st p.isList (x := u) (by simpa using hu) fun h' st' sb => ?_
    have I1 : Inv X pins σ H { s with heap := h' } := I.turned (t' := s.toks) (fun b o hb e => (sb.2 b hb).trans e) f0 f1 f3 f4 f5
    obtain ⟨o, e, c, d⟩ := id st'
    exact ⟨u, rfl, go_of (s := { s with heap := h' }) e c d (by decide) ⟨x, H, I1, ru, ⟨rfl, fun ys hy => by rw [I.list_inj hy hq]; exact hx⟩, st', fun b hb => (hf b hb).1⟩⟩
  done := by
    intro X hP hw hK hc i pins s σ H E I hf st hg
    subst hP hw hK
    obtain ⟨xs, hq, hx⟩ := hg
    obtain ⟨its, rv, p, hz⟩ := I.list hq
    obtain ⟨f0, f1, f2, f3, f4, f5⟩ := hf it (by simp)
    have hl := rv.length
    exact wpAny_pyNext_list_end (I.ok.hd hc) st p.isList (by simp; omega) fun h' eb => ⟨rfl, I.turned (t' := s.toks) (fun b o hb e => eb b o hb e) f0 f1 f3 f4 f5⟩
  self := fun _ _ _ _ _ st h => wpAny_pyIter_listiter st h
theorem turn_range {P : Program} {w : World} {K : PySem.W.Frag} {tg : Expr} (it : Addr) (lo : Int) (n : Nat) : Turn P w K tg (Itr lo n) [it] it (fun i h => IsRangeIter h it (lo + (i : Nat) * 1) ((n : Int) - (i : Nat)) 1) where
  mem := by simp
  obj := fun i h st b hb => by
    have e : b = it := by simpa using hb
    subst e
    exact ⟨_, st, fun v z => by
      have z' : Data.fields _ = Data.cell v := z
      cases z'⟩
  keep := fun i h h' st k => k it (by simp) _ st
  item := by
    intro X hP hw hK hc i pins s σ H E I hf st hg
    subst hP hw hK
    obtain ⟨f0, f1, f2, f3, f4, f5⟩ := hf it (by simp)
    have W := Walks.range (prog := X.prog) (w := X.w) (I.ok.hd hc) it lo 1 n
    refine W.item i s _ _ hg st fun v h' tk hv st' kk => ?_
    obtain ⟨t, rfl⟩ := hv
    have I1 : Inv X pins σ H { s with heap := h', toks := tk } := I.turned (fun b o hb e => kk b o (by simpa using hb) e) f0 f1 f3 f4 f5
    refine ⟨_, rfl, go_of (s := { s with heap := h', toks := tk }) (n := "range_iterator") st' rfl rfl (by decide) ⟨.int (lo + i), H, I1, ⟨t, ?_⟩, ⟨rfl, rfl⟩, st', fun b hb => (hf b hb).1⟩⟩
    rw [Int.mul_one]
  done := by
    intro X hP hw hK hc i pins s σ H E I hf st hg
    subst hP hw hK
    obtain ⟨f0, f1, f2, f3, f4, f5⟩ := hf it (by simp)
    exact wpAny_pyNext_range_end (I.ok.hd hc) st (by have : n ≤ i := hg; omega) fun h' eb => ⟨rfl, I.turned (t' := s.toks) (fun b o hb e => eb b o hb e) f0 f1 f3 f4 f5⟩
  self := fun _ _ _ _ _ st h => wpAny_pyIter_rangeiter st h
end L2
namespace L2
open PySem PySem.Spec PyProof.Rows
section
variable {X : Cx} {tg : Expr}
def iList (K : PySem.W.Frag) (tl : TE) : TI := fun σ H R => tl σ H fun x H1 => ∃ a, x = .ref a ∧ (∃ xs, SqL K H1 a xs) ∧ R (Itl K a) H1
theorem pi_list {l : Expr} {tl : TE} (hl : PE X l tl) : PI X tg l (iList X.K tl) := by
  intro pins s σ H R I h
  refine thn (hl pins s σ H _ I h) fun v s1 ⟨x, H1, I1, r1, q1⟩ => ?_
  obtain ⟨a, e, ⟨xs, hq⟩, q⟩ := q1
  subst e
  cases r1
  obtain ⟨its, rv, p, hz⟩ := I1.list hq
  refine wpAny_pyIter_list p.isList ?_
  refine ⟨s1.heap.objs.size, [s1.heap.objs.size], _, _, H1, rfl, I1.kept (t' := s1.toks) fun b o e => Heap.get?_push_of_some _ e, turn_list a _, ⟨_, Heap.get?_push_size _ rfl, rfl, rfl⟩, fun b hb => ?_, q⟩
  have e : b = s1.heap.objs.size := by simpa using hb
  subst e
  exact I1.fpOk (Nat.le_refl _) (I1.hok.fresh (Nat.le_refl _))
theorem range_it {pins : List (Addr × Obj)} {σ : St} {H : Hp} {s : Shared} {R : It → Hp → Prop} {E : Value → Shared → Prop} {lo hi : Int} {t u v : Tok} {tk : Nat} (I : Inv X pins σ H s) (h1 : -(2 ^ 62) ≤ lo) (h2 : lo < 2 ^ 62) (h3 : -(2 ^ 62) ≤ hi) (h4 : hi < 2 ^ 62)
    (q : R (Itr lo (hi - lo).toNat) H) : wpAny (model X.prog X.w) X.A (pyIter (.ref s.heap.objs.size)) (PIE X pins σ tg R) E { s with heap := s.heap.push { cls := .type "range", data := .fields #[.int lo t, .int hi u, .int 1 v] }, toks := tk } := by
  refine wpAny_pyIter_range (IsRange.new ..) (small_one h1 h2 h3 h4) ?_
  have I1 : Inv X pins σ H { s with heap := s.heap.push { cls := .type "range", data := .fields #[.int lo t, .int hi u, .int 1 v] }, toks := tk } := I.kept fun b o e => Heap.get?_push_of_some _ e
  refine ⟨(s.heap.push { cls := .type "range", data := .fields #[.int lo t, .int hi u, .int 1 v] }).objs.size, [(s.heap.push { cls := .type "range", data := .fields #[.int lo t, .int hi u, .int 1 v] }).objs.size], _, _, H, rfl,
    I1.kept (t' := tk) fun b o e => Heap.get?_push_of_some _ e, turn_range _ lo (hi - lo).toNat, ?_, fun b hb => ?_, q⟩
  · have e1 : lo + ((0 : Nat) : Int) * 1 = lo := by simp
    have e2 : (((hi - lo).toNat : Nat) : Int) - ((0 : Nat) : Int) = Builtin.Range.rangeSize lo hi 1 := by rw [rangeSize_one]; split <;> omega
    show IsRangeIter _ _ (lo + ((0 : Nat) : Int) * 1) ((((hi - lo).toNat : Nat) : Int) - ((0 : Nat) : Int)) 1
    rw [e1, e2]
    exact Heap.get?_push_size _ rfl
  · have e : b = (s.heap.push { cls := .type "range", data := .fields #[.int lo t, .int hi u, .int 1 v] }).objs.size := by simpa using hb
    subst e
    exact I1.fpOk (Nat.le_refl _) (I1.hok.fresh (Nat.le_refl _))
def iRng1 (ta : TA) : TI := fun σ H R => ta σ H fun vs H1 => ∃ j : Int, vs = [.int j] ∧ -(2 ^ 62) ≤ j ∧ j < 2 ^ 62 ∧ R (Itr 0 j.toNat) H1
theorem pi_range1 {a : Expr} {ta : TA} {p pos : Pos} (hg : Gl X "range") (hm : X.mg "range" = none) (ha : PA X [a] ta) (hs : starEach [a] X.env = [(false, eval a X.env)] := by rfl) : PI X tg (.Call (.Name "range" p) [a] [] pos) (iRng1 ta) := by
  intro pins s σ H R I h
  refine Call_ (ld_blt I hg hm boot_range (PyProof.Rows.callWith_type1 (thn (ha pos pins s σ H _ I h) fun us s1 ⟨vs, H1, I1, r1, q1⟩ => ?_) hs rfl))
  obtain ⟨j, e, q1, q2, q⟩ := q1
  subst e
  cases r1 with
  | cons r rr =>
    cases rr
    obtain ⟨t, rfl⟩ := r
    exact call_range_1 (range_it I1 (by omega) (by omega) q1 q2 (by simpa using q))
def tFor (wi : TI) (g : TG) (tb : TS) : TS := fun D σ H => wi σ H fun J H1 => ∃ W : Nat → Nat → St → Hp → Prop, (∃ m, W 0 m σ H1) ∧ ∀ i m σ H, W i m σ H →
  (J.stop i H ∧ D.nx σ H) ∨ (J.go i H ∧ ∃ N : St → Hp → Prop, (∀ σ' H', N σ' H' → ∃ m', m' < m ∧ W (i + 1) m' σ' H') ∧ ∀ x H', J.yld i H x H' → g x σ H' fun σ2 H2 => tb { D with nx := N, ct := N, bk := D.nx } σ2 H2)
def pinsAt (fp : List Addr) (h : Heap) : List (Addr × Obj) := fp.filterMap fun b => (h.get? b).map fun o => (b, o)
theorem mem_pinsAt {fp : List Addr} {h : Heap} {b : Addr} {o : Obj} (hb : b ∈ fp) (e : h.get? b = some o) : (b, o) ∈ pinsAt fp h := List.mem_filterMap.mpr ⟨b, hb, by rw [e]; rfl⟩
theorem of_pinsAt {fp : List Addr} {h : Heap} {p : Addr × Obj} (hp : p ∈ pinsAt fp h) : p.1 ∈ fp ∧ h.get? p.1 = some p.2 := by
  obtain ⟨b, hb, e⟩ := List.mem_filterMap.mp hp
  cases q : h.get? b with
  | none => rw [q] at e; cases e
  | some o =>
    rw [q] at e
    have e' : (b, o) = p := Option.some.inj e
    subst e'
    exact ⟨hb, q⟩
theorem Inv.pinned {pins : List (Addr × Obj)} {σ : St} {H : Hp} {s : Shared} {fp : List Addr} (I : Inv X pins σ H s) (hf : ∀ b ∈ fp, FpOk X pins H b) (ho : ∀ b ∈ fp, ∃ o, s.heap.get? b = some o ∧ ∀ v, o.data ≠ .cell v) : Inv X (pins ++ pinsAt fp s.heap) σ H s :=
  I.pins_of fun p hp => (List.mem_append.mp hp).elim (fun z => I.pin p (List.mem_append_right _ z)) fun z => by
    obtain ⟨hb, e⟩ := of_pinsAt z
    obtain ⟨f0, f1, f2, _⟩ := hf p.1 hb
    obtain ⟨o, e', d⟩ := ho p.1 hb
    rw [e] at e'; cases e'
    exact ⟨e, f0, f1, f2, d⟩
theorem Inv.unpinned {pins pl : List (Addr × Obj)} {σ : St} {H : Hp} {s : Shared} (I : Inv X (pins ++ pl) σ H s) : Inv X pins σ H s := I.pins_of fun p hp => I.pin p (List.mem_append_right _ (List.mem_append_left _ hp))
theorem ps_for {iter : Expr} {body : List Stmt} {wi : TI} {g : TG} {tb : TS} {pos : Pos} (hp : PassesOwn (model X.prog X.w) X.A X.env X.xe) (hc : X.calm = true) (hi : PI X tg iter wi) (hg : PG X tg g) (hb : PSs X body tb)
    (hs : ∀ x, foldedSetIterable iter X.env x = pure x := by intro _; rfl) : PS X (.For tg iter body [] pos) (tFor wi g tb) := by
  intro pins s σ H D I h
  refine wpAny_For (thn (hi pins s σ H _ I h) fun v s1 h1 => thn h1 fun itv s2 h2 => ?_) hs
  obtain ⟨it, fp, tn, J, H2, e, I2, T, st2, f2, W, ⟨m0, w0⟩, turn⟩ := h2
  subst e
  -- what stays true of the iterator's objects through the loop
  have stat : ∀ {H' : Hp}, (∀ b ∈ fp, H' b = none) → ∀ b ∈ fp, FpOk X pins H' b := fun hn b hb => ⟨hn b hb, (f2 b hb).2⟩
  refine codeAny_forLoop_any (fun n s' => ∃ i σ' H', Inv X pins σ' H' s' ∧ tn i s'.heap ∧ (∀ b ∈ fp, H' b = none) ∧ W i n σ' H') ?_ m0 ⟨0, σ, H2, I2, st2, fun b hb => (f2 b hb).1, w0⟩
  rintro n s3 ⟨i, σ3, H3, I3, st3, fr3, w3⟩
  rcases turn i n σ3 H3 w3 with ⟨stop, qn⟩ | ⟨go, N, hN, step⟩
  · refine wpAny_passesOwn hp (thn (T.done X rfl rfl rfl hc i pins s3 σ3 H3 X.xe I3 (stat fr3) st3 stop) fun r s4 ⟨hr, I4⟩ => ?_)
    subst hr
    exact wpAny_execs_nil ⟨σ3, H3, I4, qn⟩
  · refine wpAny_passesOwn hp (thn (T.item X rfl rfl rfl hc i pins s3 σ3 H3 X.xe I3 (stat fr3) st3 go) fun r s4 ⟨u, hr, h4⟩ => ?_)
    subst hr
    refine wpAny_passesOwn hp (thn h4 fun _ s5 ⟨x, H5, I5, r5, y5, st5, fr5⟩ => ?_)
    have I5' := I5.pinned (stat fr5) (T.obj _ _ st5)
    refine wpAny_passesOwn hp (thn (hg _ s5 σ3 H5 x u _ I5' r5 (step x H5 y5)) fun _ s6 ⟨σ6, H6, I6, q6⟩ => ?_)
    refine wpAny_passesOwn hp (thn (hb _ s6 σ6 H6 _ I6 q6) fun f s7 q7 => ?_)
    have again : ∀ {σ7 : St} {H7 : Hp}, Inv X (pins ++ pinsAt fp s5.heap) σ7 H7 s7 → N σ7 H7 → ∃ m, m < n ∧ ∃ i σ' H', Inv X pins σ' H' s7 ∧ tn i s7.heap ∧ (∀ b ∈ fp, H' b = none) ∧ W i m σ' H' := fun {σ7 H7} I7 n7 => by
      obtain ⟨m', hm, w7⟩ := hN σ7 H7 n7
      refine ⟨m', hm, i + 1, σ7, H7, I7.unpinned, T.keep _ _ _ st5 fun b hb o e => (I7.pin (b, o) (List.mem_append_right _ (List.mem_append_right _ (mem_pinsAt hb e)))).1, fun b hb => ?_, w7⟩
      obtain ⟨o, e, d⟩ := T.obj _ _ st5 b hb
      exact (I7.pin (b, o) (List.mem_append_right _ (List.mem_append_right _ (mem_pinsAt hb e)))).2.1
    cases f with
    | next => obtain ⟨σ7, H7, I7, n7⟩ := q7; exact again I7 n7
    | cont => obtain ⟨σ7, H7, I7, n7⟩ := q7; exact again I7 n7
    | brk => obtain ⟨σ7, H7, I7, q7⟩ := q7; exact ⟨σ7, H7, I7.unpinned, q7⟩
    | ret v => obtain ⟨x7, σ7, H7, I7, r7, q7⟩ := q7; exact ⟨x7, σ7, H7, I7.unpinned, r7, q7⟩
end
theorem for_list {K : PySem.W.Frag} {a : Addr} {xs : List V} {g : TG} {tb : TS} {D : Ends} {σ : St} {H : Hp} (Pv : Nat → St → Hp → Prop) (h0 : Pv 0 σ H) (hl : ∀ i σ H, i ≤ xs.length → Pv i σ H → SqL K H a xs)
    (hs : ∀ i x σ H, xs[i]? = some x → Pv i σ H → g x σ H fun σ2 H2 => tb { D with nx := Pv (i + 1), ct := Pv (i + 1), bk := D.nx } σ2 H2) (hd : ∀ σ H, Pv xs.length σ H → D.nx σ H) :
    ∃ W : Nat → Nat → St → Hp → Prop, (∃ m, W 0 m σ H) ∧ ∀ i m σ H, W i m σ H →
      ((Itl K a).stop i H ∧ D.nx σ H) ∨ ((Itl K a).go i H ∧ ∃ N : St → Hp → Prop, (∀ σ' H', N σ' H' → ∃ m', m' < m ∧ W (i + 1) m' σ' H') ∧ ∀ x H', (Itl K a).yld i H x H' → g x σ H' fun σ2 H2 => tb { D with nx := N, ct := N, bk := D.nx } σ2 H2) := by
  refine ⟨fun i m σ H => m = xs.length - i ∧ i ≤ xs.length ∧ Pv i σ H, ⟨xs.length, by simp, Nat.zero_le _, h0⟩, ?_⟩
  rintro i m σ H ⟨rfl, hi, p⟩
  have q := hl i σ H hi p
  by_cases hlt : i < xs.length
  · refine .inr ⟨⟨xs, xs[i], q, by simp [hlt]⟩, Pv (i + 1), fun σ' H' p' => ⟨xs.length - (i + 1), by omega, rfl, hlt, p'⟩, fun x H' y => ?_⟩
    obtain ⟨e, y⟩ := y
    subst e
    exact hs i x σ _ (y xs q) p
  · have e : i = xs.length := by omega
    subst e
    exact .inl ⟨⟨xs, q, Nat.le_refl _⟩, hd σ H p⟩
end L2
namespace L2
open PySem PySem.Spec PyProof.Rows
abbrev R2 := V → V → Hp → VK → Prop
def OpR (X : Cx) (f : Value → Value → Sem Value) (r : R2) : Prop :=
  ∀ (pins : List (Addr × Obj)) (s : Shared) (σ : St) (H : Hp) (x y : V) (v u : Value) (Q : VK), Inv X pins σ H s → RelV x v → RelV y u → r x y H Q →
    wpAny (model X.prog X.w) X.A (f v u) (EP X pins σ Q) X.xe s
def UnR (X : Cx) (f : Value → Sem Value) (r : V → Hp → VK → Prop) : Prop :=
  ∀ (pins : List (Addr × Obj)) (s : Shared) (σ : St) (H : Hp) (x : V) (v : Value) (Q : VK), Inv X pins σ H s → RelV x v → r x H Q →
    wpAny (model X.prog X.w) X.A (f v) (EP X pins σ Q) X.xe s
def CallR (X : Cx) (f : Value) (r : List V → Hp → VK → Prop) : Prop :=
  ∀ (pins : List (Addr × Obj)) (s : Shared) (σ : St) (H : Hp) (xs : List V) (us : List Value) (Q : VK), Inv X pins σ H s → Vals xs us → r xs H Q →
    wpAny (model X.prog X.w) X.A (call f us) (EP X pins σ Q) X.xe s
def tOp (r : R2) (ta tb : TE) : TE := fun σ H Q => ta σ H fun x H1 => tb σ H1 fun y H2 => r x y H2 Q
def tUn (r : V → Hp → VK → Prop) (ta : TE) : TE := fun σ H Q => ta σ H fun x H1 => r x H1 Q
def rI (C : Int → Int → Prop) (g : Int → Int → V) : R2 := fun x y H Q => ∃ i j, x = .int i ∧ y = .int j ∧ C i j ∧ Q (g i j) H
def rI0 (g : Int → Int → V) : R2 := fun x y H Q => ∃ i j, x = .int i ∧ y = .int j ∧ Q (g i j) H
def rU (g : Int → V) : V → Hp → VK → Prop := fun x H Q => ∃ i, x = .int i ∧ Q (g i) H
section
variable {X : Cx} {a b c : Expr} {ta tb tc : TE} {pos : Pos}
theorem binT (ha : PE X a ta) (hb : PE X b tb) {pins : List (Addr × Obj)} {s : Shared} {σ : St} {H : Hp} {R : V → V → Hp → Prop} (I : Inv X pins σ H s)
    (h : ta σ H fun x H1 => tb σ H1 fun y H2 => R x y H2) {Q : Value → Shared → Prop} {f : Value → Value → Sem Value}
    (hf : ∀ v u s2 x y H2, Inv X pins σ H2 s2 → RelV x v → RelV y u → R x y H2 → wpAny (model X.prog X.w) X.A (f v u) Q X.xe s2) :
    wpAny (model X.prog X.w) X.A (eval a X.env) (fun v s₁ => wpAny (model X.prog X.w) X.A (eval b X.env) (fun u s₂ => wpAny (model X.prog X.w) X.A (f v u) Q X.xe s₂) X.xe s₁) X.xe s := by
  refine thn (ha pins s σ H _ I h) fun v s1 ⟨x, H1, I1, r1, q1⟩ => ?_
  refine thn (hb pins s1 σ H1 _ I1 q1) fun u s2 ⟨y, H2, I2, r2, q2⟩ => ?_
  exact hf v u s2 x y H2 I2 r1 r2 q2
theorem pe_op {op : Operator} {r : R2} (ho : OpR X (binaryOp op) r) (ha : PE X a ta) (hb : PE X b tb) : PE X (.BinOp a op b pos) (tOp r ta tb) := by
  intro pins s σ H Q I h
  exact wpAny_BinOp (binT ha hb I h fun v u s2 x y H2 I2 rx ry q => ho pins s2 σ H2 x y v u Q I2 rx ry q)
theorem pe_un {op : UnaryOp} {r : V → Hp → VK → Prop} (ho : UnR X (unaryOp op) r) (ha : PE X a ta) : PE X (.UnaryOp op a pos) (tUn r ta) := by
  intro pins s σ H Q I h
  exact UnaryOp_ (thn (ha pins s σ H _ I h) fun v s1 ⟨x, H1, I1, r1, q1⟩ => ho pins s1 σ H1 x v Q I1 r1 q1)
theorem opI {f : Value → Value → Sem Value} {C : Int → Int → Prop} {g : Int → Int → Int}
    (rule : ∀ (i j : Int) (t u : Tok) (s : Shared) (Q : Value → Shared → Prop) (E : Value → Shared → Prop), C i j → Q (.int (g i j) s.toks) { s with toks := s.toks + 1 } → wpAny (model X.prog X.w) X.A (f (.int i t) (.int j u)) Q E s) :
    OpR X f (rI C fun i j => .int (g i j)) := by
  intro pins s σ H x y v u Q I rx ry h
  obtain ⟨i, j, rfl, rfl, hc, q⟩ := h
  obtain ⟨t, rfl⟩ := rx
  obtain ⟨t', rfl⟩ := ry
  exact rule i j t t' s _ _ hc ⟨.int (g i j), H, I.tok _, ⟨_, rfl⟩, q⟩
theorem opI0 {f : Value → Value → Sem Value} {g : Int → Int → Int}
    (rule : ∀ (i j : Int) (t u : Tok) (s : Shared) (Q : Value → Shared → Prop) (E : Value → Shared → Prop), Q (.int (g i j) s.toks) { s with toks := s.toks + 1 } → wpAny (model X.prog X.w) X.A (f (.int i t) (.int j u)) Q E s) :
    OpR X f (rI0 fun i j => .int (g i j)) := by
  intro pins s σ H x y v u Q I rx ry h
  obtain ⟨i, j, rfl, rfl, q⟩ := h
  obtain ⟨t, rfl⟩ := rx
  obtain ⟨t', rfl⟩ := ry
  exact rule i j t t' s _ _ ⟨.int (g i j), H, I.tok _, ⟨_, rfl⟩, q⟩
theorem opB0 {f : Value → Value → Sem Value} {g : Int → Int → Bool}
    (rule : ∀ (i j : Int) (t u : Tok) (s : Shared) (Q : Value → Shared → Prop) (E : Value → Shared → Prop), Q (.bool (g i j)) s → wpAny (model X.prog X.w) X.A (f (.int i t) (.int j u)) Q E s) :
    OpR X f (rI0 fun i j => .bl (g i j)) := by
  intro pins s σ H x y v u Q I rx ry h
  obtain ⟨i, j, rfl, rfl, q⟩ := h
  obtain ⟨t, rfl⟩ := rx
  obtain ⟨t', rfl⟩ := ry
  exact rule i j t t' s _ _ ⟨.bl (g i j), H, I, rfl, q⟩
def CDiv (i j : Int) : Prop := 0 < j ∧ j < 1073741824
theorem op_add : OpR X (binaryOp .Add) (rI0 fun i j => .int (i + j)) := opI0 fun _ _ _ _ _ _ _ q => add_int q
theorem op_sub : OpR X (binaryOp .Sub) (rI0 fun i j => .int (i - j)) := opI0 fun _ _ _ _ _ _ _ q => sub_int q
theorem op_fdiv : OpR X (binaryOp .FloorDiv) (rI CDiv fun i j => .int (i / j)) := opI fun i j _ _ _ _ _ hc q => by
  have h1 : (0 : Int) < j := hc.1
  have h2 : j < 1073741824 := hc.2
  exact floordiv_int (by omega) (by rw [Int.fdiv_eq_ediv_of_nonneg i (by omega)]; exact q) (.inl (PyProof.noPylong_small (by omega)))
theorem op_mod : OpR X (binaryOp .Mod) (rI (fun _ j => 0 < j) fun i j => .int (i % j)) := opI fun i j _ _ _ _ _ hc q => by
  have h1 : (0 : Int) < j := hc
  exact mod_int' (by omega) (by rw [Int.fmod_eq_emod_of_nonneg i (by omega)]; exact q)
theorem unI {f : Value → Sem Value} {g : Int → Int}
    (rule : ∀ (i : Int) (t : Tok) (s : Shared) (Q : Value → Shared → Prop) (E : Value → Shared → Prop), Q (.int (g i) s.toks) { s with toks := s.toks + 1 } → wpAny (model X.prog X.w) X.A (f (.int i t)) Q E s) :
    UnR X f (rU fun i => .int (g i)) := by
  intro pins s σ H x v Q I rx h
  obtain ⟨i, rfl, q⟩ := h
  obtain ⟨t, rfl⟩ := rx
  exact rule i t s _ _ ⟨.int (g i), H, I.tok _, ⟨_, rfl⟩, q⟩
theorem un_neg : UnR X (unaryOp .USub) (rU fun i => .int (-i)) := unI fun _ _ _ _ _ q => neg_int q
end
def scal : V → V → Bool
  | .non, .non => true | .non, .int _ => true | .int _, .non => true | .non, .bl _ => true | .bl _, .non => true | .non, .str _ => true | .str _, .non => true
  | .int _, .int _ => true | .bl _, .bl _ => true | .str _, .str _ => true | .byt _, .byt _ => true
  | .int _, .str _ => true | .str _, .int _ => true | .bl _, .str _ => true | .str _, .bl _ => true
  | _, _ => false
def rEq : R2 := fun x y H Q => scal x y = true ∧ Q (.bl (decide (x = y))) H
theorem dec_int {i j : Int} : decide (V.int i = V.int j) = (i == j) := by
  rw [Bool.eq_iff_iff]
  simp
theorem dec_bl {i j : Bool} : decide (V.bl i = V.bl j) = (i == j) := by
  rw [Bool.eq_iff_iff]
  simp
theorem dec_str {i j : Str} : decide (V.str i = V.str j) = (i == j) := by
  rw [Bool.eq_iff_iff]
  simp
theorem dec_byt {i j : Array UInt8} : decide (V.byt i = V.byt j) = (i.toList == j.toList) := by
  rw [Bool.eq_iff_iff]
  cases i
  cases j
  simp
section
variable {X : Cx} {a b c : Expr} {ta tb tc : TE} {pos : Pos}
theorem fin_bl {pins : List (Addr × Obj)} {σ : St} {H : Hp} {s : Shared} {Q : VK} {k k' : Bool} (I : Inv X pins σ H s) (q : Q (.bl k) H) (e : k = k') : EP X pins σ Q (.bool k') s := by
  subst e
  exact ⟨.bl k, H, I, rfl, q⟩
theorem op_eq : OpR X (compareOp .Eq) rEq := by
  intro pins s σ H x y v u Q I rx ry h
  obtain ⟨hs, q⟩ := h
  cases x with
  | non =>
    cases rx
    cases y with
    | non => cases ry; exact PySem.EqNone.eq_none_none (fin_bl I q (by simp))
    | bl j => cases ry; exact PySem.EqNone.eq_none_bool (fin_bl I q (by simp))
    | int j => obtain ⟨t', rfl⟩ := ry; exact PySem.EqNone.eq_none_int (fin_bl I q (by simp))
    | str j => obtain ⟨t', rfl⟩ := ry; exact PySem.EqNone.eq_none_str (fin_bl I q (by simp))
    | _ => exact absurd (show false = true from hs) Bool.false_ne_true
  | bl i =>
    cases rx
    cases y with
    | non => cases ry; exact PySem.EqNone.eq_bool_none (fin_bl I q (by simp))
    | bl j => cases ry; exact eq_bool (fin_bl I q dec_bl)
    | str j => obtain ⟨t', rfl⟩ := ry; exact PySem.EqMixed.eq_bool_str (fin_bl I q (by simp))
    | _ => exact absurd (show false = true from hs) Bool.false_ne_true
  | int i =>
    obtain ⟨t, rfl⟩ := rx
    cases y with
    | non => cases ry; exact PySem.EqNone.eq_int_none (fin_bl I q (by simp))
    | int j => obtain ⟨t', rfl⟩ := ry; exact eq_int (fin_bl I q dec_int)
    | str j => obtain ⟨t', rfl⟩ := ry; exact PySem.EqMixed.eq_int_str (fin_bl I q (by simp))
    | _ => exact absurd (show false = true from hs) Bool.false_ne_true
  | str i =>
    obtain ⟨t, rfl⟩ := rx
    cases y with
    | non => cases ry; exact PySem.EqNone.eq_str_none (fin_bl I q (by simp))
    | bl j => cases ry; exact PySem.EqMixed.eq_str_bool (fin_bl I q (by simp))
    | int j => obtain ⟨t', rfl⟩ := ry; exact PySem.EqMixed.eq_str_int (fin_bl I q (by simp))
    | str j => obtain ⟨t', rfl⟩ := ry; exact eq_str (fin_bl I q dec_str)
    | _ => exact absurd (show false = true from hs) Bool.false_ne_true
  | byt i =>
    obtain ⟨t, rfl⟩ := rx
    cases y with
    | byt j => obtain ⟨t', rfl⟩ := ry; exact PySem.W.eq_bytes (fin_bl I q dec_byt)
    | _ => exact absurd (show false = true from hs) Bool.false_ne_true
  | _ => cases y <;> exact absurd (show false = true from hs) Bool.false_ne_true
theorem op_lt : OpR X (compareOp .Lt) (rI0 fun i j => .bl (decide (i < j))) := opB0 fun _ _ _ _ _ _ _ q => lt_int q
theorem op_le : OpR X (compareOp .LtE) (rI0 fun i j => .bl (decide (i ≤ j))) := opB0 fun _ _ _ _ _ _ _ q => le_int q
theorem op_gt : OpR X (compareOp .Gt) (rI0 fun i j => .bl (decide (j < i))) := opB0 fun _ _ _ _ _ _ _ q => gt_int q
theorem op_ge : OpR X (compareOp .GtE) (rI0 fun i j => .bl (decide (j ≤ i))) := opB0 fun _ _ _ _ _ _ _ q => ge_int q
theorem op_in_str : OpR X (compareOp .In) (fun x y H Q => ∃ i j, x = .str i ∧ y = .str j ∧ Q (.bl (!(Builtin.Str.occurrences j i 0 j.length 1).isEmpty)) H) := by
  intro pins s σ H x y v u Q I rx ry h
  obtain ⟨i, j, rfl, rfl, q⟩ := h
  obtain ⟨t, rfl⟩ := rx
  obtain ⟨t', rfl⟩ := ry
  exact in_str (fin_bl I q rfl)
theorem nomark (b : Expr) {op : CmpOp} (h : op ≠ .In := by decide) (h2 : op ≠ .NotIn := by decide) : behindInMarks op b = false := by
  have e1 : (op == CmpOp.In) = false := by cases op <;> first | rfl | exact absurd rfl h
  have e2 : (op == CmpOp.NotIn) = false := by cases op <;> first | rfl | exact absurd rfl h2
  cases b <;> simp [behindInMarks, e1, e2]
theorem pe_cmpR {op : CmpOp} {r : R2} (ho : OpR X (compareOp op) r) (ha : PE X a ta) (hb : PE X b tb) (hm : behindInMarks op b = false) : PE X (.Compare a [op] [b] pos) (tOp r ta tb) := by
  intro pins s σ H Q I h
  exact wpAny_Compare1 (binT ha hb I h fun v u s2 x y H2 I2 rx ry q => ho pins s2 σ H2 x y v u Q I2 rx ry q) hm
def tTest (t : TE) : TT := fun σ H Q => t σ H fun x H' => ∃ k, x = .bl k ∧ Q k H'
theorem pt_cmpR {op : CmpOp} {r : R2} (ho : OpR X (compareOp op) r) (ha : PE X a ta) (hb : PE X b tb) (hm : behindInMarks op b = false) : PT X (.Compare a [op] [b] pos) (tTest (tOp r ta tb)) := by
  intro pins s σ H Q I h
  refine wpAny_isTrue_Compare1 (thn (ha pins s σ H _ I h) fun v s1 ⟨x, H1, I1, r1, q1⟩ => thn (hb pins s1 σ H1 _ I1 q1) fun u s2 ⟨y, H2, I2, r2, q2⟩ =>
    thn (ho pins s2 σ H2 x y v u _ I2 r1 r2 q2) fun c s3 ⟨z, H3, I3, r3, k, e, q3⟩ => ?_) hm
  subst e
  cases r3
  exact wpAny_truthy_bool ⟨H3, I3, q3⟩
def tChain (r r' : R2) (ta tb tc : TE) : TE := fun σ H Q => ta σ H fun x H1 => tb σ H1 fun y H2 => r x y H2 fun z H3 => ∃ k, z = .bl k ∧
  (if k = true then tc σ H3 fun w' H4 => r' y w' H4 Q else Q (.bl false) H3)
theorem pe_chain {op op' : CmpOp} {r r' : R2} (ho : OpR X (compareOp op) r) (ho' : OpR X (compareOp op') r') (ha : PE X a ta) (hb : PE X b tb) (hc : PE X c tc)
    (hm : lastMarks [op, op'] [b, c] = false := by with_unfolding_all rfl) : PE X (.Compare a [op, op'] [b, c] pos) (tChain r r' ta tb tc) := by
  intro pins s σ H Q I h
  refine Compare_chain (thn (ha pins s σ H _ I h) fun v s1 ⟨x, H1, I1, r1, q1⟩ => chain_link (thn (hb pins s1 σ H1 _ I1 q1) fun u s2 ⟨y, H2, I2, r2, q2⟩ =>
    thn (ho pins s2 σ H2 x y v u _ I2 r1 r2 q2) fun d s3 ⟨z, H3, I3, r3, k, e, q3⟩ => ?_)) hm
  subst e
  cases r3
  refine wpAny_truthy_bool ?_
  cases k with
  | false => exact ite_ff ⟨.bl false, H3, I3, rfl, q3⟩
  | true => exact ite_tt (chain_last (thn (hc pins s3 σ H3 _ I3 q3) fun w' s4 ⟨z', H4, I4, r4, q4⟩ => ho' pins s4 σ H4 y z' u w' Q I4 r2 r4 q4))
theorem line63 : (sizeLine : Nat) < 2 ^ 63 := by rw [sizeLine_eq]; decide
theorem op_add_str : OpR X (binaryOp .Add) (fun x y H Q => ∃ i j, x = .str i ∧ y = .str j ∧ i.length + j.length ≤ sizeLine ∧ Q (.str (i ++ j)) H) := by
  intro pins s σ H x y v u Q I rx ry h
  obtain ⟨i, j, rfl, rfl, hz, q⟩ := h
  obtain ⟨t, rfl⟩ := rx
  obtain ⟨t', rfl⟩ := ry
  exact add_str (fun t' tk => ⟨.str (i ++ j), H, I.tok _, ⟨_, rfl⟩, q⟩) hz
theorem vals1 {x : V} {us : List Value} (r : Vals [x] us) : ∃ u, us = [u] ∧ RelV x u := by
  cases r with
  | cons r1 r2 => cases r2; exact ⟨_, rfl, r1⟩
theorem vals2 {x y : V} {us : List Value} (r : Vals [x, y] us) : ∃ u w', us = [u, w'] ∧ RelV x u ∧ RelV y w' := by
  cases r with
  | cons r1 r2 =>
    cases r2 with
    | cons r3 r4 => cases r4; exact ⟨_, _, rfl, r1, r3⟩
end
end L2
namespace L2
open PySem PySem.Spec PyProof.Rows
structure ObjM (h : Heap) (x dx C : Addr) (mA : Str → Option Value) : Prop where
  obj : h.get? x = some (PySem.W.instObj C dx)
  ns : h.Ns1 dx mA
  ne : dx ≠ x
theorem lookIn_ns {h : Heap} {dx : Addr} {mA : Str → Option Value} (n : h.Ns1 dx mA) : ∃ od, h.get? dx = some od ∧ ∀ name, PySem.W.lookIn name od = some (mA name) := by
  obtain ⟨o, es, ep, ho, hd, hk, _, hm⟩ := n
  refine ⟨o, ho, fun name => ?_⟩
  have e := hm name
  unfold nsFind findBy at e
  rw [← Array.find?_toList] at e
  unfold PySem.W.lookIn
  rw [hd]
  dsimp only
  split
  · rename_i y q
    rw [q] at e
    exact congrArg some e
  · rename_i q
    rw [q] at e
    have a : es.toList.any (·.refKey) = false := by
      rw [List.any_eq_false]
      intro y hy
      obtain ⟨z, t, hkey⟩ := hk y (Array.mem_toList_iff.mp hy)
      simp [DictEntry.refKey, hkey]
    have a' : ¬ es.toList.any (·.refKey) = true := by rw [a]; exact Bool.false_ne_true
    rw [if_neg a']
    exact congrArg some e
theorem ObjM.look {h : Heap} {x dx C : Addr} {mA : Str → Option Value} (I : ObjM h x dx C mA) : ∃ od, PySem.W.InstAt h x (PySem.W.instObj C dx) C (some od) ∧ ∀ name, PySem.W.lookIn name od = some (mA name) :=
  let ⟨od, ho, hl⟩ := lookIn_ns I.ns
  ⟨od, ⟨I.obj, rfl, rfl, ho⟩, hl⟩
section
variable {prog : Program} {w : World} {A : Around} {E : Value → Shared → Prop} {s : Shared} {K : PySem.W.Frag} {x dx C f : Addr} {mA : Str → Option Value} {name : Str} {v : Value}
end
section
variable {P : Program} {w : World} {H H' : Hp} {h h' : Heap} {a C dx : Addr} {fs fs' : List (Str × V)}
theorem ins_get (hok : HOk P w H h) (e : H a = some (.ins C dx fs)) : ∃ mA, ObjM h a dx C mA ∧ (∀ f, RelO (fs.lookup f) (mA f)) ∧ PySem.Within mA (fs.map (·.1)) ∧ fs.length ≤ 1000 ∧ H dx = some (.own a) := by
  obtain ⟨d, z, ne, ob, mA, n, r, q⟩ := (show ObjOk P w H h a (.ins C dx fs) from hok a _ e)
  exact ⟨mA, ⟨ob, n, ne⟩, r, q, z, d⟩
end
structure Cls (K : PySem.W.Frag) (C : Addr) : Prop where
  pg : PySem.W.plainGet K C Str.empty = true
  hd : PySem.W.hasDictIn K C = true
  po : PySem.W.plainOver K C = true
  sa : PySem.W.findIn K (.ref C) "__setattr__" = some (some (.builtin "object.__setattr__"))
theorem Cls.get {K : PySem.W.Frag} {C : Addr} (c : Cls K C) (f : Str) : PySem.W.plainGet K C f = true := c.pg
section
variable {X : Cx} {pins : List (Addr × Obj)} {σ : St} {H : Hp} {s : Shared} {a C dx : Addr} {fs : List (Str × V)} {f : Str} {v : V} {A : Around} {E : Value → Shared → Prop}
end
section
variable {X : Cx} {o e value : Expr} {f : Str} {pos pos' tpos : Pos} {ta tv : TE}
end
section
variable {X : Cx} {pins : List (Addr × Obj)} {σ : St} {H : Hp} {s : Shared} {A : Around} {E : Value → Shared → Prop} {Q : Value → Shared → Prop} {c : Value} {b : Bool}
inductive TyOf (K : PySem.W.Frag) (H : Hp) : V → Value → Prop where
  | non : TyOf K H .non (.type "NoneType")
  | bl (x : Bool) : TyOf K H (.bl x) (.type "bool")
  | int (i : Int) : TyOf K H (.int i) (.type "int")
  | str (x : Str) : TyOf K H (.str x) (.type "str")
  | flt (x : UInt64) : TyOf K H (.flt x) (.type "float")
  | lst {a : Addr} {xs : List V} (e : H a = some (.lst xs)) : TyOf K H (.ref a) (.type "list")
  | frz {a : Addr} {o : Obj} {xs : List V} (e : H a = some (.frz o (.lst xs))) : TyOf K H (.ref a) (.type "list")
  | tup {a : Addr} {xs : List V} (e : H a = some (.tup xs)) : TyOf K H (.ref a) (.type "tuple")
  | dK {a : Addr} {kvs : List (Key × V)} (e : H a = some (.dK kvs)) : TyOf K H (.ref a) (.type "dict")
  | dT {a : Addr} {kvs : List (List Key × V)} (e : H a = some (.dT kvs)) : TyOf K H (.ref a) (.type "dict")
  | ins {a C dx : Addr} {fs : List (Str × V)} (e : H a = some (.ins C dx fs)) (cl : Cls K C) (ha : PySem.W.findIn K (.ref C) "__class__" = some (some (.builtin "object.__class__")))
      (hn : PySem.W.specialIn K (.builtin "object.__class__") "__get__" = some (some (.builtin "getset_descriptor.__get__"))) (htk : PySem.W.takesIn K (.builtin "object.__class__") = some true)
      (hm : PySem.W.mroIn K C (.type "object") = some true) : TyOf K H (.ref a) (.ref C)
theorem isinst_ok {x : V} {u t : Value} (I : Inv X pins σ H s) (rx : RelV x u) (ty : TyOf X.K H x t) (e : PySem.W.kitOne X.K t c = some b) (h : ∀ tk, Q (.bool b) { s with toks := tk }) :
    wpAny (model X.prog X.w) A (call (.builtin "isinstance") [u, c]) Q E s := by
  cases ty with
  | non => cases (show u = Value.none from rx); exact PySem.W.kia_one PySem.W.kitx_none I.kIn True.intro e (fun z => nomatch z) h
  | bl y => cases (show u = Value.bool y from rx); exact PySem.W.kia_one PySem.W.kitx_bool I.kIn True.intro e (fun z => nomatch z) h
  | int i => obtain ⟨t, q⟩ := (show ∃ t, u = Value.int i t from rx); cases q; exact PySem.W.kia_one PySem.W.kitx_int I.kIn True.intro e (fun z => nomatch z) h
  | str y => obtain ⟨t, q⟩ := (show ∃ t, u = Value.str y t from rx); cases q; exact PySem.W.kia_one PySem.W.kitx_str I.kIn True.intro e (fun z => nomatch z) h
  | flt y => obtain ⟨t, q⟩ := (show ∃ t, u = Value.float y t from rx); cases q; exact PySem.W.kia_one PySem.W.kitx_float I.kIn True.intro e (fun z => nomatch z) h
  | @lst a xs ea =>
    cases (show u = Value.ref a from rx)
    obtain ⟨_, _, n, _, h1⟩ := (show ObjOk X.prog X.w H s.heap a (.lst xs) from I.hok a _ ea)
    exact PySem.W.kia_one PySem.W.kitx_list I.kIn ⟨_, h1, rfl⟩ e (fun z => nomatch z) h
  | @frz a ob xs ea =>
    cases (show u = Value.ref a from rx)
    obtain ⟨_, _, _, n, _, h1⟩ := (show ObjOk X.prog X.w H s.heap a (.frz ob (.lst xs)) from I.hok a _ ea)
    exact PySem.W.kia_one PySem.W.kitx_list I.kIn ⟨_, h1, rfl⟩ e (fun z => nomatch z) h
  | @tup a xs ea =>
    cases (show u = Value.ref a from rx)
    obtain ⟨_, _, _, p⟩ := (show ObjOk X.prog X.w H s.heap a (.tup xs) from I.hok a _ ea)
    obtain ⟨o, h1, h2, _⟩ := p
    exact PySem.W.kia_one PySem.W.kitx_tuple I.kIn ⟨o, h1, h2⟩ e (fun z => nomatch z) h
  | @dK a kvs ea =>
    cases (show u = Value.ref a from rx)
    obtain ⟨_, _, vs, _, p⟩ := (show ObjOk X.prog X.w H s.heap a (.dK kvs) from I.hok a _ ea)
    obtain ⟨o, es, ep, h1, h2, _⟩ := p
    exact PySem.W.kia_one PySem.W.kitx_dict I.kIn ⟨o, h1, h2.1⟩ e (fun z => nomatch z) h
  | @dT a kvs ea =>
    cases (show u = Value.ref a from rx)
    obtain ⟨_, _, xs, _, o, es, ep, h1, h2, _⟩ := (show ObjOk X.prog X.w H s.heap a (.dT kvs) from I.hok a _ ea)
    exact PySem.W.kia_one PySem.W.kitx_dict I.kIn ⟨o, h1, h2.1⟩ e (fun z => nomatch z) h
  | @ins a C dx fs ea cl ha hn htk hm =>
    cases (show u = Value.ref a from rx)
    obtain ⟨mA, O, _⟩ := ins_get I.hok ea
    obtain ⟨od, J, _⟩ := O.look
    exact PySem.W.kia_one (PySem.W.kitx_own (cl.get _) cl.hd ha hn htk hm) I.kIn J e (fun z => nomatch z) h
end
end L2
namespace L2
open PySem PySem.Spec PyProof.Rows
structure Room (k : Nat) (A : Around) : Prop where
  hd : A.handled = none
  dp : A.depth + 3 * k + 5 < recursionLimit
  un : A.units + 16 * k + 200 < cLine
theorem Room.mono {j k : Nat} {A : Around} (r : Room k A) (h : j ≤ k) : Room j A := ⟨r.hd, by have := r.dp; omega, by have := r.un; omega⟩
theorem Room.deeper {k : Nat} {A : Around} (r : Room (k + 1) A) (env : Env) : Room k (A.deeper env) :=
  ⟨r.hd, by have := r.dp; show A.depth + 1 + 3 * k + 5 < _; omega, by have := r.un; show A.units + 3 + 16 * k + 200 < _; omega⟩
theorem Room.depth {k : Nat} {A : Around} (r : Room k A) : A.depth < recursionLimit := by have := r.dp; omega
theorem Room.units {k : Nat} {A : Around} (r : Room k A) : A.units + 64 < cLine := by have := r.un; omega
def tNil : TA := fun _ H Q => Q [] H
def tCons (ta : TE) (tr : TA) : TA := fun σ H Q => ta σ H fun x H1 => tr σ H1 fun xs H2 => Q (x :: xs) H2
section
variable {X : Cx} {e : Expr} {es : List Expr} {te : TE} {t : TA} {pos : Pos}
theorem pa_nil : PA X [] tNil := fun _ _ _ _ H Q I h => Calls.spliced_nil ⟨[], H, I, .nil, h⟩
theorem pa_cons (ha : PE X e te) (hr : PA X es t) (hs : starEach (e :: es) X.env = (false, eval e X.env) :: starEach es X.env := by rfl) : PA X (e :: es) (tCons te t) := by
  intro pos pins s σ H Q I h
  rw [hs]
  show wpAny _ _ (spliced ((false, eval e X.env) :: backTo pos (starEach es X.env))) _ _ s
  refine Calls.spliced_cons (thn (ha pins s σ H _ I h) fun u s1 ⟨x, H1, I1, r1, q1⟩ => ?_)
  exact thn (hr pos pins s1 σ H1 _ I1 q1) fun us s2 ⟨xs, H2, I2, r2, q2⟩ => ⟨x :: xs, H2, I2, .cons r1 r2, q2⟩
def tTup (t : TA) : TE := fun σ H Q => t σ H fun xs H1 => xs.length ≤ sizeLine ∧ ∀ p, H1 p = none → Q (.ref p) (upd H1 p (.tup xs))
def tLst (t : TA) : TE := fun σ H Q => t σ H fun xs H1 => xs.length ≤ sizeLine ∧ ∀ p, H1 p = none → Q (.ref p) (upd H1 p (.lst xs))
theorem pe_tup {x1} (h : PA X es t) : PE X (.Tuple es x1 pos) (tTup t) := by
  intro pins s σ H Q I hq
  refine wpAny_Tuple_spliced (thn (h pos pins s σ H _ I hq) fun us s1 ⟨xs, H1, I1, r, z, q⟩ => ⟨by rw [← r.length]; exact z, ?_⟩)
  have hf : H1 s1.heap.objs.size = none := I1.hok.fresh (Nat.le_refl _)
  refine ⟨.ref s1.heap.objs.size, upd H1 s1.heap.objs.size (.tup xs), I1.laid (t' := s1.toks) (fun b u e => Heap.get?_push_of_some _ e) (Nat.le_refl _) ?_, rfl, q _ hf⟩
  exact ⟨z, us, r, ⟨_, Heap.get?_push_size _ rfl, rfl, _, rfl⟩⟩
theorem pe_lst (h : PA X es t) : PE X (.List es pos) (tLst t) := by
  intro pins s σ H Q I hq
  refine wpAny_List_spliced (thn (h pos pins s σ H _ I hq) fun us s1 ⟨xs, H1, I1, r, z, q⟩ => ⟨by rw [← r.length]; exact z, ?_⟩)
  have hf : H1 s1.heap.objs.size = none := I1.hok.fresh (Nat.le_refl _)
  refine ⟨.ref s1.heap.objs.size, upd H1 s1.heap.objs.size (.lst xs), I1.laid (t' := s1.toks) (fun b u e => Heap.get?_push_of_some _ e) (Nat.le_refl _) ?_, rfl, q _ hf⟩
  exact ⟨z, us, 0, r, Heap.get?_push_size _ rfl⟩
end
abbrev Sp := List V → Hp → VK → XK → Prop
abbrev CXT := List Env → Hp → Shared → XK → Value → Shared → Prop
structure Env0 (P : Program) (w : World) (K : PySem.W.Frag) (mg : Str → Option Value) (base : Heap) (A : Around) (outer : List Env) (s : Shared) (H : Hp) : Prop where
  frames : A.frames = some outer
  mod : Mod K mg base
  bs : ∀ b o, base.get? b = some o → s.heap.get? b = some o ∧ H b = none
  bsz : base.objs.size ≤ s.heap.objs.size
  funs : s.heap.FunFrames base outer
  frf : ∀ b ∈ frs outer, H b = none
  hok : HOk P w H s.heap
  bare : AllBare s.gens
def CE (outer : List Env) (P : Program) (w : World) (H : Hp) (s : Shared) (Q : VK) (u : Value) (s' : Shared) : Prop :=
  ∃ v H', s'.os = s.os ∧ AllBare s'.gens ∧ Un (frs outer) [] H H' s.heap s'.heap ∧ HOk P w H' s'.heap ∧ RelV v u ∧ Q v H'
def CR (CX : CXT) (outer : List Env) (P : Program) (w : World) (H : Hp) (s : Shared) (Q : VK) (E : XK) (r : Result) (s' : Shared) : Prop :=
  match r with
  | .ok (.ret u) => CE outer P w H s Q u s'
  | .ok _ => False
  | .error e => CX outer H s E e s'
structure FnOk (P : Program) (w : World) (K : PySem.W.Frag) (mg : Str → Option Value) (base : Heap) (CX : CXT) (k : Nat) (f : Addr) (fd : FuncData) (ps : List Str) (sp : Sp) : Prop where
  len : ∀ vs H Q E, sp vs H Q E → vs.length = ps.length
  run : ∀ (A : Around) (outer : List Env) (s : Shared) (H : Hp) (args : Args) (us : List Value) (vs : List V) (Q : VK) (E : XK), Room k A → Env0 P w K mg base A outer s H → BindsTo s fd args (ps.zip us) → Vals vs us → sp vs H Q E →
    codeAny (model P w) A (.call (.ref f) args) (CR CX outer P w H s Q E) s
section
variable {X : Cx} {pins : List (Addr × Obj)} {σ : St} {H : Hp} {s s' : Shared}
theorem Inv.env0 (I : Inv X pins σ H s) : Env0 X.prog X.w X.K X.mg X.base X.A X.stack s H :=
  ⟨I.ok.frames, I.ok.mod, I.bs, Nat.le_trans I.ok.bsz I.sz, I.stack, I.stkFree, I.hok, I.bare⟩
theorem Inv.after {Q : VK} {u : Value} (I : Inv X pins σ H s) (h : CE X.stack X.prog X.w H s Q u s') : EP X pins σ Q u s' := by
  obtain ⟨v, H', os, bare, un, hok, r, q⟩ := h
  obtain ⟨hh, g, d, t, os'⟩ := s'
  obtain rfl : os' = s.os := os
  exact ⟨v, H', I.call (h' := hh) (g' := g) (d' := d) (t' := t) (ch := []) un hok bare (fun b z => absurd z (by simp)), r, q⟩
end
def tCall (sp : Sp) (dvs : List V) (E : XK) (t : TA) : TE := fun σ H Q => t σ H fun vs H1 => sp (vs ++ dvs) H1 Q E
def Binds (K : PySem.W.Frag) (fd : FuncData) (ps : List Str) (ds : List Value) : Prop :=
  ∀ (s : Shared) (us : List Value), K.In s.heap → (us ++ ds).length = ps.length → BindsTo s fd ⟨us, []⟩ (ps.zip (us ++ ds))
theorem Binds.all {K : PySem.W.Frag} {fd : FuncData} {ps : List Str} (h : ∀ us : List Value, us.length = ps.length → bindArgs fd ⟨us, []⟩ = pure (ps.zip us)) : Binds K fd ps [] := fun s us _ hl => by
  rw [List.append_nil] at hl ⊢
  exact .of_eq (h us hl)
def Passes (CX : CXT) (X : Cx) (E : XK) : Prop := ∀ (pins : List (Addr × Obj)) (σ : St) (H : Hp) (s : Shared) (e : Value) (s' : Shared), Inv X pins σ H s → CX X.stack H s E e s' → X.xe e s'
section
variable {X : Cx} {CX : CXT} {k : Nat} {f C : Addr} {fd : FuncData} {ps : List Str} {sp : Sp} {dvs : List V} {ds : List Value} {E : XK} {x m : Str} {p pos apos : Pos} {e o : Expr} {es : List Expr} {ta : TE} {t : TA}
theorem run_fn {pins : List (Addr × Obj)} {σ : St} {H : Hp} {s : Shared} {Q : VK} {us : List Value} {vs : List V} (F : FnOk X.prog X.w X.K X.mg X.base CX k f fd ps sp) (hr : Room k X.A) (hb : Binds X.K fd ps ds) (hd : Vals dvs ds) (hx : Passes CX X E)
    (I : Inv X pins σ H s) (r : Vals vs us) (h : sp (vs ++ dvs) H Q E) : wpAny (model X.prog X.w) X.A (call (.ref f) us) (EP X pins σ Q) X.xe s := by
  have r2 : Vals (vs ++ dvs) (us ++ ds) := r.append hd
  have hl : (us ++ ds).length = ps.length := by rw [← r2.length]; exact F.len _ _ _ _ h
  refine wpAny_call (codeAny_mono (F.run X.A X.stack s H ⟨us, []⟩ (us ++ ds) (vs ++ dvs) Q E hr I.env0 (hb s us I.kIn hl) r2 h) fun r s' hq => ?_)
  cases r with
  | error e => exact hx pins σ H s e s' I hq
  | ok fl =>
    cases fl with
    | ret u => exact I.after hq
    | next => exact False.elim hq
    | brk => exact False.elim hq
    | cont => exact False.elim hq
theorem pe_call (F : FnOk X.prog X.w X.K X.mg X.base CX k f fd ps sp) (hr : Room k X.A) (hg : Gl X x) (hm : X.mg x = some (.ref f)) (hk : PySem.W.keepIn X.K (.ref f) = true) (hb : Binds X.K fd ps ds) (hd : Vals dvs ds) (hx : Passes CX X E)
    (ha : PA X (e :: es) t) (hdb : (x == ("__debug__" : Str)) = false := by decide) (he : starEach (e :: es) X.env = (false, eval e X.env) :: starEach es X.env := by rfl) (hpl : (backTo pos (starEach es X.env)).any (·.1) = false := by rfl) :
    PE X (.Call (.Name x p) (e :: es) [] pos) (tCall sp dvs E t) := by
  intro pins s σ H Q I h
  refine wpAny_Call_Name_kw (ld_glob I hg hm ?_ hdb)
  refine PySem.W.callWith_K (h₀ := X.base) I.ok.mod.kin hk (thn (ha pos pins s σ H _ I h) fun us s1 ⟨vs, H1, I1, r, q⟩ => ⟨I1.kIn, ?_⟩) he hpl
  exact run_fn F hr hb hd hx I1 r q
end
section
variable {X : Cx} {CX : CXT} {k : Nat} {f C : Addr} {fd : FuncData} {ps ks : List Str} {sp : Sp} {E : XK} {x m : Str} {p pos apos kpos : Pos} {e o : Expr} {es : List Expr} {kws : List Keyword} {te ta : TE} {t tk : TA} {nm : Option Str}
variable {g : List Value → List Value → List Value} {gV : List V → List V → List V}
end
structure FnScope (N P : List Str) (sc : Scope) : Prop where
  kind : sc.kind = .function
  co : sc.isCoroutine = false
  gen : sc.isGenerator = false
  nd : N.Nodup
  pre : N.take P.length = P
  par : ∀ x ∈ P, sc.names.lookup x = some .local ∨ sc.names.lookup x = some .cell
  nofree : ∀ y ∈ sc.names, y.2 ≠ .free
theorem bindL_out {kindOf : Str → Option NameKind} {x : Str} : ∀ {binds : List (Str × Value)} {m : Str → Option Value}, (∀ v, (x, v) ∉ binds) → bindL kindOf binds m x = m x
  | [], _, _ => rfl
  | (n, v) :: r, m, h => by
    unfold bindL
    rw [bindL_out fun w hw => h w (List.mem_cons_of_mem _ hw)]
    split
    · have : x ≠ n := by rintro rfl; exact h v List.mem_cons_self
      simp [this]
    · rfl
theorem bindC_out {kindOf : Str → Option NameKind} {x : Str} : ∀ {binds : List (Str × Value)} {m : Str → Option Value}, (∀ v, (x, v) ∉ binds) → bindC kindOf binds m x = m x
  | [], _, _ => rfl
  | (n, v) :: r, m, h => by
    unfold bindC
    rw [bindC_out fun w hw => h w (List.mem_cons_of_mem _ hw)]
    split
    · rfl
    · have : x ≠ n := by rintro rfl; exact h v List.mem_cons_self
      simp [this]
theorem bindL_get {kindOf : Str → Option NameKind} {x : Str} {v : Value} : ∀ {P : List Str} {vs : List Value} {i : Nat} {m : Str → Option Value}, P.Nodup → P[i]? = some x → vs[i]? = some v → kindOf x = some .local →
    bindL kindOf (P.zip vs) m x = some v
  | [], _, _, _, _, h, _, _ => by simp at h
  | _ :: _, [], _, _, _, _, h, _ => by simp at h
  | p :: P, w :: vs, 0, m, nd, h1, h2, hk => by
    simp at h1 h2; subst h1; subst h2
    show bindL kindOf ((p, w) :: P.zip vs) m p = _
    unfold bindL
    rw [bindL_out fun v hv => (List.nodup_cons.mp nd).1 (List.of_mem_zip hv).1, if_pos hk]
    simp
  | p :: P, w :: vs, i + 1, m, nd, h1, h2, hk => by
    show bindL kindOf ((p, w) :: P.zip vs) m x = _
    unfold bindL
    exact bindL_get (i := i) (List.nodup_cons.mp nd).2 (by simpa using h1) (by simpa using h2) hk
theorem bindC_get {kindOf : Str → Option NameKind} {x : Str} {v : Value} : ∀ {P : List Str} {vs : List Value} {i : Nat} {m : Str → Option Value}, P.Nodup → P[i]? = some x → vs[i]? = some v → kindOf x ≠ some .local →
    bindC kindOf (P.zip vs) m x = some v
  | [], _, _, _, _, h, _, _ => by simp at h
  | _ :: _, [], _, _, _, _, h, _ => by simp at h
  | p :: P, w :: vs, 0, m, nd, h1, h2, hk => by
    simp at h1 h2; subst h1; subst h2
    show bindC kindOf ((p, w) :: P.zip vs) m p = _
    unfold bindC
    rw [bindC_out fun v hv => (List.nodup_cons.mp nd).1 (List.of_mem_zip hv).1, if_neg hk]
    simp
  | p :: P, w :: vs, i + 1, m, nd, h1, h2, hk => by
    show bindC kindOf ((p, w) :: P.zip vs) m x = _
    unfold bindC
    exact bindC_get (i := i) (List.nodup_cons.mp nd).2 (by simpa using h1) (by simpa using h2) hk
def start (N : List Str) (vs : List V) : St := vs.map some ++ List.replicate (N.length - vs.length) none
def cxOf (CX : CXT) (P : Program) (w : World) (K : PySem.W.Frag) (mg : Str → Option Value) (base : Heap) (N : List Str) (qual : Str) (scope : Scope) (f : Addr) (cd : Value) (A : Around) (outer : List Env) (s : Shared) (H : Hp) (E : XK) : Cx where
  prog := P
  w := w
  K := K
  mg := mg
  base := base
  A := A.deeper (envOfC qual scope s.heap.objs.size f cd)
  N := N
  s₀ := s
  H₀ := H
  env := envOfC qual scope s.heap.objs.size f cd
  outer := outer
  stack := envOfC qual scope s.heap.objs.size f cd :: outer
  ex := []
  calm := true
  fn := fun _ => true
  pn := []
  xe := fun e s' => wpAny (model P w) (A.deeper (envOfC qual scope s.heap.objs.size f cd)) (leaving (envOfC qual scope s.heap.objs.size f cd) e) (fun _ s'' => CX outer H s E e s'') (fun e' s'' => CX outer H s E e' s'') s'
theorem cell_has {sc : Scope} {n : Nat} {x : Str} (h : sc.names.lookup x = some .cell) : ∃ c, (cellsFrom n sc.names []).lookup x = some c := by
  have q := PySem.W.cellsFrom_some sc.names n [] (.inl h)
  exact Option.isSome_iff_exists.mp q
theorem inv_start {CX : CXT} {P : Program} {w : World} {K : PySem.W.Frag} {mg : Str → Option Value} {base : Heap} {N ps : List Str} {qual : Str} {scope : Scope} {f : Addr} {cd : Value} {A : Around} {outer : List Env} {s s1 : Shared} {H : Hp} {E : XK} {us : List Value} {vs : List V}
    (S : FnScope N ps scope) (hd : A.handled = none) (e0 : Env0 P w K mg base A outer s H) (hl : vs.length = ps.length) (r : Vals vs us)
    (x : InCallC s s.heap.objs.size (bindL (envOfC qual scope s.heap.objs.size f cd).kindOf (ps.zip us) fun _ => none) (cellsFrom (s.heap.objs.size + 1) scope.names []) (bindC (envOfC qual scope s.heap.objs.size f cd).kindOf (ps.zip us) fun _ => none) s1) :
    Inv (cxOf CX P w K mg base N qual scope f cd A outer s H E) [] (start N vs) H s1 := by
  have hpl : ps.length ≤ N.length := by have := congrArg List.length S.pre; rw [List.length_take] at this; omega
  obtain ⟨h1, tk, rfl, hk⟩ := x.done
  have noA : ∀ b : Addr, b ∉ (cxOf CX P w K mg base N qual scope f cd A outer s H E).ex := fun b z => absurd (show b ∈ ([] : List Addr) from z) (by simp)
  refine ⟨⟨e0.mod, S.kind, rfl, rfl, Nat.le_refl _, fun y z c h1 h2 => ?_, fun y hy => ?_, fun y c _ h => ?_, fun _ => hd, Around.frames_deeper e0.frames, .inr ⟨rfl, rfl⟩, fun b z => absurd z (noA b), e0.bs, e0.bsz, fun b _ _ => noA b, fun b z => absurd z (noA b), e0.funs, e0.frf⟩,
    rfl, e0.bare, Un.kept hk, ⟨_, x.toInCall.ns, fun i y v h1 h2 h3 => ?_⟩, fun y c h => ⟨_, x.cell y c h⟩, e0.hok.fresh (Nat.le_refl _), fun y c h => ?_, fun p hp => absurd (show p ∈ ([] : List (Addr × Obj)) from hp) (by simp), e0.hok.kept hk, ?_⟩
  · exact name_of_addr x.apart (PySem.mem_of_lookup h1) (PySem.mem_of_lookup h2)
  · have hy : scope.names.lookup y = some .cell ∨ scope.names.lookup y = some .free := hy
    rcases hy with hy | hy
    · exact cell_has hy
    · exact absurd rfl (S.nofree _ (PySem.mem_of_lookup hy))
  · exact Nat.le_of_lt (x.above y c (PySem.mem_of_lookup h))
  · have hi : i < vs.length := by
      unfold start at h2
      by_cases hi : i < vs.length
      · exact hi
      · rw [List.getElem?_append_right (by simpa using hi)] at h2
        rw [List.getElem?_replicate] at h2
        split at h2 <;> cases h2
    have ha : vs[i]? = some v := by
      unfold start at h2
      rw [List.getElem?_append_left (by simpa using hi), List.getElem?_map] at h2
      cases e : vs[i]? with
      | none => rw [e] at h2; cases h2
      | some a => rw [e] at h2; cases h2; rfl
    obtain ⟨u, hu, rv⟩ := r.get ha
    have hp : ps[i]? = some y := by
      rw [← S.pre, List.getElem?_take_of_lt (by omega)]; exact h1
    have ndP : ps.Nodup := by rw [← S.pre]; exact S.nd.sublist (List.take_sublist _ _)
    refine ⟨u, rv, ?_⟩
    rcases S.par y (List.mem_of_getElem? hp) with k | k
    · exact .inl ⟨k, bindL_get ndP hp hu k⟩
    · obtain ⟨c, e⟩ := cell_has (n := s.heap.objs.size + 1) k
      refine .inr ⟨.inl k, c, e, ?_⟩
      have q := x.cell y c e
      rw [bindC_get ndP hp hu (by show scope.names.lookup y ≠ _; rw [k]; decide)] at q
      exact q
  · exact e0.hok.fresh (Nat.le_of_lt (x.above y c (PySem.mem_of_lookup h)))
  · unfold start
    show _ = N.length
    rw [List.length_append, List.length_map, List.length_replicate]
    omega
theorem fn_of {CX : CXT} {P : Program} {w : World} {K : PySem.W.Frag} {mg : Str → Option Value} {base : Heap} {k : Nat} {f : Addr} {name qual : Str} {params : Arguments} {body : List Stmt} {scope : Scope} {dV kV doc pm cdv ct oc : Value} {an od : Option Addr}
    {osl : Array (Option Value)} {N ps : List Str} {sp : Sp} (lk : K.lookup f = some ⟨oc, od, .func (PySem.W.fnOf name qual params body scope dV kV doc pm an cdv ct), osl⟩) (hcd : PySem.W.codeIn K cdv qual = true) (S : FnScope N ps scope)
    (len : ∀ vs H Q E, sp vs H Q E → vs.length = ps.length)
    (hbody : ∀ (A : Around) (outer : List Env) (s : Shared) (H : Hp) (vs : List V) (Q : VK) (E : XK), Room k (A.deeper (envOfC qual scope s.heap.objs.size f cdv)) → sp vs H Q E →
      ∃ t, PSs (cxOf CX P w K mg base N qual scope f cdv A outer s H E) body t ∧ t { nx := fun _ H' => Q .non H', rt := Q } (start N vs) H) :
    FnOk P w K mg base CX (k + 1) f (PySem.W.fnOf name qual params body scope dV kV doc pm an cdv ct) ps sp := by
  refine ⟨len, fun A outer s H args us vs Q E hr e0 hb r hsp => ?_⟩
  have hl := len _ _ _ _ hsp
  have KX : K.In s.heap := e0.mod.kin.keeps fun b o e => (e0.bs b o e).1
  have lim : s.heap.NoLimit := e0.mod.nolimit.keeps fun b o e => (e0.bs b o e).1
  have hkind : ∀ y ∈ ps.zip us, scope.names.lookup y.1 = some .local ∨ (scope.names.lookup y.1 = some .cell ∧ ((cellsFrom (s.heap.objs.size + 1) scope.names []).lookup y.1).isSome = true) := fun ⟨n, v⟩ hy => by
    rcases S.par n (List.of_mem_zip hy).1 with q | q
    · exact .inl q
    · exact .inr ⟨q, PySem.W.cellsFrom_some _ _ _ (.inl q)⟩
  refine codeAny_call_function hr.depth (KX _ _ lk) rfl S.co S.gen rfl (PySem.W.codeRec_of KX hcd) (hb _ _ _ _ ?_)
  refine wpAny_newFunctionEnv_cells S.kind hkind fun env he s1 x => ?_
  subst he
  refine ⟨lim.keeps x.toInCall.keep, codeAny_func ?_⟩
  obtain ⟨t, ht, hq⟩ := hbody A outer s H vs Q E (hr.deeper _) hsp
  have I : Inv (cxOf CX P w K mg base N qual scope f cdv A outer s H E) [] (start N vs) H s1 := inv_start S hr.hd e0 hl r x
  refine wpAny_mono (ht [] s1 (start N vs) H _ I hq) (fun fl s' hs => ?_) fun e s' hs => hs
  have fin : ∀ {σ' : St} {H' : Hp} {v : V} {u : Value}, Inv (cxOf CX P w K mg base N qual scope f cdv A outer s H E) [] σ' H' s' → RelV v u → Q v H' → CE outer P w H s Q u s' :=
    fun {σ' H' v u} J rv q => ⟨v, H', J.os, J.bare, J.base, J.hok, rv, q⟩
  cases fl with
  | ret u =>
    obtain ⟨v, σ', H', J, rv, q⟩ := hs
    exact fin J rv q
  | next =>
    obtain ⟨σ', H', J, q⟩ := hs
    exact fin (v := V.non) (u := Value.none) J rfl q
  | brk =>
    obtain ⟨_, _, _, q⟩ := hs
    exact False.elim q
  | cont =>
    obtain ⟨_, _, _, q⟩ := hs
    exact False.elim q
end L2
namespace L2
open PySem PySem.Spec PyProof.Rows
section
variable {X : Cx} {x : Str} {p pos : Pos} {e : Expr} {es : List Expr} {t : TA} {id T : String} {r : List V → Hp → VK → Prop}
def tCB (r : List V → Hp → VK → Prop) (t : TA) : TE := fun σ H Q => t σ H fun vs H1 => r vs H1 Q
theorem pe_callB (hc : CallR X (.builtin id) r) (hg : Gl X x) (hm : X.mg x = none) (hv : bootBuiltins x = some (.builtin id)) (ha : PA X (e :: es) t) (hn : x ≠ "__name__" := by decide) (hdb : (x == ("__debug__" : Str)) = false := by decide)
    (he : starEach (e :: es) X.env = (false, eval e X.env) :: starEach es X.env := by rfl) (hpl : (backTo pos (starEach es X.env)).any (·.1) = false := by rfl) : PE X (.Call (.Name x p) (e :: es) [] pos) (tCB r t) := by
  intro pins s σ H Q I h
  refine wpAny_Call_Name_kw (ld_blt I hg hm hv ?_ hn hdb)
  exact PyProof.Rows.callWith_builtin1 (thn (ha pos pins s σ H _ I h) fun us s1 ⟨vs, H1, I1, r1, q1⟩ => hc pins s1 σ H1 vs us Q I1 r1 q1) he hpl
end
end L2
namespace HT
open PySem PyProof.Rows
section
open PySem.SeqAt
open PySem.AutoSeq1 (wpAny_loadPart')
open PySem.MeetsSeq PySem.MeetsSeq2 PySem.MeetsSeq3
end
section
variable {prog : Program} {w : World} {A : Around} {E : Value → Shared → Prop} {s : Shared}
def sIx (n d : Nat) : Option Int → Nat
  | none => d
  | some v => if v < 0 then (v + (n : Int)).toNat else min v.toNat n
theorem sIx_none (n d : Nat) : sIx n d none = d := rfl
end
end HT
namespace L2
open PySem PySem.Spec PyProof.Rows
abbrev TO := St → Hp → (Option Int → Hp → Prop) → Prop
def PO (X : Cx) (e : Option Expr) (t : TO) : Prop :=
  ∀ (pins : List (Addr × Obj)) (s : Shared) (σ : St) (H : Hp) (Q : Option Int → Hp → Prop), Inv X pins σ H s → t σ H Q →
    wpAny (model X.prog X.w) X.A (evalPart e X.env) (fun u s' => ∃ o H', Inv X pins σ H' s' ∧ IsPart u o ∧ Q o H') X.xe s
def tNoPart : TO := fun _ H Q => Q none H
def tPart (t : TE) : TO := fun σ H Q => t σ H fun x H1 => ∃ i, x = .int i ∧ Q (some i) H1
theorem intsAre_of {ns : List Int} : ∀ {us : List Value}, Vals (ns.map V.int) us → IntsAre us ns := by
  induction ns with
  | nil => intro us r; rw [List.map_nil] at r; cases r; exact .nil
  | cons n ns ih =>
    intro us r
    rw [List.map_cons] at r
    cases r with
    | cons r1 r2 =>
      obtain ⟨t, e⟩ := r1
      subst e
      exact .cons n t (ih r2)
section
variable {X : Cx} {e : Expr} {te : TE} {lo hi : Option Expr} {tl th : TO} {pos p2 : Pos}
theorem po_none : PO X none tNoPart := by
  intro pins s σ H Q I h
  rw [evalPart_none]
  exact wpAny_pure ⟨none, H, I, .none, h⟩
theorem po_some (h : PE X e te) : PO X (some e) (tPart te) := by
  intro pins s σ H Q I hw
  rw [evalPart_some]
  refine thn (h pins s σ H _ I hw) fun u s1 ⟨x, H1, I1, r1, q1⟩ => ?_
  obtain ⟨i, rfl, q⟩ := q1
  obtain ⟨t, rfl⟩ := r1
  exact ⟨some i, H1, I1, .int i t, q⟩
def SlR (X : Cx) (r : V → Option Int → Option Int → Hp → VK → Prop) : Prop :=
  ∀ (pins : List (Addr × Obj)) (s : Shared) (σ : St) (H : Hp) (x : V) (v vl vu : Value) (lo hi : Option Int) (sl : Addr) (Q : VK), Inv X pins σ H s → RelV x v → s.heap.IsSliceOf sl vl vu .none → IsPart vl lo → IsPart vu hi → r x lo hi H Q →
    ∃ T id, typeLookup (.type T) "__getitem__" = pure (some (.builtin id)) ∧ s.TypeIs v T ∧ wpAny (model X.prog X.w) X.A (getItem v (.ref sl)) (EP X pins σ Q) X.xe s
def tSl (r : V → Option Int → Option Int → Hp → VK → Prop) (te : TE) (tl th : TO) : TE := fun σ H Q => te σ H fun x H1 => tl σ H1 fun l H2 => th σ H2 fun u H3 => r x l u H3 Q
theorem pe_slice {r : V → Option Int → Option Int → Hp → VK → Prop} (hr : SlR X r) (he : PE X e te) (hl : PO X lo tl) (hu : PO X hi th) : PE X (.Subscript e (.Slice lo hi none p2) pos) (tSl r te tl th) := by
  intro pins s σ H Q I h
  refine Subscript_ (thn (he pins s σ H _ I h) fun v s1 ⟨x, H1, I1, r1, q1⟩ => ?_)
  refine wpAny_Slice (thn (hl pins s1 σ H1 _ I1 q1) fun vl s2 ⟨l, H2, I2, pl, q2⟩ => thn (hu pins s2 σ H2 _ I2 q2) fun vu s3 ⟨u, H3, I3, pu, q3⟩ => ?_)
  rw [evalPart_none]
  refine wpAny_pure ?_
  have I4 : Inv X pins σ H3 { s3 with heap := s3.heap.push { cls := .type "slice", data := .fields #[vl, vu, .none] } } := I3.kept (t' := s3.toks) fun b ob q => Heap.get?_push_of_some _ q
  obtain ⟨T, id, hT, ht, hg⟩ := hr pins { s3 with heap := s3.heap.push { cls := .type "slice", data := .fields #[vl, vu, .none] } } σ H3 x v vl vu l u s3.heap.objs.size Q I4 r1 (Heap.IsSliceOf.new ..) pl pu q3
  show wpAny (model X.prog X.w) X.A (subscriptTail e (.Slice lo hi none p2) v (.ref s3.heap.objs.size)) (EP X pins σ Q) X.xe { s3 with heap := s3.heap.push { cls := .type "slice", data := .fields #[vl, vu, .none] } }
  exact tail_any (ops := [.ref s3.heap.objs.size, v]) ht hT hg (by with_unfolding_all rfl)
def cutV (xs : List V) (lo hi : Option Int) : List V := (xs.drop (HT.sIx xs.length 0 lo)).take (HT.sIx xs.length xs.length hi - HT.sIx xs.length 0 lo)
theorem cutV_length (xs : List V) (lo hi : Option Int) : (cutV xs lo hi).length ≤ xs.length := by
  unfold cutV
  rw [List.length_take, List.length_drop]
  omega
end
end L2
namespace L2
open PySem PySem.Spec PyProof.Rows
def ixN (n : Nat) (i : Int) : Option Nat := if 0 ≤ i then (if i < n then some i.toNat else none) else if -(n : Int) ≤ i then some (i + n).toNat else none
def atI {α : Type} (xs : List α) (i : Int) : Option α := (ixN xs.length i).bind fun j => xs[j]?
theorem ixN_seq {n : Nat} {i : Int} {j : Nat} (h : ixN n i = some j) : seqIndex? i n = some j ∧ j < n ∧ -(n : Int) ≤ i ∧ i < n := by
  unfold ixN at h
  by_cases h0 : 0 ≤ i
  · rw [if_pos h0] at h
    by_cases h1 : i < n
    · rw [if_pos h1] at h
      have e : i.toNat = j := Option.some.inj h
      exact ⟨by rw [seqIndex_of h0 h1, e], by omega, by omega, h1⟩
    · rw [if_neg h1] at h; cases h
  · rw [if_neg h0] at h
    by_cases h1 : -(n : Int) ≤ i
    · rw [if_pos h1] at h
      have e : (i + n).toNat = j := Option.some.inj h
      exact ⟨by rw [seqIndex_neg (by omega) h1, e], by omega, h1, by omega⟩
    · rw [if_neg h1] at h; cases h
theorem atI_get {α : Type} {xs : List α} {i : Int} {v : α} (h : atI xs i = some v) : ∃ j, seqIndex? i xs.length = some j ∧ xs[j]? = some v ∧ j < xs.length ∧ -(xs.length : Int) ≤ i ∧ i < xs.length := by
  unfold atI at h
  cases e : ixN xs.length i with
  | none => rw [e] at h; cases h
  | some j =>
    rw [e] at h
    obtain ⟨h1, h2, h3, h4⟩ := ixN_seq e
    exact ⟨j, h1, h, h2, h3, h4⟩
theorem atI_nat {α : Type} {xs : List α} {j : Nat} {v : α} (h : xs[j]? = some v) : atI xs (j : Int) = some v := by
  have hj : j < xs.length := (List.getElem?_eq_some_iff.mp h).1
  have e : ixN xs.length (j : Int) = some j := by
    unfold ixN
    rw [if_pos (by omega), if_pos (by omega)]; simp
  unfold atI; rw [e]; exact h
theorem atI_last {α : Type} (xs : List α) (v : α) : atI (xs ++ [v]) (-1) = some v := by
  have hl : (xs ++ [v]).length = xs.length + 1 := by simp
  have e : ixN (xs ++ [v]).length (-1) = some xs.length := by
    unfold ixN
    rw [hl, if_neg (by decide), if_pos (by omega)]
    congr 1
    omega
  unfold atI
  rw [e]
  show (xs ++ [v])[xs.length]? = some v
  simp
def PlainIx (b : Expr) : Prop := ∀ o i, subscripted b false o i = operate [o, i] (getItem o i)
def IxR (X : Cx) (r : R2) : Prop :=
  ∀ (value slice : Expr) (pins : List (Addr × Obj)) (s : Shared) (σ : St) (H : Hp) (x y : V) (v u : Value) (Q : VK), Inv X pins σ H s → RelV x v → RelV y u → r x y H Q →
    subscripted slice false v u = operate [v, u] (getItem v u) → wpAny (model X.prog X.w) X.A (subscriptTail value slice v u) (EP X pins σ Q) X.xe s
def MtR (X : Cx) (id : String) (r : V → List V → Hp → VK → Prop) : Prop :=
  ∀ (pins : List (Addr × Obj)) (s : Shared) (σ : St) (H : Hp) (x : V) (xs : List V) (v : Value) (us : List Value) (Q : VK), Inv X pins σ H s → RelV x v → Vals xs us → r x xs H Q →
    wpAny (model X.prog X.w) X.A (call (.builtin id) (v :: us)) (EP X pins σ Q) X.xe s
section
variable {X : Cx} {a b : Expr} {ta tb : TE} {pos : Pos}
theorem pe_ix {r : R2} (hr : IxR X r) (ha : PE X a ta) (hb : PE X b tb) (hs : PlainIx b) : PE X (.Subscript a b pos) (tOp r ta tb) := by
  intro pins s σ H Q I h
  exact Subscript_ (binT ha hb I h fun v u s2 x y H2 I2 rx ry q => hr a b pins s2 σ H2 x y v u Q I2 rx ry q (hs _ _))
def rIxL (K : PySem.W.Frag) : R2 := fun x y H Q => ∃ p xs i v, x = .ref p ∧ y = .int i ∧ SqL K H p xs ∧ atI xs i = some v ∧ Q v H
def rIxS : R2 := fun x y H Q => ∃ z i c, x = .str z ∧ y = .int i ∧ z.length ≤ sizeLine ∧ atI z.cps.toList i = some c ∧ Q (.str ⟨#[c]⟩) H
theorem ix_list : IxR X (rIxL X.K) := by
  intro value slice pins s σ H x y v u Q I rx ry h hs
  obtain ⟨p, xs, i, z, rfl, rfl, hq, he, q⟩ := h
  cases rx
  obtain ⟨t, rfl⟩ := ry
  obtain ⟨its, r, pl, hz⟩ := I.list hq
  obtain ⟨j, h1, h2, h3, h4, h5⟩ := atI_get he
  obtain ⟨w, ew, rw'⟩ := r.get h2
  have hl := r.length
  have hn := line63
  have fin : EP X pins σ Q w s := ⟨z, H, I, rw', q⟩
  by_cases h0 : 0 ≤ i
  · have hj : i.toNat = j := by
      rw [seqIndex_of h0 h5] at h1
      exact Option.some.inj h1
    exact item_listR pl.isList h0 (by omega) (by rw [hj]; simpa using ew) fin hs
  · have hj : (i + (its.toArray.size : Int)).toNat = j := by
      rw [seqIndex_neg (by omega) h4] at h1
      rw [List.size_toArray, ← hl]
      exact Option.some.inj h1
    exact subscriptTail_builtinR (x := w) pl.isList.typeIs slot_list_getitem.lookup
      (wpAny_getItem_list_neg (Q := fun r s' => r = w ∧ EP X pins σ Q r s') pl.isList (by omega) (by rw [List.size_toArray] <;> omega) (by omega) (by rw [hj]; simpa using ew) ⟨rfl, fin⟩) hs
theorem ix_str : IxR X rIxS := by
  intro value slice pins s σ H x y v u Q I rx ry h hs
  obtain ⟨z, i, c, rfl, rfl, hz, he, q⟩ := h
  obtain ⟨t, rfl⟩ := rx
  obtain ⟨t', rfl⟩ := ry
  obtain ⟨j, h1, h2, h3, h4, h5⟩ := atI_get he
  have hl : z.cps.toList.length = z.length := by simp [Str.length]
  rw [hl] at h1 h4 h5
  have hn := line63
  exact tail_any (typeIs_str s z t) slot_str_getitem.lookup (getItem_str (c := c) (by
    have e1 : decide (i < -(2 ^ 63 : Int)) = false := decide_eq_false (by omega)
    have e2 : decide (i ≥ 2 ^ 63) = false := decide_eq_false (by omega)
    rw [e1, e2, Bool.or_false]) (by rw [h1]; simpa using h2) ⟨.str ⟨#[c]⟩, H, I.tok _, ⟨_, rfl⟩, q⟩) hs
theorem slice_bounds (lo hi : Option Int) (n : Nat) : (sliceBounds lo hi none n).1 = ((HT.sIx n 0 lo : Nat) : Int) ∧ (sliceBounds lo hi none n).2.1 = ((HT.sIx n n hi : Nat) : Int) ∧ (sliceBounds lo hi none n).2.2 = 1 := by
  refine ⟨?_, ?_, rfl⟩
  · cases lo with
    | none => simp [sliceBounds, HT.sIx]
    | some i =>
      simp only [sliceBounds, HT.sIx, Option.getD_none, show (1 : Int) > 0 by decide, if_true]
      by_cases h : i < 0
      · simp only [h, if_true] <;> omega
      · simp only [h, if_false] <;> omega
  · cases hi with
    | none => simp [sliceBounds, HT.sIx]
    | some i =>
      simp only [sliceBounds, HT.sIx, Option.getD_none, show (1 : Int) > 0 by decide, if_true]
      by_cases h : i < 0
      · simp only [h, if_true] <;> omega
      · simp only [h, if_false] <;> omega
theorem slicePick_cut (its : List Value) (lo hi : Option Int) : slicePick its.toArray lo hi none = ((its.drop (HT.sIx its.length 0 lo)).take (HT.sIx its.length its.length hi - HT.sIx its.length 0 lo)).toArray := by
  obtain ⟨h1, h2, h3⟩ := slice_bounds lo hi its.toArray.size
  unfold slicePick
  rw [h1, h2, h3]
  simp only [sliceRange_one, pick_run, List.size_toArray] <;> rfl
def rSlL (K : PySem.W.Frag) : V → Option Int → Option Int → Hp → VK → Prop := fun x lo hi H Q => ∃ a xs, x = .ref a ∧ SqL K H a xs ∧ ∀ p, H p = none → Q (.ref p) (upd H p (.lst (cutV xs lo hi)))
theorem sl_list : SlR X (rSlL X.K) := by
  intro pins s σ H x v vl vu lo hi sl Q I rx hs pl pu h
  obtain ⟨a, xs, rfl, hx, q⟩ := h
  cases rx
  obtain ⟨its, r, ht, hz⟩ := I.list hx
  have hlen := r.length
  refine ⟨"list", _, slot_list_getitem.lookup, ht.isList.typeIs, ?_⟩
  refine wpAny_getItem_list_slice ht.isList hs pl pu .none (by simp) ?_ (by rw [List.size_toArray] <;> omega)
  rw [slicePick_cut, ← hlen]
  refine ⟨.ref s.heap.objs.size, _, I.laid (t' := s.toks) (o := .lst (cutV xs lo hi)) (fun b ob q => Heap.get?_push_of_some _ q) (Nat.le_refl _) ?_, rfl, q _ (I.hok.fresh (Nat.le_refl _))⟩
  exact ⟨Nat.le_trans (cutV_length xs lo hi) hz, _, 0, (r.drop (HT.sIx xs.length 0 lo)).take (HT.sIx xs.length xs.length hi - HT.sIx xs.length 0 lo), Heap.get?_push_size _ rfl⟩
theorem call_len_seq : CallR X (.builtin "len") (fun xs H Q => ∃ p ys, xs = [.ref p] ∧ (SqL X.K H p ys ∨ SqT X.K H p ys) ∧ Q (.int ys.length) H) := by
  intro pins s σ H xs us Q I r h
  obtain ⟨p, ys, rfl, hq, q⟩ := h
  obtain ⟨u, rfl, rx⟩ := vals1 r
  cases rx
  have hn := line63
  rcases hq with hq | hq
  · obtain ⟨its, r', pl, hz⟩ := I.list hq
    have hlen := r'.length
    exact Calls.call_len_list pl.isList (by simp only [List.size_toArray] <;> omega) ⟨.int ys.length, H, I.tok _, ⟨s.toks + 1, by rw [List.size_toArray, hlen]⟩, q⟩
  · obtain ⟨its, r', pl, hz⟩ := I.tuple hq
    have hlen := r'.length
    exact len_tuple pl (by simp only [List.size_toArray] <;> omega) ⟨.int ys.length, H, I.tok _, ⟨s.toks + 1, by rw [List.size_toArray, hlen]⟩, q⟩
theorem call_len_str : CallR X (.builtin "len") (fun xs H Q => ∃ z, xs = [.str z] ∧ z.length ≤ sizeLine ∧ Q (.int z.length) H) := by
  intro pins s σ H xs us Q I r h
  obtain ⟨z, rfl, hz, q⟩ := h
  obtain ⟨u, rfl, t, rfl⟩ := vals1 r
  have hn := line63
  exact len_str (by omega) ⟨.int z.length, H, I.tok _, ⟨_, rfl⟩, q⟩
def tyV (K : PySem.W.Frag) (T : String) (x : V) (H : Hp) : Prop := match x with
  | .str _ => T = "str"
  | .int _ => T = "int"
  | .ref p => (T = "list" ∧ ∃ xs, SqL K H p xs) ∨ (T = "tuple" ∧ ∃ o, K.lookup p = some o ∧ o.cls = .type "tuple" ∧ o.dict = none) ∨
      (T = "dict" ∧ ((∃ kvs, H p = some (.dK kvs)) ∨ ∃ kvs, H p = some (.dT kvs))) ∨ (T = "set" ∧ ∃ S n, H p = some (.set S n))
  | _ => False
theorem tyV_is {pins : List (Addr × Obj)} {σ : St} {H : Hp} {s : Shared} {T : String} {x : V} {v : Value} (I : Inv X pins σ H s) (r : RelV x v) (ty : tyV X.K T x H) :
    s.TypeIs v T ∧ ∀ a, v = .ref a → ∃ ob, s.heap.get? a = some ob ∧ ob.dict = none := by
  cases x with
  | str z =>
    obtain ⟨t, rfl⟩ := r
    cases (show T = "str" from ty)
    exact ⟨typeIs_str s z t, fun _ e => nomatch e⟩
  | int i =>
    obtain ⟨t, rfl⟩ := r
    cases (show T = "int" from ty)
    exact ⟨typeIs_int s i t, fun _ e => nomatch e⟩
  | ref p =>
    cases r
    rcases ty with ⟨rfl, xs, hq⟩ | ⟨rfl, o, hk, hc, hd⟩ | ⟨rfl, hk⟩ | ⟨rfl, S, n, hk⟩
    · obtain ⟨its, _, pl, _⟩ := I.list hq
      refine ⟨pl.isList.typeIs, fun a e => ?_⟩
      cases e
      obtain ⟨o, n, e, c, hd, _⟩ := pl
      exact ⟨o, e, hd⟩
    · refine ⟨⟨o, I.kIn p o hk, hc⟩, fun a e => ?_⟩
      cases e
      exact ⟨o, I.kIn _ o hk, hd⟩
    · have z : ∃ o, s.heap.get? p = some o ∧ o.ExactDict := by
        rcases hk with ⟨kvs, hk⟩ | ⟨kvs, hk⟩
        · obtain ⟨_, _, _, _, o, _, _, e, ex, _⟩ := I.hok p _ hk
          exact ⟨o, e, ex⟩
        · obtain ⟨_, _, _, _, o, _, _, e, ex, _⟩ := I.hok p _ hk
          exact ⟨o, e, ex⟩
      obtain ⟨o, e, ex⟩ := z
      refine ⟨⟨o, e, ex.1⟩, fun a e2 => ?_⟩
      cases e2
      exact ⟨o, e, ex.2.1⟩
    · obtain ⟨o, _, _, _, e, ex, _⟩ := I.hok p _ hk
      refine ⟨⟨o, e, ex.1⟩, fun a e2 => ?_⟩
      cases e2
      exact ⟨o, e, ex.2.1⟩
  | _ => exact False.elim ty
def tBM (K : PySem.W.Frag) (T : String) (r : V → List V → Hp → VK → Prop) (to : TE) (t : TA) : TE := fun σ H Q => to σ H fun x H1 => tyV K T x H1 ∧ t σ H1 fun xs H2 => r x xs H2 Q
variable {o e : Expr} {es : List Expr} {to : TE} {t : TA} {name : Str} {apos cpos : Pos} {T id : String} {r : V → List V → Hp → VK → Prop}
theorem pe_bm (pa : PlainAttrs T) (slot : Slot T name id) (hty : typeOf (.builtin id) = pure (.type "method_descriptor")) (hm : MtR X id r) (ho : PE X o to) (ha : PA X (e :: es) t)
    (hbase : attributeBase o name X.env (eval o X.env) = eval o X.env := by rfl)
    (hfew : ((backTo cpos (starEach (e :: es) X.env)).all (fun x => !x.1) && (backToKw cpos (keywordEach [] X.env)).all (fun x => x.1.isSome)
      && decide ((e :: es).length + ([] : List Keyword).length + (if ([] : List Keyword).isEmpty then 0 else 1) < 30)) = true := by rfl)
    (hline : (apos.endLine == cpos.line) = true := by rfl) (hs : starEach (e :: es) X.env = (false, eval e X.env) :: starEach es X.env := by rfl) (hplain : (backTo cpos (starEach es X.env)).any (·.1) = false := by rfl) :
    PE X (.Call (.Attribute o name apos) (e :: es) [] cpos) (tBM X.K T r to t) := by
  intro pins s σ H Q I h
  refine wpAny_Call_method_late hbase hfew hline rfl (thn (ho pins s σ H _ I h) fun v s1 ⟨x, H1, I1, r1, ty, q1⟩ => ?_)
  obtain ⟨h1, h2⟩ := tyV_is I1 r1 ty
  refine ⟨T, id, pa, slot, hty, h1, h2, ?_⟩
  have hA := ha cpos pins s1 σ H1 _ I1 q1
  rw [hs] at hA ⊢
  refine Calls.callWith_builtin (by show (false || (backTo cpos (starEach es X.env)).any (·.1)) = false; rw [hplain] <;> rfl) (Calls.evalArgs_plain ?_)
  exact thn hA fun us s2 ⟨vs, H2, I2, r2, q2⟩ => hm pins s2 σ H2 x vs v us Q I2 r1 r2 q2
/- xs.append(e), list.index on a module's tuple .. are MtR facts of 06m -/
end
end L2
namespace L2
open PySem PySem.Spec PyProof.Rows
def MtM (X : Cx) (id : String) (r : V → List V → Hp → VK → Prop) : Prop :=
  ∀ (pins : List (Addr × Obj)) (s : Shared) (σ : St) (H : Hp) (x : V) (xs : List V) (v : Value) (us : List Value) (Q : VK), Inv X pins σ H s → RelV x v → Vals xs us → r x xs H Q →
    wpAny (model X.prog X.w) X.A (call (.builtin id) (v :: us)) (EP X pins σ Q) X.xe s
theorem Vals.one : ∀ {x : V} {us : List Value}, Vals [x] us → ∃ u, us = [u] ∧ RelV x u
  | _, _, .cons r .nil => ⟨_, rfl, r⟩
section
variable {X : Cx} {pins : List (Addr × Obj)} {σ : St} {H : Hp} {s : Shared} {l b : Addr} {xs ys zs : List V}
theorem Inv.lset {its its' : List Value} {n : Nat} {f : Array Value → Array Value} {t' : Nat} (I : Inv X pins σ H s) (hH : H l = some (.lst xs))
    (e : s.heap.get? l = some { cls := .type "list", data := .seq its.toArray n }) (hf : f its.toArray = its'.toArray) (hv : Vals ys its') (hz : ys.length ≤ sizeLine) :
    Inv X pins σ (upd H l (.lst ys)) { s with heap := s.heap.update l (Obj.mapSeq f), toks := t' } := by
  have q := PySem.IsL.update e f
  rw [hf] at q
  refine I.write (x := l) (e := l) (by rw [hH]; exact trivial) (.inl rfl) (fun b' u hb hu => (Heap.get?_update_other s.heap (Obj.mapSeq f) (Ne.symm hb)).trans hu) ⟨_, q⟩ ?_
  exact ⟨hz, its', _, hv, q⟩
theorem Inv.lnew {its : List Value} {t' : Nat} (I : Inv X pins σ H s) (hv : Vals ys its) (hz : ys.length ≤ sizeLine) :
    Inv X pins σ (upd H s.heap.objs.size (.lst ys)) { s with heap := s.heap.push { cls := .type "list", data := .seq its.toArray }, toks := t' } :=
  I.laid (fun _ _ q => Heap.get?_push_of_some _ q) (Nat.le_refl _) ⟨hz, its, 0, hv, Heap.get?_push_size _ rfl⟩
theorem Inv.fresh (I : Inv X pins σ H s) : H s.heap.objs.size = none := I.hok.fresh (Nat.le_refl _)
theorem Inv.lstM (I : Inv X pins σ H s) (hH : H l = some (.lst xs)) : xs.length ≤ sizeLine ∧ ∃ (its : List Value) (n : Nat), Vals xs its ∧ xs.length = its.length ∧ s.heap.get? l = some { cls := .type "list", data := .seq its.toArray n } := by
  obtain ⟨z, its, n, r, e⟩ := I.hok l _ hH
  exact ⟨z, its, n, r, r.length, e⟩
end
section
variable {X : Cx}
def rAppend : V → List V → Hp → VK → Prop := fun x vs H Q => ∃ l xs y, x = .ref l ∧ vs = [y] ∧ H l = some (.lst xs) ∧ xs.length < sizeLine ∧ Q .non (upd H l (.lst (xs ++ [y])))
theorem mt_append : MtM X "list.append" rAppend := by
  intro pins s σ H x vs v us Q I rx rv h
  obtain ⟨l, xs, y, rfl, rfl, hH, hz, q⟩ := h
  cases rx
  obtain ⟨u, rfl, ru⟩ := rv.one
  obtain ⟨z, its, n, r, hl, e⟩ := I.lstM hH
  refine call_meets F.slot_list_append ⟨_, e, rfl⟩ F.entry_list_append (F.args_list_append_2 _ _) (PySem.list_append l its.toArray n u (by rw [List.size_toArray]; omega)) ⟨e, ?_⟩
  refine ⟨.non, _, I.lset (its' := its ++ [u]) hH e (by simp) (r.append (.cons ru .nil)) ?_, rfl, q⟩
  rw [List.length_append, List.length_singleton]
  omega
def rCat : R2 := fun x y H Q => ∃ l b xs zs, x = .ref l ∧ y = .ref b ∧ H l = some (.lst xs) ∧ H b = some (.lst zs) ∧ xs.length + zs.length ≤ sizeLine ∧ ∀ p, H p = none → Q (.ref p) (upd H p (.lst (xs ++ zs)))
theorem op_cat : OpR X (binaryOp .Add) rCat := by
  intro pins s σ H x y v u Q I rx ry h
  obtain ⟨l, b, xs, zs, rfl, rfl, hH, hB, hz, q⟩ := h
  cases rx
  cases ry
  obtain ⟨z, its, n, r, hl, e⟩ := I.lstM hH
  obtain ⟨z2, its2, n2, r2, hl2, e2⟩ := I.lstM hB
  refine PySem.P.add_list e e2 ?_ (by rw [List.size_toArray, List.size_toArray]; omega)
  have ea : its.toArray ++ its2.toArray = (its ++ its2).toArray := by simp
  rw [ea]
  exact ⟨.ref _, _, I.lnew (t' := s.toks) (r.append r2) (by rw [List.length_append]; omega), rfl, q _ I.fresh⟩
end
section
variable {prog : Program} {w : World} {A : Around} {E : Value → Shared → Prop} {s : Shared}
end
section
variable {X : Cx}
end
end L2
namespace Att
open PySem PySem.W PySem.Calls PyProof.Rows
theorem ints_of_wellAll {P : Params} {h : Heap} : ∀ (ns : List Int) (vs : List Value), WellAll P h vs (ns.map WData.int) → IntsAre vs ns := by
  intro ns
  induction ns with
  | nil =>
    intro vs w
    rw [List.map_nil] at w
    cases w
    exact .nil
  | cons n ns ih =>
    intro vs w
    rw [List.map_cons] at w
    cases w with
    | cons a b =>
      cases a
      exact .cons _ _ (ih _ b)
theorem script_of {l : OpenLaw} {n : Nat} (hn : l.most = some n) {P : Params} {h : Heap} {args : List WData} {vals : List Value}
    (hpre : l.row.toRowW.claim.pre args = true) (hwl : WellAll P h vals args) :
    ∃ a vs ns, vals = [Value.ref a] ∧ args = [WData.list (ns.map WData.int)] ∧ h.get? a = some { cls := .type "list", data := .seq vs.toArray } ∧ IntsAre vs ns ∧ ns.length ≤ n := by
  have hsh : WShape.hasAll [] args [.list .int] = true := (pre_splitW hpre).1
  have hc : l.pre.holds [] { args := args } = true := (pre_splitW hpre).2
  obtain ⟨d, r, rfl, h1, h2⟩ := hasAllW_cons hsh
  obtain rfl := hasAllW_nil h2
  obtain ⟨xs, rfl, h3⟩ := hasW_list h1
  obtain ⟨ns, rfl⟩ := items_int h3
  have hlen : ns.length ≤ n := by
    unfold OpenLaw.pre at hc
    have h4 : (WTm.not (.lt (.lit (.int (n : Int))) (.len (.arg 0)))).holds [] { args := [.list (ns.map .int)] } = true := by
      have h4 := (holds_andW hc).1
      rw [hn] at h4
      exact h4
    have h5 := condW_of h4 (w_not (w_lt w_lit (w_len_list (w_arg rfl))))
    rw [List.length_map] at h5
    refine Nat.le_of_not_lt fun q => ?_
    have q' : (n : Int) < ((ns.length : Nat) : Int) := by omega
    first
      | (rw [decide_eq_true q'] at h5; exact absurd h5 (by decide))
      | (simp at h5; omega)
  cases hwl with
  | cons w1 w2 =>
    cases w2
    cases w1 with
    | list ho hall => exact ⟨_, _, ns, rfl, rfl, ho, ints_of_wellAll ns _ hall, hlen⟩
theorem post_true (l : OpenLaw) (args : List WData) : l.row.toRowW.claim.post args (.bool true) args = true :=
  postW_of (r := l.row.toRowW) (X := (true == true))
    (show WShape.has [] (.bool true) .bool = true by first | rfl | decide | simp [WShape.has, WShape.arms, WShape.armsAll])
    (show (WTm.eq .res (.lit (.bool true))).value [] { args := args, res := some (.bool true), after := args } = some (.bool (true == true)) from w_eq_bool (w_res rfl) w_lit) rfl
section
variable {prog : Program} {w : World} {A : Around} {E : Value → Shared → Prop} {s : Shared} {K : Frag}
end
end Att
namespace L2
open PySem PySem.Spec PyProof.Rows
theorem vals_ints : ∀ {vs : List Value} {ns : List Int}, IntsAre vs ns → Vals (ns.map V.int) vs
  | _, _, .nil => .nil
  | _, _, .cons n t h => .cons ⟨t, rfl⟩ (vals_ints h)
def Only (H : Hp) : Prop := ∀ b, H b = none ∨ ∃ o xs, H b = some (.frz o (.lst xs))
theorem law_call {P : Program} {w : World} {K : PySem.W.Frag} {mg mb : Str → Option Value} {CX : CXT} {k : Nat} {fa a : Addr} {fd : FuncData} {x : Str} {sp : Sp} {s₁ : Shared} {vs : List Value} {ns : List Int}
    (KX : K.In s₁.heap) (hns : s₁.heap.Ns mainGlobals mg) (hb : s₁.heap.Ns builtinsNs mb) (hbb : ∀ x : Str, x ≠ "__name__" → mb x = bootBuiltins x) (hlim : s₁.heap.NoLimit) (hg : s₁.gens = #[])
    (ha : s₁.heap.get? a = some { cls := .type "list", data := .seq vs.toArray }) (hi : IntsAre vs ns) (hl : ns.length ≤ sizeLine) (hr : Room k callerA)
    (F : ∀ base : Heap, K.In base → base.Ns mainGlobals mg → FnOk P w K mg base CX k fa fd [x] sp) (hbind : ∀ (s : Shared) (u : Value), BindsTo s fd ⟨[u], []⟩ [(x, u)])
    (hsp : ∀ H : Hp, Only H → SqL K H a (ns.map V.int) → sp [.ref a] H (fun v _ => v = .bl true) fun _ _ _ => False)
    (hCX : ∀ H e s', CX [] H s₁ (fun _ _ _ => False) e s' → False) :
    codeAny (model P w) callerA (.call (.ref fa) ⟨[.ref a], []⟩) (fun r s' => r = .ok (.ret (.bool true)) ∧ OldK s₁.heap s'.heap ∧ s'.os = s₁.os ∧ AllBare s'.gens) s₁ := by
  have rv := vals_ints hi
  have lenV := hi.length
  -- from an abstract heap in which nothing but the script may be tracked
  have core : ∀ H : Hp, Only H → SqL K H a (ns.map V.int) → HOk P w H s₁.heap → (∀ b, H b ≠ none → b = a) → (H a ≠ none → K.lookup a = none) →
      codeAny (model P w) callerA (.call (.ref fa) ⟨[.ref a], []⟩) (fun r s' => r = .ok (.ret (.bool true)) ∧ OldK s₁.heap s'.heap ∧ s'.os = s₁.os ∧ AllBare s'.gens) s₁ := by
    intro H hO hS hok hA hK
    have base_of : ∀ {b : Addr} {o : Obj}, s₁.heap.get? b = some o → H b = none → (hidT s₁.heap H).get? b = some o := fun e n => hidT_get e n
    have noA : ∀ {b : Addr} {o : Obj} {es : Array DictEntry} {ep : Nat}, s₁.heap.get? b = some o → o.data = .dict es ep → H b = none := fun {b o es ep} e d => by
      cases q : H b with
      | none => rfl
      | some u =>
        have e' : b = a := hA b (by rw [q]; simp)
        subst e'
        rw [ha] at e; cases e
        have d' : Data.seq vs.toArray _ = Data.dict es ep := d
        cases d'
    have nsK : ∀ {b : Addr} {m : Str → Option Value}, s₁.heap.Ns b m → (hidT s₁.heap H).Ns b m := fun {b m} ⟨o, es, ep, e, d, r⟩ => ⟨o, es, ep, base_of e (noA e d), d, r⟩
    have hKb : K.In (hidT s₁.heap H) := fun b o e => base_of (KX b o e) (by
      cases q : H b with
      | none => rfl
      | some u =>
        have e' : b = a := hA b (by rw [q]; simp)
        subst e'
        rw [hK (by rw [q]; simp)] at e; cases e)
    have hM : Mod K mg (hidT s₁.heap H) := ⟨hKb, nsK hns, ⟨mb, nsK hb, hbb⟩, let ⟨mc, h1, h2⟩ := hlim; ⟨mc, nsK h1, h2⟩⟩
    have e0 : Env0 P w K mg (hidT s₁.heap H) callerA [] s₁ H := ⟨rfl, hM, fun b o e => of_hidT e, Nat.le_of_eq (hidT_size _ _), trivial, fun b hb => absurd (show b ∈ ([] : List Addr) from hb) (by simp), hok, .of_eq hg⟩
    refine codeAny_mono ((F _ hKb (nsK hns)).run callerA [] s₁ H ⟨[.ref a], []⟩ [.ref a] [.ref a] _ _ hr e0 (hbind s₁ (.ref a)) (.cons rfl .nil) (hsp H hO hS)) fun r s' h => ?_
    cases r with
    | error e => exact (hCX H e s' h).elim
    | ok fl =>
      cases fl with
      | next => exact False.elim h
      | brk => exact False.elim h
      | cont => exact False.elim h
      | ret u =>
        obtain ⟨v, H', os, bare, un, hok', r', q⟩ := h
        have q' : v = .bl true := q
        subst q'
        obtain rfl : u = Value.bool true := r'
        refine ⟨rfl, OldK.of_keep fun b o e => ?_, os, bare⟩
        cases q : H b with
        | none => exact un.keep b o e q (by intro z; exact absurd (show b ∈ ([] : List Addr) from z) (by simp)) (by simp)
        | some u =>
          rcases hO b with z | ⟨ob, xs, z⟩
          · rw [q] at z; cases z
          · have z2 := un.frzs b ob _ z
            obtain ⟨e1, _⟩ := hok b _ z
            obtain ⟨e2, _⟩ := hok' b _ z2
            rw [e] at e1; cases e1
            exact e2
  cases hk : K.lookup a with
  | some o =>
    -- the script is one of the module's own objects
    have e := KX a o hk
    rw [ha] at e
    cases e
    refine core (fun _ => none) (fun _ => .inl rfl) (.inr ⟨_, vs.toArray, _, hk, rfl, rfl, rfl, by rw [List.size_toArray, lenV]; exact hl, by simpa using rv⟩) (fun b u z => by have z' : (none : Option HO) = some u := z; cases z') (fun b z => absurd rfl z) fun z => absurd rfl z
  | none =>
    refine core (fun b => if b = a then some (.frz { cls := .type "list", data := .seq vs.toArray } (.lst (ns.map V.int))) else none) (fun b => ?_) (.inl (.inr ⟨{ cls := .type "list", data := .seq vs.toArray }, if_pos rfl⟩)) (fun b u z => ?_) (fun b z => ?_) fun _ => hk
    · by_cases hb : b = a
      · exact .inr ⟨_, _, if_pos hb⟩
      · exact .inl (if_neg hb)
    · by_cases hb : b = a
      · have z' := (if_pos hb).symm.trans z
        cases z'
        subst hb
        exact ⟨ha, by rw [List.length_map]; exact hl, vs, _, rv, ha⟩
      · have z' := (if_neg hb).symm.trans z
        cases z'
    · by_cases hb : b = a
      · exact hb
      · exact absurd (if_neg hb) z
end L2
namespace L2
open PySem PySem.Spec PyProof.Rows
end L2
/- THE LAST THEOREM (shape; LID, My.* are yours):
   My.Adr: a structure of the addresses that your layer names (classes, functions); My.Txt K t: a structure (Prop) of the equations over K;
   My.txt_mk : {K} {implicit addresses ..} (e1 : nsIn K mainGlobals "law" = some (some (.ref f))) (e2 : K.lookup f = some ⟨oc, od, .func (fnOf "law" "law" params body scope dV kV doc pm an cdv ct), sl⟩) (e3 : codeIn K cdv "law" = true) .. : ∃ t, My.Txt K t
set_option maxRecDepth 100000 in
set_option maxHeartbeats 0 in
theorem PySem.Challenge.cw_LID_holds : PySem.Challenge.rw_LID.Holds := by
  w_on; o_law; k_head; (case hw => w_witness2)
  k_fill
  refine L2.walk_of (l := PySem.Challenge.rw_LID) (n := 63) (k := 40) (x := "script") (CX := fun w => ..) (sp := fun _ => My.sp_law) rfl (by decide) rfl ⟨rfl, by decide, by decide⟩ (fun w h Y => PySem.W.kIn_of Y) ?F ?S ?C
  case F =>
    intro w mg fa h KX G hmg
    have T : ∃ t, My.Txt (L2.KOf KX) t := by
      dsimp only [L2.KOf]                          -- K must stand as «<heap const> w.params» for k_is
      refine' My.txt_mk ?e1 ?e2 ?e3 ..
      (case e1 => PySem.W.k_is)                    -- in the order: a name -> its address -> its object -> its parts
      (case e2 => PySem.W.k_is)
      ..
    obtain ⟨t, T⟩ := T
    have e0 := hmg.symm.trans (PySem.W.mg_of KX G T.law)
    cases e0                                       -- fa is the law's own address
    exact ⟨_, fun s u => .of_eq rfl, fun base kb nb => My.law_fn T kb nb⟩     -- if «.of_eq rfl» comes too early: refine' ⟨_, ?b, fun base kb nb => My.law_fn T kb nb⟩; exact fun s u => .of_eq rfl
  case S => exact fun w H a ns hl hO hS => ..
  case C => exact ..
(the tactic k_is has no namespace: write k_is) -/
namespace L2
open PySem PySem.Spec PyProof.Rows
def defArgs (s : Stmt) : Arguments := match s with
  | .FunctionDef _ a _ _ _ _ _ _ _ _ => a
  | _ => { posonlyargs := [], args := [], vararg := none, kwonlyargs := [], kw_defaults := [], kwarg := none, defaults := [] }
def defBody (s : Stmt) : List Stmt := match s with
  | .FunctionDef _ _ b _ _ _ _ _ _ _ => b
  | _ => []
def defScope (s : Stmt) : Scope := match s with
  | .FunctionDef _ _ _ _ _ _ sc _ _ _ => sc
  | _ => { kind := .function, names := [], isGenerator := false, isCoroutine := false }
abbrev E0 : XK := fun _ _ _ => False
structure Fun (K : PySem.W.Frag) (x qual : Str) (st : Stmt) (f : Addr) (fd : FuncData) : Prop where
  ex : ∃ (oc : Value) (od : Option Addr) (kV doc pm : Value) (an : Option Addr) (cdv ct : Value) (osl : Array (Option Value)),
    fd = PySem.W.fnOf x qual (defArgs st) (defBody st) (defScope st) .none kV doc pm an cdv ct ∧ K.lookup f = some ⟨oc, od, .func fd, osl⟩ ∧ PySem.W.codeIn K cdv qual = true
  kp : PySem.W.keepIn K (.ref f) = true
section
variable {P : Program} {w : World} {K : PySem.W.Frag} {mg : Str → Option Value} {base : Heap}
theorem Fun.binds {x qual : Str} {st : Stmt} {f : Addr} {fd : FuncData} {ps : List Str} (F : Fun K x qual st f fd)
    (h : ∀ (kV doc pm : Value) (an : Option Addr) (cdv ct : Value) (us : List Value), us.length = ps.length → bindArgs (PySem.W.fnOf x qual (defArgs st) (defBody st) (defScope st) .none kV doc pm an cdv ct) ⟨us, []⟩ = pure (ps.zip us)) : Binds K fd ps [] := by
  obtain ⟨oc, od, kV, doc, pm, an, cdv, ct, osl, rfl, lk, hcd⟩ := F.ex
  exact .all (h kV doc pm an cdv ct)
theorem fun_mk {x qual : Str} {st : Stmt} {f : Addr} {oc : Value} {od an : Option Addr} {osl : Array (Option Value)} {kV doc pm cdv ct : Value} (l : K.lookup f = some ⟨oc, od, .func (PySem.W.fnOf x qual (defArgs st) (defBody st) (defScope st) .none kV doc pm an cdv ct), osl⟩)
    (c : PySem.W.codeIn K cdv qual = true) (k : PySem.W.keepIn K (.ref f) = true) : Fun K x qual st f (PySem.W.fnOf x qual (defArgs st) (defBody st) (defScope st) .none kV doc pm an cdv ct) := ⟨⟨oc, od, kV, doc, pm, an, cdv, ct, osl, rfl, l, c⟩, k⟩
end
section
variable {X : Cx}
theorem pv (i : Nat) {x : Str} {pos : Pos} (hN : X.N[i]? = some x := by rfl) (hv : Vis X.env.scope x := by first | exact Or.inl rfl | exact Or.inr (Or.inl rfl) | exact Or.inr (Or.inr rfl)) (hd : (x == ("__debug__" : Str)) = false := by decide)
    (hcd : (x == ("__classdict__" : Str)) = false := by decide) : PE X (.Name x pos) (tVar i) := pe_var hN hv hd hcd
end
theorem iteF {A B : Prop} (h : B) : if false = true then A else B := by
  rw [if_neg Bool.false_ne_true]
  exact h
theorem iteT {A B : Prop} (h : A) : if true = true then A else B := by
  rw [if_pos rfl]
  exact h
theorem iteNS {c A B : Prop} [Decidable c] (hc : c) (h : B) : if (!decide c) = true then A else B := by
  rw [decide_eq_true hc]
  exact iteF h
def Same (H H' : Hp) : Prop := ∀ b o, H b = some o → H' b = some o
theorem Same.refl (H : Hp) : Same H H := fun _ _ h => h
theorem Same.trans {H H1 H2 : Hp} (a : Same H H1) (b : Same H1 H2) : Same H H2 := fun c o h => b c o (a c o h)
theorem Same.seq {K : PySem.W.Frag} {H H' : Hp} {a : Addr} {xs : List V} (e : Same H H') (h : SqL K H a xs) : SqL K H' a xs := by
  rcases h with (h | ⟨o, h⟩) | h
  · exact .inl (.inl (e _ _ h))
  · exact .inl (.inr ⟨o, e _ _ h⟩)
  · exact .inr h
end L2
set_option maxHeartbeats 4000000
namespace L2
open PySem PySem.Spec PyProof.Rows
def EachP {α : Type} (p : α → Prop) : List α → Prop
  | [] => True
  | a :: r => p a ∧ EachP p r
theorem EachP.mem {α : Type} {p : α → Prop} : ∀ {l : List α}, EachP p l → ∀ a ∈ l, p a
  | _ :: _, h, _, .head _ => h.1
  | _ :: _, h, a, .tail _ ha => EachP.mem h.2 a ha
section
variable {X : Cx}
theorem strs_of : ∀ {texts : List Str} {us : List Value}, Vals (texts.map V.str) us → ∃ l : List (Str × Tok), strValues l = us ∧ l.map (·.1) = texts
  | [], _, h => by cases h; exact ⟨[], rfl, rfl⟩
  | x :: r, _, h => by
    cases h with
    | cons a b =>
      obtain ⟨t, rfl⟩ := a
      obtain ⟨l, e1, e2⟩ := strs_of b
      exact ⟨(x, t) :: l, by rw [← e1]; rfl, by rw [← e2]; rfl⟩
def rJoin (K : PySem.W.Frag) : V → List V → Hp → VK → Prop := fun x vs H Q => ∃ z l texts, x = .str z ∧ vs = [.ref l] ∧ SqL K H l (texts.map V.str) ∧ JoinOk z texts = true ∧ Q (.str (Txt.join z texts)) H
theorem mt_join : MtM X "str.join" (rJoin X.K) := by
  intro pins s σ H x vs v us Q I rx rv h
  obtain ⟨z, l, texts, rfl, rfl, hq, hok, q⟩ := h
  obtain ⟨t, rfl⟩ := rx
  obtain ⟨u, rfl, ru⟩ := rv.one
  cases ru
  obtain ⟨its, r, p, hz⟩ := I.list hq
  obtain ⟨ls, rfl, e2⟩ := strs_of r
  exact SC.join p.isList e2 hok fun t' k => ⟨.str _, H, I.tok _, ⟨_, rfl⟩, q⟩
def rCount : V → List V → Hp → VK → Prop := fun x vs H Q => ∃ z y, x = .str z ∧ vs = [.str y] ∧ Q (.int (Txt.count z y)) H
theorem mt_count : MtM X "str.count" rCount := by
  intro pins s σ H x vs v us Q I rx rv h
  obtain ⟨z, y, rfl, rfl, q⟩ := h
  obtain ⟨t, rfl⟩ := rx
  obtain ⟨u, rfl, t', rfl⟩ := rv.one
  exact SC.count ⟨.int _, H, I.tok _, ⟨_, rfl⟩, q⟩
theorem call_isi : CallR X (.builtin "isinstance") (fun xs H Q => ∃ x T t b, xs = [x, .ty T] ∧ TyOf X.K H x t ∧ PySem.W.kitOne X.K t (.type T) = some b ∧ Q (.bl b) H) := by
  intro pins s σ H xs us Q I r h
  obtain ⟨x, T, t, b, rfl, ty, e, q⟩ := h
  obtain ⟨u, w', rfl, rx, rT⟩ := vals2 r
  cases (show w' = Value.type T from rT)
  exact isinst_ok I rx ty e fun tk => ⟨.bl b, H, I.tok _, rfl, q⟩
theorem ints_items {its : List Value} {ns : List Int} (hi : IntsAre its ns) : ∃ xs : Array (Int × Tok), its.toArray = intItems xs ∧ ns = xs.toList.map (·.1) := by
  obtain ⟨xs, e⟩ := hi.allInts.items
  exact ⟨xs, e, by rw [← hi.numsOf, ← nums_intItems, ← e]⟩
theorem call_max1 (hc : X.calm = true) : CallR X (.builtin "max") (fun xs H Q => ∃ p, ∃ ns : List Int, xs = [.ref p] ∧ SqL X.K H p (ns.map V.int) ∧ 0 < ns.length ∧ ∀ M, M ∈ ns → (∀ a, a ∈ ns → a ≤ M) → Q (.int M) H) := by
  intro pins s σ H xs us Q I r h
  obtain ⟨p, ns, rfl, hq, hne, q⟩ := h
  obtain ⟨u, rfl, rx⟩ := vals1 r
  cases rx
  obtain ⟨its, r', pl, hz⟩ := I.list hq
  obtain ⟨xs, e, hns⟩ := ints_items (intsAre_of r')
  have hl := pl.isList
  rw [e] at hl
  have hsz : 0 < xs.size := by
    have h3 := hne; rw [hns, List.length_map, Array.length_toList] at h3; exact h3
  refine max_intList (I.ok.hd hc) hl hsz fun v h' tk hv hk => ?_
  obtain ⟨t, rfl⟩ := intItems_at hv
  obtain ⟨h1, h2⟩ := argBest_gt (numAt xs) (xs.size - 1)
  refine ⟨.int _, H, I.kept hk, ⟨t, rfl⟩, q _ ?_ fun a ha => ?_⟩
  · rw [hns, numAt_eq]; exact getD_mem (by rw [List.length_map, Array.length_toList]; omega)
  · rw [hns] at ha
    obtain ⟨j, hj, rfl⟩ := mem_getD ha
    rw [List.length_map, Array.length_toList] at hj
    rw [← numAt_eq]; exact h2 j (by omega)
theorem call_min1 (hc : X.calm = true) : CallR X (.builtin "min") (fun xs H Q => ∃ p, ∃ ns : List Int, xs = [.ref p] ∧ SqL X.K H p (ns.map V.int) ∧ 0 < ns.length ∧ ∀ M, M ∈ ns → (∀ a, a ∈ ns → M ≤ a) → Q (.int M) H) := by
  intro pins s σ H xs us Q I r h
  obtain ⟨p, ns, rfl, hq, hne, q⟩ := h
  obtain ⟨u, rfl, rx⟩ := vals1 r
  cases rx
  obtain ⟨its, r', pl, hz⟩ := I.list hq
  obtain ⟨xs, e, hns⟩ := ints_items (intsAre_of r')
  have hl := pl.isList
  rw [e] at hl
  have hsz : 0 < xs.size := by
    have h3 := hne; rw [hns, List.length_map, Array.length_toList] at h3; exact h3
  refine min_intList (I.ok.hd hc) hl hsz fun v h' tk hv hk => ?_
  obtain ⟨t, rfl⟩ := intItems_at hv
  obtain ⟨h1, h2⟩ := argBest_lt (numAt xs) (xs.size - 1)
  refine ⟨.int _, H, I.kept hk, ⟨t, rfl⟩, q _ ?_ fun a ha => ?_⟩
  · rw [hns, numAt_eq]; exact getD_mem (by rw [List.length_map, Array.length_toList]; omega)
  · rw [hns] at ha
    obtain ⟨j, hj, rfl⟩ := mem_getD ha
    rw [List.length_map, Array.length_toList] at hj
    rw [← numAt_eq]; exact h2 j (by omega)
end
def Its (x : Str) : It := ⟨fun i _ => i < x.cps.size, fun i H v H' => H' = H ∧ ∃ c, x.cps[i]? = some c ∧ v = .str ⟨#[c]⟩, fun i _ => x.cps.size ≤ i⟩
theorem turn_str {P : Program} {w : World} {K : PySem.W.Frag} {tg : Expr} (it : Addr) (x : Str) (t : Tok) : Turn P w K tg (Its x) [it] it (fun i h => h.IsStrIter it "str_ascii_iterator" x t i) where
  mem := by simp
  obj := fun i h st b hb => by
    have e : b = it := by simpa using hb
    subst e
    obtain ⟨o, e, c, d⟩ := st
    exact ⟨o, e, fun v z => by rw [d] at z; cases z⟩
  keep := fun i h h' st k => let ⟨o, ho, r⟩ := st; ⟨o, k it (by simp) o ho, r⟩
  item := by
    intro X hP hw hK hc i pins s σ H E I hf st hg
    subst hP hw hK
    obtain ⟨f0, f1, f2, f3, f4, f5⟩ := hf it (by simp)
    have hi : i < x.cps.size := hg
    refine wpAny_pyNext_ascii_item st (c := x.cps[i]) (by simp [hi]) fun h' st' sb => ?_
    have I1 : Inv X pins σ H { s with heap := h', toks := s.toks + 1 } := I.turned (fun b o hb e => (sb.2 b hb).trans e) f0 f1 f3 f4 f5
    obtain ⟨o, e, c, d⟩ := id st'
    exact ⟨_, rfl, go_of (s := { s with heap := h', toks := s.toks + 1 }) e c d (by decide) ⟨.str ⟨#[x.cps[i]]⟩, H, I1, ⟨_, rfl⟩, ⟨rfl, _, by simp [hi], rfl⟩, st', fun b hb => (hf b hb).1⟩⟩
  done := by
    intro X hP hw hK hc i pins s σ H E I hf st hg
    subst hP hw hK
    obtain ⟨f0, f1, f2, f3, f4, f5⟩ := hf it (by simp)
    have hi : x.cps.size ≤ i := hg
    exact wpAny_pyNext_ascii_end (I.ok.hd hc) st (by simp [hi]) fun h' eb => ⟨rfl, I.turned (t' := s.toks) (fun b o hb e => eb b o hb e) f0 f1 f3 f4 f5⟩
  self := fun _ _ _ _ _ st h => wpAny_pyIter_striter_ascii st h
section
variable {X : Cx} {tg : Expr}
def iStr (tl : TE) : TI := fun σ H R => tl σ H fun x H1 => ∃ z, x = .str z ∧ z.cps.all (· < 128) = true ∧ R (Its z) H1
theorem pi_str {l : Expr} {tl : TE} (hl : PE X l tl) : PI X tg l (iStr tl) := by
  intro pins s σ H R I h
  refine thn (hl pins s σ H _ I h) fun v s1 ⟨x, H1, I1, r1, q1⟩ => ?_
  obtain ⟨z, e, ha, q⟩ := q1
  subst e
  obtain ⟨t, rfl⟩ := r1
  refine wpAny_pyIter_ascii ha ?_
  refine ⟨s1.heap.objs.size, [s1.heap.objs.size], _, _, H1, rfl, I1.kept (t' := s1.toks) fun b o e => Heap.get?_push_of_some _ e, turn_str _ z t, ⟨_, Heap.get?_push_size _ rfl, rfl, rfl⟩, fun b hb => ?_, q⟩
  have e : b = s1.heap.objs.size := by simpa using hb
  subst e
  exact I1.fpOk (Nat.le_refl _) (I1.hok.fresh (Nat.le_refl _))
end
def caps (js : List Nat) (σ : St) : St := js.map fun j => (σ[j]?).join
def Cx.comp (X : Cx) (scope : Scope) (cl : List (Str × Addr)) (C : Addr) (N' : List Str) (s₀ : Shared) (H₀ : Hp) (fp : List Addr) : Cx :=
  { X with N := N', s₀ := s₀, H₀ := H₀, env := compEnvC scope cl C X.env, outer := X.stack, ex := fp, fn := fun _ => false, pn := [], xe := fun _ _ => False }
def tLCgo (J : It) (te : TE) (js : List Nat) (Q : VK) (σ : St) (H1 : Hp) : Prop :=
  ∀ D, H1 D = none → ∃ W : Nat → Nat → St → Hp → Prop, (∃ m, W 0 m (none :: caps js σ) (upd H1 D (.lst []))) ∧ ∀ i m σ' H', W i m σ' H' →
    (J.stop i H' ∧ Q (.ref D) H') ∨ (J.go i H' ∧ ∃ N : St → Hp → Prop, (∀ σ'' H'', N σ'' H'' → ∃ m', m' < m ∧ W (i + 1) m' σ'' H'') ∧
      ∀ x H2, J.yld i H' x H2 → te (σ'.set 0 (some x)) H2 fun v H3 => ∃ zs, H3 D = some (.lst zs) ∧ zs.length < sizeLine ∧ N (σ'.set 0 (some x)) (upd H3 D (.lst (zs ++ [v]))))
section
variable {X : Cx} {elt iter : Expr} {y : Str} {py pos : Pos} {scope : Scope} {cl : List (Str × Addr)} {ys : List Str} {js : List Nat} {te : TE}
end
theorem lc_str {te : TE} {js : List Nat} {Q : VK} {σ : St} {H : Hp} {x : Str} (f : Nat → V) (hn : x.cps.size ≤ sizeLine)
    (he : ∀ (i : Nat) c D zs (R : VK), x.cps[i]? = some c → H D = none → R (f c) (upd H D (.lst zs)) → te (some (.str ⟨#[c]⟩) :: caps js σ) (upd H D (.lst zs)) R)
    (hq : ∀ D, H D = none → Q (.ref D) (upd H D (.lst (x.cps.toList.map f)))) : tLCgo (Its x) te js Q σ H := by
  intro D hD
  refine ⟨fun i m σ' H' => m = x.cps.size - i ∧ i ≤ x.cps.size ∧ (∃ z, σ' = z :: caps js σ) ∧ H' = upd H D (.lst ((x.cps.toList.take i).map f)), ⟨x.cps.size, by simp, Nat.zero_le _, ⟨_, rfl⟩, by simp⟩, ?_⟩
  rintro i m σ' H' ⟨rfl, hi, ⟨z, rfl⟩, rfl⟩
  by_cases hlt : i < x.cps.size
  · refine .inr ⟨hlt, fun σ'' H'' => (∃ z, σ'' = z :: caps js σ) ∧ H'' = upd H D (.lst ((x.cps.toList.take (i + 1)).map f)), fun σ'' H'' p => ⟨x.cps.size - (i + 1), by omega, rfl, hlt, p⟩, fun v H2 y => ?_⟩
    obtain ⟨e, c, hc, y⟩ := y
    subst e y
    refine he i c D _ _ hc hD ⟨_, upd_same, ?_, ⟨_, rfl⟩, ?_⟩
    · simp; omega
    · have hc' : x.cps.toList[i]? = some c := by simpa using hc
      rw [upd_upd, List.take_add_one, hc', List.map_append]; rfl
  · have e : i = x.cps.size := by omega
    subst e
    refine .inl ⟨Nat.le_refl _, ?_⟩
    have := hq D hD
    rwa [List.take_of_length_le (by simp)]
theorem lc_list {K : PySem.W.Frag} {te : TE} {js : List Nat} {Q : VK} {σ : St} {H : Hp} {a : Addr} {xs : List V} (f : V → V) (hn : xs.length ≤ sizeLine) (hS : SqL K H a xs)
    (he : ∀ (i : Nat) x D zs (R : VK), xs[i]? = some x → H D = none → R (f x) (upd H D (.lst zs)) → te (some x :: caps js σ) (upd H D (.lst zs)) R)
    (hq : ∀ D, H D = none → Q (.ref D) (upd H D (.lst (xs.map f)))) : tLCgo (Itl K a) te js Q σ H := by
  intro D hD
  have hS' : ∀ zs, SqL K (upd H D (.lst zs)) a xs := fun zs => by
    have ne : ∀ o, H a = some o → a ≠ D := fun o e z => by rw [z, hD] at e; cases e
    rcases hS with (h | ⟨o, h⟩) | h
    · exact .inl (.inl (by rw [upd_ne (ne _ h)]; exact h))
    · exact .inl (.inr ⟨o, by rw [upd_ne (ne _ h)]; exact h⟩)
    · exact .inr h
  refine ⟨fun i m σ' H' => m = xs.length - i ∧ i ≤ xs.length ∧ (∃ z, σ' = z :: caps js σ) ∧ H' = upd H D (.lst ((xs.take i).map f)), ⟨xs.length, by simp, Nat.zero_le _, ⟨_, rfl⟩, by simp⟩, ?_⟩
  rintro i m σ' H' ⟨rfl, hi, ⟨z, rfl⟩, rfl⟩
  by_cases hlt : i < xs.length
  · refine .inr ⟨⟨xs, xs[i], hS' _, by simp [hlt]⟩, fun σ'' H'' => (∃ z, σ'' = z :: caps js σ) ∧ H'' = upd H D (.lst ((xs.take (i + 1)).map f)), fun σ'' H'' p => ⟨xs.length - (i + 1), by omega, rfl, hlt, p⟩, fun v H2 y => ?_⟩
    obtain ⟨e, y⟩ := y
    subst e
    have hc := y xs (hS' _)
    refine he i v D _ _ hc hD ⟨_, upd_same, ?_, ⟨_, rfl⟩, ?_⟩
    · simp; omega
    · rw [upd_upd, List.take_add_one, hc, List.map_append]; rfl
  · have e : i = xs.length := by omega
    subst e
    refine .inl ⟨⟨xs, hS' _, Nat.le_refl _⟩, ?_⟩
    have := hq D hD
    rwa [List.take_length]
theorem iteDT {c A B : Prop} [Decidable c] (hc : c) (h : A) : if decide c = true then A else B := by
  rw [if_pos (decide_eq_true hc)]
  exact h
theorem iteDF {c A B : Prop} [Decidable c] (hc : ¬ c) (h : B) : if decide c = true then A else B := by
  rw [if_neg (by rw [decide_eq_false hc]; exact Bool.false_ne_true)]
  exact h
theorem same_new {H : Hp} {p : Addr} (h : H p = none) (o : HO) : Same H (upd H p o) := fun b u q => by rw [upd_ne (ne_of_none q h)]; exact q
end L2
namespace L2
open PySem PySem.Spec PyProof.Rows
theorem bo_len : bootBuiltins "len" = some (.builtin "len") := by decide +kernel
theorem bo_isinstance : bootBuiltins "isinstance" = some (.builtin "isinstance") := by decide +kernel
theorem bo_max : bootBuiltins "max" = some (.builtin "max") := by decide +kernel
theorem bo_min : bootBuiltins "min" = some (.builtin "min") := by decide +kernel
theorem bo_int : bootBuiltins "int" = some (.type "int") := by decide +kernel
theorem bo_bool : bootBuiltins "bool" = some (.type "bool") := by decide +kernel
theorem bo_str : bootBuiltins "str" = some (.type "str") := by decide +kernel
section
variable {X : Cx}
theorem pe_gstr {x z : Str} {pos : Pos} (h : ∃ t, X.mg x = some (.str z t)) (hg : Gl X x := by rfl) (hd : (x == ("__debug__" : Str)) = false := by decide) : PE X (.Name x pos) (tC (.str z)) := by
  obtain ⟨t, hm⟩ := h
  exact pe_glob hg hm ⟨t, rfl⟩ hd
theorem pe_bty {x : Str} {T : String} {pos : Pos} (hm : X.mg x = none) (hv : bootBuiltins x = some (.type T)) (hg : Gl X x := by rfl) (hn : x ≠ "__name__" := by decide) (hd : (x == ("__debug__" : Str)) = false := by decide) :
    PE X (.Name x pos) (tC (.ty T)) := pe_bltn hg hm hv rfl hn hd
end
end L2
set_option maxHeartbeats 4000000
namespace L2
open PySem PySem.Spec PyProof.Rows
structure Fly (P : Program) (w : World) (outer : List Env) (H : Hp) (s : Shared) (ea : Addr) (C a0 : Value) (B : Heap) (H' : Hp) (s' : Shared) : Prop where
  os : s'.os = s.os
  bare : AllBare s'.gens
  fly : Heap.FlyingW B outer ea C a0 s'.heap
  hB : ∀ b o, s.heap.get? b = some o → H b = none → b ∉ frs outer → B.get? b = some o
  hT : ∀ b o, s.heap.get? b = some o → b ∉ frs outer → ∃ o', B.get? b = some o'
  un : Un (frs outer) [] H H' s.heap s'.heap
  hok : HOk P w H' B
def CXE (P : Program) (w : World) : CXT := fun outer H s E e s' => ∃ ea C a0 B H', e = .ref ea ∧ Fly P w outer H s ea C a0 B H' s' ∧ E C none H'
theorem frames_plain {base h : Heap} : ∀ {l : List Env}, h.FunFrames base l → ∀ b ∈ frs l, base.get? b = none ∧ ∃ o, h.get? b = some o ∧ ∀ vs, o.data ≠ .fields vs
  | [], _, b, hb => absurd hb (by simp [frs])
  | env :: r, ⟨_, ⟨L, o, hf, hn, ho, hd⟩, hr⟩, b, hb => by
    have hb' : b = L ∨ b ∈ frs r := by
      unfold frs at hb
      rw [List.filterMap_cons, hf] at hb
      exact List.mem_cons.mp hb
    rcases hb' with rfl | hb'
    · exact ⟨hn, o, ho, hd⟩
    · exact frames_plain hr b hb'
theorem un_fly {fs : List Addr} {H H' : Hp} {h h' h'' B : Heap} (u : Un fs [] H H' h h') (hB : ∀ b o, h.get? b = some o → H b = none → b ∉ fs → B.get? b = some o) (hT : ∀ b o, h.get? b = some o → b ∉ fs → ∃ o', B.get? b = some o')
    (st : ∀ b o, B.get? b = some o → h''.get? b = some o) (sl : ∀ b o, b ∈ fs → h'.get? b = some o → ∃ sl, h''.get? b = some { o with slots := sl }) : Un fs [] H H' h h'' where
  keep := fun b o q n hb _ => st b o (hB b o q n hb)
  slot := fun b o q n hb hx => by
    obtain ⟨s1, e1⟩ := u.slot b o q n hb hx
    obtain ⟨s2, e2⟩ := sl b _ hb e1
    exact ⟨s2, e2⟩
  free := u.free
  there := fun b o q hx => by
    by_cases hb : b ∈ fs
    · obtain ⟨o', e⟩ := u.there b o q hx
      obtain ⟨s1, e1⟩ := sl b o' hb e
      exact ⟨_, e1⟩
    · obtain ⟨o', e⟩ := hT b o q hb
      exact ⟨o', st b o' e⟩
  tups := u.tups
  frzs := u.frzs
  tbls := u.tbls
theorem slots_of {base h h' : Heap} {l : List Env} (F : h.FunFrames base l) (ups : h.UpToSlots h') : ∀ b o, b ∈ frs l → h.get? b = some o → ∃ sl, h'.get? b = some { o with slots := sl } := fun b o hb e => by
  obtain ⟨_, o', e', hd⟩ := frames_plain F b hb
  rw [e] at e'; cases e'
  exact ups b o e hd
theorem Inv.oldL {X : Cx} {pins : List (Addr × Obj)} {σ : St} {H : Hp} {s : Shared} (I : Inv X pins σ H s) {b : Addr} {o : Obj} (e : X.s₀.heap.get? b = some o) (hb : b ∉ X.fs) : b ∉ frs X.stack := fun z => by
  rcases List.mem_cons.mp (I.stkSub b z) with r | r
  · exact absurd (Nat.lt_of_lt_of_le (Heap.lt_size e) I.ok.above) (by rw [r]; exact Nat.lt_irrefl _)
  · exact hb r
section
variable {P : Program} {w : World} {K : PySem.W.Frag} {mg : Str → Option Value} {base : Heap} {N : List Str} {qual : Str} {scope : Scope} {f : Addr} {cd : Value} {A : Around} {outer : List Env} {s : Shared} {H : Hp} {E : XK}
abbrev cxE (P : Program) (w : World) (K : PySem.W.Frag) (mg : Str → Option Value) (base : Heap) (N : List Str) (qual : Str) (scope : Scope) (f : Addr) (cd : Value) (A : Around) (outer : List Env) (s : Shared) (H : Hp) (E : XK) : Cx :=
  cxOf (CXE P w) P w K mg base N qual scope f cd A outer s H E
theorem pass_up : Passes (CXE P w) (cxE P w K mg base N qual scope f cd A outer s H E) E := by
  intro pins σ H1 s1 e s' I h
  obtain ⟨ea, C, a0, B, H', rfl, F, q⟩ := h
  refine wpAny_leaves_onW (env := envOfC qual scope s.heap.objs.size f cd) (outer := outer) I.ok.frames rfl F.fly fun h' fl ups => ?_
  have sub : ∀ b ∈ frs outer, b ∈ frs (envOfC qual scope s.heap.objs.size f cd :: outer) := fun b hb => by
    unfold frs
    rw [List.filterMap_cons]
    exact List.mem_cons_of_mem _ hb
  have hB : ∀ b o, s.heap.get? b = some o → H b = none → b ∉ frs outer → B.get? b = some o := fun b o e n hb =>
    F.hB b o (I.base.keep b o e n hb (by exact (nomatch ·))) (I.base.free b o e n (by exact (nomatch ·))) (I.oldL e hb)
  have hT : ∀ b o, s.heap.get? b = some o → b ∉ frs outer → ∃ o', B.get? b = some o' := fun b o e hb => by
    obtain ⟨o1, e1⟩ := I.base.there b o e (by exact (nomatch ·))
    exact F.hT b o1 e1 (I.oldL e hb)
  have un1 : Un (frs outer) [] H H' s.heap s'.heap := ⟨fun b o e n hb _ => F.fly.1 b o (hB b o e n hb), fun b o e n hb _ => by
      obtain ⟨s2, e2⟩ := I.base.slot b o e n hb (by exact (nomatch ·))
      obtain ⟨s3, e3⟩ := F.un.slot b _ e2 (I.base.free b o e n (by exact (nomatch ·))) (sub b hb) (by simp)
      exact ⟨s3, e3⟩, fun b o e n _ => by
      obtain ⟨o1, e1⟩ := I.base.there b o e (by exact (nomatch ·))
      exact F.un.free b o1 e1 (I.base.free b o e n (by exact (nomatch ·))) (by simp), fun b o e _ => by
      obtain ⟨o1, e1⟩ := I.base.there b o e (by exact (nomatch ·))
      exact F.un.there b o1 e1 (by simp), fun b xs e => F.un.tups b xs (I.base.tups b xs e), fun b o u e => F.un.frzs b o u (I.base.frzs b o u e), fun b ps e => by
      obtain ⟨m1, e1⟩ := I.base.tbls b ps e
      obtain ⟨m2, e2⟩ := F.un.tbls b _ e1
      exact ⟨m1 ++ m2, by rw [e2, Array.append_assoc]⟩⟩
  exact ⟨ea, C, a0, B, H', rfl, ⟨F.os.trans I.os, F.bare, fl, hB, hT, un_fly un1 hB hT fl.1 fun b o hb e => slots_of F.fly.2.2.1 ups b o (sub b hb) e, F.hok⟩, q⟩
theorem raise_up {pins : List (Addr × Obj)} {σ : St} {H1 : Hp} {s1 : Shared} {h' : Heap} {ea C : Addr} {vs : List Value} (I : Inv (cxE P w K mg base N qual scope f cd A outer s H E) pins σ H1 s1) (hx : Heap.MadeExcOf s1.heap h' ea (.ref C) vs)
    (q : E (.ref C) none H1) : (cxE P w K mg base N qual scope f cd A outer s H E).xe (.ref ea) { s1 with heap := h' } := by
  have stk : s1.heap.FunFrames base (envOfC qual scope s.heap.objs.size f cd :: outer) := I.stack
  have inn : ∀ env ∈ (envOfC qual scope s.heap.objs.size f cd :: outer), ∀ a, env.frame = some a → a ∈ frs (envOfC qual scope s.heap.objs.size f cd :: outer) := fun env he a ha => List.mem_filterMap.mpr ⟨env, he, ha⟩
  have sub : ∀ b ∈ frs outer, b ∈ frs (envOfC qual scope s.heap.objs.size f cd :: outer) := fun b hb => by
    unfold frs
    rw [List.filterMap_cons]
    exact List.mem_cons_of_mem _ hb
  refine wpAny_leaves_madeW (base := PySem.W.hideAll s1.heap (frs (envOfC qual scope s.heap.objs.size f cd :: outer))) (h := s1.heap) (env := envOfC qual scope s.heap.objs.size f cd) (outer := outer) I.ok.frames rfl (fun b o e => PySem.W.of_hideAll _ e)
    (PySem.W.funFrames_hide stk inn) hx fun h'' t fl _ _ ups => ?_
  have hB : ∀ b o, s.heap.get? b = some o → H b = none → b ∉ frs outer → (PySem.W.hideAll s1.heap (frs (envOfC qual scope s.heap.objs.size f cd :: outer))).get? b = some o := fun b o e n hb =>
    PySem.W.hideAll_get _ (I.base.keep b o e n hb (by exact (nomatch ·))) (I.oldL e hb)
  have hT : ∀ b o, s.heap.get? b = some o → b ∉ frs outer → ∃ o', (PySem.W.hideAll s1.heap (frs (envOfC qual scope s.heap.objs.size f cd :: outer))).get? b = some o' := fun b o e hb => by
    obtain ⟨o1, e1⟩ := I.base.there b o e (by exact (nomatch ·))
    exact ⟨o1, PySem.W.hideAll_get _ e1 (I.oldL e hb)⟩
  refine ⟨ea, .ref C, .ref t, _, H1, rfl, ⟨I.os, I.bare, fl, hB, hT, un_fly I.base hB hT fl.1 fun b o hb e => ?_, fun a u e => ?_⟩, q⟩
  · obtain ⟨_, o', e', hd⟩ := frames_plain stk b (sub b hb)
    rw [e] at e'; cases e'
    exact ups b o (hx.keeps b o e) hd
  · refine (I.hok a u e).stay (fun b o hb q => PySem.W.hideAll_get _ q fun hm => ?_) (fun _ q => q) fun _ _ q => q
    have hn := I.stkFree b hm
    rcases hb with rfl | hb
    · rw [hn] at e; cases e
    · rw [hn] at hb; cases hb
end
end L2
namespace L2
open PySem PySem.Spec PyProof.Rows
abbrev veMro : List Value := [.type "ValueError", .type "Exception", .type "BaseException", .type "object"]
structure XCls (K : PySem.W.Frag) (mg : Str → Option Value) (x : Str) (C : Addr) : Prop where
  nm : mg x = some (.ref C)
  cl : PySem.W.excIn K C veMro "ValueError.__new__" = true
theorem XCls.own {K : PySem.W.Frag} {mg : Str → Option Value} {x : Str} {C : Addr} {h : Heap} (Z : XCls K mg x C) (In : K.In h) : OwnCls x C veMro "ValueError.__new__" mg h := by
  have z := Z.cl
  refine ⟨Z.nm, ?_⟩
  unfold PySem.W.excIn at z
  split at z
  case h_2 => cases z
  case h_1 o1 cdat slo at1 =>
    split at z
    case h_2 => cases z
    case h_1 c1 more g0 g1 g2 g3 nid g5 mr sl =>
      simp only [Bool.and_eq_true, beq_iff_eq, Bool.not_eq_true'] at z
      obtain ⟨⟨⟨⟨⟨e1, e2⟩, nodel⟩, tl⟩, okn⟩, noinit⟩ := z
      subst e1
      subst e2
      cases cdat
      dsimp only at mr nodel okn noinit
      subst mr
      subst nodel
      have es : slo = #[g0, g1, g2, g3, some (.builtin "ValueError.__new__"), g5] := by
        cases slo
        simp only at sl
        rw [sl]
      subst es
      exact ⟨more, _, _, _, _, _, _, _, _, _, o1, g0, g1, g2, g3, g5, _, In _ _ at1, .of_isNs (PySem.W.isNs_of_in In okn), PySem.W.nsMap_none_of_in In okn noinit, PySem.W.tail_of_in In tl⟩
section
variable {P : Program} {w : World} {K : PySem.W.Frag} {mg : Str → Option Value} {base : Heap}
theorem Fun.okN {x qual : Str} {st : Stmt} {f : Addr} {fd : FuncData} {N ps : List Str} {k : Nat} {sp : Sp} (F : Fun K x qual st f fd) (S : FnScope N ps (defScope st)) (len : ∀ vs H Q E, sp vs H Q E → vs.length = ps.length)
    (hbody : ∀ (cdv : Value) (A : Around) (outer : List Env) (s : Shared) (H : Hp) (vs : List V) (Q : VK) (E : XK), Room k (A.deeper (envOfC qual (defScope st) s.heap.objs.size f cdv)) → sp vs H Q E →
      ∃ t, PSs (cxE P w K mg base N qual (defScope st) f cdv A outer s H E).nox (defBody st) t ∧ t { nx := fun _ H' => Q .non H', rt := Q } (start N vs) H) : FnOk P w K mg base (CXE P w) (k + 1) f fd ps sp := by
  obtain ⟨oc, od, kV, doc, pm, an, cdv, ct, osl, rfl, lk, hcd⟩ := F.ex
  refine fn_of lk hcd S len fun A outer s H vs Q E hr hsp => ?_
  obtain ⟨t, h, q⟩ := hbody cdv A outer s H vs Q E hr hsp
  exact ⟨t, h.nox, q⟩
theorem Fun.okX {x qual : Str} {st : Stmt} {f : Addr} {fd : FuncData} {N ps : List Str} {k : Nat} {sp : Sp} (F : Fun K x qual st f fd) (S : FnScope N ps (defScope st)) (len : ∀ vs H Q E, sp vs H Q E → vs.length = ps.length)
    (hbody : ∀ (cdv : Value) (A : Around) (outer : List Env) (s : Shared) (H : Hp) (vs : List V) (Q : VK) (E : XK), Room k (A.deeper (envOfC qual (defScope st) s.heap.objs.size f cdv)) → sp vs H Q E →
      ∃ t, PSs (cxE P w K mg base N qual (defScope st) f cdv A outer s H E) (defBody st) t ∧ t { nx := fun _ H' => Q .non H', rt := Q } (start N vs) H) : FnOk P w K mg base (CXE P w) (k + 1) f fd ps sp := by
  obtain ⟨oc, od, kV, doc, pm, an, cdv, ct, osl, rfl, lk, hcd⟩ := F.ex
  exact fn_of lk hcd S len fun A outer s H vs Q E hr hsp => hbody cdv A outer s H vs Q E hr hsp
theorem passE0 {X : Cx} : Passes (CXE P w) X E0 := fun _ _ _ _ _ _ _ ⟨_, _, _, _, _, _, _, q⟩ => q.elim
def Kn (P : Program) (w : World) (K : PySem.W.Frag) (mg : Str → Option Value) (base : Heap) (k : Nat) (x : Str) (ps : List Str) (sp : Sp) : Prop :=
  ∃ f fd, FnOk P w K mg base (CXE P w) k f fd ps sp ∧ Binds K fd ps [] ∧ PySem.W.keepIn K (.ref f) = true ∧ mg x = some (.ref f)
theorem pe_fn {X : Cx} {k : Nat} {x : Str} {ps : List Str} {sp : Sp} {e : Expr} {es : List Expr} {t : TA} {p pos : Pos} (F : Kn X.prog X.w X.K X.mg X.base k x ps sp) (hr : Room k X.A) (ha : PA X (e :: es) t)
    (hg : Gl X x := by rfl) (hdb : (x == ("__debug__" : Str)) = false := by decide) (he : starEach (e :: es) X.env = (false, eval e X.env) :: starEach es X.env := by rfl) (hpl : (backTo pos (starEach es X.env)).any (·.1) = false := by rfl) :
    PE X (.Call (.Name x p) (e :: es) [] pos) (tCall sp [] E0 t) := by
  obtain ⟨f, fd, G, b, kp, m⟩ := F
  exact pe_call G hr hg m kp b .nil passE0 ha hdb he hpl
theorem pe_fnX {N : List Str} {qual : Str} {scope : Scope} {f : Addr} {cd : Value} {A : Around} {outer : List Env} {s : Shared} {H : Hp} {E : XK} {k : Nat} {x : Str} {ps : List Str} {sp : Sp} {e : Expr} {es : List Expr} {t : TA} {p pos : Pos}
    (F : Kn P w K mg base k x ps sp) (hr : Room k (A.deeper (envOfC qual scope s.heap.objs.size f cd))) (ha : PA (cxE P w K mg base N qual scope f cd A outer s H E) (e :: es) t)
    (hg : Gl (cxE P w K mg base N qual scope f cd A outer s H E) x := by rfl) (hdb : (x == ("__debug__" : Str)) = false := by decide)
    (he : starEach (e :: es) (envOfC qual scope s.heap.objs.size f cd) = (false, eval e (envOfC qual scope s.heap.objs.size f cd)) :: starEach es (envOfC qual scope s.heap.objs.size f cd) := by rfl)
    (hpl : (backTo pos (starEach es (envOfC qual scope s.heap.objs.size f cd))).any (·.1) = false := by rfl) :
    PE (cxE P w K mg base N qual scope f cd A outer s H E) (.Call (.Name x p) (e :: es) [] pos) (tCall sp [] E t) := by
  obtain ⟨f', fd, G, b, kp, m⟩ := F
  exact pe_call G hr hg m kp b .nil pass_up ha hdb he hpl
theorem ps_raise {N : List Str} {qual : Str} {scope : Scope} {f : Addr} {cd : Value} {A : Around} {outer : List Env} {s : Shared} {H : Hp} {E : XK} {x : Str} {C : Addr} {e : Expr} {es : List Expr} {t : TA} {np cpos pos : Pos}
    (Z : XCls K mg x C) (ha : PA (cxE P w K mg base N qual scope f cd A outer s H E) (e :: es) t)
    (hg : Gl (cxE P w K mg base N qual scope f cd A outer s H E) x := by rfl) (hdb : (x == ("__debug__" : Str)) = false := by decide)
    (he : starEach (e :: es) (envOfC qual scope s.heap.objs.size f cd) = (false, eval e (envOfC qual scope s.heap.objs.size f cd)) :: starEach es (envOfC qual scope s.heap.objs.size f cd) := by rfl)
    (hpl : (backTo cpos (starEach es (envOfC qual scope s.heap.objs.size f cd))).any (·.1) = false := by rfl) :
    PS (cxE P w K mg base N qual scope f cd A outer s H E) (.Raise (some (.Call (.Name x np) (e :: es) [] cpos)) none pos) (fun _ σ H1 => t σ H1 fun vs H2 => vs.length ≤ sizeLine ∧ E (.ref C) none H2) := by
  intro pins s1 σ H1 D I h
  obtain ⟨z1, z2, z3, z4, z5, z6, z7, z8, z9, y0, y1, y2, y3, y4, y5, y6, mN, hC, hN, hni, T⟩ := (Z.own I.ok.mod.kin).obj
  refine wpAny_Raise_call_subT (C := C) (bm := z1) (N := z2) (nm := z3) (q := z4) (bs := z5) (hdct := z6) (sn := z7) (sub := z8) (ab := z9) (col := y0) (dd := y1) (k0 := y2) (k1 := y3) (k2 := y4) (k3 := y5) (k5 := y6) PySem.F.excBase_ValueError (mN := mN) (T.hasType (PySem.F.excBase_ValueError).hasBase) (I.ok.hd rfl) ?_ hni (ld_glob I hg Z.nm ⟨rfl, ?_⟩ hdb)
  · show (backTo cpos (starEach (e :: es) (envOfC qual scope s.heap.objs.size f cd))).any (·.1) = false
    rw [he]
    show (false || (backTo cpos (starEach es (envOfC qual scope s.heap.objs.size f cd))).any (·.1)) = false
    rw [hpl]
    rfl
  · have hA := ha cpos pins s1 σ H1 _ I h
    show wpAny _ _ (evalArgs (.ref C) true (backTo cpos (starEach (e :: es) (envOfC qual scope s.heap.objs.size f cd))) []) _ _ _
    have hA' : wpAny (model P w) (A.deeper (envOfC qual scope s.heap.objs.size f cd)) (spliced (backTo cpos (starEach (e :: es) (envOfC qual scope s.heap.objs.size f cd)))) _ _ s1 := hA
    rw [he] at hA' ⊢
    refine Calls.evalArgs_plain (wpAny_mono hA' (fun us s2 ⟨vs, H2, I2, r2, hl, q⟩ => ⟨rfl, ?_, I2.bk _ _ hC, hN.keeps I2.bk, T.keeps I2.bk, fun h' ea hx => raise_up I2 hx q⟩) fun _ _ z => z)
    show us.length ≤ sizeLine
    rw [← r2.length]; exact hl
end
end L2
set_option maxHeartbeats 4000000
namespace L2
open PySem PySem.Spec PyProof.Rows
abbrev Cx.hdl (X : Cx) (e : Value) : Cx := { X with A := X.A.mark (some e), calm := false, xe := fun _ _ => False }
section
variable {X : Cx} {pins : List (Addr × Obj)} {σ : St} {H : Hp} {s : Shared} {e : Value}
theorem Cx.Ok.hdl (ok : X.Ok) (e : Value) : (X.hdl e).Ok :=
  ⟨ok.mod, ok.kind, ok.glob, ok.blt, ok.above, ok.inj, ok.has, ok.cab, fun h => Bool.noConfusion h, ok.frames, ok.stk, ok.exf, ok.bs, ok.bsz, ok.noex, ok.exfs, ok.funs, ok.frf⟩
theorem Inv.hdl (I : Inv X pins σ H s) (e : Value) : Inv (X.hdl e) pins σ H s := ⟨I.ok.hdl e, I.os, I.bare, I.base, I.loc, I.cell, I.free, I.freeC, I.pin, I.hok, I.len⟩
theorem Inv.unhdl (I : Inv (X.hdl e) pins σ H s) (ok : X.Ok) : Inv X pins σ H s := ⟨ok, I.os, I.bare, I.base, I.loc, I.cell, I.free, I.freeC, I.pin, I.hok, I.len⟩
theorem SP.unhdl {D : Ends} {f : Flow} {s' : Shared} (h : SP (X.hdl e) pins D f s') (ok : X.Ok) : SP X pins D f s' := by
  cases f with
  | next => obtain ⟨σ', H', I, q⟩ := h; exact ⟨σ', H', I.unhdl ok, q⟩
  | brk => obtain ⟨σ', H', I, q⟩ := h; exact ⟨σ', H', I.unhdl ok, q⟩
  | cont => obtain ⟨σ', H', I, q⟩ := h; exact ⟨σ', H', I.unhdl ok, q⟩
  | ret u => obtain ⟨v, σ', H', I, r, q⟩ := h; exact ⟨v, σ', H', I.unhdl ok, r, q⟩
end
end L2
set_option maxHeartbeats 4000000
namespace Eb
def cnt (l : List Bool) : Int := ((l.filter id).length : Int)
theorem cnt_append (l r : List Bool) : cnt (l ++ r) = cnt l + cnt r := by simp [cnt]
theorem cnt_cons (x : Bool) (l : List Bool) : cnt (x :: l) = (if x then 1 else 0) + cnt l := by
  cases x <;> simp [cnt] <;> omega
theorem cnt_nonneg (l : List Bool) : 0 ≤ cnt l := Int.natCast_nonneg _
theorem cnt_le (l : List Bool) : cnt l ≤ l.length := by
  have := List.length_filter_le id l
  unfold cnt; omega
end Eb
set_option maxHeartbeats 4000000
namespace Eb
open PySem L2
def sg (b : Bool) : Nat := if b then 120 else 46
def rowS (l : List Bool) : Str := ⟨(l.map sg).toArray⟩
def signS (b : Bool) : Str := if b then "x" else "."
theorem x_eq : ("x" : Str) = ⟨#[120]⟩ := by decide +kernel
theorem dot_eq : ("." : Str) = ⟨#[46]⟩ := by decide +kernel
theorem empty_eq : ("" : Str) = ⟨#[]⟩ := by decide +kernel
theorem signS_eq (b : Bool) : signS b = ⟨#[sg b]⟩ := by
  cases b
  · exact dot_eq
  · exact x_eq
theorem rowS_nil : rowS [] = "" := by decide +kernel
theorem rowS_length (l : List Bool) : (rowS l).length = l.length := by show (l.map sg).toArray.size = _; simp
theorem rowS_size (l : List Bool) : (rowS l).cps.size = l.length := by show (l.map sg).toArray.size = _; simp
theorem rowS_ascii (l : List Bool) : (rowS l).cps.all (· < 128) = true := by
  show (l.map sg).toArray.all _ = true
  simp only [List.all_toArray, List.all_map, List.all_eq_true]
  intro b _
  cases b <;> decide
theorem rowS_append (l r : List Bool) : rowS l ++ rowS r = rowS (l ++ r) := by
  show Str.mk ((l.map sg).toArray ++ (r.map sg).toArray) = _
  simp [rowS]
theorem rowS_get (l : List Bool) (i c : Nat) (h : (rowS l).cps[i]? = some c) : ∃ b, l[i]? = some b ∧ c = sg b := by
  have h' : (l.map sg)[i]? = some c := by
    have : ((l.map sg).toArray)[i]? = some c := h
    simpa using this
  rw [List.getElem?_map] at h'
  cases e : l[i]? with
  | none => rw [e] at h'; cases h'
  | some b => rw [e] at h'; cases h'; exact ⟨b, rfl, rfl⟩
theorem sign_sg (b : Bool) : (⟨#[sg b]⟩ : Str) = signS b := (signS_eq b).symm
theorem glue_foldl (glue : Str) (hg : glue.cps = #[]) : ∀ (l : List Bool) (acc : Array Nat), (l.map signS).foldl (fun acc p => acc ++ glue.cps ++ p.cps) acc = acc ++ (l.map sg).toArray
  | [], acc => by simp
  | b :: l, acc => by
    rw [List.map_cons, List.foldl_cons, glue_foldl glue hg l, hg, signS_eq]
    simp
theorem join_rows (l : List Bool) : Txt.join "" (l.map signS) = rowS l := by
  have hg : ("" : Str).cps = #[] := by rw [empty_eq]
  cases l with
  | nil => show Builtin.Str.glued "" [] = _; decide +kernel
  | cons b l =>
    show Str.mk (((l.map signS)).foldl (fun acc p => acc ++ ("" : Str).cps ++ p.cps) (signS b).cps) = rowS (b :: l)
    rw [glue_foldl _ hg, signS_eq]
    simp [rowS]
theorem joinOk_rows (l : List Bool) (h : l.length ≤ 1000000) : JoinOk "" (l.map signS) = true := by
  refine PyProof.Rows.joinOk_of ?_
  have e0 : ("" : Str).length = 0 := by decide +kernel
  have e : ∀ r : List Bool, ((r.map signS).map (·.length)).sum = r.length := by
    intro r
    induction r with
    | nil => rfl
    | cons b r ih =>
      rw [List.map_cons, List.map_cons, List.sum_cons, ih, signS_eq]
      show 1 + r.length = r.length + 1
      omega
  rw [e, e0]
  omega
theorem count_rows (l : List Bool) : Txt.count (rowS l) "x" = cnt l := by
  rw [x_eq, PyProof.Rows.count_cnt]
  show PyProof.Rows.cnt 120 ((l.map sg).toArray.toList) = _
  rw [List.toList_toArray]
  induction l with
  | nil => rfl
  | cons b l ih =>
    rw [List.map_cons, PyProof.Rows.cnt_cons, cnt_cons, ih]
    cases b <;> rfl
theorem sizeOk {n : Nat} (h : n ≤ 1000000) : n ≤ sizeLine := by rw [sizeLine_eq]; omega
theorem sizeLt {n : Nat} (h : n ≤ 1000000) : n < sizeLine := by rw [sizeLine_eq]; omega
end Eb
set_option maxHeartbeats 4000000
namespace L2
open PySem PySem.Spec PyProof.Rows
section
variable {X : Cx}
end
end L2
set_option maxHeartbeats 4000000
namespace L2
open PySem PySem.Spec PyProof.Rows
section
variable {X : Cx} {tg : Expr}
end
theorem pe_fstr {X : Cx} {a : Str} {j : Nat} {p p2 pos : Pos} {e : Expr} {te : TE} (he : PE X e te) (hl : (Str.empty ++ a).length ≤ sizeLine := by decide +kernel) :
    PE X (.JoinedStr [.Constant (.str a) j p, .FormattedValue e (-1) none p2] pos) (fun σ H Q => te σ H fun v H1 => ∃ i : Int, v = .int i ∧ i.natAbs.log2 < 1920 ∧ (Str.empty ++ a ++ (toString i : Str)).length ≤ sizeLine ∧ Q (.str (Str.empty ++ a ++ (toString i : Str))) H1) := by
  intro pins s σ H Q I h
  refine JoinedStr_many (joinParts_cons (Calls.Constant_str ?_))
  have I0 : Inv X pins σ H { s with toks := s.toks + 1 } := I.tok _
  refine ⟨hl, joinParts_cons (FormattedValue_plain (thn (he pins _ σ H _ I0 h) fun v s1 ⟨x, H1, I1, r1, i, e1, hd, l2, q⟩ => ?_))⟩
  subst e1
  obtain ⟨t, rfl⟩ := r1
  exact formatField_int_small hd ⟨l2, joinParts_nil ⟨.str _, H1, I1.tok _, ⟨_, rfl⟩, q⟩ l2⟩
end L2
set_option maxHeartbeats 4000000
namespace L2
open PySem PySem.Spec PyProof.Rows
def Pv (te : TE) (σ : St) (H : Hp) (v : V) : Prop := ∀ Q : VK, Q v H → te σ H Q
def Pb (tt : TT) (σ : St) (H : Hp) (b : Bool) : Prop := ∀ Q : Bool → Hp → Prop, Q b H → tt σ H Q
def Pa (ta : TA) (σ : St) (H : Hp) (vs : List V) : Prop := ∀ Q : List V → Hp → Prop, Q vs H → ta σ H Q
section
variable {σ : St} {H : Hp} {ta tb tc te : TE} {t u : TT} {K : PySem.W.Frag}
theorem pv_var {i : Nat} {v : V} (h : σ[i]? = some (some v)) : Pv (tVar i) σ H v := fun _ q => ⟨v, h, q⟩
theorem pv_c {v : V} : Pv (tC v) σ H v := fun _ q => q
theorem pv_op {g : Int → Int → V} {i j : Int} (ha : Pv ta σ H (.int i)) (hb : Pv tb σ H (.int j)) : Pv (tOp (rI0 g) ta tb) σ H (g i j) := fun Q q => ha _ (hb _ ⟨i, j, rfl, rfl, q⟩)
theorem pv_opC {C : Int → Int → Prop} {g : Int → Int → V} {i j : Int} (ha : Pv ta σ H (.int i)) (hb : Pv tb σ H (.int j)) (hc : C i j) : Pv (tOp (rI C g) ta tb) σ H (g i j) := fun Q q => ha _ (hb _ ⟨i, j, rfl, rfl, hc, q⟩)
theorem pv_eq {x y : V} (ha : Pv ta σ H x) (hb : Pv tb σ H y) (hs : scal x y = true) : Pv (tOp rEq ta tb) σ H (.bl (decide (x = y))) := fun Q q => ha _ (hb _ ⟨hs, q⟩)
theorem pv_strcat {x y : Str} (ha : Pv ta σ H (.str x)) (hb : Pv tb σ H (.str y)) (hl : x.length + y.length ≤ sizeLine) :
    Pv (tOp (fun x y H Q => ∃ i j, x = .str i ∧ y = .str j ∧ i.length + j.length ≤ sizeLine ∧ Q (.str (i ++ j)) H) ta tb) σ H (.str (x ++ y)) := fun Q q => ha _ (hb _ ⟨x, y, rfl, rfl, hl, q⟩)
theorem pv_chain {f g : Int → Int → Bool} {a b c : Int} (ha : Pv ta σ H (.int a)) (hb : Pv tb σ H (.int b)) (hc : Pv tc σ H (.int c)) :
    Pv (tChain (rI0 fun i j => .bl (f i j)) (rI0 fun i j => .bl (g i j)) ta tb tc) σ H (.bl (f a b && g b c)) := fun Q q => ha _ (hb _ ⟨a, b, rfl, rfl, f a b, rfl, by
  cases e : f a b with
  | true => rw [e] at q; exact iteT (hc _ ⟨b, c, rfl, rfl, q⟩)
  | false => rw [e] at q; exact iteF q⟩)
theorem pv_and {p q : Bool} (ha : Pv ta σ H (.bl p)) (hb : p = true → Pv tb σ H (.bl q)) : Pv (tAndV ta tb) σ H (.bl (p && q)) := fun Q k => ha _ ⟨p, rfl, by
  cases p with
  | true => exact iteT (hb rfl _ k)
  | false => exact iteF k⟩
theorem pv_not {p : Bool} (ha : Pv ta σ H (.bl p)) : Pv (tNotV ta) σ H (.bl (!p)) := fun Q k => ha _ ⟨p, rfl, k⟩
theorem pv_if {b : Bool} {v : V} (ht : Pb t σ H b) (ha : b = true → Pv ta σ H v) (hb : b = false → Pv tb σ H v) : Pv (tIf t ta tb) σ H v := fun Q k => ht _ (by
  cases b with
  | true => exact iteT (ha rfl _ k)
  | false => exact iteF (hb rfl _ k))
theorem pv_neg {i : Int} (ha : Pv ta σ H (.int i)) : Pv (tUn (rU fun i => .int (-i)) ta) σ H (.int (-i)) := fun Q k => ha _ ⟨i, rfl, k⟩
theorem pa_0 : Pa tNil σ H [] := fun _ q => q
theorem pa_1 {t : TA} {v : V} {vs : List V} (ha : Pv ta σ H v) (ht : Pa t σ H vs) : Pa (tCons ta t) σ H (v :: vs) := fun Q q => ha _ (ht _ q)
theorem pv_len {z : Str} (ha : Pv ta σ H (.str z)) (hz : z.length ≤ sizeLine) : Pv (tCB (fun xs H Q => ∃ z, xs = [.str z] ∧ z.length ≤ sizeLine ∧ Q (.int z.length) H) (tCons ta tNil)) σ H (.int z.length) := fun Q q => ha _ ⟨z, rfl, hz, q⟩
theorem pv_count {z y : Str} (ha : Pv ta σ H (.str z)) (hb : Pv tb σ H (.str y)) : Pv (tBM K "str" rCount ta (tCons tb tNil)) σ H (.int (Txt.count z y)) := fun Q q => ha _ ⟨rfl, hb _ ⟨z, y, rfl, rfl, q⟩⟩
theorem pv_ixL {p : Addr} {xs : List V} {i : Int} {v : V} (ha : Pv ta σ H (.ref p)) (hb : Pv tb σ H (.int i)) (hs : SqL K H p xs) (h : atI xs i = some v) : Pv (tOp (rIxL K) ta tb) σ H v := fun Q q => ha _ (hb _ ⟨p, xs, i, v, rfl, rfl, hs, h, q⟩)
theorem pv_ixS {z : Str} {i : Int} {c : Nat} (ha : Pv ta σ H (.str z)) (hb : Pv tb σ H (.int i)) (hz : z.length ≤ sizeLine) (h : atI z.cps.toList i = some c) : Pv (tOp rIxS ta tb) σ H (.str ⟨#[c]⟩) := fun Q q => ha _ (hb _ ⟨z, i, c, rfl, rfl, hz, h, q⟩)
theorem pv_isi {x : V} {T : String} {ty : Value} {b : Bool} (ha : Pv ta σ H x) (h : TyOf K H x ty) (e : PySem.W.kitOne K ty (.type T) = some b) :
    Pv (tCB (fun xs H Q => ∃ x T t b, xs = [x, .ty T] ∧ TyOf K H x t ∧ PySem.W.kitOne K t (.type T) = some b ∧ Q (.bl b) H) (tCons ta (tCons (tC (.ty T)) tNil))) σ H (.bl b) := fun Q q => ha _ ⟨x, T, ty, b, rfl, h, e, q⟩
theorem pv_call {sp : Sp} {t : TA} {vs : List V} {v : V} (ha : Pa t σ H vs) (h : ∀ Q : VK, Q v H → sp (vs ++ []) H Q E0) : Pv (tCall sp [] E0 t) σ H v := fun Q q => ha _ (h Q q)
theorem pb_val {b : Bool} (h : Pv te σ H (.bl b)) : Pb (tB te) σ H b := fun Q q => h _ ⟨b, rfl, q⟩
theorem pb_test {b : Bool} (h : Pv te σ H (.bl b)) : Pb (tTest te) σ H b := fun Q q => h _ ⟨b, rfl, q⟩
theorem pb_not {b : Bool} (h : Pb t σ H b) : Pb (tNot t) σ H (!b) := fun Q q => h _ q
theorem rd_if {t' u' : TS} {D : Ends} {b : Bool} (h : Pb t σ H b) (k1 : b = true → t' D σ H) (k2 : b = false → u' D σ H) : tIfS t t' u' D σ H := h _ (by
  cases b with
  | true => exact iteT (k1 rfl)
  | false => exact iteF (k2 rfl))
end
end L2
namespace L2
open PySem PySem.Spec PyProof.Rows
section
variable {σ : St} {H : Hp} {te tl : TE} {t : TT} {t' u' u : TS} {D : Ends} {K : PySem.W.Frag}
theorem rd_set {i : Nat} {v : V} (h : Pv te σ H v) (k : u D (σ.set i (some v)) H) : tSeq (tAsg te (gName i)) u D σ H := h _ k
theorem rd_setK {i : Nat} (k : te σ H fun v H1 => u D (σ.set i (some v)) H1) : tSeq (tAsg te (gName i)) u D σ H := k
theorem rd_ifn {b : Bool} (h : Pb t σ H b) (k1 : b = true → t' { D with nx := u D } σ H) (k2 : b = false → u D σ H) : tSeq (tIfS t t' tNext) u D σ H := rd_if (D := { D with nx := u D }) (u' := tNext) h k1 k2
theorem rd_ret {v : V} (h : Pv te σ H v) (k : D.rt v H) : tRet te D σ H := h _ k
theorem rd_retK (k : te σ H D.rt) : tRet te D σ H := k
theorem rd_expr {v : V} (h : Pv te σ H v) (k : u D σ H) : tSeq (tDrop te) u D σ H := h _ k
theorem rd_exprK (k : te σ H fun _ H1 => u D σ H1) : tSeq (tDrop te) u D σ H := k
theorem rd_seq (k : t' { D with nx := u D } σ H) : tSeq t' u D σ H := k
theorem rd_if1 {b : Bool} (h : Pb t σ H b) (k1 : b = true → t' D σ H) (k2 : b = false → D.nx σ H) : tIfS t t' tNext D σ H := rd_if (u' := tNext) h k1 k2
theorem rd_if1K (k : t σ H fun b H1 => if b = true then t' D σ H1 else D.nx σ H1) : tIfS t t' tNext D σ H := k
end
section
variable {a b c m : Str} {u v w : V}
end
end L2
set_option maxHeartbeats 4000000
namespace Eb
open PySem L2
def sp_is_number : Sp := fun vs H Q _ => ∃ i : Int, vs = [.int i] ∧ Q (.bl true) H
def sp_is_between : Sp := fun vs H Q _ => ∃ v l m : Int, vs = [.int v, .int l, .int m] ∧ Q (.bl (decide (l ≤ v ∧ v ≤ m))) H
def sp_check_number : Sp := fun vs H Q _ => ∃ i : Int, vs = [.int i] ∧ Q .non H
theorem kit_int_int {K : PySem.W.Frag} : PySem.W.kitOne K (.type "int") (.type "int") = some true := by rfl
theorem kit_str_str {K : PySem.W.Frag} : PySem.W.kitOne K (.type "str") (.type "str") = some true := by rfl
theorem kit_int_bool {K : PySem.W.Frag} : PySem.W.kitOne K (.type "int") (.type "bool") = some false := by rfl
end Eb
set_option maxHeartbeats 4000000
namespace Eb
open PySem L2
theorem count_dots (l : List Bool) : Txt.count (rowS l) "." = (l.length : Int) - cnt l := by
  rw [dot_eq, PyProof.Rows.count_cnt]
  show PyProof.Rows.cnt 46 ((l.map sg).toArray.toList) = _
  rw [List.toList_toArray]
  induction l with
  | nil => rfl
  | cons b l ih =>
    rw [List.map_cons, PyProof.Rows.cnt_cons, cnt_cons, ih, List.length_cons]
    cases b
    · rw [if_pos (show sg false = 46 from rfl)]; simp; omega
    · rw [if_neg (show ¬ sg true = 46 by decide)]; simp; omega
def sp_is_row : Sp := fun vs H Q _ => ∃ l : List Bool, vs = [.str (rowS l)] ∧ l.length ≤ 100000 ∧ Q (.bl true) H
def sp_is_ring : Sp := fun vs H Q _ => ∃ l : List Bool, vs = [.str (rowS l)] ∧ l.length ≤ 100000 ∧ Q (.bl (decide (1 ≤ l.length))) H
def spx_check_at_least (CB : Addr) : Sp := fun vs H Q E => ∃ i l : Int, vs = [.int i, .int l] ∧ (l = 0 ∨ l = 1) ∧ (l ≤ i → Q .non H) ∧ (¬ l ≤ i → E (.ref CB) none H)
def spx_check_beats (CB : Addr) : Sp := fun vs H Q E => ∃ b p : Int, vs = [.int b, .int p] ∧ ((1 ≤ p ∧ 0 ≤ b ∧ b ≤ p) → Q .non H) ∧ (¬ (1 ≤ p ∧ 0 ≤ b ∧ b ≤ p) → E (.ref CB) none H)
end Eb
set_option maxHeartbeats 4000000
namespace L2
open PySem PySem.W PySem.Calls PyProof.Rows
theorem weight_mem {ns : List Int} {n : Int} (h : n ∈ ns) : Builtin.Int.intBits n ≤ WData.weightAll (ns.map WData.int) := by
  induction ns with
  | nil => cases h
  | cons x r ih =>
    rw [List.map_cons, WData.weightAll]
    rcases List.mem_cons.mp h with rfl | h'
    · have : WData.weight (.int n) = Builtin.Int.intBits n := by rw [WData.weight]; rfl
      omega
    · have := ih h'
      omega
theorem bits_of_lay {ns : List Int} (h : WData.layableAll [WData.list (ns.map WData.int)] = true) : ∀ n ∈ ns, Builtin.Int.intBits n ≤ 2 ^ 20 := fun n hn => by
  have h1 := (layW_cons h).1
  have h2 := (layableW_iff.mp h1).2.2
  rw [WData.weight] at h2
  exact Nat.le_trans (weight_mem hn) h2
theorem attach_callB {l : OpenLaw} {n : Nat} {q : Program} {loose : List Str} {XP : (Str → Option Value) → Heap → Prop} {YP : World → Heap → Prop} {d : DefRec}
    (hn : l.most = some n) (hdf : d.params.defaults = [])
    (call : ∀ (w : World) (s₀ s₁ : Shared) (mg mb : Str → Option Value) (fa : Addr) (o : Obj) (pm cd doc : Value) (a : Addr) (vs : List Value) (ns : List Int),
      Ground q loose [] XP w s₀ mg mb s₁.heap → YP w s₁.heap →
      s₁.heap.get? fa = some o → o.data = .func (docDef d.name d.params d.body d.scope pm cd doc) → s₁.heap.CodeRec cd d.name → mg d.name = some (.ref fa) →
      s₁.heap.get? a = some { cls := .type "list", data := .seq vs.toArray } → IntsAre vs ns → ns.length ≤ n → (∀ x ∈ ns, Builtin.Int.intBits x ≤ 2 ^ 20) → s₁.gens = #[] →
      codeAny (model l.prog w) callerA (.call (.ref fa) ⟨[.ref a], []⟩) (fun r s' => r = .ok (.ret (.bool true)) ∧ OldK s₁.heap s'.heap ∧ s'.os = s₁.os ∧ AllBare s'.gens) s₁) :
    WalkO q loose XP YP l.row.toRowW d [] (fun f vs => PySem.call f vs) := by
  intro w s₀ s₁ mg mb G Y fa o pm cd doc dV kV ho hd hcd hD hmg hg args vals as hpre hlay hrd hwl hlo
  obtain rfl : dV = .none := Dflts.none hD hdf
  obtain rfl : kV = .none := Dflts.noKw hD
  obtain ⟨a, vs, ns, rfl, rfl, hobj, hints, hlen⟩ := Att.script_of hn hpre hwl
  refine enter_call (codeAny_mono (call w s₀ s₁ mg mb fa o pm cd doc a vs ns G Y ho (fd_plain hd) hcd hmg hobj hints hlen (bits_of_lay hlay) hg) fun r s' hq => ?_)
  obtain ⟨rfl, h2, h3, h4⟩ := hq
  exact ⟨.inl ⟨.bool true, .bool true, [], rfl, fun _ => rfl, .bool true, Att.post_true l _, fun _ => ⟨List.Pairwise.nil, fun _ hm => (nomatch hm)⟩⟩, h2, h3, h4⟩
theorem walk_ofB {l : PySem.W.OpenLaw} {n k : Nat} {q : Program} {loose : List Str} {XP : (Str → Option Value) → Heap → Prop} {YP : World → Heap → Prop} {d : DefRec} {K : Params → PySem.W.Frag} {CX : World → CXT} {sp : World → Sp} {x : Str}
    (hn : l.most = some n) (hn2 : n ≤ sizeLine) (hdf : d.params.defaults = []) (hr : Room k callerA)
    (hY : ∀ (w : World) (h : Heap), YP w h → (K w.params).In h)
    (F : ∀ (w : World) (mg : Str → Option Value) (fa : Addr) (h : Heap), (K w.params).In h → h.Ns mainGlobals mg → mg d.name = some (.ref fa) →
      ∃ fd : FuncData, (∀ (s : Shared) (u : Value), BindsTo s fd ⟨[u], []⟩ [(x, u)]) ∧
        ∀ base : Heap, (K w.params).In base → base.Ns mainGlobals mg → FnOk l.prog w (K w.params) mg base (CX w) k fa fd [x] (sp w))
    (hsp : ∀ (w : World) (H : Hp) (a : Addr) (ns : List Int), ns.length ≤ n → (∀ x ∈ ns, Builtin.Int.intBits x ≤ 2 ^ 20) → Only H → SqL (K w.params) H a (ns.map V.int) → sp w [.ref a] H (fun v _ => v = .bl true) fun _ _ _ => False)
    (hCX : ∀ (w : World) (H : Hp) (s : Shared) (e : Value) (s' : Shared), CX w [] H s (fun _ _ _ => False) e s' → False) :
    PySem.W.WalkO q loose XP YP l.row.toRowW d [] (fun f vs => PySem.call f vs) := by
  refine attach_callB hn hdf fun w s₀ s₁ mg mb fa o pm cd doc a vs ns G Y ho hd hcd hmg hobj hints hlen hbits hg => ?_
  have KX := hY w _ Y
  obtain ⟨fd, hb, hF⟩ := F w mg fa _ KX G.T.g hmg
  exact law_call KX G.T.g G.T.b G.T.builtins G.T.nolimit hg hobj hints (Nat.le_trans hlen hn2) hr hF hb (fun H hO hS => hsp w H a ns hlen hbits hO hS) fun H e s' => hCX w H s₁ e s'
end L2
set_option maxHeartbeats 4000000
namespace L2
open PySem
structure At (K : PySem.W.Frag) (x : Str) (st : Stmt) (f : Addr) (fd : FuncData) : Prop where
  nm : PySem.W.nsIn K mainGlobals x = some (some (.ref f))
  fn : Fun K x x st f fd
theorem at_mk {K : PySem.W.Frag} {x : Str} {st : Stmt} {f : Addr} {oc : Value} {od an : Option Addr} {osl : Array (Option Value)} {kV doc pm cdv ct : Value} (a : PySem.W.nsIn K mainGlobals x = some (some (.ref f)))
    (l : K.lookup f = some ⟨oc, od, .func (PySem.W.fnOf x x (defArgs st) (defBody st) (defScope st) .none kV doc pm an cdv ct), osl⟩)
    (c : PySem.W.codeIn K cdv x = true) (k : PySem.W.keepIn K (.ref f) = true) : At K x st f (PySem.W.fnOf x x (defArgs st) (defBody st) (defScope st) .none kV doc pm an cdv ct) := ⟨a, fun_mk l c k⟩
def BindsAll (x qual : Str) (st : Stmt) (ps : List Str) : Prop := ∀ (kV doc pm : Value) (an : Option Addr) (cdv ct : Value) (us : List Value), us.length = ps.length → bindArgs (PySem.W.fnOf x qual (defArgs st) (defBody st) (defScope st) .none kV doc pm an cdv ct) ⟨us, []⟩ = pure (ps.zip us)
theorem At.kn {P : Program} {w : World} {K : PySem.W.Frag} {h : Heap} {mg : Str → Option Value} {base : Heap} {k : Nat} {x : Str} {ps : List Str} {sp : Sp} {st : Stmt} {f : Addr} {fd : FuncData} (A : At K x st f fd) (X : K.In h) (G : h.Ns mainGlobals mg)
    (F : FnOk P w K mg base (CXE P w) k f fd ps sp) (hb : BindsAll x x st ps) : Kn P w K mg base k x ps sp := ⟨f, fd, F, A.fn.binds hb, A.fn.kp, PySem.W.mg_of X G A.nm⟩
theorem xcls_mk {K : PySem.W.Frag} {h : Heap} {mg : Str → Option Value} {x : Str} {C : Addr} (X : K.In h) (G : h.Ns mainGlobals mg) (nm : PySem.W.nsIn K mainGlobals x = some (some (.ref C))) (cl : PySem.W.excIn K C veMro "ValueError.__new__" = true) : XCls K mg x C := ⟨PySem.W.mg_of X G nm, cl⟩
end L2
set_option maxHeartbeats 4000000
namespace Eb
section
variable {l : List Bool}
end
end Eb
set_option maxHeartbeats 4000000
namespace Eb
section
variable {l : List Bool}
end
end Eb
set_option maxHeartbeats 4000000
namespace Eb
end Eb
set_option maxHeartbeats 4000000
namespace Eb
theorem exists_best {α : Type} (R : α → α → Prop) (p : α → Prop) (tot : ∀ a b, p a → p b → R a b ∨ R b a) (tr : ∀ a b c, p a → p b → p c → R a b → R b c → R a c) : ∀ (L : List α), (∀ a ∈ L, p a) → L ≠ [] → ∃ a, a ∈ L ∧ ∀ b, b ∈ L → R b a
  | [], _, h => absurd rfl h
  | [x], hp, _ => ⟨x, by simp, fun b hb => by
      have : b = x := by simpa using hb
      subst this
      exact (tot b b (hp b (by simp)) (hp b (by simp))).elim id id⟩
  | x :: y :: r, hp, _ => by
    obtain ⟨a, ha, h⟩ := exists_best R p tot tr (y :: r) (fun z hz => hp z (List.mem_cons_of_mem _ hz)) (by simp)
    have pa := hp a (List.mem_cons_of_mem _ ha)
    have px := hp x (by simp)
    rcases tot x a px pa with c | c
    · refine ⟨a, List.mem_cons_of_mem _ ha, fun b hb => ?_⟩
      rcases List.mem_cons.mp hb with e | hb'
      · subst e; exact c
      · exact h b hb'
    · refine ⟨x, by simp, fun b hb => ?_⟩
      rcases List.mem_cons.mp hb with e | hb'
      · subst e; exact (tot b b px px).elim id id
      · exact tr b a x (hp b hb) pa px (h b hb') c
end Eb
set_option maxHeartbeats 4000000
namespace Eb
def blocks : List Nat → List Bool
  | [] => []
  | g :: r => true :: (List.replicate (g - 1) false ++ blocks r)
def gp : Nat → List Bool → List Nat
  | c, [] => [c]
  | c, true :: t => c :: gp 1 t
  | c, false :: t => gp (c + 1) t
theorem gp_blocks : ∀ (t : List Bool) (c : Nat), blocks (gp (c + 1) t) = true :: (List.replicate c false ++ t)
  | [], c => by simp [gp, blocks]
  | true :: t, c => by
    have := gp_blocks t 0
    simp only [gp, blocks, Nat.zero_add] at this ⊢
    rw [this]; simp
  | false :: t, c => by
    rw [gp, gp_blocks t (c + 1)]
    simp [List.replicate_succ', List.append_assoc]
theorem cnt_replicate (k : Nat) : cnt (List.replicate k false) = 0 := by
  induction k with
  | zero => rfl
  | succ k ih => rw [List.replicate_succ, cnt_cons, ih]; rfl
theorem cnt_blocks : ∀ g : List Nat, cnt (blocks g) = g.length
  | [] => rfl
  | x :: r => by rw [blocks, cnt_cons, cnt_append, cnt_replicate, cnt_blocks r]; simp; omega
section
variable {g : List Nat}
def foldL (g : List Nat) (d : Nat) : List Bool := g.map fun x => decide (d < x)
end
def rot (l : List Bool) (k : Nat) : List Bool := l.drop k ++ l.take k
theorem cnt_rot (l : List Bool) (k : Nat) : cnt (rot l k) = cnt l := by
  rw [rot, cnt_append, Int.add_comm, ← cnt_append, List.take_append_drop]
theorem rot_get (l : List Bool) (k i : Nat) (hn : 1 ≤ l.length) (hk : k ≤ l.length) (hi : i < l.length) : (rot l k)[i]? = l[(i + k) % l.length]? := by
  unfold rot
  by_cases c : i < l.length - k
  · rw [List.getElem?_append_left (by simp; omega), List.getElem?_drop, Nat.mod_eq_of_lt (by omega), Nat.add_comm]
  · rw [List.getElem?_append_right (by simp; omega), List.length_drop, List.getElem?_take_of_lt (by omega), show i + k = i + k - l.length + l.length by omega, Nat.add_mod_right, Nat.mod_eq_of_lt (by omega)]
    congr 1; omega
end Eb
set_option maxHeartbeats 4000000
namespace L2
open PySem PySem.Spec PyProof.Rows
section
variable {X : Cx}
theorem pe_gref {x : Str} {C : Addr} {pos : Pos} (h : X.mg x = some (.ref C)) (hg : Gl X x := by rfl) (hd : (x == ("__debug__" : Str)) = false := by decide) : PE X (.Name x pos) (tC (.ref C)) := pe_glob hg h rfl hd
theorem op_mulS : OpR X (binaryOp .Mult) (fun x y H Q => ∃ z n, x = .str z ∧ y = .int n ∧ MulOk z n ∧ Q (.str (Txt.mul z n)) H) := by
  intro pins s σ H x y v u Q I rx ry h
  obtain ⟨z, n, rfl, rfl, hk, q⟩ := h
  obtain ⟨t, rfl⟩ := rx
  obtain ⟨t', rfl⟩ := ry
  exact SB.mul hk fun t2 k => ⟨.str _, H, I.tok _, ⟨_, rfl⟩, q⟩
end
section
variable {σ : St} {H : Hp} {ta tb tc te : TE} {K : PySem.W.Frag}
theorem pv_mulS {z : Str} {n : Int} (ha : Pv ta σ H (.str z)) (hb : Pv tb σ H (.int n)) (hk : MulOk z n) : Pv (tOp (fun x y H Q => ∃ z n, x = .str z ∧ y = .int n ∧ MulOk z n ∧ Q (.str (Txt.mul z n)) H) ta tb) σ H (.str (Txt.mul z n)) := fun Q q => ha _ (hb _ ⟨z, n, rfl, rfl, hk, q⟩)
end
end L2
namespace L2
open PySem PySem.Spec PyProof.Rows
section
variable {σ : St} {H : Hp} {ta tb tc te : TE} {K : PySem.W.Frag}
theorem ti_list {tl : TE} {R : It → Hp → Prop} (k : tl σ H fun x H1 => ∃ a, x = .ref a ∧ (∃ xs, SqL K H1 a xs) ∧ R (Itl K a) H1) : iList K tl σ H R := k
theorem te_lst {t : TA} {Q : VK} (k : t σ H fun xs H1 => xs.length ≤ sizeLine ∧ ∀ p, H1 p = none → Q (.ref p) (upd H1 p (.lst xs))) : tLst t σ H Q := k
end
end L2
namespace L2
open PySem PySem.Spec PyProof.Rows
end L2
set_option maxHeartbeats 4000000
namespace L2
open PySem
structure OwnC (K : PySem.W.Frag) (C : Addr) : Prop where
  cl : (PySem.W.clsIn K C).isSome = true
  ty : PySem.W.typeIn K (.ref C) = some (.type "type")
theorem own_mk {K : PySem.W.Frag} {C : Addr} {cd : ClassData} (c : PySem.W.clsIn K C = some cd) (ty : PySem.W.typeIn K (.ref C) = some (.type "type")) : OwnC K C := ⟨by rw [c]; rfl, ty⟩
theorem OwnC.cls {K : PySem.W.Frag} {t : Value} {D : Addr} {b : Bool} (O : OwnC K D) (s : PySem.W.subIn K t (.ref D) = some b) : PySem.W.kitCls K t (.ref D) = some b := by
  unfold PySem.W.kitCls
  dsimp only
  rw [if_pos (by rw [O.cl, O.ty]; rfl)]
  exact s
theorem OwnC.kit {K : PySem.W.Frag} {t : Value} {D : Addr} {b : Bool} (O : OwnC K D) (s : PySem.W.subIn K t (.ref D) = some b) (h : (t == Value.ref D) = true → b = true) : PySem.W.kitOne K t (.ref D) = some b := by
  unfold PySem.W.kitOne
  by_cases e : (t == Value.ref D) = true
  · rw [if_pos e, h e]
  · rw [if_neg e]; exact O.cls s
end L2
set_option maxHeartbeats 4000000
namespace Eb
open PySem L2
theorem rep_foldl (c : Nat) : ∀ (k : Nat) (acc : Array Nat), (List.replicate k (#[c] : Array Nat)).foldl (· ++ ·) acc = acc ++ (List.replicate k c).toArray
  | 0, acc => by simp
  | k + 1, acc => by
    rw [List.replicate_succ, List.foldl_cons, rep_foldl c k, List.replicate_succ]
    apply Array.ext'
    simp
theorem mul_sign (b : Bool) (n : Int) (h0 : 0 ≤ n) : Txt.mul (signS b) n = rowS (List.replicate n.toNat b) := by
  have e1 : (signS b).length = 1 := by rw [signS_eq]; rfl
  have em : (List.replicate n.toNat b).map sg = List.replicate n.toNat (sg b) := by simp
  unfold Txt.mul
  by_cases c : n < 1
  · rw [if_pos c, show n.toNat = 0 by omega]
    show Str.empty = rowS []
    rw [rowS_nil]; decide +kernel
  · rw [if_neg c]
    by_cases c1 : n = 1
    · rw [if_pos (by rw [c1]; rfl), c1, signS_eq]
      rfl
    · rw [if_neg (by rw [e1]; simp; exact c1), signS_eq]
      show Str.mk ((List.replicate n.toNat (#[sg b] : Array Nat)).foldl (· ++ ·) #[]) = Str.mk ((List.replicate n.toNat b).map sg).toArray
      rw [rep_foldl, em]; simp
theorem mulOk_sign (b : Bool) (n : Int) (h0 : 0 ≤ n) (h1 : n ≤ 100000) : MulOk (signS b) n := by
  have e1 : (signS b).length = 1 := by rw [signS_eq]; rfl
  refine ⟨by simp; omega, fun hn _ => ?_, fun hn _ => ?_⟩
  · rw [e1]
    have : 1 ≤ (2 ^ 63 - 1) / n := by
      rw [Int.le_ediv_iff_mul_le (by omega)]; omega
    omega
  · rw [e1]
    have hz : n.toNat ≤ 100000 := by omega
    unfold Builtin.Str.tooLong
    simp only [Nat.one_mul, gt_iff_lt, decide_eq_false_iff_not]
    have := sizeOk (n := n.toNat) (by omega)
    first | omega | (rw [sizeLine_eq] at this; omega)
end Eb
set_option maxHeartbeats 4000000
namespace L2
open PySem PySem.Spec PyProof.Rows
section
variable {σ : St} {H : Hp}
theorem te_call {sp : Sp} {t : TA} {Q : VK} (k : t σ H fun vs H1 => sp (vs ++ []) H1 Q E0) : tCall sp [] E0 t σ H Q := k
theorem te_callE {sp : Sp} {t : TA} {Q : VK} {E : XK} (k : t σ H fun vs H1 => sp (vs ++ []) H1 Q E) : tCall sp [] E t σ H Q := k
theorem te_and {ta tb : TE} {Q : VK} (k : ta σ H fun x H1 => ∃ c, x = .bl c ∧ if c = true then tb σ H1 Q else Q (.bl false) H1) : tAndV ta tb σ H Q := k
theorem te_op {r : R2} {ta tb : TE} {Q : VK} (k : ta σ H fun x H1 => tb σ H1 fun y H2 => r x y H2 Q) : tOp r ta tb σ H Q := k
theorem tt_test {te : TE} {Q : Bool → Hp → Prop} (k : te σ H fun x H1 => ∃ c, x = .bl c ∧ Q c H1) : tTest te σ H Q := k
theorem te_tup {t : TA} {xs : List V} {Q : VK} (h : Pa t σ H xs) (hl : xs.length ≤ sizeLine) (k : ∀ p, H p = none → Q (.ref p) (upd H p (.tup xs))) : tTup t σ H Q := h _ ⟨hl, k⟩
theorem ta_cons {te : TE} {t : TA} {Q : List V → Hp → Prop} (k : te σ H fun x H1 => t σ H1 fun xs H2 => Q (x :: xs) H2) : tCons te t σ H Q := k
theorem ti_rng1 {ta : TA} {vs : List V} {R : It → Hp → Prop} (h : Pa ta σ H vs) (k : ∃ j : Int, vs = [.int j] ∧ -(2 ^ 62) ≤ j ∧ j < 2 ^ 62 ∧ R (Itr 0 j.toNat) H) : iRng1 ta σ H R := h _ k
end
end L2
set_option maxHeartbeats 4000000
namespace L2
open PySem PySem.Spec PyProof.Rows
section
variable {κ : Type} [DecidableEq κ]
end
section
variable {P : Program} {w : World} {H : Hp} {h : Heap} {a : Addr}
end
section
variable {X : Cx} {pins : List (Addr × Obj)} {σ : St} {H : Hp} {s : Shared} {a : Addr} {y v : V} {u r : Value} {o : Option V} {A : Around} {E : Value → Shared → Prop}
end
section
variable {X : Cx} {pins : List (Addr × Obj)} {σ : St} {H : Hp} {s : Shared} {a : Addr} {kvs : List (Key × V)} {k : Key} {u : Value} {A : Around} {E : Value → Shared → Prop}
end
section
variable {X : Cx} {o i e value : Expr} {pos pos' tpos : Pos} {td ty tv : TE}
end
section
variable {X : Cx} {pos : Pos}
end
end L2
set_option maxHeartbeats 4000000
namespace L2
open PySem PySem.Spec PyProof.Rows
section
variable {X : Cx}
end
section
variable {σ : St} {H : Hp} {ty : TE}
end
end L2
set_option maxHeartbeats 4000000
namespace Eb
open PySem L2
theorem ix_row (l : List Bool) (i : Int) (h0 : 0 ≤ i) (h : i < (l.length : Int)) : ∃ b, l[i.toNat]? = some b ∧ atI (rowS l).cps.toList i = some (sg b) := by
  obtain ⟨k, rfl⟩ : ∃ k : Nat, i = (k : Int) := ⟨i.toNat, by omega⟩
  have hk : k < l.length := by omega
  exact ⟨l[k], by simp [hk], atI_nat (by simp [rowS, hk])⟩
end Eb
set_option maxHeartbeats 4000000
namespace Eb
open PySem L2
def sp_check_ring : Sp := fun vs H Q _ => ∃ l : List Bool, vs = [.str (rowS l)] ∧ 1 ≤ l.length ∧ l.length ≤ 100000 ∧ Q .non H
end Eb
set_option maxHeartbeats 4000000
namespace L2
open PySem PySem.Spec PyProof.Rows
section
variable {X : Cx}
end
section
variable {prog : Program} {w : World} {A : Around} {E : Value → Shared → Prop}
end
section
variable {X : Cx} {pos : Pos}
end
end L2
set_option maxHeartbeats 4000000
namespace Eb
open PySem L2
section
variable {σ : St} {H : Hp} {te : TE} {t : TT} {u : TS} {D : Ends} {K : PySem.W.Frag}
end
theorem pv_lenL {σ : St} {H : Hp} {ta : TE} {K : PySem.W.Frag} {p : Addr} {ys : List V} (ha : Pv ta σ H (.ref p)) (hS : SqL K H p ys) :
    Pv (tCB (fun xs H Q => ∃ p ys, xs = [.ref p] ∧ (SqL K H p ys ∨ SqT K H p ys) ∧ Q (.int ys.length) H) (tCons ta tNil)) σ H (.int ys.length) := fun Q q => ha _ ⟨p, ys, rfl, .inl hS, q⟩
end Eb
namespace L2
open PySem PySem.Spec PyProof.Rows
end L2
set_option maxHeartbeats 4000000
namespace L2
open PySem PySem.Spec PyProof.Rows
def ExcO (ea Ca : Addr) : HO := .ext fun h => ∃ ox, h.get? ea = some ox ∧ ox.cls = .ref Ca
theorem excO_ok {P : Program} {w : World} {H : Hp} {h : Heap} {ea Ca : Addr} {ob : Obj} (e : h.get? ea = some ob) (c : ob.cls = .ref Ca) : ObjOk P w H h ea (ExcO ea Ca) :=
  ⟨⟨ob, e, c⟩, ⟨ob, e⟩, fun _ _ ⟨o, e1, c1⟩ k => ⟨o, k o e1, c1⟩⟩
theorem ObjOk.get {P : Program} {w : World} {H : Hp} {h : Heap} {a : Addr} {o : HO} (x : ObjOk P w H h a o) : ∃ ob, h.get? a = some ob := by
  cases o with
  | lst xs => obtain ⟨_, _, _, _, e⟩ := x; exact ⟨_, e⟩
  | tup xs => obtain ⟨_, _, _, ob, e, _⟩ := x; exact ⟨_, e⟩
  | dK kvs => obtain ⟨_, _, _, _, o, _, _, e, _⟩ := x; exact ⟨_, e⟩
  | dT kvs => obtain ⟨_, _, _, _, o, _, _, e, _⟩ := x; exact ⟨_, e⟩
  | set S n => obtain ⟨o, _, _, _, e, _⟩ := x; exact ⟨_, e⟩
  | ins C dx fs => obtain ⟨_, _, _, e, _⟩ := x; exact ⟨_, e⟩
  | own y => exact x
  | xd fs => obtain ⟨_, ⟨_, _, _, e, _⟩, _⟩ := x; exact ⟨_, e⟩
  | rng lo hi => obtain ⟨_, _, _, e⟩ := x; exact ⟨_, e⟩
  | frz ob u => obtain ⟨e, _⟩ := x; exact ⟨_, e⟩
  | tbl ps => exact ⟨_, (show h.get? a = some _ from x)⟩
  | met f y => exact ⟨_, (show h.get? a = some _ from x)⟩
  | ext φ => obtain ⟨_, e, _⟩ := x; exact e
theorem HOk.track {P : Program} {w : World} {H : Hp} {h : Heap} {a : Addr} {o : HO} (x : HOk P w H h) (hn : H a = none) (new : ObjOk P w (upd H a o) h a o) : HOk P w (upd H a o) h := fun b u e => by
  by_cases hb : b = a
  · subst hb; rw [upd_same] at e; cases e; exact new
  · rw [upd_ne hb] at e
    exact (x b u e).stay (fun c v _ q => q) (fun c q => by rw [upd_ne (ne_of_none q hn)]; exact q) fun c xs q => by rw [upd_ne (ne_of_none q hn)]; exact q
theorem Un.track {fs ex : List Addr} {H H1 : Hp} {h h1 : Heap} {a : Addr} {o : HO} (u : Un fs ex H H1 h h1) (ha : h.get? a = none) (h1a : H1 a = none) : Un fs ex H (upd H1 a o) h h1 where
  keep := u.keep
  slot := u.slot
  free := fun b ob q n hx => by
    have hb : b ≠ a := fun z => by subst z; rw [ha] at q; cases q
    rw [upd_ne hb]; exact u.free b ob q n hx
  there := u.there
  tups := fun b xs q => by have := u.tups b xs q; rw [upd_ne (ne_of_none this h1a)]; exact this
  frzs := fun b ob v q => by have := u.frzs b ob v q; rw [upd_ne (ne_of_none this h1a)]; exact this
  tbls := fun b ps q => by
    obtain ⟨m, this⟩ := u.tbls b ps q
    exact ⟨m, by rw [upd_ne (ne_of_none this h1a)]; exact this⟩
section
variable {K : PySem.W.Frag} {x D : Addr}
structure XTy (K : PySem.W.Frag) (D : Addr) : Prop where
  cd : (PySem.W.clsIn K D).isSome = true
  ga : PySem.W.findIn K (.ref D) "__getattribute__" = some (some (.builtin "BaseException.__getattribute__"))
  gn : PySem.W.findIn K (.ref D) "__getattr__" = some none
  hb : PySem.W.mroIn K D (.type "BaseException") = some true
  ha : PySem.W.findIn K (.ref D) "__class__" = some (some (.builtin "object.__class__"))
  hn : PySem.W.specialIn K (.builtin "object.__class__") "__get__" = some (some (.builtin "getset_descriptor.__get__"))
  htk : PySem.W.takesIn K (.builtin "object.__class__") = some true
  hm : PySem.W.mroIn K D (.type "object") = some true
abbrev AtC (h : Heap) (x D : Addr) : Prop := ∃ ox, h.get? x = some ox ∧ ox.cls = .ref D
theorem AtC.type {M : Model} {h : Heap} (I : AtC h x D) : PySem.W.Looks M h (typeOf (.ref x)) (.ref D) := by
  obtain ⟨ox, e, c⟩ := I
  exact c ▸ (PySem.W.Looks.ld e).andThen .now
end
end L2
set_option maxHeartbeats 4000000
namespace L2
open PySem PySem.Spec PySem.Calls PySem.W PyProof.Rows PySem.Builtin.ObjectAttr PySem.Builtin PySem.Builtin.Getset_descriptor
section
variable {prog : Program} {w : World} {A : Around} {E : Value → Shared → Prop} {s : Shared} {K : Frag} {x D : Addr}
theorem exc_find {M : Model} {h : Heap} (X : K.In h) (Z : XTy K D) : Looks M h (find (.ref x) (.ref D) "__class__") (.bind (.builtin "getset_descriptor.__get__") (.builtin "object.__class__")) := by
  have L1 := looks_findIn (M := M) X Z.ha
  have L2 : Looks M h (getOf (some (.builtin "object.__class__"))) (some (.builtin "getset_descriptor.__get__")) := looks_specialIn X Z.hn
  have L3 := looks_takesIn (M := M) X Z.htk
  exact L1.andThen (L2.andThen ((show Looks M h (dataDescriptor? (some (.builtin "object.__class__")) (some (.builtin "getset_descriptor.__get__"))) (some (.builtin "getset_descriptor.__get__", .builtin "object.__class__")) from L3.andThen .now).andThen (Looks.tag .now)))
theorem exc_check {nameV : Value} {Q : Unit → Shared → Prop} (X : K.In s.heap) (I : AtC s.heap x D) (Z : XTy K D) (hq : Q () s) : wpAny (model prog w) A (checkBuiltinCall "BaseException.__getattribute__" ⟨[.ref x, nameV], []⟩) Q E s := by
  obtain ⟨hh, g, d, t, os⟩ := s
  have hk : builtinKind "BaseException.__getattribute__" = some .slot := by decide +kernel
  have hsplit : splitId "BaseException.__getattribute__" = some ("BaseException", "__getattribute__") := by decide +kernel
  have ha := F.args_bexc_ga (.ref x) nameV
  have L0 := AtC.type (M := model prog w) I
  have L1 := looks_mroIn (M := model prog w) X Z.hb
  simp only [checkBuiltinCall, hk, hsplit]
  refine wpAny_bind ?_
  unfold isInstance
  repeat (first | lk | wp_step)
  exact hq
theorem exc_entry {tk : Tok} {P : Value → Shared → Prop} (X : K.In s.heap) (I : AtC s.heap x D) (Z : XTy K D)
    (h : wpAny (model prog w) A (call (.builtin "getset_descriptor.__get__") [.builtin "object.__class__", .ref x, .ref D]) P E s) :
    wpAny (model prog w) A (Builtin.«object.__getattribute__» ⟨[.ref x, .str "__class__" tk], []⟩) (fun fin s' => match fin with | .done (.ret v) => P v s' | _ => False) E s := by
  obtain ⟨hh, gg, d, t, os⟩ := s
  have L0 := AtC.type (M := model prog w) I
  have L1 := exc_find (M := model prog w) (x := x) X Z
  refine wpAny_bind (wpAny_pure (wpAny_bind (wpAny_pure (wpAny_bind (L0.at (wpAny_bind (L1.at ?_)))))))
  show wpAny _ _ (holding [.builtin "object.__class__"] (call (.builtin "getset_descriptor.__get__") [.builtin "object.__class__", .ref x, .ref D]) >>= ret) _ _ _
  exact wpAny_bind (wpAny_holding (wpAny_mono h (fun v s' z => wpAny_pure z) fun _ _ z => z))
theorem exc_classget {R : Result → Shared → Prop} {tp : Value} (X : K.In s.heap) (I : AtC s.heap x D) (hm : mroIn K D (.type "object") = some true)
    (h : R (.ok (.ret (.ref D))) s) : codeAny (model prog w) A (.call (.builtin "getset_descriptor.__get__") ⟨[.builtin "object.__class__", .ref x, tp], []⟩) R s := by
  obtain ⟨hh, g, dr, t, os⟩ := s
  have L0 := AtC.type (M := model prog w) I
  have L1 := looks_mroIn (M := model prog w) X hm
  refine codeAny_call_builtin KF.slot_gs.plain KF.entry_gs (KF.slot_gs.check _ _ _ _ _ _ _ _ KF.type_class (KF.args_gs _ _ _) ?_)
  unfold Builtin.«getset_descriptor.__get__» descrGet
  rw [dga_obj]
  refine wpAny_bind (wpAny_pure ?_)
  unfold descrGetter descrCheckInstance descrNameAndClass isInstance
  simp only [KF.owner_class]
  repeat lk
  refine ⟨Code.quiet_builtin _ (by decide +kernel), codeAny_builtin KF.entry_class ?_⟩
  unfold Builtin.«object.__class__» shownTypeOf
  repeat lk
  exact h
theorem exc_class {Q : Option Value → Shared → Prop} (X : K.In s.heap) (I : AtC s.heap x D) (Z : XTy K D) (h : Q (some (.ref D)) { s with toks := s.toks + 1 }) : wpAny (model prog w) A (getAttr? (.ref x) "__class__") Q E s := by
  obtain ⟨hh, g, d, t, os⟩ := s
  have L0 := AtC.type (M := model prog w) I
  have L1 := looks_findIn (M := model prog w) X Z.ga
  have L2 := looks_findIn (M := model prog w) X Z.gn
  have f3 := F.excAttr_ValueError.ga.bind (.ref x)
  unfold getAttr? getAttrBy? getAttrBy
  refine wpAny_bind (wpAny_mkText (wpAny_bind (wpAny_attempt (wpAny_holding (wpAny_bind (L0.at (wpAny_bind (L1.at ?_))))))))
  show wpAny _ _ (getAttrByItsOwn _ _ _ _ _ _) _ _ _
  unfold getAttrByItsOwn
  refine wpAny_bind (L2.at (wpAny_bind (wpAny_attempt (wpAny_holding ?_))))
  show wpAny _ _ (boundAndCalled _ _ _) _ _ _
  unfold boundAndCalled
  rw [f3]
  refine wpAny_bind (wpAny_pure (wpAny_call (codeAny_call_builtin F.excAttr_ValueError.ga.plain F.entry_bexc_ga (exc_check (s := ⟨hh, g, d, t + 1, os⟩) X I Z ?_))))
  refine wpAny_mono (exc_entry (E := fun _ _ => False) (P := fun v s' => v = .ref D ∧ s' = ⟨hh, g, d, t + 1, os⟩) (s := ⟨hh, g, d, t + 1, os⟩) X I Z (wpAny_call (exc_classget (s := ⟨hh, g, d, t + 1, os⟩) X I Z.hm ⟨rfl, rfl⟩))) (fun fin s' z => ?_) fun _ _ z => z.elim
  rcases fin with (_ | _ | _ | _) | _ <;> first | exact z.elim | skip
  obtain ⟨rfl, rfl⟩ := z
  exact handed_on rfl (wpAny_pure h)
theorem kitx_exc (Z : XTy K D) : KitX K (.ref x) (.ref D) (fun h => AtC h x D) where
  ty := fun _ _ _ I => I.type
  it := fun _ _ X _ => by
    obtain ⟨cdD, hcD⟩ := Option.isSome_iff_exists.mp Z.cd
    unfold clsIn at hcD
    split at hcD
    · rename_i c' d' cd' sl' ho
      intro A' Q' E' s' k q
      unfold isType loadHead
      exact wpAny_bind (wpAny_loadPart (k _ _ (X _ _ ho)) (wpAny_pure q))
    · cases hcD
  ne := fun h tp dd its n sl X htp => by
    obtain ⟨cdD, hcD⟩ := Option.isSome_iff_exists.mp Z.cd
    refine Bool.eq_false_iff.mpr fun q => ?_
    have e : D = tp := Value.ref.inj (beq_iff_eq.mp q)
    subst e
    unfold clsIn at hcD
    split at hcD
    · rename_i c' d' cd' sl' ho
      have z := (X _ _ ho).symm.trans htp
      cases z
    · cases hcD
  ca := fun X I k => exc_class X I Z k
end
section
variable {X : Cx}
def rIsX (K : Frag) : List V → Hp → VK → Prop := fun xs H Q => ∃ ea Ca cv cu b, xs = [.ref ea, cv] ∧ RelV cv cu ∧ H ea = some (ExcO ea Ca) ∧ XTy K Ca ∧ kitOne K (.ref Ca) cu = some b ∧ Q (.bl b) H
theorem call_isiX : CallR X (.builtin "isinstance") (rIsX X.K) := by
  intro pins s σ H xs us Q I r h
  obtain ⟨ea, Ca, cv, cu, b, rfl, rc, he, Z, e, q⟩ := h
  obtain ⟨u, w', rfl, rx, rT⟩ := vals2 r
  cases (show u = Value.ref ea from rx)
  have hw : w' = cu := by
    revert rc rT
    cases cv <;> intro rc rT <;> first
      | exact (show w' = _ from rT).trans (show cu = _ from rc).symm
      | (exfalso; obtain ⟨t, rfl⟩ := rc; revert e; unfold kitOne kitCls; simp)
  subst hw
  obtain ⟨ac, _, _⟩ := (show ObjOk X.prog X.w H s.heap ea (ExcO ea Ca) from I.hok ea _ he)
  exact kia_one (kitx_exc Z) I.kIn ac e (fun z => nomatch z) fun tk => ⟨.bl b, H, I.tok _, rfl, q⟩
end
end L2
set_option maxHeartbeats 4000000
namespace L2
open PySem PySem.Spec PyProof.Rows
def Ends.gone (D : Ends) (n : Nat) : Ends := ⟨fun _ H => D.nx (List.replicate n none) H, D.rt, fun _ H => D.bk (List.replicate n none) H, fun _ H => D.ct (List.replicate n none) H⟩
theorem Inv.gone {X : Cx} {pins : List (Addr × Obj)} {σ : St} {H : Hp} {s : Shared} {h' : Heap} {m' : Str → Option Value} (t' : Nat) (I : Inv X pins σ H s) (hn' : h'.Ns X.env.locals m') (hs : Heap.SameBut X.env.locals s.heap h') :
    Inv X pins (List.replicate X.N.length none) H { s with heap := h', toks := t' } := by
  have cne := I.cne
  obtain ⟨m, hn, hl⟩ := id I.loc
  obtain ⟨oL, _, _, hoL, _⟩ := id hn
  refine ⟨I.ok, I.os, I.bare, ⟨fun b o e n hb hx => ?_, fun b o e n hb hx => ?_, I.base.free, fun b o e hx => ?_, I.base.tups, I.base.frzs, I.base.tbls⟩, ⟨m', hn', fun j y v' e1 e2 e3 => ?_⟩, fun y c e => ?_, I.free, I.freeC, fun p hp => ?_, fun b ob e => ?_, by simp⟩
  · exact (hs.2 b (Nat.ne_of_lt (Nat.lt_of_lt_of_le (Heap.lt_size e) I.ok.above))).trans (I.base.keep b o e n hb hx)
  · obtain ⟨sl, e1⟩ := I.base.slot b o e n hb hx
    exact ⟨sl, (hs.2 b (Nat.ne_of_lt (Nat.lt_of_lt_of_le (Heap.lt_size e) I.ok.above))).trans e1⟩
  · obtain ⟨o', e1⟩ := I.base.there b o e hx
    exact ⟨o', (hs.2 b (Nat.ne_of_lt (Nat.lt_of_lt_of_le (Heap.lt_size e) I.ok.above))).trans e1⟩
  · rw [List.getElem?_replicate] at e2
    split at e2 <;> cases e2
  · obtain ⟨w', z⟩ := I.cell y c e
    exact ⟨w', z.sameBut hs (cne y c e)⟩
  · obtain ⟨e, n, ne, nf, d⟩ := I.pin p hp
    exact ⟨(hs.2 p.1 ne).trans e, n, ne, nf, d⟩
  · have hfree := I.free
    refine (I.hok b ob e).stay (fun c w' hc q => (hs.2 c ?_).trans q) (fun _ q => q) fun _ _ q => q
    rintro rfl
    rcases hc with rfl | hc
    · rw [hfree] at e; cases e
    · rw [hfree] at hc; cases hc
theorem catch_as {X : Cx} {pins : List (Addr × Obj)} {σ : St} {H H' : Hp} {s s' : Shared} {i : Nat} {c n : Str} {CB Ca ea : Addr} {a0 : Value} {B : Heap} {np hpos : Pos} {b₀ : Stmt} {suite : List Stmt} {rest : List ExceptHandler} {th : TS} {D : Ends}
    (hstk : X.stack = X.env :: X.outer) (hfrm : X.env.frame = some X.env.locals) (I : Inv X pins σ H s) (hm : X.mg c = some (.ref CB)) (hex : PySem.W.exmOne X.K (.ref Ca) (.ref CB) = some true)
    (Fl : Fly X.prog X.w X.stack H s ea (.ref Ca) a0 B H' s') (hg : Gl X c) (hd : (c == ("__debug__" : Str)) = false) (hN : X.N.Nodup) (hi : X.N[i]? = some n) (hloc : X.env.kindOf n = some .local) (hL : X.env.scope.names.lookup n = some .local)
    (hsuite : PSs (X.hdl (.ref ea)) (b₀ :: suite) th) (q : th (D.gone X.N.length) (σ.set i (some (.ref ea))) (upd H' ea (ExcO ea Ca))) :
    wpAny (model X.prog X.w) X.A (noteFrame (.ref ea) X.env) (fun _ s₂ => wpAny (model X.prog X.w) X.A (setFlight (.ref ea) none) (fun _ s₃ =>
      wpAny (model X.prog X.w) X.A (handleBy (.ref ea) X.env (.ExceptHandler (some (.Name c np)) (some n) (b₀ :: suite) hpos :: rest)) (SP X pins D) X.xe s₃) X.xe s₂) X.xe s' := by
  have frm : X.A.frames = some (X.env :: X.outer) := hstk ▸ I.ok.frames
  have fl : Heap.FlyingW B (X.env :: X.outer) ea (.ref Ca) a0 s'.heap := hstk ▸ Fl.fly
  refine wpAny_looks_onW frm hfrm fl fun h4 held ups4 => ?_
  refine wpAny_landsW held fun h5 fl5 ups5 => ?_
  have sub : ∀ b o, b ∈ frs X.stack → s'.heap.get? b = some o → ∀ h'', s'.heap.UpToSlots h'' → ∃ sl, h''.get? b = some { o with slots := sl } := fun b o hb e h'' u => slots_of Fl.fly.2.2.1 u b o hb e
  have noB : B.get? ea = none := Fl.fly.2.1
  have noS : s.heap.get? ea = none := by
    cases e : s.heap.get? ea with
    | none => rfl
    | some o =>
      exfalso
      by_cases hb : ea ∈ frs X.stack
      · obtain ⟨_, o', e', hd'⟩ := frames_plain Fl.fly.2.2.1 ea hb
        obtain ⟨oe, vs, _, _, _, he, _, hdv, _⟩ := Fl.fly.2.2.2
        rw [he] at e'; cases e'
        exact hd' vs hdv
      · obtain ⟨o', e'⟩ := Fl.hT ea o e hb
        rw [noB] at e'; cases e'
  have noH : H' ea = none := by
    cases e : H' ea with
    | none => rfl
    | some o =>
      obtain ⟨ob, e'⟩ := (Fl.hok ea o e).get
      rw [noB] at e'; cases e'
  have mk : ∀ h'', Heap.FlyingW B (X.env :: X.outer) ea (.ref Ca) a0 h'' → s'.heap.UpToSlots h'' → Inv X pins σ (upd H' ea (ExcO ea Ca)) { s' with heap := h'' } := fun h'' f'' u'' => by
    have os := Fl.os
    have un := (un_fly Fl.un Fl.hB Fl.hT f''.1 fun b o hb e => sub b o hb e h'' u'').track (o := ExcO ea Ca) noS noH
    have bare := Fl.bare
    obtain ⟨ob, hob, hobc⟩ := f''.there
    have hok : HOk X.prog X.w (upd H' ea (ExcO ea Ca)) h'' := (Fl.hok.kept f''.1).track noH (excO_ok hob hobc)
    obtain ⟨hh, g, d, t, os'⟩ := s'
    obtain rfl : os' = s.os := os
    have J := I.call (h' := h'') (g' := g) (d' := d) (t' := t) (ch := []) un hok bare fun b z => absurd z (by simp)
    exact J
  have u5 : s'.heap.UpToSlots h5 := ups4.trans ups5
  have I5 := mk h5 fl5 u5
  refine wpAny_handleBy_cons (codeAny_handlers_test (ld_glob (X := X.hdl (.ref ea)) (I5.hdl (.ref ea)) hg hm ?_ hd)) (by intro z; cases z)
  obtain ⟨ob, hob, hobc⟩ := fl5.there
  refine (PySem.W.exm_one (M := model X.prog X.w) (h := h5) I5.kIn (AtC.type ⟨ob, hob, hobc⟩) hex) _ _ _ _ (fun _ _ e => e) ?_
  refine codeAny_handlers_suite_as ?_
  refine lands_againW fl5 fun h6 fl6 ups6 => ?_
  refine store_ok (X := X.hdl (.ref ea)) (v := .ref ea) ((mk h6 fl6 (u5.trans ups6)).hdl (.ref ea)) hN hi (Or.inl hL) rfl (fun s2 I2 => ?_) (.inr hL)
  refine wpAny_mono (hsuite pins s2 _ _ (D.gone X.N.length) I2 q) (fun f s3 r => ?_) fun _ _ z => z.elim
  have r' := r.unhdl I.ok
  have hp : (X.env.scope.kind == .class || (X.env.scope.kind == .module && X.env.locals != X.env.globals)) = false := by rw [I.ok.kind]; rfl
  show wpAny _ X.A (do bindName X.env n .none; unbindBehindTheSuite X.env n hpos) (fun _ s₃ => SP X pins D f s₃) X.xe s3
  cases f with
  | next =>
    obtain ⟨σ', H9, I9, q9⟩ := r'
    obtain ⟨m, hn, _⟩ := id I9.loc
    exact wpAny_nameGoes hloc hn hp fun h' m' hn' hs' => ⟨_, H9, I9.gone _ hn' hs', q9⟩
  | brk =>
    obtain ⟨σ', H9, I9, q9⟩ := r'
    obtain ⟨m, hn, _⟩ := id I9.loc
    exact wpAny_nameGoes hloc hn hp fun h' m' hn' hs' => ⟨_, H9, I9.gone _ hn' hs', q9⟩
  | cont =>
    obtain ⟨σ', H9, I9, q9⟩ := r'
    obtain ⟨m, hn, _⟩ := id I9.loc
    exact wpAny_nameGoes hloc hn hp fun h' m' hn' hs' => ⟨_, H9, I9.gone _ hn' hs', q9⟩
  | ret u =>
    obtain ⟨v, σ', H9, I9, rv, q9⟩ := r'
    obtain ⟨m, hn, _⟩ := id I9.loc
    exact wpAny_nameGoes hloc hn hp fun h' m' hn' hs' => ⟨v, _, H9, I9.gone _ hn' hs', rv, q9⟩
abbrev TB := St → Hp → (Hp → Prop) → XK → Prop
def PB (X : Cx) (body : List Stmt) (tb : TB) : Prop := ∀ (pins : List (Addr × Obj)) (s : Shared) (σ : St) (H : Hp) (Q : Hp → Prop) (E : XK), Inv X pins σ H s → tb σ H Q E →
  wpAny (model X.prog X.w) X.A (execs body X.env) (fun f s' => f = .next ∧ ∃ H', Inv X pins σ H' s' ∧ Q H') (fun e s' => ∃ H1 s1, Inv X pins σ H1 s1 ∧ CXE X.prog X.w X.stack H1 s1 E e s') s
section
variable {X : Cx}
theorem pb_call {k : Nat} {g : Str} {ps : List Str} {sp : Sp} {e : Expr} {es : List Expr} {t : TA} {gp cpos pos : Pos} (F : Kn X.prog X.w X.K X.mg X.base k g ps sp) (hr : Room k X.A) (ha : PA X.nox (e :: es) t)
    (hs : swapsWith (.Call (.Name g gp) (e :: es) [] cpos) none pos.line X.env = pure false := by rfl)
    (hgg : Gl X g := by rfl) (hdg : (g == ("__debug__" : Str)) = false := by decide)
    (he : starEach (e :: es) X.env = (false, eval e X.env) :: starEach es X.env := by rfl) (hpl : (backTo cpos (starEach es X.env)).any (·.1) = false := by rfl) :
    PB X [.Expr (.Call (.Name g gp) (e :: es) [] cpos) pos] (fun σ H Q E => t σ H fun vs H1 => sp vs H1 (fun _ H2 => Q H2) E) := by
  intro pins s σ H Q E I h
  obtain ⟨f, fd, G, hb, kp, m⟩ := F
  refine wpAny_execs_cons (wpAny_Expr_any (wpAny_Call_Name_kw (ld_glob I hgg m ?_ hdg)) I.quiet hs)
  refine PySem.W.callWith_K (h₀ := X.base) I.ok.mod.kin kp (wpAny_mono (ha cpos pins s σ H _ (I.wish _) h) (fun us s1 ⟨vs, H1, I1', r, q⟩ => ⟨I1'.unwish.kIn, ?_⟩) fun _ _ z => False.elim z) he hpl
  have I1 : Inv X pins σ H1 s1 := I1'.unwish
  have hl : us.length = ps.length := by rw [← r.length]; exact G.len _ _ _ _ q
  have hbd := hb s1 us I1.kIn (by rw [List.append_nil]; exact hl)
  rw [List.append_nil] at hbd
  refine wpAny_call (codeAny_mono (G.run X.A X.stack s1 H1 ⟨us, []⟩ us vs _ _ hr I1.env0 hbd r q) fun rr s' hq => ?_)
  cases rr with
  | error er => exact ⟨H1, s1, I1, hq⟩
  | ok fl =>
    cases fl with
    | ret u =>
      obtain ⟨v, H2, I2, rv, q2⟩ := I1.after hq
      exact wpAny_execs_nil ⟨rfl, H2, I2, q2⟩
    | next => exact False.elim hq
    | brk => exact False.elim hq
    | cont => exact False.elim hq
theorem pb_if {c : Expr} {a b : List Stmt} {tc : TT} {ta tb : TB} {pos : Pos} (hc : PT X.nox c tc) (ha : PB X a ta) (hb : PB X b tb) : PB X [.If c a b pos] (fun σ H Q E => tc σ H fun k H1 => if k = true then ta σ H1 Q E else tb σ H1 Q E) := by
  intro pins s σ H Q E I h
  refine wpAny_execs_cons (wpAny_If (wpAny_mono (hc pins s σ H _ (I.wish _) h) (fun k s1 ⟨H1, I1, q⟩ => ?_) fun _ _ z => False.elim z))
  have I1 : Inv X pins σ H1 s1 := I1.unwish
  have fin : ∀ (f : Flow) (s' : Shared), (f = .next ∧ ∃ H', Inv X pins σ H' s' ∧ Q H') → (match f with | .next => wpAny (model X.prog X.w) X.A (execs [] X.env) (fun f s' => f = .next ∧ ∃ H', Inv X pins σ H' s' ∧ Q H') (fun e s' => ∃ H1 s1, Inv X pins σ H1 s1 ∧ CXE X.prog X.w X.stack H1 s1 E e s') s' | f => (f = .next ∧ ∃ H', Inv X pins σ H' s' ∧ Q H')) := by
    rintro f s' ⟨rfl, z⟩
    exact wpAny_execs_nil ⟨rfl, z⟩
  cases k with
  | true =>
    rw [if_pos rfl] at q
    exact wpAny_mono (ha pins s1 σ H1 Q E I1 q) (fun f s' z => fin f s' z) fun _ _ z => z
  | false =>
    rw [if_neg Bool.false_ne_true] at q
    exact wpAny_mono (hb pins s1 σ H1 Q E I1 q) (fun f s' z => fin f s' z) fun _ _ z => z
theorem ps_tryAs {i : Nat} {c n : Str} {CB : Addr} {body : List Stmt} {tb : TB} {np hpos pos : Pos} {b₀ : Stmt} {suite : List Stmt} {th : TS}
    (hstk : X.stack = X.env :: X.outer) (hfrm : X.env.frame = some X.env.locals) (hm : X.mg c = some (.ref CB)) (hB : PB X body tb) (hN : X.N.Nodup) (hi : X.N[i]? = some n) (hL : X.env.scope.names.lookup n = some .local)
    (hsuite : ∀ v, PSs (X.hdl v) (b₀ :: suite) th) (hloc : X.env.kindOf n = some .local := by rfl) (hg : Gl X c := by rfl) (hd : (c == ("__debug__" : Str)) = false := by decide) :
    PS X (.Try body [.ExceptHandler (some (.Name c np)) (some n) (b₀ :: suite) hpos] [] [] pos)
      (fun D σ H => tb σ H (fun H2 => D.nx σ H2) fun C _ H2 => ∃ Ca, C = .ref Ca ∧ PySem.W.exmOne X.K (.ref Ca) (.ref CB) = some true ∧ ∀ ea, H2 ea = none → th (D.gone X.N.length) (σ.set i (some (.ref ea))) (upd H2 ea (ExcO ea Ca))) := by
  intro pins s σ H D I h
  refine wpAny_Try_except (wpAny_mono (hB pins s σ H _ _ I h) (fun f s1 hh => ?_) fun e s' hh => ?_)
  · obtain ⟨rfl, H', I', q⟩ := hh
    exact wpAny_execs_nil ⟨σ, H', I', q⟩
  · obtain ⟨H1, s1, I1, ea, C, a0, B, H', rfl, Fl, Ca, rfl, hex, hth⟩ := hh
    have noH : H' ea = none := by
      cases e : H' ea with
      | none => rfl
      | some o =>
        obtain ⟨ob, e'⟩ := (Fl.hok ea o e).get
        rw [Fl.fly.2.1] at e'; cases e'
    exact catch_as hstk hfrm I1 hm hex Fl hg hd hN hi hloc hL (hsuite _) (hth ea noH)
end
end L2
set_option maxHeartbeats 4000000
namespace L2
open PySem PySem.Spec PyProof.Rows PySem.SeqAt
def KnF (P : Program) (w : World) (K : PySem.W.Frag) (mg : Str → Option Value) (base : Heap) (k : Nat) (f : Addr) (ps : List Str) (sp : Sp) : Prop :=
  ∃ fd, FnOk P w K mg base (CXE P w) k f fd ps sp ∧ Binds K fd ps [] ∧ PySem.W.keepIn K (.ref f) = true
section
variable {X : Cx}
def tCallV (P : Program) (w : World) (K : PySem.W.Frag) (mg : Str → Option Value) (base : Heap) (A : Around) (E : XK) (tf : TE) (t : TA) : TE := fun σ H Q => tf σ H fun x H1 => ∃ f k ps sp, x = .ref f ∧ KnF P w K mg base k f ps sp ∧ Room k A ∧ t σ H1 fun vs H2 => sp (vs ++ []) H2 Q E
theorem pe_callV {fe e : Expr} {es : List Expr} {tf : TE} {t : TA} {pos : Pos} {E : XK} (hf : PE X fe tf) (hx : Passes (CXE X.prog X.w) X E) (ha : PA X (e :: es) t)
    (he : starEach (e :: es) X.env = (false, eval e X.env) :: starEach es X.env := by rfl) (hpl : (backTo pos (starEach es X.env)).any (·.1) = false := by rfl)
    (hev : eval (.Call fe (e :: es) [] pos) X.env = (do callWith pos (← eval fe X.env) [] (backTo pos (starEach (e :: es) X.env)) (backToKw pos (keywordEach [] X.env))) := by rfl) :
    PE X (.Call fe (e :: es) [] pos) (tCallV X.prog X.w X.K X.mg X.base X.A E tf t) := by
  intro pins s σ H Q I h
  refine Call_ (thn (hf pins s σ H _ I h) fun v s1 ⟨x, H1, I1, r1, f, k, ps, sp, e1, ⟨fd, G, hb, kp⟩, hr, q1⟩ => ?_) hev
  subst e1
  cases r1
  exact PySem.W.callWith_K (h₀ := X.base) I.ok.mod.kin kp (thn (ha pos pins s1 σ H1 _ I1 q1) fun us s2 ⟨vs, H2, I2, r, q⟩ => ⟨I2.kIn, run_fn G hr hb .nil hx I2 r q⟩) he hpl
theorem pb_callV {fe e : Expr} {es : List Expr} {tf : TE} {t : TA} {cpos pos : Pos} (hf : PE X.nox fe tf) (ha : PA X.nox (e :: es) t)
    (hs : swapsWith (.Call fe (e :: es) [] cpos) none pos.line X.env = pure false := by rfl)
    (he : starEach (e :: es) X.env = (false, eval e X.env) :: starEach es X.env := by rfl) (hpl : (backTo cpos (starEach es X.env)).any (·.1) = false := by rfl)
    (hev : eval (.Call fe (e :: es) [] cpos) X.env = (do callWith cpos (← eval fe X.env) [] (backTo cpos (starEach (e :: es) X.env)) (backToKw cpos (keywordEach [] X.env))) := by rfl) :
    PB X [.Expr (.Call fe (e :: es) [] cpos) pos] (fun σ H Q E => tf σ H fun x H1 => ∃ f k ps sp, x = .ref f ∧ KnF X.prog X.w X.K X.mg X.base k f ps sp ∧ Room k X.A ∧ t σ H1 fun vs H2 => sp vs H2 (fun _ H3 => Q H3) E) := by
  intro pins s σ H Q E I h
  refine wpAny_execs_cons (wpAny_Expr_any (Call_ (wpAny_mono (hf pins s σ H _ (I.wish _) h) (fun v s1 ⟨x, H1, I1', r1, f, k, ps, sp, e1, ⟨fd, G, hb, kp⟩, hr, q1⟩ => ?_) fun _ _ z => False.elim z) hev) I.quiet hs)
  subst e1
  cases r1
  refine PySem.W.callWith_K (h₀ := X.base) I.ok.mod.kin kp (wpAny_mono (ha cpos pins s1 σ H1 _ I1' q1) (fun us s2 ⟨vs, H2, I2', r, q⟩ => ⟨I2'.unwish.kIn, ?_⟩) fun _ _ z => False.elim z) he hpl
  have I2 : Inv X pins σ H2 s2 := I2'.unwish
  have hl : us.length = ps.length := by rw [← r.length]; exact G.len _ _ _ _ q
  have hbd := hb s2 us I2.kIn (by rw [List.append_nil]; exact hl)
  rw [List.append_nil] at hbd
  refine wpAny_call (codeAny_mono (G.run X.A X.stack s2 H2 ⟨us, []⟩ us vs _ _ hr I2.env0 hbd r q) fun rr s' hq => ?_)
  cases rr with
  | error er => exact ⟨H2, s2, I2, hq⟩
  | ok fl =>
    cases fl with
    | ret u =>
      obtain ⟨v, H3, I3, rv, q3⟩ := I2.after hq
      exact wpAny_execs_nil ⟨rfl, H3, I3, q3⟩
    | next => exact False.elim hq
    | brk => exact False.elim hq
    | cont => exact False.elim hq
end
structure Flat (α : Type) [DecidableEq α] (f : α → V) (d : α → PyData) (ok : α → Prop) : Prop where
  rd : ∀ (h : Heap) a u, RelV (f a) u → Reads h u (d a) []
  lay : ∀ a, ok a → PyData.canLay0 (d a) = true
  dep : ∀ a, PyData.depth (d a) = 0
  mix : ∀ a b, noMix (d a) (d b) = true
  same : ∀ a b, same (d a) (d b) = decide (a = b)
section
variable {α : Type} [DecidableEq α] {f : α → V} {d : α → PyData} {ok : α → Prop} (F : Flat α f d ok)
include F
theorem Flat.reads {h : Heap} : ∀ {ns : List α} {us : List Value}, Vals (ns.map f) us → ReadsAll h us (ns.map d) []
  | [], _, r => by cases r; exact .nil
  | n :: ns, _, r => by
    cases r with
    | cons a b => simpa using ReadsAll.cons (F.rd h n _ a) (Flat.reads b)
theorem Flat.lays : ∀ ns : List α, (∀ z ∈ ns, ok z) → PyData.canLayAll0 (ns.map d) = true
  | [], _ => by simp [PyData.canLayAll0]
  | n :: r, h => by simp [PyData.canLayAll0, F.lay n (h n (by simp)), Flat.lays r fun z hz => h z (List.mem_cons_of_mem _ hz)]
theorem Flat.deps : ∀ ns : List α, PyData.depthAll (ns.map d) = 0
  | [] => by simp [PyData.depthAll]
  | n :: r => by
    have := Flat.deps r
    simp only [List.map_cons, PyData.depthAll, F.dep n]
    omega
theorem Flat.shaped (ns : List α) (h : ∀ z ∈ ns, ok z) : SeqAt.shaped (.list (ns.map d)) = true := by
  have h1 := F.deps ns
  have h2 : PyData.depth (.list (ns.map d)) ≤ 64 := by simp only [PyData.depth]; omega
  show (PyData.canLay0 (.list (ns.map d)) && decide (PyData.depth (.list (ns.map d)) ≤ 64)) = true
  rw [Bool.and_eq_true]
  refine ⟨?_, decide_eq_true h2⟩
  simp only [PyData.canLay0]
  exact F.lays ns h
theorem Flat.mixes : ∀ ns ms : List α, noMixAll (ns.map d) (ms.map d) = true
  | [], [] => by simp [noMixAll]
  | [], _ :: _ => by simp [noMixAll]
  | _ :: _, [] => by simp [noMixAll]
  | a :: r, b :: q => by simp [noMixAll, F.mix a b, Flat.mixes r q]
theorem Flat.sames : ∀ ns ms : List α, PySem.Spec.sameAll (ns.map d) (ms.map d) = decide (ns = ms)
  | [], [] => by simp [PySem.Spec.sameAll]
  | [], _ :: _ => by simp [PySem.Spec.sameAll]
  | _ :: _, [] => by simp [PySem.Spec.sameAll]
  | n :: r, k :: q => by
    simp only [List.map_cons, PySem.Spec.sameAll, F.same n k, Flat.sames r q]
    by_cases h1 : n = k <;> by_cases h2 : r = q <;> simp [h1, h2]
theorem Flat.list {h : Heap} {a : Addr} {us : List Value} {ns : List α} (hl : h.IsList a us.toArray) (r : Vals (ns.map f) us) : Reads h (.ref a) (.list (ns.map d)) [a] := by
  obtain ⟨o, ho, hc, n, hd⟩ := hl
  exact Reads.list ho hc hd (by simpa using F.reads r)
theorem Flat.eq {X : Cx} (hu : X.A.units + 64 < cLine) : OpR X (compareOp .Eq) (fun x y H Q => ∃ a b, ∃ ns ms : List α, x = .ref a ∧ y = .ref b ∧ (∀ z ∈ ns, ok z) ∧ (∀ z ∈ ms, ok z) ∧ SqL X.K H a (ns.map f) ∧ SqL X.K H b (ms.map f) ∧ Q (.bl (decide (ns = ms))) H) := by
  intro pins s σ H x y v u Q I rx ry h
  obtain ⟨a, b, ns, ms, rfl, rfl, o1, o2, ha, hb, q⟩ := h
  cases rx
  cases ry
  obtain ⟨i1, r1, p1, _⟩ := I.list ha
  obtain ⟨i2, r2, p2, _⟩ := I.list hb
  exact eq_dataH_same (F.list p1.isList r1) (F.list p2.isList r2) (F.shaped ns o1) (F.shaped ms o2) hu (by simp only [noMix]; exact F.mixes ns ms) (by simp only [PySem.Spec.same]; rw [F.sames]; exact ⟨.bl _, H, I, rfl, q⟩)
theorem Flat.ne {X : Cx} (hu : X.A.units + 64 < cLine) : OpR X (compareOp .NotEq) (fun x y H Q => ∃ a b, ∃ ns ms : List α, x = .ref a ∧ y = .ref b ∧ (∀ z ∈ ns, ok z) ∧ (∀ z ∈ ms, ok z) ∧ SqL X.K H a (ns.map f) ∧ SqL X.K H b (ms.map f) ∧ Q (.bl (!decide (ns = ms))) H) := by
  intro pins s σ H x y v u Q I rx ry h
  obtain ⟨a, b, ns, ms, rfl, rfl, o1, o2, ha, hb, q⟩ := h
  cases rx
  cases ry
  obtain ⟨i1, r1, p1, _⟩ := I.list ha
  obtain ⟨i2, r2, p2, _⟩ := I.list hb
  exact ne_dataH_same (F.list p1.isList r1) (F.list p2.isList r2) (F.shaped ns o1) (F.shaped ms o2) hu (by simp only [noMix]; exact F.mixes ns ms) (by simp only [PySem.Spec.same]; rw [F.sames]; exact ⟨.bl _, H, I, rfl, q⟩)
end
theorem flatB : Flat Bool V.bl PyData.bool (fun _ => True) where
  rd := fun h a u r => by cases r; exact .bool a
  lay := fun _ _ => by simp [PyData.canLay0]
  dep := fun _ => by simp [PyData.depth]
  mix := fun _ _ => by simp [noMix]
  same := fun a b => by simp only [PySem.Spec.same]; cases a <;> cases b <;> rfl
theorem flatI : Flat Int V.int PyData.int (fun _ => True) where
  rd := fun h a u r => by obtain ⟨t, rfl⟩ := r; exact .int a t
  lay := fun _ _ => by simp [PyData.canLay0]
  dep := fun _ => by simp [PyData.depth]
  mix := fun _ _ => by simp [noMix]
  same := fun a b => by simp only [PySem.Spec.same]; exact Bool.beq_eq_decide_eq a b
theorem flatS : Flat Str V.str PyData.str (fun x => PyData.strOk x = true) where
  rd := fun h a u r => by obtain ⟨t, rfl⟩ := r; exact .str a t
  lay := fun _ h => by simpa [PyData.canLay0] using h
  dep := fun _ => by simp [PyData.depth]
  mix := fun _ _ => by simp [noMix]
  same := fun a b => by
    simp only [PySem.Spec.same]
    by_cases h : a = b
    · subst h; simp
    · rw [decide_eq_false h]; exact beq_eq_false_iff_ne.mpr h
end L2
set_option maxHeartbeats 4000000
namespace Eb
def firstB (l : List Bool) : Nat := l.findIdx id
theorem firstB_lt {l : List Bool} (h : 1 ≤ cnt l) : firstB l < l.length := by
  refine List.findIdx_lt_length_of_exists ?_
  apply Classical.byContradiction
  intro hc
  have : l.filter id = [] := List.filter_eq_nil_iff.mpr fun a ha => fun e => hc ⟨a, ha, e⟩
  unfold cnt at h
  rw [this] at h; simp at h
theorem firstB_at {l : List Bool} (h : 1 ≤ cnt l) : l[firstB l]? = some true := by
  have hl := firstB_lt h
  rw [List.getElem?_eq_getElem hl]
  have := List.findIdx_getElem (p := id) (xs := l) (w := hl)
  exact congrArg some this
def tailB (l : List Bool) : List Bool := (rot l (firstB l)).tail
theorem rot_first {l : List Bool} (h : 1 ≤ cnt l) : rot l (firstB l) = true :: tailB l := by
  have hl := firstB_lt h
  have h0 := rot_get l (firstB l) 0 (by omega) (by omega) (by omega)
  rw [Nat.zero_add, Nat.mod_eq_of_lt hl, firstB_at h] at h0
  unfold tailB
  cases e : rot l (firstB l) with
  | nil => rw [e] at h0; simp at h0
  | cons b t => rw [e] at h0; simp at h0; subst h0; rfl
def gapsL (l : List Bool) : List Nat := gp 1 (tailB l)
theorem blocks_gapsL {l : List Bool} (h : 1 ≤ cnt l) : blocks (gapsL l) = rot l (firstB l) := by
  rw [rot_first h]
  have := gp_blocks (tailB l) 0
  simpa [gapsL] using this
theorem gapsL_len {l : List Bool} (h : 1 ≤ cnt l) : ((gapsL l).length : Int) = cnt l := by
  rw [← cnt_blocks, blocks_gapsL h, cnt_rot]
def unf (l : List Bool) (gap : Nat) : List Bool := blocks (l.map fun b => gap + if b then 1 else 0)
end Eb
set_option maxHeartbeats 4000000
namespace L2
open PySem PySem.Spec PyProof.Rows
theorem bo_ValueError : bootBuiltins "ValueError" = some (.type "ValueError") := by decide +kernel
theorem call_isiXK {X : Cx} (K : PySem.W.Frag) (hK : X.K = K := by rfl) : CallR X (.builtin "isinstance") (rIsX K) := hK ▸ call_isiX
theorem pv_isiX {σ : St} {H : Hp} {ta : TE} {K : PySem.W.Frag} {ea Ca : Addr} {cv : V} {cu : Value} {b : Bool} (ha : Pv ta σ H (.ref ea)) (rc : RelV cv cu) (he : H ea = some (ExcO ea Ca)) (Z : XTy K Ca) (e : PySem.W.kitOne K (.ref Ca) cu = some b) :
    Pv (tCB (rIsX K) (tCons ta (tCons (tC cv) tNil))) σ H (.bl b) := fun Q q => ha _ ⟨ea, Ca, cv, cu, b, rfl, rc, he, Z, e, q⟩
end L2
namespace Eb
open PySem L2
def vG (g : List Nat) : List V := g.map fun x => V.int (x : Nat)
def spx_gaps (CN : Addr) : Sp := fun vs H Q E => ∃ l : List Bool, vs = [.str (rowS l)] ∧ 1 ≤ l.length ∧ l.length ≤ 1000 ∧
  (1 ≤ cnt l → ∀ p H', H p = none → Same H H' → H' p = some (.lst (vG (gapsL l))) → Q (.ref p) H') ∧ (cnt l = 0 → ∀ H', Same H H' → E (.ref CN) none H')
def spx_folded (CN CU : Addr) : Sp := fun vs H Q E => ∃ l : List Bool, vs = [.str (rowS l)] ∧ 1 ≤ l.length ∧ l.length ≤ 1000 ∧
  (1 ≤ cnt l → ∀ d, d ∈ gapsL l → (∀ x ∈ gapsL l, d ≤ x) → (∀ x ∈ gapsL l, x ≤ d + 1) → ∀ H', Same H H' → Q (.str (rowS (foldL (gapsL l) d))) H') ∧ (cnt l = 0 → ∀ H', Same H H' → E (.ref CN) none H') ∧
  (1 ≤ cnt l → ∀ d, d ∈ gapsL l → (∀ x ∈ gapsL l, d ≤ x) → ¬ (∀ x ∈ gapsL l, x ≤ d + 1) → ∀ H', Same H H' → E (.ref CU) none H')
def sp_unfolded : Sp := fun vs H Q _ => ∃ (l : List Bool) (gap : Int), vs = [.str (rowS l), .int gap] ∧ 1 ≤ l.length ∧ 1 ≤ gap ∧ l.length ≤ 1000 ∧ gap ≤ 1000 ∧ ∀ H', Same H H' → Q (.str (rowS (unf l gap.toNat))) H'
structure KX (K : PySem.W.Frag) (mg : Str → Option Value) (CT CR CC CN CU : Addr) : Prop where
  nT : mg "BeatError" = some (.ref CT)
  nR : mg "BadRing" = some (.ref CR)
  nC : mg "BadCount" = some (.ref CC)
  nN : mg "NoBeat" = some (.ref CN)
  nU : mg "Uneven" = some (.ref CU)
  nV : mg "ValueError" = none
structure KE (K : PySem.W.Frag) (CT CR CC CN CU Ca : Addr) (r c n u : Bool) : Prop where
  ty : XTy K Ca
  ex : PySem.W.exmOne K (.ref Ca) (.ref CT) = some true
  kR : PySem.W.kitOne K (.ref Ca) (.ref CR) = some r
  kC : PySem.W.kitOne K (.ref Ca) (.ref CC) = some c
  kN : PySem.W.kitOne K (.ref Ca) (.ref CN) = some n
  kU : PySem.W.kitOne K (.ref Ca) (.ref CU) = some u
  kV : PySem.W.kitOne K (.ref Ca) (.type "ValueError") = some true
theorem min_gap {l : List Bool} (h : 1 ≤ cnt l) : ∃ d, d ∈ gapsL l ∧ ∀ x ∈ gapsL l, d ≤ x := by
  have hb : 1 ≤ (gapsL l).length := by have := gapsL_len h; omega
  obtain ⟨d, hd, hm⟩ := exists_best (fun (a b : Nat) => b ≤ a) (fun _ => True) (fun a b _ _ => by omega) (fun a b c _ _ _ h1 h2 => by omega) (gapsL l) (fun _ _ => trivial) (fun z => by rw [z] at hb; simp at hb)
  exact ⟨d, hd, hm⟩
end Eb
set_option maxHeartbeats 4000000
namespace Eb
open PySem L2
theorem mem_x (l : List Bool) : (120 ∈ (rowS l).cps.toList) ↔ true ∈ l := by
  show 120 ∈ (l.map sg).toArray.toList ↔ _
  rw [List.toList_toArray, List.mem_map]
  constructor
  · rintro ⟨b, hb, e⟩
    cases b
    · exact absurd e (by decide)
    · exact hb
  · intro h
    exact ⟨true, h, rfl⟩
theorem mem_true (l : List Bool) : true ∈ l ↔ 1 ≤ cnt l := by
  unfold cnt
  constructor
  · intro h
    have : true ∈ l.filter id := List.mem_filter.mpr ⟨h, rfl⟩
    have := List.length_pos_of_mem this
    omega
  · intro h
    cases e : l.filter id with
    | nil => rw [e] at h; simp at h
    | cons a r =>
      have ha : a ∈ l.filter id := by rw [e]; simp
      obtain ⟨h1, h2⟩ := List.mem_filter.mp ha
      have : a = true := h2
      subst this; exact h1
theorem in_x (l : List Bool) : (!(Builtin.Str.occurrences (rowS l) "x" 0 (rowS l).length 1).isEmpty) = decide (1 ≤ cnt l) := by
  rw [x_eq, PySem.StrLaws.found_one]
  exact decide_eq_decide.mpr ((mem_x l).trans (mem_true l))
end Eb
set_option maxHeartbeats 4000000
namespace L2
open PySem
theorem OwnC.exm {K : PySem.W.Frag} {t : Value} {D : Addr} {b : Bool} (O : OwnC K D) (be : PySem.W.subIn K (.ref D) (.type "BaseException") = some true) (s : PySem.W.subIn K t (.ref D) = some b) : PySem.W.exmOne K t (.ref D) = some b := by
  unfold PySem.W.exmOne
  rw [if_pos (by rw [be]; rfl)]
  exact O.cls s
theorem kit_bty {K : PySem.W.Frag} {C : Addr} {T : String} {b : Bool} (m : PySem.W.kitMeta T = true) (s : PySem.W.subIn K (.ref C) (.type T) = some b) : PySem.W.kitOne K (.ref C) (.type T) = some b := by
  unfold PySem.W.kitOne
  rw [if_neg (by intro z; cases z)]
  unfold PySem.W.kitCls
  dsimp only
  rw [if_pos m]
  exact s
theorem meta_ValueError : PySem.W.kitMeta "ValueError" = true := by decide +kernel
theorem xty_mk {K : PySem.W.Frag} {D : Addr} {cd : ClassData} (c : PySem.W.clsIn K D = some cd) (ga : PySem.W.findIn K (.ref D) "__getattribute__" = some (some (.builtin "BaseException.__getattribute__"))) (gn : PySem.W.findIn K (.ref D) "__getattr__" = some none) (hb : PySem.W.mroIn K D (.type "BaseException") = some true)
    (ha : PySem.W.findIn K (.ref D) "__class__" = some (some (.builtin "object.__class__"))) (hn : PySem.W.specialIn K (.builtin "object.__class__") "__get__" = some (some (.builtin "getset_descriptor.__get__")))
    (htk : PySem.W.takesIn K (.builtin "object.__class__") = some true) (hm : PySem.W.mroIn K D (.type "object") = some true) : XTy K D := ⟨by rw [c]; rfl, ga, gn, hb, ha, hn, htk, hm⟩
end L2
namespace Eb
open PySem L2
theorem ke_mk {K : PySem.W.Frag} {CT CR CC CN CU Ca : Addr} {r c n u : Bool} (x : XTy K Ca) (oT : OwnC K CT) (bT : PySem.W.subIn K (.ref CT) (.type "BaseException") = some true) (oR : OwnC K CR) (oC : OwnC K CC) (oN : OwnC K CN) (oU : OwnC K CU)
    (sT : PySem.W.subIn K (.ref Ca) (.ref CT) = some true) (sR : PySem.W.subIn K (.ref Ca) (.ref CR) = some r) (sC : PySem.W.subIn K (.ref Ca) (.ref CC) = some c) (sN : PySem.W.subIn K (.ref Ca) (.ref CN) = some n) (sU : PySem.W.subIn K (.ref Ca) (.ref CU) = some u)
    (sV : PySem.W.subIn K (.ref Ca) (.type "ValueError") = some true) (hR : (Value.ref Ca == Value.ref CR) = true → r = true) (hC : (Value.ref Ca == Value.ref CC) = true → c = true) (hN : (Value.ref Ca == Value.ref CN) = true → n = true) (hU : (Value.ref Ca == Value.ref CU) = true → u = true) :
    KE K CT CR CC CN CU Ca r c n u := ⟨x, oT.exm bT sT, oR.kit sR hR, oC.kit sC hC, oN.kit sN hN, oU.kit sU hU, kit_bty meta_ValueError sV⟩
end Eb
set_option maxHeartbeats 4000000
namespace Eb
open PySem L2
section
variable {l : List Bool} {mx mn : Int}
end
end Eb
set_option maxHeartbeats 4000000
namespace L2
open PySem PySem.Spec PyProof.Rows
section
variable {X : Cx}
end
section
variable {σ : St} {H : Hp} {ta tb : TE} {K : PySem.W.Frag}
theorem pv_max1 {p : Addr} {ns : List Int} {m : Int} (ha : Pv ta σ H (.ref p)) (hS : SqL K H p (ns.map V.int)) (hm : m ∈ ns) (hx : ∀ a, a ∈ ns → a ≤ m) :
    Pv (tCB (fun xs H Q => ∃ p, ∃ ns : List Int, xs = [.ref p] ∧ SqL K H p (ns.map V.int) ∧ 0 < ns.length ∧ ∀ M, M ∈ ns → (∀ a, a ∈ ns → a ≤ M) → Q (.int M) H) (tCons ta tNil)) σ H (.int m) :=
  fun Q q => ha _ ⟨p, ns, rfl, hS, List.length_pos_of_mem hm, fun M hM aM => by
    have h1 := hx M hM
    have h2 := aM m hm
    have e : M = m := by omega
    rw [e]; exact q⟩
theorem pv_min1 {p : Addr} {ns : List Int} {m : Int} (ha : Pv ta σ H (.ref p)) (hS : SqL K H p (ns.map V.int)) (hm : m ∈ ns) (hx : ∀ a, a ∈ ns → m ≤ a) :
    Pv (tCB (fun xs H Q => ∃ p, ∃ ns : List Int, xs = [.ref p] ∧ SqL K H p (ns.map V.int) ∧ 0 < ns.length ∧ ∀ M, M ∈ ns → (∀ a, a ∈ ns → M ≤ a) → Q (.int M) H) (tCons ta tNil)) σ H (.int m) :=
  fun Q q => ha _ ⟨p, ns, rfl, hS, List.length_pos_of_mem hm, fun M hM aM => by
    have h1 := hx M hM
    have h2 := aM m hm
    have e : M = m := by omega
    rw [e]; exact q⟩
theorem ex_max : ∀ {ns : List Int}, ns ≠ [] → ∃ m, m ∈ ns ∧ ∀ a, a ∈ ns → a ≤ m
  | [], h => absurd rfl h
  | [x], _ => ⟨x, by simp, fun a ha => by have : a = x := by simpa using ha
                                          omega⟩
  | x :: y :: r, _ => by
    obtain ⟨m, hm, h⟩ := ex_max (ns := y :: r) (by simp)
    by_cases c : m ≤ x
    · refine ⟨x, by simp, fun a ha => ?_⟩
      rcases List.mem_cons.mp ha with e | e
      · omega
      · have := h a e; omega
    · refine ⟨m, List.mem_cons_of_mem _ hm, fun a ha => ?_⟩
      rcases List.mem_cons.mp ha with e | e
      · omega
      · exact h a e
end
end L2
set_option maxHeartbeats 4000000
namespace Eb
open PySem L2
end Eb
set_option maxHeartbeats 4000000
namespace L2
open PySem PySem.Spec PyProof.Rows
def PCs (X : Cx) (ifs : List Expr) (tc : TT) : Prop :=
  ∀ (pins : List (Addr × Obj)) (s : Shared) (σ : St) (H : Hp) (Q : Bool → Hp → Prop), Inv X pins σ H s → tc σ H Q →
    wpAny (model X.prog X.w) X.A (forIn ifs true fun c r => if r = true then do let ok ← isTrue c X.env (eval c X.env); pure (ForInStep.yield ok) else pure (ForInStep.yield r)) (TP X pins σ Q) X.xe s
def tYes : TT := fun _ H Q => Q true H
theorem pc_nil {X : Cx} : PCs X [] tYes := fun _ _ _ H _ I h => wpAny_tests_nil ⟨H, I, h⟩
theorem pc_one {X : Cx} {c : Expr} {t : TT} (h : PT X c t) : PCs X [c] t := fun pins s σ H Q I q => wpAny_tests_one (h pins s σ H Q I q)
structure CompS2 (X : Cx) (scope : Scope) (cl : List (Str × Addr)) (zs ys : List Str) (js : List Nat) : Prop where
  clos : closureFor scope X.env = pure cl
  cell : ∀ z ∈ scope.names, z.2 ≠ .cell
  kind : scope.kind = .function
  names : ∀ z ∈ scope.names, z.2 = .local → scope.names.lookup z.1 = some .local
  sub : EachP (fun q : Str × Addr => X.env.cells.lookup q.1 = some q.2) cl
  has : EachP (fun q : Str × NameKind => q.2 = .local ∨ q.2 = .globalImplicit ∨ ∃ c, cl.lookup q.1 = some c) (relabel scope X.env).names
  cap : EachP (fun q : Str × Nat => X.N[q.2]? = some q.1 ∧ (X.env.kindOf q.1 = some .cell ∨ X.env.kindOf q.1 = some .free) ∧ ((relabel scope X.env).names.lookup q.1 = some .cell ∨ (relabel scope X.env).names.lookup q.1 = some .free)) (ys.zip js)
  len : ys.length = js.length
def tLC2 (J : It) (n : Nat) (g : TG) (tc : TT) (te : TE) (js : List Nat) (Q : VK) (σ : St) (H1 : Hp) : Prop :=
  ∀ D, H1 D = none → ∃ W : Nat → Nat → St → Hp → Prop, (∃ m, W 0 m (List.replicate n none ++ caps js σ) (upd H1 D (.lst []))) ∧ ∀ i m σ' H', W i m σ' H' →
    (J.stop i H' ∧ Q (.ref D) H') ∨ (J.go i H' ∧ ∃ N : St → Hp → Prop, (∀ σ'' H'', N σ'' H'' → ∃ m', m' < m ∧ W (i + 1) m' σ'' H'') ∧
      ∀ x H2, J.yld i H' x H2 → g x σ' H2 fun σ3 H3 => tc σ3 H3 fun b H4 => if b = true then te σ3 H4 fun v H5 => ∃ zs, H5 D = some (.lst zs) ∧ zs.length < sizeLine ∧ N σ3 (upd H5 D (.lst (zs ++ [v]))) else N σ3 H4)
theorem compLoop_any2 {prog : Program} {w : World} {A : Around} {R : Result → Shared → Prop} {s : Shared} {elt target iter : Expr} {ifs : List Expr} {scope : Scope} {pos : Pos} {it acc : Value} {env : Env} (I : Nat → Shared → Prop)
    (turn : ∀ n s, I n s → wpAny (model prog w) A (pyNext it) (fun r s₁ => match r with
      | none => R (.ok .next) s₁
      | some v => wpAny (model prog w) A (letOwnedTupleGo target it v) (fun _ s₁' => wpAny (model prog w) A (assign target env v) (fun _ s₂ =>
          wpAny (model prog w) A (forIn ifs true fun c r => if r = true then do let ok ← isTrue c env (eval c env); pure (ForInStep.yield ok) else pure (ForInStep.yield r)) (fun ok s₃ =>
            if ok = true then wpAny (model prog w) A (eval elt env) (fun x s₄ =>
                wpAny (model prog w) A (call (.builtin "list.append") [acc, x]) (fun _ s₅ => ∃ m, m < n ∧ I m s₅) (notedBy (model prog w) A env fun e s' => R (.error e) s') s₄) (notedBy (model prog w) A env fun e s' => R (.error e) s') s₃
              else ∃ m, m < n ∧ I m s₃) (notedBy (model prog w) A env fun e s' => R (.error e) s') s₂) (notedBy (model prog w) A env fun e s' => R (.error e) s') s₁') (notedBy (model prog w) A env fun e s' => R (.error e) s') s₁) (notedBy (model prog w) A env fun e s' => R (.error e) s') s)
    (n : Nat) (h : I n s) :
    codeAny (model prog w) A (.compLoop (.ListComp elt [⟨target, iter, ifs, 0⟩] scope pos) 0 it acc env) R s := by
  refine codeAny_loop rfl I (fun n s hI => ?_) n h
  show wpAny _ _ ((compTurn (.ListComp elt [⟨target, iter, ifs, 0⟩] scope pos) 0 it acc env).onRaise (fun x => do noteFrame x env; theTreesLotGoes x)) _ _ s
  refine wpAny_noted ?_
  rw [compTurn_list]
  refine wpAny_bind (wpAny_standAt (wpAny_bind (wpAny_mono (turn n s hI) (fun r s₁ h₁ => ?_) fun _ _ z => z)))
  cases r with
  | none => exact wpAny_pure h₁
  | some v =>
    refine wpAny_bind (wpAny_mono h₁ (fun _ s₁' h₁' => ?_) fun _ _ z => z)
    refine wpAny_bind (wpAny_mono h₁' (fun _ s₂ h₂ => wpAny_bind (wpAny_mono h₂ (fun ok s₃ h₃ => ?_) fun _ _ z => z)) fun _ _ z => z)
    cases ok with
    | false => exact wpAny_pure ⟨rfl, h₃⟩
    | true => exact wpAny_bind (wpAny_bind (wpAny_mono h₃ (fun x s₄ h₄ => wpAny_bind (wpAny_mono h₄ (fun _ s₅ h₅ => wpAny_pure (wpAny_pure ⟨rfl, h₅⟩)) fun _ _ z => z)) fun _ _ z => z))
section
variable {X : Cx} {elt iter tg : Expr} {ifs : List Expr} {pos : Pos} {scope : Scope} {cl : List (Str × Addr)} {zs ys : List Str} {js : List Nat} {te : TE} {tc : TT} {g : TG}
theorem CompS2.lookup (S : CompS2 X scope cl zs ys js) {x : Str} {c : Addr} (e : cl.lookup x = some c) : X.env.cells.lookup x = some c := S.sub.mem _ (PySem.mem_of_lookup e)
theorem comp_run2 (S : CompS2 X scope cl zs ys js) (hc : X.calm = true) (hgt : ∀ C s₀ H₀ fp, PG (X.comp scope cl C (zs ++ ys) s₀ H₀ fp) tg g) (hcs : ∀ C s₀ H₀ fp, PCs (X.comp scope cl C (zs ++ ys) s₀ H₀ fp) ifs tc) (helt : ∀ C s₀ H₀ fp, PE (X.comp scope cl C (zs ++ ys) s₀ H₀ fp) elt te)
    {pins : List (Addr × Obj)} {σ : St} {H2 : Hp} {s2 : Shared} {it : Addr} {fp : List Addr} {tn : Nat → Heap → Prop} {J : It} (I2 : Inv X pins σ H2 s2) (T : Turn X.prog X.w X.K tg J fp it tn) (st2 : tn 0 s2.heap) (f2 : ∀ b ∈ fp, FpOk X pins H2 b)
    {Q : VK} (q : tLC2 J zs.length g tc te js Q σ H2) {RR : Value → Addr → Result → Shared → Prop}
    (hRR : ∀ D C s' H' m, Inv X pins σ H' s' → s'.heap.Ns C m → H' C = none → s2.heap.objs.size ≤ C → Q (.ref D) H' → RR (.ref D) C (.ok .next) s') {E : Value → Shared → Prop} :
    wpAny (model X.prog X.w) X.A (newList []) (fun acc s3 => wpAny (model X.prog X.w) X.A (newFunctionEnv scope X.env.globals cl [] X.env.qual none .none (some X.env)) (fun cenv s4 =>
      codeAny (model X.prog X.w) X.A (.compStart (.ListComp elt [⟨tg, iter, ifs, 0⟩] scope pos) 0 (.ref it) acc { cenv with scope := relabel scope X.env }) (RR acc cenv.locals) s4) E s3) E s2 := by
  refine wpAny_newObj_type (wpAny_newFunctionEnv S.cell (by intro z hz; simp at hz) (fun h₁ hns₁ hsb₁ => ?_) S.kind)
  dsimp only at hns₁ hsb₁ ⊢
  generalize hH2 : s2.heap.push { cls := .type "list", dict := none, data := .seq ([] : List Value).toArray } = G at hns₁ hsb₁ ⊢
  have hC : G.objs.size = s2.heap.objs.size + 1 := by rw [← hH2, Heap.size_push]
  have hDC : s2.heap.objs.size ≠ G.objs.size := by rw [hC]; exact Nat.ne_of_lt (Nat.lt_succ_self _)
  have hCle : s2.heap.objs.size ≤ G.objs.size := by rw [hC]; exact Nat.le_succ _
  have below : ∀ b, b < s2.heap.objs.size → b ≠ G.objs.size ∧ b ≠ s2.heap.objs.size := fun b hb => ⟨by rw [hC]; exact Nat.ne_of_lt (Nat.lt_succ_of_lt hb), Nat.ne_of_lt hb⟩
  have old : ∀ b o, s2.heap.get? b = some o → h₁.get? b = some o := fun b o e => hsb₁.extBut b o (below b (Heap.lt_size e)).1 (Heap.get?_push_of_some _ (hH2 ▸ Heap.get?_push_of_some _ e))
  have hacc : h₁.get? s2.heap.objs.size = some { cls := .type "list", dict := none, data := .seq ([] : List Value).toArray } := hsb₁.extBut _ _ hDC (Heap.get?_push_of_some _ (hH2 ▸ Heap.get?_push_size _ rfl))
  have hDn : H2 s2.heap.objs.size = none := I2.hok.fresh (Nat.le_refl _)
  have hCn : H2 G.objs.size = none := I2.hok.fresh hCle
  have fpObj : ∀ b ∈ fp, b < s2.heap.objs.size := fun b hb => by
    obtain ⟨o, e, _⟩ := T.obj _ _ st2 b hb
    exact Heap.lt_size e
  obtain ⟨W, ⟨m0, w0⟩, turn⟩ := q s2.heap.objs.size hDn
  generalize hX : X.comp scope cl G.objs.size (zs ++ ys) s2 H2 fp = X'
  have okX : X'.Ok := by
    subst hX
    refine ⟨I2.ok.mod, S.kind, I2.ok.glob, I2.ok.blt, hCle, fun a b c h1 h2 => I2.ok.inj a b c (S.lookup h1) (S.lookup h2), fun a ha => ?_, fun a c h => (Bool.noConfusion h), fun h => I2.ok.hd h, I2.ok.frames, .inl rfl, fun b hb => ⟨(below b (fpObj b hb)).1, fun a c e => (f2 b hb).2.2.2.2.1 a c (S.lookup e)⟩,
      I2.bs, Nat.le_trans I2.ok.bsz I2.sz, fun b o e hb => ?_, fun b hb hs => ?_, I2.stack, I2.stkFree⟩
    · have hm : ∃ k, (a, k) ∈ (relabel scope X.env).names ∧ (k = .cell ∨ k = .free) := by
        rcases ha with ha | ha
        · exact ⟨_, PySem.mem_of_lookup ha, .inl rfl⟩
        · exact ⟨_, PySem.mem_of_lookup ha, .inr rfl⟩
      obtain ⟨k, hk, hk2⟩ := hm
      rcases S.has.mem _ hk with z | z | z
      · have z' : k = .local := z
        rcases hk2 with r | r <;> rw [r] at z' <;> cases z'
      · have z' : k = .globalImplicit := z
        rcases hk2 with r | r <;> rw [r] at z' <;> cases z'
      · exact z
    · rcases (f2 b hb).2.2.2.1 with z | z
      · exact I2.ok.noex b o e z
      · exact absurd (Nat.lt_of_lt_of_le (Heap.lt_size (I2.ok.bs b o e).1) z) (Nat.lt_irrefl _)
    · rcases List.mem_cons.mp (I2.stkSub b hs) with z | z
      · exact (f2 b hb).2.1 z
      · exact (f2 b hb).2.2.1 z
  have fpX : ∀ {H' : Hp} {b : Addr}, b ∈ fp → H' b = none → FpOk X' [] H' b := fun {H' b} hb hn => by
    subst hX
    exact ⟨hn, (below b (fpObj b hb)).1, fun z => okX.exfs b hb z, .inl hb, fun a c e => (f2 b hb).2.2.2.2.1 a c (S.lookup e), fun p hp => absurd (show p ∈ ([] : List (Addr × Obj)) from hp) (by simp)⟩
  have I3 : Inv X' [] (List.replicate zs.length none ++ caps js σ) (upd H2 s2.heap.objs.size (.lst [])) { s2 with heap := h₁, toks := s2.toks + ([] : List (Str × Value)).length } := by
    obtain ⟨m, hn, hl⟩ := I2.loc
    subst hX
    refine ⟨okX, rfl, I2.bare, Un.laid old (Nat.le_refl _) hDn, ⟨_, hns₁, fun i x v e1 e2 e3 => ?_⟩, fun x c e => ?_, ?_, fun x c e => ?_, fun p hp => absurd (show p ∈ ([] : List (Addr × Obj)) from hp) (by simp), I2.hok.laid old (Nat.le_refl _) ⟨Nat.zero_le _, [], _, .nil, hacc⟩, ?_⟩
    · by_cases hik : i < zs.length
      · rw [List.getElem?_append_left (by rw [List.length_replicate]; exact hik), List.getElem?_replicate, if_pos hik] at e2
        cases e2
      · obtain ⟨k, rfl⟩ : ∃ k, i = zs.length + k := ⟨i - zs.length, by omega⟩
        have e2' : (caps js σ)[k]? = some (some v) := by
          rw [List.getElem?_append_right (by rw [List.length_replicate]; omega), List.length_replicate, Nat.add_sub_cancel_left] at e2; exact e2
        have e1' : ys[k]? = some x := by
          have e1 : (zs ++ ys)[zs.length + k]? = some x := e1
          rw [List.getElem?_append_right (by omega), Nat.add_sub_cancel_left] at e1; exact e1
        unfold caps at e2'
        rw [List.getElem?_map] at e2'
        cases hj : js[k]? with
        | none => rw [hj] at e2'; cases e2'
        | some j =>
          rw [hj] at e2'
          have e2'' : (σ[j]?).join = some v := Option.some.inj e2'
          have hσ : σ[j]? = some (some v) := by
            cases hs : σ[j]? with
            | none => rw [hs] at e2''; cases e2''
            | some z => rw [hs] at e2''; cases z with
              | none => cases e2''
              | some z' => cases e2''; rfl
          have hz : (ys.zip js)[k]? = some (x, j) := by rw [List.getElem?_zip_eq_some]; exact ⟨e1', hj⟩
          obtain ⟨c1, c2, c3⟩ := S.cap.mem _ (List.mem_of_getElem? hz)
          obtain ⟨u, r, l⟩ := hl j x v c1 hσ (by rcases c2 with c2 | c2; exact .inr (.inl c2); exact .inr (.inr c2))
          refine ⟨u, r, .inr ⟨c3, ?_⟩⟩
          rcases l with ⟨k1, _⟩ | ⟨_, c, k2, o, ho, hd⟩
          · have k1' : X.env.kindOf x = some .local := k1
            rcases c2 with c2 | c2 <;> rw [show X.env.kindOf x = _ from c2] at k1' <;> cases k1'
          · have hcl : ∃ c', cl.lookup x = some c' := by
              have hm : ∃ k, (x, k) ∈ (relabel scope X.env).names ∧ (k = .cell ∨ k = .free) := by
                rcases c3 with ha | ha
                · exact ⟨_, PySem.mem_of_lookup ha, .inl rfl⟩
                · exact ⟨_, PySem.mem_of_lookup ha, .inr rfl⟩
              obtain ⟨k, hk, hk2⟩ := hm
              rcases S.has.mem _ hk with z | z | z
              · have z' : k = .local := z
                rcases hk2 with r | r <;> rw [r] at z' <;> cases z'
              · have z' : k = .globalImplicit := z
                rcases hk2 with r | r <;> rw [r] at z' <;> cases z'
              · exact z
            obtain ⟨c', hc'⟩ := hcl
            have ec : c' = c := by
              have := S.lookup hc'
              rw [k2] at this
              exact (Option.some.inj this).symm
            subst ec
            exact ⟨c', hc', o, old _ _ ho, hd⟩
    · obtain ⟨v, o, ho, hd⟩ := I2.cell x c (S.lookup e)
      exact ⟨v, o, old _ _ ho, hd⟩
    · show upd H2 s2.heap.objs.size (.lst []) G.objs.size = none
      rw [upd_ne (Ne.symm hDC)]; exact hCn
    · obtain ⟨v, o, ho, hd⟩ := I2.cell x c (S.lookup e)
      rw [upd_ne (below c (Heap.lt_size ho)).2]; exact I2.freeC x c (S.lookup e)
    · show (List.replicate zs.length none ++ caps js σ).length = (zs ++ ys).length
      simp [caps, S.len]
  -- back to the outer context
  have back : ∀ {pl : List (Addr × Obj)} {σ' : St} {H' : Hp} {s' : Shared}, Inv X' pl σ' H' s' → Inv X pins σ H' s' := fun {pl σ' H' s'} J' => by
    have os := J'.os
    have un := J'.base
    have hok := J'.hok
    have bare := J'.bare
    subst hX
    obtain ⟨hh, g, d, t, os'⟩ := s'
    obtain rfl : os' = s2.os := os
    exact I2.call (h' := hh) (g' := g) (d' := d) (t' := t) (ch := fp) un hok bare (fun b hb => ⟨(f2 b hb).2.2.2.1, (f2 b hb).2.1, (f2 b hb).2.2.2.2.1, (f2 b hb).2.2.2.2.2⟩)
  have xeX : ∀ e s', X'.xe e s' → False := by subst hX; exact fun _ _ h => h
  have heltX : PE X' elt te := by subst hX; exact helt _ _ _ _
  have hgX : PG X' tg g := by subst hX; exact hgt _ _ _ _
  have hcX : PCs X' ifs tc := by subst hX; exact hcs _ _ _ _
  have eA : X'.A = X.A := by subst hX; rfl
  have eP : X'.prog = X.prog := by subst hX; rfl
  have eW : X'.w = X.w := by subst hX; rfl
  have eK : X'.K = X.K := by subst hX; rfl
  have eC : X'.calm = true := by subst hX; exact hc
  have eE : X'.env = compEnvC scope cl G.objs.size X.env := by subst hX; rfl
  have locX : ∀ {pl : List (Addr × Obj)} {σ' : St} {H' : Hp} {s' : Shared}, Inv X' pl σ' H' s' → (∃ m, s'.heap.Ns G.objs.size m) ∧ H' G.objs.size = none := fun {pl σ' H' s'} J' => by
    obtain ⟨m, hn, _⟩ := J'.loc
    have hf := J'.free
    subst hX
    exact ⟨⟨m, hn⟩, hf⟩
  have loop : ∀ s3 : Shared, s3 = { s2 with heap := h₁, toks := s2.toks + ([] : List (Str × Value)).length } →
      codeAny (model X.prog X.w) X.A (.compLoop (.ListComp elt [⟨tg, iter, ifs, 0⟩] scope pos) 0 (.ref it) (.ref s2.heap.objs.size) (compEnvC scope cl G.objs.size X.env)) (RR (.ref s2.heap.objs.size) G.objs.size) s3 := by
    rintro s3 rfl
    refine compLoop_any2 (fun n s' => ∃ i σ' H', Inv X' [] σ' H' s' ∧ tn i s'.heap ∧ (∀ b ∈ fp, H' b = none) ∧ W i n σ' H') ?_ m0 ⟨0, _, _, I3, T.keep _ _ _ st2 fun b _ o e => old b o e, fun b hb => ?_, w0⟩
    · rintro n s4 ⟨i, σ4, H4, I4, st4, fr4, w4⟩
      rcases turn i n σ4 H4 w4 with ⟨stop, qn⟩ | ⟨go, N, hN, step⟩
      · have hT := T.done X' eP eW eK eC i [] s4 σ4 H4 (notedBy (model X.prog X.w) X.A (compEnvC scope cl G.objs.size X.env) fun e s' => RR (.ref s2.heap.objs.size) G.objs.size (.error e) s') I4 (fun b hb => fpX hb (fr4 b hb)) st4 stop
        rw [eA] at hT
        refine thn hT fun r s5 ⟨hr, I5⟩ => ?_
        subst hr
        obtain ⟨⟨m, hn⟩, hf⟩ := locX I5
        exact hRR _ _ s5 H4 m (back I5) hn hf hCle qn
      · have hT := T.item X' eP eW eK eC i [] s4 σ4 H4 (notedBy (model X.prog X.w) X.A (compEnvC scope cl G.objs.size X.env) fun e s' => RR (.ref s2.heap.objs.size) G.objs.size (.error e) s') I4 (fun b hb => fpX hb (fr4 b hb)) st4 go
        rw [eA] at hT
        refine thn hT fun r s5 ⟨u, hr, h5⟩ => ?_
        subst hr
        refine thn h5 fun _ s6 ⟨x, H6, I6, r6, y6, st6, fr6⟩ => ?_
        have I6' := I6.pinned (fun b hb => fpX hb (fr6 b hb)) (T.obj _ _ st6)
        have hg := hgX _ s6 σ4 H6 x u _ I6' r6 (step x H6 y6)
        rw [eP, eW, eA, eE] at hg
        refine wpAny_mono hg (fun _ s7 ⟨σ7, H7, I7, q7⟩ => ?_) fun _ _ f => (xeX _ _ f).elim
        have ht := hcX _ s7 σ7 H7 _ I7 q7
        rw [eP, eW, eA, eE] at ht
        refine wpAny_mono ht (fun ok s7' ⟨H7', I7', q7'⟩ => ?_) fun _ _ f => (xeX _ _ f).elim
        have fin : ∀ {H9 : Hp} {s9 : Shared} {σ9 : St}, Inv X' ([] ++ pinsAt fp s6.heap) σ9 H9 s9 → N σ9 H9 → ∃ m, m < n ∧ ∃ i σ' H', Inv X' [] σ' H' s9 ∧ tn i s9.heap ∧ (∀ b ∈ fp, H' b = none) ∧ W i m σ' H' := by
          intro H9 s9 σ9 I9 q9
          obtain ⟨m', hm, w9⟩ := hN _ _ q9
          refine ⟨m', hm, i + 1, _, _, I9.unpinned, T.keep _ _ _ st6 fun b hb o e => (I9.pin (b, o) (List.mem_append_right _ (List.mem_append_right _ (mem_pinsAt hb e)))).1, fun b hb => ?_, w9⟩
          obtain ⟨o, e, d⟩ := T.obj _ _ st6 b hb
          exact (I9.pin (b, o) (List.mem_append_right _ (List.mem_append_right _ (mem_pinsAt hb e)))).2.1
        cases ok with
        | false => rw [if_neg (by decide)] at q7' ⊢; exact fin I7' q7'
        | true =>
          rw [if_pos rfl] at q7' ⊢
          have he := heltX _ s7' σ7 H7' _ I7' q7'
          rw [eP, eW, eA, eE] at he
          refine wpAny_mono he (fun v s8 ⟨x8, H8, I8, r8, zs8, hD8, hz8, q8⟩ => ?_) fun _ _ f => (xeX _ _ f).elim
          have ha := mt_append (X := X') _ s8 _ H8 (.ref s2.heap.objs.size) [x8] (.ref s2.heap.objs.size) [v] (fun _ H9 => H9 = upd H8 s2.heap.objs.size (.lst (zs8 ++ [x8]))) I8 rfl (.cons r8 .nil) ⟨_, zs8, x8, rfl, rfl, hD8, hz8, rfl⟩
          rw [eP, eW, eA] at ha
          refine wpAny_mono ha (fun _ s9 ⟨x9, H9, I9, r9, e9⟩ => ?_) fun _ _ f => (xeX _ _ f).elim
          subst e9
          exact fin I9 q8
    · rw [upd_ne (below b (fpObj b hb)).2]; exact (f2 b hb).1
  exact codeAny_compStart_list (loop _ rfl) (T.self _ 0 _ _ _ (T.keep _ _ _ st2 fun b _ o e => old b o e) (loop _ rfl))
theorem pe_lc2 {wi : TI} (hi : PI X tg iter wi) (S : CompS2 X scope cl zs ys js) (hc : X.calm = true) (hgt : ∀ C s₀ H₀ fp, PG (X.comp scope cl C (zs ++ ys) s₀ H₀ fp) tg g) (hcs : ∀ C s₀ H₀ fp, PCs (X.comp scope cl C (zs ++ ys) s₀ H₀ fp) ifs tc) (helt : ∀ C s₀ H₀ fp, PE (X.comp scope cl C (zs ++ ys) s₀ H₀ fp) elt te)
    (hs : ∀ x, foldedSetIterable iter X.env x = pure x := by intro _; rfl) : PE X (.ListComp elt [⟨tg, iter, ifs, 0⟩] scope pos) (fun σ H Q => wi σ H fun J H1 => tLC2 J zs.length g tc te js Q σ H1) := by
  intro pins s σ H Q I h
  rw [eval_ListComp]
  refine wpAny_comprehension_free (use := none) rfl hs S.clos S.kind S.names (thn (hi pins s σ H _ I h) fun v s1 h1 => thn h1 fun itv s2 h2 => ?_)
  obtain ⟨it, fp, tn, J, H2, rfl, I2, T, st2, f2, q⟩ := h2
  refine comp_run2 S hc hgt hcs helt I2 T st2 f2 q (RR := fun acc C => compPost (model X.prog X.w) X.A X.xe none (EP X pins σ Q) acc C) fun D C s' H' m I' hn hC hle q' => ?_
  obtain ⟨g0, g1, g2, g3, g4, g5⟩ := I2.fpOk hle hC
  exact ⟨m, hn, fun h' sb => ⟨.ref D, H', I'.turned (t' := s'.toks) (fun b o hb e => sb.extBut b o hb e) g0 g1 g3 g4 g5, rfl, q'⟩⟩
theorem ps_lc2 {wi : TI} {i : Nat} {x : Str} {px spos : Pos} (hi : PI X tg iter wi) (S : CompS2 X scope cl zs ys js) (hc : X.calm = true) (hgt : ∀ C s₀ H₀ fp, PG (X.comp scope cl C (zs ++ ys) s₀ H₀ fp) tg g) (hcs : ∀ C s₀ H₀ fp, PCs (X.comp scope cl C (zs ++ ys) s₀ H₀ fp) ifs tc) (helt : ∀ C s₀ H₀ fp, PE (X.comp scope cl C (zs ++ ys) s₀ H₀ fp) elt te)
    (hg : PG X (.Name x px) (gName i)) (hsw : swapsWith (.ListComp elt [⟨tg, iter, ifs, 0⟩] scope pos) (some (.Name x px)) spos.line X.env = pure true := by rfl)
    (hs : ∀ x, foldedSetIterable iter X.env x = pure x := by intro _; rfl) :
    PS X (.Assign [.Name x px] (.ListComp elt [⟨tg, iter, ifs, 0⟩] scope pos) spos) (fun D σ H => wi σ H fun J H1 => tLC2 J zs.length g tc te js (fun v H2 => D.nx (σ.set i (some v)) H2) σ H1) := by
  intro pins s σ H D I h
  rw [exec_Assign_Name_used _ _ _ _ hsw]
  refine wpAny_bind (wpAny_standAt (wpAny_bind ?_))
  show wpAny _ X.A (do let _ ← comprehension (.ListComp elt [⟨tg, iter, ifs, 0⟩] scope pos) scope X.env _ (newList []) false (eval iter X.env) (some (assign (.Name x px) X.env))) _ _ s
  refine wpAny_bind (wpAny_mono (wpAny_comprehension_free (use := some (assign (.Name x px) X.env)) (Q := fun _ s' => SP X pins D .next s') rfl hs S.clos S.kind S.names
    (thn (hi pins s σ H _ I h) fun v s1 h1 => thn h1 fun itv s2 h2 => ?_)) (fun _ s' hq => wpAny_pure (wpAny_pure hq)) fun _ _ e => e)
  obtain ⟨it, fp, tn, J, H2, rfl, I2, T, st2, f2, q⟩ := h2
  refine comp_run2 S hc hgt hcs helt I2 T st2 f2 q (RR := fun acc C => compPost (model X.prog X.w) X.A X.xe (some (assign (.Name x px) X.env)) (fun _ s' => SP X pins D .next s') acc C) fun L C s' H' m I' hn hC hle q' => ?_
  obtain ⟨g0, g1, g2, g3, g4, g5⟩ := I2.fpOk hle hC
  obtain ⟨oC, es, ep, hoC, hdC, hrC⟩ := id hn
  have IP : Inv X (pins ++ [(C, oC)]) σ H' s' := I'.pins_of fun p hp => (List.mem_append.mp hp).elim (fun z => I'.pin p (List.mem_append_right _ z)) fun z => by
    have e : p = (C, oC) := by simpa using z
    subst e
    exact ⟨hoC, hC, g1, g2, fun v z => by rw [hdC] at z; cases z⟩
  show wpAny _ X.A (assign (.Name x px) X.env (.ref L)) _ _ _
  refine thn (hg _ s' σ H' (.ref L) (.ref L) (fun σ3 H3 => σ3 = σ.set i (some (.ref L)) ∧ H3 = H') IP rfl ⟨rfl, rfl⟩) fun _ s3 ⟨σ3, H3, I3, e3, e4⟩ => ?_
  subst e3 e4
  have pC := I3.pin (C, oC) (List.mem_append_right _ (List.mem_append_right _ (List.mem_singleton.mpr rfl)))
  refine ⟨m, ⟨oC, es, ep, pC.1, hdC, hrC⟩, fun h' sb => ⟨_, _, I3.unpinned.turned (t' := s3.toks) (fun b o hb e => sb.extBut b o hb e) g0 g1 g3 g4 g5, q'⟩⟩
end
end L2
set_option maxHeartbeats 4000000
namespace L2
open PySem PySem.Spec PyProof.Rows
section
variable {X : Cx} {pins : List (Addr × Obj)} {σ : St} {H : Hp} {s : Shared} {h' : Heap}
theorem Inv.movedLay {t' : Nat} {ch : List Addr} {T : Addr} {o : HO} (I : Inv X pins σ H s) (k : ∀ b u, b ∉ ch → s.heap.get? b = some u → h'.get? b = some u) (hf : ∀ b ∈ ch, FpOk X pins H b)
    (hT : s.heap.objs.size ≤ T) (new : ObjOk X.prog X.w (upd H T o) h' T o) : Inv X pins σ (upd H T o) { s with heap := h', toks := t' } := by
  have hn : H T = none := I.hok.fresh hT
  have neT : ∀ b u, H b = some u → b ≠ T := fun b u e z => by rw [z, hn] at e; cases e
  have nch : ∀ b u, H b = some u → b ∉ ch := fun b u e z => by rw [(hf b z).1] at e; cases e
  refine I.step (g' := s.gens) (d' := s.drawn) (ch := ch) (fun b hb => ?_) (fun b u _ _ hc e _ => k b u hc e) (fun b u _ _ hc e _ => ⟨u.slots, k b u hc e⟩) (fun b u _ e n => ?_)
    (fun b u hc e => ⟨u, k b u hc e⟩) (fun b xs e => ?_) (fun b u v e => ?_) (fun b ps e => ⟨#[], ?_⟩) (fun m hm => ?_) (fun b u e => ?_) I.bare
  · obtain ⟨f0, f1, f2, f3, f4, f5⟩ := hf b hb
    exact ⟨f3, f1, f4, f5⟩
  · rw [upd_ne (fun z => by rw [z] at e; exact absurd (Heap.lt_size e) (Nat.not_lt.mpr hT))]; exact n
  · rw [upd_ne (neT b _ e)]; exact e
  · rw [upd_ne (neT b _ e)]; exact e
  · rw [upd_ne (neT b _ e), e]; simp
  · obtain ⟨q, es, ep, ho, r⟩ := hm
    exact ⟨q, es, ep, k _ q (fun z => (hf _ z).2.1 rfl) ho, r⟩
  · by_cases c : b = T
    · subst c
      rw [upd_same] at e
      cases e
      exact new
    · rw [upd_ne c] at e
      refine (I.hok b u e).stay (fun c v hc q => k c v ?_ q) (fun c q => by rw [upd_ne (neT c _ q)]; exact q) fun c xs q => by rw [upd_ne (neT c _ q)]; exact q
      rcases hc with z | z
      · rw [z]; exact nch b u e
      · exact nch c _ z
theorem Inv.moved {t' : Nat} {ch : List Addr} (I : Inv X pins σ H s) (k : ∀ b u, b ∉ ch → s.heap.get? b = some u → h'.get? b = some u) (hf : ∀ b ∈ ch, FpOk X pins H b) : Inv X pins σ H { s with heap := h', toks := t' } := by
  have nch : ∀ b u, H b = some u → b ∉ ch := fun b u e z => by rw [(hf b z).1] at e; cases e
  refine I.step (g' := s.gens) (d' := s.drawn) (ch := ch) (fun b hb => ?_) (fun b u _ _ hc e _ => k b u hc e) (fun b u _ _ hc e _ => ⟨u.slots, k b u hc e⟩) (fun b u _ e n => n)
    (fun b u hc e => ⟨u, k b u hc e⟩) (fun b xs e => e) (fun b u v e => e) (fun b ps e => ⟨#[], by rw [e]; simp⟩) (fun m hm => ?_) (fun b u e => ?_) I.bare
  · obtain ⟨f0, f1, f2, f3, f4, f5⟩ := hf b hb
    exact ⟨f3, f1, f4, f5⟩
  · obtain ⟨q, es, ep, ho, r⟩ := hm
    exact ⟨q, es, ep, k _ q (fun z => (hf _ z).2.1 rfl) ho, r⟩
  · refine (I.hok b u e).stay (fun c v hc q => k c v ?_ q) (fun c q => q) fun c xs q => q
    rcases hc with z | z
    · rw [z]; exact nch b u e
    · exact nch c _ z
end
def Itz (K : PySem.W.Frag) (l1 l2 : Addr) : It :=
  ⟨fun i H => ∃ xs ys x y, SqL K H l1 xs ∧ SqL K H l2 ys ∧ xs[i]? = some x ∧ ys[i]? = some y,
   fun i H v H' => ∃ T x y, v = .ref T ∧ H T = none ∧ H' = upd H T (.tup [x, y]) ∧ (∀ xs, SqL K H l1 xs → xs[i]? = some x) ∧ ∀ ys, SqL K H l2 ys → ys[i]? = some y,
   fun i H => ∃ xs ys, SqL K H l1 xs ∧ SqL K H l2 ys ∧ i = min xs.length ys.length⟩
theorem turn_zip {P : Program} {w : World} {K : PySem.W.Frag} {elts : List Expr} {k : Nat} {tp : Pos} (z TI TO i1 i2 l1 l2 : Addr) (D : ZipApart z TI TO i1 i2 l1 l2) :
    Turn P w K (.Tuple elts k tp) (Itz K l1 l2) [z, TI, TO, i1, i2] z (fun i h => IsZip h z TI TO .none ∧ IsPair h TI (.ref i1) (.ref i2) ∧ (∃ a b, IsPair h TO a b) ∧ h.IsListIter i1 l1 i ∧ h.IsListIter i2 l2 i) where
  mem := by simp
  obj := fun i h st b hb => by
    obtain ⟨g1, g2, ⟨a, c, g3⟩, ⟨o4, g4, c4, d4⟩, ⟨o5, g5, c5, d5⟩⟩ := st
    rcases List.mem_cons.mp hb with rfl | hb
    · exact ⟨_, g1, fun v z => by cases z⟩
    rcases List.mem_cons.mp hb with rfl | hb
    · exact ⟨_, g2, fun v z => by cases z⟩
    rcases List.mem_cons.mp hb with rfl | hb
    · exact ⟨_, g3, fun v z => by cases z⟩
    rcases List.mem_cons.mp hb with rfl | hb
    · exact ⟨_, g4, fun v z => by rw [d4] at z; cases z⟩
    · have e : b = i2 := by simpa using hb
      subst e
      exact ⟨_, g5, fun v z => by rw [d5] at z; cases z⟩
  keep := fun i h h' st kk => by
    obtain ⟨g1, g2, ⟨a, c, g3⟩, g4, g5⟩ := st
    exact ⟨kk z (by simp) _ g1, kk TI (by simp) _ g2, ⟨a, c, kk TO (by simp) _ g3⟩, g4.at fun o e => kk i1 (by simp) o e, g5.at fun o e => kk i2 (by simp) o e⟩
  item := by
    intro X hP hw hK hc i pins s σ H E I hf st hg
    subst hP hw hK
    obtain ⟨xs, ys, x, y, q1, q2, hx, hy⟩ := hg
    obtain ⟨us, r1, p1, z1⟩ := I.list q1
    obtain ⟨vs, r2, p2, z2⟩ := I.list q2
    obtain ⟨u, hu, ru⟩ := r1.get hx
    obtain ⟨v, hv, rv⟩ := r2.get hy
    obtain ⟨g1, g2, g3, g4, g5⟩ := st
    have W := WalksT.zip2 (prog := X.prog) (w := X.w) (A := X.A) (I.ok.hd hc) z TI TO i1 i2 l1 l2 D us.toArray vs.toArray
    have iu : i < us.length := (List.getElem?_eq_some_iff.mp hu).1
    have iv : i < vs.length := (List.getElem?_eq_some_iff.mp hv).1
    refine W.item i s _ E (by simp; omega) ⟨g1, g2, g3, g4, g5, p1.isList, p2.isList⟩ fun T vals h' tk hPt hT hTup hMid hk => ⟨.ref T, rfl, ?_⟩
    obtain ⟨u', v', hu', hv', rfl⟩ := hPt
    have eu : u' = u := by
      have h := hu'
      rw [List.getElem?_toArray, hu] at h; exact (Option.some.inj h).symm
    have ev : v' = v := by
      have h := hv'
      rw [List.getElem?_toArray, hv] at h; exact (Option.some.inj h).symm
    subst eu ev
    have fps : ∀ b ∈ [z, TO, i1, i2], FpOk X pins H b := fun b hb => hf b (by simp at hb ⊢; rcases hb with rfl | rfl | rfl | rfl <;> simp)
    have hTn : H T = none := I.hok.fresh hT
    have ltT : ∀ b ∈ [z, TI, TO, i1, i2], b ≠ T := fun b hb e => by
      have lt : ∀ {c o}, s.heap.get? c = some o → c ≠ T := fun q z => by rw [z] at q; exact absurd (Heap.lt_size q) (Nat.not_lt.mpr hT)
      obtain ⟨a, c, g3'⟩ := g3
      obtain ⟨o4, g4', _⟩ := g4
      obtain ⟨o5, g5', _⟩ := g5
      simp at hb
      rcases hb with rfl | rfl | rfl | rfl | rfl
      · exact lt g1 e
      · exact lt g2 e
      · exact lt g3' e
      · exact lt g4' e
      · exact lt g5' e
    have I1 : Inv X pins σ (upd H T (.tup [x, y])) { s with heap := h', toks := tk } := I.movedLay (ch := [z, TO, i1, i2]) (fun b o hb e => hk b o hb e) fps hT ⟨by show 2 ≤ sizeLine; decide, [u', v'], .cons ru (.cons rv .nil), hTup⟩
    have fps1 : ∀ b ∈ [z, TI, TO, i1, i2], FpOk X pins (upd H T (.tup [x, y])) b := fun b hb => by
      obtain ⟨f0, f⟩ := hf b hb
      exact ⟨by rw [upd_ne (ltT b hb)]; exact f0, f⟩
    refine W.go elts k tp i T _ _ E hMid fun h'' st' hk' => ⟨.ref T, _, I1.moved (t' := tk) (ch := [z, TO, i1, i2]) (fun b o hb e => hk' b o hb e) (fun b hb => fps1 b (by simp at hb ⊢; rcases hb with rfl | rfl | rfl | rfl <;> simp)), rfl, ⟨T, x, y, rfl, hTn, rfl, fun zs hz => ?_, fun zs hz => ?_⟩, ?_, fun b hb => (fps1 b hb).1⟩
    · rw [I.list_inj hz q1]; exact hx
    · rw [I.list_inj hz q2]; exact hy
    · obtain ⟨s1, s2, s3, s4, s5, _, _⟩ := st'
      exact ⟨s1, s2, s3, s4, s5⟩
  done := by
    intro X hP hw hK hc i pins s σ H E I hf st hg
    subst hP hw hK
    obtain ⟨xs, ys, q1, q2, rfl⟩ := hg
    obtain ⟨us, r1, p1, z1⟩ := I.list q1
    obtain ⟨vs, r2, p2, z2⟩ := I.list q2
    obtain ⟨g1, g2, g3, g4, g5⟩ := st
    have W := WalksT.zip2 (prog := X.prog) (w := X.w) (A := X.A) (I.ok.hd hc) z TI TO i1 i2 l1 l2 D us.toArray vs.toArray
    have e : min us.toArray.size vs.toArray.size = min xs.length ys.length := by simp [r1.length, r2.length]
    refine W.done s _ E ?_ fun h' tk hk => ⟨rfl, I.moved (ch := [z, TO, i1, i2]) (fun b o hb e => hk b o hb e) fun b hb => hf b (by simp at hb ⊢; rcases hb with rfl | rfl | rfl | rfl <;> simp)⟩
    rw [e]
    exact ⟨g1, g2, g3, g4, g5, p1.isList, p2.isList⟩
  self := fun _ _ _ _ _ st h => wpAny_pyIter_zip st.1 h
theorem apart_of {a b : Nat} (h : a < b ∨ b < a) : a ≠ b := by omega
theorem zip_apart (n a b : Nat) (h1 : a < n) (h2 : b < n) : ZipApart (n + 4) (n + 2) (n + 3) n (n + 1) a b := by
  constructor <;> exact apart_of (by omega)
theorem bo_zip : bootBuiltins "zip" = some (.type "zip") := by decide +kernel
section
variable {X : Cx}
def iZip (K : PySem.W.Frag) (ta : TA) : TI := fun σ H R => ta σ H fun vs H1 => ∃ l1 l2 xs ys, vs = [.ref l1, .ref l2] ∧ SqL K H1 l1 xs ∧ SqL K H1 l2 ys ∧ R (Itz K l1 l2) H1
theorem pi_zip {elts : List Expr} {k : Nat} {a b : Expr} {ta : TA} {p pos tp : Pos} (hg : Gl X "zip") (hm : X.mg "zip" = none) (ha : PA X [a, b] ta) (hs : starEach [a, b] X.env = [(false, eval a X.env), (false, eval b X.env)] := by rfl) (hs2 : starEach [b] X.env = [(false, eval b X.env)] := by rfl) :
    PI X (.Tuple elts k tp) (.Call (.Name "zip" p) [a, b] [] pos) (iZip X.K ta) := by
  intro pins s σ H R I h
  refine Call_ (ld_blt I hg hm bo_zip (PyProof.Rows.callWith_type1 (thn (ha pos pins s σ H _ I h) fun us s1 ⟨vs, H1, I1, r1, q1⟩ => ?_) (by rw [hs, hs2]) (by rw [hs2]; rfl)))
  obtain ⟨l1, l2, xs, ys, rfl, q1, q2, q⟩ := q1
  obtain ⟨u, u', rfl, e1, e2⟩ := vals2 r1
  cases e1
  cases e2
  obtain ⟨vs1, rr1, p1, z1⟩ := I1.list q1
  obtain ⟨vs2, rr2, p2, z2⟩ := I1.list q2
  have lt1 : l1 < s1.heap.objs.size := by obtain ⟨o, e, _⟩ := p1.isList; exact Heap.lt_size e
  have lt2 : l2 < s1.heap.objs.size := by obtain ⟨o, e, _⟩ := p2.isList; exact Heap.lt_size e
  have D : ZipApart (s1.heap.objs.size + 4) (s1.heap.objs.size + 2) (s1.heap.objs.size + 3) s1.heap.objs.size (s1.heap.objs.size + 1) l1 l2 := zip_apart _ _ _ lt1 lt2
  refine call_zip_2 p1.isList p2.isList fun h' hz hTI hTO h1 h2 hsz hk => wpAny_pyIter_zip hz ?_
  refine ⟨_, [s1.heap.objs.size + 4, s1.heap.objs.size + 2, s1.heap.objs.size + 3, s1.heap.objs.size, s1.heap.objs.size + 1], _, _, H1, rfl, I1.kept (t' := s1.toks) hk, turn_zip _ _ _ _ _ l1 l2 D, ⟨hz, hTI, ⟨_, _, hTO⟩, h1, h2⟩, fun b hb => ?_, q⟩
  have hb' : s1.heap.objs.size ≤ b := by
    simp at hb
    rcases hb with rfl | rfl | rfl | rfl | rfl
    · exact Nat.le_add_right _ _
    · exact Nat.le_add_right _ _
    · exact Nat.le_add_right _ _
    · exact Nat.le_refl _
    · exact Nat.le_add_right _ _
  exact I1.fpOk hb' (I1.hok.fresh hb')
end
theorem lc2_rangeIf {te : TE} {tc : TT} {js : List Nat} {Q : VK} {σ : St} {H : Hp} {lo : Int} {n : Nat} (f : Nat → V) (b : Nat → Bool) (hn : n ≤ sizeLine)
    (hc : ∀ i D zs (R : Bool → Hp → Prop), i < n → H D = none → R (b i) (upd H D (.lst zs)) → tc (some (.int (lo + i)) :: caps js σ) (upd H D (.lst zs)) R)
    (he : ∀ i D zs (R : VK), i < n → b i = true → H D = none → R (f i) (upd H D (.lst zs)) → te (some (.int (lo + i)) :: caps js σ) (upd H D (.lst zs)) R)
    (hq : ∀ D, H D = none → Q (.ref D) (upd H D (.lst (((List.range n).filter b).map f)))) : tLC2 (Itr lo n) 1 (gName 0) tc te js Q σ H := by
  intro D hD
  refine ⟨fun i m σ' H' => m = n - i ∧ i ≤ n ∧ (∃ z, σ' = z :: caps js σ) ∧ H' = upd H D (.lst (((List.range i).filter b).map f)), ⟨n, by simp, Nat.zero_le _, ⟨_, rfl⟩, rfl⟩, ?_⟩
  rintro i m σ' H' ⟨rfl, hi, ⟨z, rfl⟩, rfl⟩
  by_cases hlt : i < n
  · refine .inr ⟨hlt, fun σ'' H'' => (∃ z, σ'' = z :: caps js σ) ∧ H'' = upd H D (.lst (((List.range (i + 1)).filter b).map f)), fun σ'' H'' p => ⟨n - (i + 1), by omega, rfl, hlt, p⟩, fun x H2 y => ?_⟩
    obtain ⟨e, y⟩ := y
    subst e y
    refine hc i D _ _ hlt hD ?_
    by_cases cb : b i = true
    · rw [if_pos cb]
      refine he i D _ _ hlt cb hD ⟨_, upd_same, ?_, ⟨_, rfl⟩, ?_⟩
      · have := List.length_filter_le b (List.range i)
        rw [List.length_range] at this
        rw [List.length_map]; omega
      · rw [upd_upd, List.range_succ, List.filter_append, List.map_append]
        simp [cb]
    · rw [if_neg cb]
      refine ⟨⟨_, rfl⟩, ?_⟩
      rw [List.range_succ, List.filter_append]
      simp [cb]
  · have e : i = n := by omega
    subst e
    exact .inl ⟨Nat.le_refl _, hq D hD⟩
theorem Same.upd_none {H H' : Hp} {D : Addr} {o : HO} (g : Same H H') (hD : H D = none) : Same H (upd H' D o) := fun b u e => by
  rw [upd_ne (fun z => by rw [z, hD] at e; cases e)]; exact g b u e
theorem lc2_zip {K : PySem.W.Frag} {te : TE} {js : List Nat} {Q : VK} {σ : St} {H : Hp} {l1 l2 : Addr} {xs ys : List V} (f : V → V → V) (hlen : xs.length = ys.length) (hn : xs.length ≤ sizeLine) (hS1 : SqL K H l1 xs) (hS2 : SqL K H l2 ys)
    (he : ∀ (i : Nat) x y H2 (R : VK), xs[i]? = some x → ys[i]? = some y → Same H H2 → R (f x y) H2 → te (some x :: some y :: caps js σ) H2 R)
    (hq : ∀ D H', H D = none → Same H H' → H' D = some (.lst (List.zipWith f xs ys)) → Q (.ref D) H') : tLC2 (Itz K l1 l2) 2 (gTup K 2 (gCons (gName 0) (gCons (gName 1) gNil))) tYes te js Q σ H := by
  intro D hD
  refine ⟨fun i m σ' H' => m = xs.length - i ∧ i ≤ xs.length ∧ (∃ z1 z2, σ' = z1 :: z2 :: caps js σ) ∧ Same H H' ∧ H' D = some (.lst (List.zipWith f (xs.take i) (ys.take i))), ⟨xs.length, by simp, Nat.zero_le _, ⟨_, _, rfl⟩, (Same.refl _).upd_none hD, by rw [upd_same]; simp⟩, ?_⟩
  rintro i m σ' H' ⟨rfl, hi, ⟨z1, z2, rfl⟩, g, hD'⟩
  by_cases hlt : i < xs.length
  · have hx : xs[i]? = some xs[i] := List.getElem?_eq_getElem hlt
    have hy : ys[i]? = some (ys[i]'(by omega)) := List.getElem?_eq_getElem (by omega)
    refine .inr ⟨⟨xs, ys, _, _, g.seq hS1, g.seq hS2, hx, hy⟩, fun σ'' H'' => (∃ z1 z2, σ'' = z1 :: z2 :: caps js σ) ∧ Same H H'' ∧ H'' D = some (.lst (List.zipWith f (xs.take (i + 1)) (ys.take (i + 1)))), fun σ'' H'' p => ⟨xs.length - (i + 1), by omega, rfl, hlt, p⟩, fun v H2 y => ?_⟩
    obtain ⟨T, x', y', rfl, hT, rfl, e1, e2⟩ := y
    have e1 := e1 _ (g.seq hS1)
    have e2 := e2 _ (g.seq hS2)
    have gT := same_new hT (HO.tup [x', y'])
    refine ⟨T, [x', y'], rfl, SqT.of upd_same, rfl, x', [y'], rfl, y', [], rfl, rfl, ?_⟩
    unfold tYes
    dsimp only
    rw [if_pos rfl]
    refine he i x' y' _ _ e1 e2 (g.trans gT) ⟨_, gT _ _ hD', ?_, ⟨_, _, rfl⟩, (g.trans gT).upd_none hD, ?_⟩
    · rw [List.length_zipWith, List.length_take, List.length_take]; omega
    · rw [upd_same, List.take_add_one, e1, List.take_add_one, e2, List.zipWith_append (by rw [List.length_take, List.length_take]; omega)]; rfl
  · have e : i = xs.length := by omega
    subst e
    refine .inl ⟨⟨xs, ys, g.seq hS1, g.seq hS2, by omega⟩, ?_⟩
    refine hq D H' hD g ?_
    rw [hD', List.take_length, List.take_of_length_le (by omega)]
end L2
set_option maxHeartbeats 4000000
namespace Eb
open PySem L2
def pl : Nat → List Bool → List Nat
  | _, [] => []
  | o, true :: t => o :: pl (o + 1) t
  | o, false :: t => pl (o + 1) t
theorem pl_length : ∀ (t : List Bool) (o : Nat), ((pl o t).length : Int) = cnt t
  | [], _ => rfl
  | true :: t, o => by
    have := pl_length t (o + 1)
    rw [pl, cnt_cons, List.length_cons]; simp; omega
  | false :: t, o => by
    have := pl_length t (o + 1)
    rw [pl, cnt_cons]; simp; omega
theorem pl_filter : ∀ (t : List Bool) (o : Nat), (List.range' o t.length).filter (fun i => t.getD (i - o) false) = pl o t
  | [], _ => rfl
  | b :: t, o => by
    have ih := pl_filter t (o + 1)
    rw [List.length_cons, List.range'_succ, List.filter_cons]
    have e : (List.range' (o + 1) t.length).filter (fun i => (b :: t).getD (i - o) false) = (List.range' (o + 1) t.length).filter (fun i => t.getD (i - (o + 1)) false) := by
      refine List.filter_congr fun i hi => ?_
      have h := (List.mem_range'_1.mp hi).1
      obtain ⟨k, rfl⟩ : ∃ k, i = o + 1 + k := ⟨i - (o + 1), by omega⟩
      rw [show o + 1 + k - o = k + 1 by omega, show o + 1 + k - (o + 1) = k by omega]
      rfl
    rw [e, ih]
    cases b
    · simp [pl]
    · simp [pl]
theorem pl_range (l : List Bool) : (List.range l.length).filter (fun i => l.getD i false) = pl 0 l := by
  have := pl_filter l 0
  rw [← List.range_eq_range'] at this
  exact this
def difs (qs : List Nat) (e p : Nat) : List Nat := List.zipWith (fun later place => later - place) (qs ++ [e]) (p :: qs)
theorem gp_difs (f : Nat) : ∀ (t : List Bool) (c o : Nat), c ≤ o → gp c (t ++ List.replicate f false) = difs (pl o t) (o + t.length + f) (o - c)
  | [], c, o, h => by
    have : ∀ k c, gp c (List.replicate k false) = [c + k] := fun k => by
      induction k with
      | zero => intro c; rfl
      | succ k ih => intro c; rw [List.replicate_succ, gp, ih]; congr 1; omega
    rw [List.nil_append, this, pl, difs]
    simp; omega
  | true :: t, c, o, h => by
    have ih := gp_difs f t 1 (o + 1) (by omega)
    rw [List.cons_append, gp, ih, pl, difs, difs, List.length_cons, show o + 1 + t.length + f = o + (t.length + 1) + f by omega, List.cons_append, List.zipWith_cons_cons, Nat.add_sub_cancel]
    congr 1
    omega
  | false :: t, c, o, h => by
    have ih := gp_difs f t (c + 1) (o + 1) (by omega)
    rw [List.cons_append, gp, ih, pl, List.length_cons, show o + 1 + t.length + f = o + (t.length + 1) + f by omega, show o + 1 - (c + 1) = o - c by omega]
theorem first_split : ∀ {l : List Bool}, 1 ≤ cnt l → ∃ suf, l = List.replicate (firstB l) false ++ true :: suf
  | [], h => by simp [cnt] at h
  | true :: t, _ => ⟨t, by simp [firstB, List.findIdx_cons]⟩
  | false :: t, h => by
    rw [cnt_cons] at h
    obtain ⟨suf, e⟩ := first_split (l := t) (by simpa using h)
    refine ⟨suf, ?_⟩
    have : firstB (false :: t) = firstB t + 1 := by simp [firstB, List.findIdx_cons]
    rw [this, List.replicate_succ, List.cons_append, ← e]
theorem pl_rests : ∀ (k o : Nat) (t : List Bool), pl o (List.replicate k false ++ t) = pl (o + k) t
  | 0, o, t => by simp
  | k + 1, o, t => by rw [List.replicate_succ, List.cons_append, pl, pl_rests k (o + 1) t]; congr 1; omega
theorem gaps_places {l : List Bool} (h : 1 ≤ cnt l) : ∃ f r, pl 0 l = f :: r ∧ gapsL l = difs r (f + l.length) f := by
  obtain ⟨suf, e⟩ := first_split h
  generalize hf : firstB l = f at e
  refine ⟨f, pl (f + 1) suf, ?_, ?_⟩
  · rw [e, pl_rests, Nat.zero_add, pl]
  · have el : l.length = f + 1 + suf.length := by rw [e]; simp; omega
    have et : tailB l = suf ++ List.replicate f false := by
      unfold tailB rot
      rw [hf, e, List.drop_left' (by simp), List.take_left' (by simp)]; rfl
    rw [gapsL, et, gp_difs f suf 1 (f + 1) (by omega), el, Nat.add_sub_cancel]
    congr 1; omega
theorem pl_bound : ∀ (t : List Bool) (o : Nat), ∀ x ∈ pl o t, o ≤ x ∧ x < o + t.length
  | [], _, x, h => by simp [pl] at h
  | true :: t, o, x, h => by
    rw [pl, List.mem_cons] at h
    rcases h with rfl | h
    · simp
    · have := pl_bound t (o + 1) x h
      rw [List.length_cons]; omega
  | false :: t, o, x, h => by
    have := pl_bound t (o + 1) x h
    rw [List.length_cons]; omega
theorem pl_le : ∀ (t : List Bool) (o p : Nat), p ≤ o → ∀ (e : Nat), o + t.length ≤ e → ∀ (i x y : Nat), (p :: pl o t)[i]? = some x → (pl o t ++ [e])[i]? = some y → x ≤ y
  | [], o, p, hp, e, he, i, x, y, hx, hy => by
    cases i with
    | zero => simp [pl] at hx hy he; omega
    | succ i => simp [pl] at hx
  | true :: t, o, p, hp, e, he, i, x, y, hx, hy => by
    rw [pl] at hx hy
    cases i with
    | zero => simp at hx hy; omega
    | succ i =>
      rw [List.length_cons] at he
      exact pl_le t (o + 1) o (by omega) e (by omega) i x y (by simpa using hx) (by simpa using hy)
  | false :: t, o, p, hp, e, he, i, x, y, hx, hy => by
    rw [pl] at hx hy
    rw [List.length_cons] at he
    exact pl_le t (o + 1) p (by omega) e (by omega) i x y hx hy
theorem pl_cons {l : List Bool} {f : Nat} {r : List Nat} (h : pl 0 l = f :: r) (i x y : Nat) (hx : (f :: r)[i]? = some x) (hy : (r ++ [f + l.length])[i]? = some y) : x ≤ y := by
  have hb := pl_bound l 0
  have hc : 1 ≤ cnt l := by have := pl_length l 0; rw [h, List.length_cons] at this; omega
  obtain ⟨suf, e⟩ := first_split hc
  generalize firstB l = k at e
  have e2 : pl 0 l = k :: pl (k + 1) suf := by rw [e, pl_rests, Nat.zero_add, pl]
  rw [h] at e2
  obtain ⟨rfl, rfl⟩ := List.cons.inj e2
  have el : l.length = f + 1 + suf.length := by rw [e]; simp; omega
  exact pl_le suf (f + 1) f (by omega) (f + l.length) (by omega) i x y hx hy
end Eb
set_option maxHeartbeats 4000000
namespace Eb
open PySem L2
def piece (gap : Nat) (b : Bool) : List Bool := true :: (List.replicate (gap - 1) false ++ if b then [false] else [])
theorem unf_pieces {gap : Nat} (hg : 1 ≤ gap) : ∀ l : List Bool, unf l gap = (l.map (piece gap)).flatten
  | [] => rfl
  | b :: l => by
    have ih := unf_pieces hg l
    unfold unf at ih ⊢
    rw [List.map_cons, blocks, ih, List.map_cons, List.flatten_cons, piece]
    cases b
    · simp
    · have e : gap + (if true = true then 1 else 0) - 1 = (gap - 1) + 1 := by simp; omega
      rw [e, List.replicate_succ']
      simp
theorem glue_rows (glue : Str) (hg : glue.cps = #[]) : ∀ (bs : List (List Bool)) (acc : Array Nat), (bs.map rowS).foldl (fun acc p => acc ++ glue.cps ++ p.cps) acc = acc ++ (bs.flatten.map sg).toArray
  | [], acc => by simp
  | b :: l, acc => by
    rw [List.map_cons, List.foldl_cons, glue_rows glue hg l, hg]
    show acc ++ #[] ++ (b.map sg).toArray ++ _ = _
    simp
theorem join_pieces (bs : List (List Bool)) : Txt.join "" (bs.map rowS) = rowS bs.flatten := by
  have hg : ("" : Str).cps = #[] := by rw [empty_eq]
  cases bs with
  | nil => show Builtin.Str.glued "" [] = _; decide +kernel
  | cons b l =>
    show Str.mk (((l.map rowS)).foldl (fun acc p => acc ++ ("" : Str).cps ++ p.cps) (rowS b).cps) = rowS (b :: l).flatten
    rw [glue_rows _ hg]
    simp [rowS]
theorem joinOk_pieces (bs : List (List Bool)) (h : bs.flatten.length ≤ 1100000) : JoinOk "" (bs.map rowS) = true := by
  refine PyProof.Rows.joinOk_of ?_
  have e0 : ("" : Str).length = 0 := by decide +kernel
  have e : ∀ r : List (List Bool), ((r.map rowS).map (·.length)).sum = r.flatten.length := by
    intro r
    induction r with
    | nil => rfl
    | cons b r ih => rw [List.map_cons, List.map_cons, List.sum_cons, ih, rowS_length, List.flatten_cons, List.length_append]
  rw [e, e0]
  omega
theorem unf_length_le {l : List Bool} {gap : Nat} (hg : 1 ≤ gap) : (unf l gap).length ≤ l.length * (gap + 1) := by
  rw [unf_pieces hg]
  induction l with
  | nil => simp
  | cons b l ih =>
    rw [List.map_cons, List.flatten_cons, List.length_append, List.length_cons, Nat.add_mul]
    have : (piece gap b).length ≤ gap + 1 := by cases b <;> simp [piece] <;> omega
    omega
theorem piece_short (gap : Nat) (b : Bool) : piece gap b = (true :: List.replicate (gap - 1) false) ++ if b then [false] else [] := by simp [piece]
theorem vG_map (g : List Nat) : vG g = (g.map fun x => ((x : Nat) : Int)).map V.int := by simp [vG]
def fold1 (d : Nat) : V → V
  | .int a => .str (signS (decide ((d : Int) < a)))
  | _ => .non
theorem fold1_map (d : Nat) (g : List Nat) : (vG g).map (fold1 d) = ((foldL g d).map signS).map V.str := by
  unfold vG foldL
  rw [List.map_map, List.map_map, List.map_map]
  refine List.map_congr_left fun x _ => ?_
  show V.str (signS (decide ((d : Int) < (x : Int)))) = V.str (signS (decide (d < x)))
  congr 2
  simp
def short (gap : Nat) : List Bool := true :: List.replicate (gap - 1) false
end Eb
set_option maxHeartbeats 4000000
namespace Eb
open PySem L2
theorem fold_len {x : List Bool} (hc : 1 ≤ cnt x) (d : Nat) : ((foldL (gapsL x) d).length : Int) = cnt x := by
  rw [foldL, List.length_map]; exact gapsL_len hc
def far (x : List Bool) : Nat := 2 * x.length + if cnt x = 0 then 0 else 1
theorem ones_fold : ∀ {x : List Bool}, cnt x = x.length → ∀ g ∈ gapsL x, g = 1 := by
  intro x hx
  have e : x = List.replicate x.length true := by
    have : ∀ y : List Bool, cnt y = y.length → y = List.replicate y.length true := by
      intro y
      induction y with
      | nil => intro _; rfl
      | cons b t ih =>
        intro h
        rw [cnt_cons, List.length_cons] at h
        have := cnt_le t
        cases b
        · simp at h; omega
        · simp at h
          rw [List.length_cons, List.replicate_succ, ← ih (by omega)]
    exact this x hx
  have gen : ∀ (k : Nat) (g : Nat), g ∈ gp 1 (List.replicate k true) → g = 1 := by
    intro k
    induction k with
    | zero => intro g hg; simpa [gp] using hg
    | succ k ih =>
      intro g hg
      rw [List.replicate_succ, gp, List.mem_cons] at hg
      exact hg.elim id (ih g)
  intro g hg
  cases hn : x.length with
  | zero =>
    have : x = [] := List.eq_nil_of_length_eq_zero hn
    subst this
    simpa [gapsL, tailB, rot, firstB, gp] using hg
  | succ k =>
    rw [hn] at e
    have ef : firstB x = 0 := by rw [e, List.replicate_succ]; simp [firstB, List.findIdx_cons]
    have et : tailB x = List.replicate k true := by
      unfold tailB rot
      rw [ef, e, List.replicate_succ]; simp
    rw [gapsL, et] at hg
    exact gen k g hg
theorem far_fold {x : List Bool} (hc : 1 ≤ cnt x) {d : Nat} (hd : d ∈ gapsL x) : far (foldL (gapsL x) d) < far x := by
  have hl := fold_len hc d
  have cl := cnt_le x
  unfold far
  rw [if_neg (by omega : ¬ cnt x = 0)]
  by_cases e : cnt x = x.length
  · have o := ones_fold e
    have hz : cnt (foldL (gapsL x) d) = 0 := by
      have hd1 := o d hd
      subst hd1
      have : foldL (gapsL x) 1 = (gapsL x).map fun _ => false := by
        unfold foldL
        refine List.map_congr_left fun g hg => ?_
        rw [o g hg]; rfl
      rw [this]
      induction gapsL x with
      | nil => rfl
      | cons a t ih => rw [List.map_cons, cnt_cons, ih]; rfl
    rw [if_pos hz]
    omega
  · split <;> omega
def vR (L : List (List Bool)) : List V := L.map fun x => V.str (rowS x)
theorem vR_last (L : List (List Bool)) (z : List Bool) : atI (vR (L ++ [z])) (-1) = some (.str (rowS z)) := by
  unfold vR
  rw [List.map_append]
  exact atI_last _ _
theorem vR_length (L : List (List Bool)) : (vR L).length = L.length := by simp [vR]
theorem strOk_row (l : List Bool) : PyData.strOk (rowS l) = true := by
  unfold PyData.strOk
  rw [Array.all_eq_true]
  intro i hi
  obtain ⟨b, hb, e⟩ := rowS_get l i (rowS l).cps[i] (by simp)
  rw [e]
  cases b <;> decide
theorem pv_in {σ : St} {H : Hp} {ta tb : TE} {x y : Str} (ha : Pv ta σ H (.str x)) (hb : Pv tb σ H (.str y)) :
    Pv (tOp (fun x y H Q => ∃ i j, x = .str i ∧ y = .str j ∧ Q (.bl (!(Builtin.Str.occurrences j i 0 j.length 1).isEmpty)) H) ta tb) σ H (.bl (!(Builtin.Str.occurrences y x 0 y.length 1).isEmpty)) := fun Q q => ha _ (hb _ ⟨x, y, rfl, rfl, q⟩)
end Eb
set_option maxHeartbeats 4000000
namespace Eb
open PySem L2
structure Chain8 (l : List Bool) (L : List (List Bool)) : Prop where
  head : L[0]? = some l
  step : ∀ (i : Nat) x y, L[i]? = some x → L[i + 1]? = some y → 1 ≤ cnt x ∧ ∃ d, d ∈ gapsL x ∧ (∀ g ∈ gapsL x, d ≤ g) ∧ (∀ g ∈ gapsL x, g ≤ d + 1) ∧ y = foldL (gapsL x) d
  ok : ∀ x ∈ L, 1 ≤ x.length ∧ x.length ≤ l.length
theorem Chain8.one {l : List Bool} (h : 1 ≤ l.length) : Chain8 l [l] := ⟨rfl, fun i x y hx hy => by cases i <;> simp at hy, fun x hx => by
  have : x = l := by simpa using hx
  subst this
  exact ⟨h, Nat.le_refl _⟩⟩
theorem Chain8.more {l x : List Bool} {L : List (List Bool)} (C : Chain8 l (L ++ [x])) (hc : 1 ≤ cnt x) {d : Nat} (hd : d ∈ gapsL x) (h1 : ∀ g ∈ gapsL x, d ≤ g) (h2 : ∀ g ∈ gapsL x, g ≤ d + 1) : Chain8 l (L ++ [x] ++ [foldL (gapsL x) d]) := by
  have hl := fold_len hc d
  have cl := cnt_le x
  obtain ⟨e2, e3⟩ := C.ok x (by simp)
  refine ⟨?_, fun i a b ha hb => ?_, fun y hy => ?_⟩
  · have := C.head
    rw [List.getElem?_append_left (by simp)]; exact this
  · by_cases hi : i + 1 < (L ++ [x]).length
    · rw [List.getElem?_append_left (by omega)] at ha
      rw [List.getElem?_append_left hi] at hb
      exact C.step i a b ha hb
    · have hb' := (List.getElem?_eq_some_iff.mp hb).1
      simp only [List.length_append, List.length_cons, List.length_nil] at hi hb'
      have ei : i = L.length := by omega
      subst ei
      have ea : a = x := by
        rw [List.getElem?_append_left (by simp), List.getElem?_append_right (Nat.le_refl _)] at ha
        simpa using ha.symm
      have eb : b = foldL (gapsL x) d := by
        rw [List.getElem?_append_right (by simp)] at hb
        simpa using hb.symm
      subst ea eb
      exact ⟨hc, d, hd, h1, h2, rfl⟩
  · rcases List.mem_append.mp hy with h | h
    · exact C.ok y h
    · have : y = foldL (gapsL x) d := by simpa using h
      subst this
      exact ⟨by omega, by omega⟩
def spx_folds8 (CU : Addr) : Sp := fun vs H Q E => ∃ l : List Bool, vs = [.str (rowS l)] ∧ 1 ≤ l.length ∧ l.length ≤ 1000 ∧
  (∀ p H' L z, H p = none → Same H H' → H' p = some (.lst (vR (L ++ [z]))) → Chain8 l (L ++ [z]) → cnt z = 0 → Q (.ref p) H') ∧
  (∀ L z d x, Chain8 l (L ++ [z]) → 1 ≤ cnt z → d ∈ gapsL z → (∀ g ∈ gapsL z, d ≤ g) → x ∈ gapsL z → d + 1 < x → ∀ H', Same H H' → E (.ref CU) none H')
theorem chain_rest {l z : List Bool} {L : List (List Bool)} (C : Chain8 l (L ++ [z])) (h : cnt l = 0) : L = [] ∧ z = l := by
  have hd := C.head
  cases L with
  | nil => exact ⟨rfl, by simpa using hd⟩
  | cons a r =>
    exfalso
    have ha : a = l := by simpa using hd
    subst ha
    have hlen : 1 < (a :: r ++ [z]).length := by simp
    have := (C.step 0 a _ hd (List.getElem?_eq_getElem hlen)).1
    omega
theorem chain_beat {z : List Bool} {L : List (List Bool)} (C : Chain8 [true] (L ++ [z])) : (L = [] ∧ z = [true]) ∨ (L = [[true]] ∧ z = [false]) := by
  have hd := C.head
  cases L with
  | nil => exact .inl ⟨rfl, by simpa using hd⟩
  | cons a r =>
    have ha : a = [true] := by simpa using hd
    subst ha
    have next : ∀ y, ([true] :: r ++ [z])[1]? = some y → y = [false] := fun y hy => by
      obtain ⟨_, d, d1, _, _, e⟩ := C.step 0 _ y hd hy
      have g1 : gapsL [true] = [1] := by decide
      rw [g1] at d1 e
      have : d = 1 := by simpa using d1
      rw [e, this]; rfl
    cases r with
    | nil => exact .inr ⟨rfl, next z (by simp)⟩
    | cons b r' =>
      exfalso
      have hb : b = [false] := next b (by simp)
      subst hb
      have hlen : 2 < ([true] :: [false] :: r' ++ [z]).length := by simp
      have := (C.step 1 [false] _ (by simp) (List.getElem?_eq_getElem hlen)).1
      exact absurd this (by decide)
theorem chain_uneven {l z : List Bool} {L : List (List Bool)} (C : Chain8 l (L ++ [z])) (hc : 1 ≤ cnt l) {d x : Nat} (hd : d ∈ gapsL l) (hm : ∀ g ∈ gapsL l, d ≤ g) (hx : x ∈ gapsL l) (lt : d + 1 < x) : cnt z ≠ 0 := by
  have h0 := C.head
  cases L with
  | nil =>
    have : z = l := by simpa using h0
    subst this
    omega
  | cons a r =>
    have ha : a = l := by simpa using h0
    subst ha
    have hlen : 1 < (a :: r ++ [z]).length := by simp
    obtain ⟨_, e, e1, e2, e3, _⟩ := C.step 0 a _ h0 (List.getElem?_eq_getElem hlen)
    have a1 := hm e e1
    have a2 := e2 d hd
    have a3 := e3 x hx
    omega
end Eb
set_option maxHeartbeats 4000000
namespace Eb
open PySem L2
def NoStr (K : PySem.W.Frag) (H : Hp) (v : V) : Prop := ∃ t, TyOf K H v t ∧ PySem.W.kitOne K t (.type "str") = some false
def NoNum (K : PySem.W.Frag) (H : Hp) (v : V) : Prop := ∃ t, TyOf K H v t ∧ (PySem.W.kitOne K t (.type "int") = some false ∨ (PySem.W.kitOne K t (.type "int") = some true ∧ PySem.W.kitOne K t (.type "bool") = some true))
def NoRow (K : PySem.W.Frag) (H : Hp) (v : V) : Prop := NoStr K H v ∨ ∃ z : Str, v = .str z ∧ z.length ≤ 1000 ∧ Txt.count z "x" + Txt.count z "." ≠ (z.length : Int)
def NoRing (K : PySem.W.Frag) (H : Hp) (v : V) : Prop := NoRow K H v ∨ v = .str (rowS [])
section
variable {K : PySem.W.Frag} {H : Hp}
theorem noStr_non : NoStr K H .non := ⟨_, .non, rfl⟩
theorem noStr_int (i : Int) : NoStr K H (.int i) := ⟨_, .int i, rfl⟩
theorem noStr_lst {a : Addr} {xs : List V} (e : H a = some (.lst xs)) : NoStr K H (.ref a) := ⟨_, .lst e, rfl⟩
theorem noStr_tup {a : Addr} {xs : List V} (e : H a = some (.tup xs)) : NoStr K H (.ref a) := ⟨_, .tup e, rfl⟩
theorem noNum_non : NoNum K H .non := ⟨_, .non, .inl rfl⟩
theorem noNum_bl (b : Bool) : NoNum K H (.bl b) := ⟨_, .bl b, .inr ⟨rfl, rfl⟩⟩
theorem noNum_str (z : Str) : NoNum K H (.str z) := ⟨_, .str z, .inl rfl⟩
theorem noNum_lst {a : Addr} {xs : List V} (e : H a = some (.lst xs)) : NoNum K H (.ref a) := ⟨_, .lst e, .inl rfl⟩
theorem noNum_tup {a : Addr} {xs : List V} (e : H a = some (.tup xs)) : NoNum K H (.ref a) := ⟨_, .tup e, .inl rfl⟩
end
theorem at_mem {xs : List V} {k : Int} (h0 : 0 ≤ k) (h : k < xs.length) : ∃ v, v ∈ xs ∧ atI xs k = some v := by
  obtain ⟨n, rfl⟩ := Int.eq_ofNat_of_zero_le h0
  have hn : n < xs.length := by omega
  exact ⟨xs[n], List.getElem_mem hn, atI_nat (List.getElem?_eq_getElem hn)⟩
theorem ty_same {K : PySem.W.Frag} {H H' : Hp} {v : V} {t : Value} (g : Same H H') : TyOf K H v t → TyOf K H' v t
  | .non => .non
  | .bl x => .bl x
  | .int i => .int i
  | .str x => .str x
  | .flt x => .flt x
  | .lst h => .lst (g _ _ h)
  | .frz h => .frz (g _ _ h)
  | .tup h => .tup (g _ _ h)
  | .dK h => .dK (g _ _ h)
  | .dT h => .dT (g _ _ h)
  | .ins h cl ha hn htk hm => .ins (g _ _ h) cl ha hn htk hm
theorem NoStr.same {K : PySem.W.Frag} {H H' : Hp} {v : V} (g : Same H H') (h : NoStr K H v) : NoStr K H' v := by
  obtain ⟨t, ty, e⟩ := h
  exact ⟨t, ty_same g ty, e⟩
theorem NoNum.same {K : PySem.W.Frag} {H H' : Hp} {v : V} (g : Same H H') (h : NoNum K H v) : NoNum K H' v := by
  obtain ⟨t, ty, e⟩ := h
  exact ⟨t, ty_same g ty, e⟩
theorem NoRing.same {K : PySem.W.Frag} {H H' : Hp} {v : V} (g : Same H H') (h : NoRing K H v) : NoRing K H' v := by
  rcases h with (h | h) | h
  · exact .inl (.inl (h.same g))
  · exact .inl (.inr h)
  · exact .inr h
theorem bad_text (m : Int) (h0 : 0 ≤ m) (h : m < 5) : MulOk "x." m ∧ (Txt.mul "x." m ++ " ").length ≤ 1000 ∧ (Txt.mul "x." m).length + (" " : Str).length ≤ sizeLine ∧ Txt.count (Txt.mul "x." m ++ " ") "x" + Txt.count (Txt.mul "x." m ++ " ") "." ≠ ((Txt.mul "x." m ++ " ").length : Int) := by
  have : m = 0 ∨ m = 1 ∨ m = 2 ∨ m = 3 ∨ m = 4 := by omega
  unfold MulOk
  rcases this with rfl | rfl | rfl | rfl | rfl <;> decide +kernel
def spn_is_number (K : PySem.W.Frag) : Sp := fun vs H Q _ => ∃ v, vs = [v] ∧ NoNum K H v ∧ Q (.bl false) H
def spn_is_between (K : PySem.W.Frag) : Sp := fun vs H Q _ => ∃ v l m, vs = [v, l, m] ∧ NoNum K H v ∧ Q (.bl false) H
def spn_is_row (K : PySem.W.Frag) : Sp := fun vs H Q _ => ∃ v, vs = [v] ∧ NoRow K H v ∧ Q (.bl false) H
def spn_is_ring (K : PySem.W.Frag) : Sp := fun vs H Q _ => ∃ v, vs = [v] ∧ NoRing K H v ∧ Q (.bl false) H
def spn_row (K : PySem.W.Frag) (CR : Addr) : Sp := fun vs H _ E => ∃ v, vs = [v] ∧ NoRow K H v ∧ E (.ref CR) none H
def spn_ring (K : PySem.W.Frag) (CR : Addr) : Sp := fun vs H _ E => ∃ v, vs = [v] ∧ NoRing K H v ∧ E (.ref CR) none H
def spn_ring2 (K : PySem.W.Frag) (CR : Addr) : Sp := fun vs H _ E => ∃ v u, vs = [v, u] ∧ NoRing K H v ∧ E (.ref CR) none H
def spn_num (K : PySem.W.Frag) (CB : Addr) : Sp := fun vs H _ E => ∃ v, vs = [v] ∧ NoNum K H v ∧ E (.ref CB) none H
def BadLeast (K : PySem.W.Frag) (H : Hp) (v : V) (l : Int) : Prop := NoNum K H v ∨ ∃ i : Int, v = .int i ∧ i < l
def spn_least (K : PySem.W.Frag) (CB : Addr) : Sp := fun vs H _ E => ∃ v l, vs = [v, .int l] ∧ (l = 0 ∨ l = 1) ∧ BadLeast K H v l ∧ E (.ref CB) none H
def BadBeats (K : PySem.W.Frag) (H : Hp) (b p : V) : Prop := BadLeast K H p 1 ∨ ∃ i : Int, p = .int i ∧ 1 ≤ i ∧ (NoNum K H b ∨ ∃ j : Int, b = .int j ∧ ¬ (0 ≤ j ∧ j ≤ i))
def spn_beats (K : PySem.W.Frag) (CB : Addr) : Sp := fun vs H _ E => ∃ b p, vs = [b, p] ∧ BadBeats K H b p ∧ E (.ref CB) none H
def BadReck (K : PySem.W.Frag) (H : Hp) (b p s m : V) : Prop := BadBeats K H b p ∨ ∃ j i : Int, b = .int j ∧ p = .int i ∧ 1 ≤ i ∧ 0 ≤ j ∧ j ≤ i ∧ (NoNum K H s ∨ ∃ k : Int, s = .int k ∧ BadLeast K H m 0)
def spn_reck (K : PySem.W.Frag) (CB : Addr) : Sp := fun vs H _ E => ∃ b p s m, vs = [b, p, s, m] ∧ BadReck K H b p s m ∧ E (.ref CB) none H
def spn_turned (K : PySem.W.Frag) (CB : Addr) : Sp := fun vs H _ E => ∃ l v, vs = [.str (rowS l), v] ∧ 1 ≤ l.length ∧ l.length ≤ 1000 ∧ NoNum K H v ∧ E (.ref CB) none H
def spn_unfolded (K : PySem.W.Frag) (CB : Addr) : Sp := fun vs H _ E => ∃ l v, vs = [.str (rowS l), v] ∧ 1 ≤ l.length ∧ l.length ≤ 1000 ∧ BadLeast K H v 1 ∧ E (.ref CB) none H
def spn_asked (C : Addr) : Sp := fun vs H _ E => ∃ w m : Int, vs = [.int w, .int m] ∧ 0 ≤ w ∧ 0 ≤ m ∧ m < 1000 ∧ ∀ H', Same H H' → E (.ref C) none H'
end Eb
set_option maxHeartbeats 4000000
namespace K08
open PySem L2 Eb
def top (i : Nat) : Stmt := PySem.Challenge.pw_evenbeats_k08_refused.main.body.getD i (.Pass ⟨0, 0, 0, 0⟩)
structure Md (K : PySem.W.Frag) (mg : Str → Option Value) (CB : Addr) : Prop where
  b_len : mg "len" = none
  b_isinstance : mg "isinstance" = none
  b_sum : mg "sum" = none
  b_max : mg "max" = none
  b_min : mg "min" = none
  b_range : mg "range" = none
  b_list : mg "list" = none
  b_int : mg "int" = none
  b_bool : mg "bool" = none
  b_str : mg "str" = none
  c_BEAT : ∃ t, mg "BEAT" = some (.str "x" t)
  c_REST : ∃ t, mg "REST" = some (.str "." t)
  x_bad : XCls K mg "BadCount" CB
section
variable {P : Program} {w : World} {K : PySem.W.Frag} {mg : Str → Option Value} {base : Heap} {f CB : Addr} {fd : FuncData}
abbrev s_is_number : Stmt := top 10
theorem sc_is_number : FnScope ["value"] ["value"] (defScope s_is_number) := ⟨rfl, rfl, rfl, by decide +kernel, rfl, by decide +kernel, by decide +kernel⟩
theorem ok_is_number (M : Md K mg CB) (F : Fun K "is_number" "is_number" s_is_number f fd) : FnOk P w K mg base (CXE P w) 1 f fd ["value"] sp_is_number := by
  refine F.okN sc_is_number (fun vs H Q E h => ?_) (fun cdv A outer s H vs Q E hr h => ?_)
  · obtain ⟨i, rfl, _⟩ := h; rfl
  obtain ⟨i, rfl, q⟩ := h
  refine ⟨_, (pss_one (ps_ret (pe_and (pe_callB call_isi rfl M.b_isinstance bo_isinstance (pa_cons (pv 0) (pa_cons (pe_bty M.b_int bo_int) pa_nil))) (pe_one (pe_not (pe_callB call_isi rfl M.b_isinstance bo_isinstance (pa_cons (pv 0) (pa_cons (pe_bty M.b_bool bo_bool) pa_nil)))))))), ?_⟩
  exact ⟨_, rfl, .int i, "int", .type "int", true, rfl, .int i, kit_int_int, true, rfl, iteT ⟨_, rfl, .int i, "bool", .type "int", false, rfl, .int i, kit_int_bool, false, rfl, q⟩⟩
abbrev s_is_between : Stmt := top 11
theorem sc_is_between : FnScope ["value", "least", "most"] ["value", "least", "most"] (defScope s_is_between) := ⟨rfl, rfl, rfl, by decide +kernel, rfl, by decide +kernel, by decide +kernel⟩
theorem ok_is_between (F_is_number : Kn P w K mg base 1 "is_number" ["value"] sp_is_number) (F : Fun K "is_between" "is_between" s_is_between f fd) :
    FnOk P w K mg base (CXE P w) 2 f fd ["value", "least", "most"] sp_is_between := by
  refine F.okN sc_is_between (fun vs H Q E h => ?_) (fun cdv A outer s H vs Q E hr h => ?_)
  · obtain ⟨v, l, m, rfl, _⟩ := h; rfl
  obtain ⟨v, l, m, rfl, q⟩ := h
  refine ⟨_, (pss_one (ps_ret (pe_and (pe_fn F_is_number (hr.mono (by decide)) (pa_cons (pv 0) pa_nil)) (pe_one (pe_chain op_le op_le (pv 1) (pv 0) (pv 2)))))), ?_⟩
  refine rd_ret (pv_and (pv_call (pa_1 (pv_var rfl) pa_0) fun Q' q' => ⟨v, rfl, q'⟩) fun _ => pv_chain (pv_var rfl) (pv_var rfl) (pv_var rfl)) ?_
  rw [Bool.true_and, ← Bool.decide_and]
  exact q
abbrev s_is_row : Stmt := top 12
theorem sc_is_row : FnScope ["value"] ["value"] (defScope s_is_row) := ⟨rfl, rfl, rfl, by decide +kernel, rfl, by decide +kernel, by decide +kernel⟩
theorem ok_is_row (M : Md K mg CB) (F : Fun K "is_row" "is_row" s_is_row f fd) : FnOk P w K mg base (CXE P w) 1 f fd ["value"] sp_is_row := by
  refine F.okN sc_is_row (fun vs H Q E h => ?_) (fun cdv A outer s H vs Q E hr h => ?_)
  · obtain ⟨l, rfl, _⟩ := h; rfl
  obtain ⟨l, rfl, hl, q⟩ := h
  refine ⟨_, (pss_one (ps_ret (pe_and (pe_callB call_isi rfl M.b_isinstance bo_isinstance (pa_cons (pv 0) (pa_cons (pe_bty M.b_str bo_str) pa_nil))) (pe_one (pe_cmpR op_eq (pe_op op_add (pe_bm PySem.F.plainAttrs_str PySem.F.slot_str_count PySem.F.type_str_count mt_count (pv 0) (pa_cons (pe_gstr M.c_BEAT) pa_nil)) (pe_bm PySem.F.plainAttrs_str PySem.F.slot_str_count PySem.F.type_str_count mt_count (pv 0) (pa_cons (pe_gstr M.c_REST) pa_nil))) (pe_callB call_len_str rfl M.b_len bo_len (pa_cons (pv 0) pa_nil)) (nomark _)))))), ?_⟩
  refine rd_ret (pv_and (pv_isi (pv_var rfl) (.str _) kit_str_str) fun _ => pv_eq (pv_op (pv_count (pv_var rfl) pv_c) (pv_count (pv_var rfl) pv_c)) (pv_len (pv_var rfl) (by rw [rowS_length]; exact sizeOk (by omega))) rfl) ?_
  have e : V.int (Txt.count (rowS l) "x" + Txt.count (rowS l) ".") = V.int ((rowS l).length : Nat) := by
    rw [count_rows, count_dots, rowS_length]
    exact congrArg V.int (by omega)
  show Q (V.bl (true && decide (V.int (Txt.count (rowS l) "x" + Txt.count (rowS l) ".") = V.int ((rowS l).length : Nat)))) H
  rw [decide_eq_true e]
  exact q
abbrev s_is_ring : Stmt := top 13
theorem sc_is_ring : FnScope ["value"] ["value"] (defScope s_is_ring) := ⟨rfl, rfl, rfl, by decide +kernel, rfl, by decide +kernel, by decide +kernel⟩
theorem ok_is_ring (M : Md K mg CB) (F_is_row : Kn P w K mg base 1 "is_row" ["value"] sp_is_row) (F : Fun K "is_ring" "is_ring" s_is_ring f fd) : FnOk P w K mg base (CXE P w) 2 f fd ["value"] sp_is_ring := by
  refine F.okN sc_is_ring (fun vs H Q E h => ?_) (fun cdv A outer s H vs Q E hr h => ?_)
  · obtain ⟨l, rfl, _⟩ := h; rfl
  obtain ⟨l, rfl, hl, q⟩ := h
  refine ⟨_, (pss_one (ps_ret (pe_and (pe_fn F_is_row (hr.mono (by decide)) (pa_cons (pv 0) pa_nil)) (pe_one (pe_cmpR op_ge (pe_callB call_len_str rfl M.b_len bo_len (pa_cons (pv 0) pa_nil)) pe_int (nomark _)))))), ?_⟩
  refine rd_ret (pv_and (pv_call (pa_1 (pv_var rfl) pa_0) fun Q' q' => ⟨l, rfl, hl, q'⟩) fun _ => pv_op (pv_len (pv_var rfl) (by rw [rowS_length]; exact sizeOk (by omega))) pv_c) ?_
  show Q (V.bl (true && decide ((1 : Int) ≤ ((rowS l).length : Nat)))) H
  rw [rowS_length, Bool.true_and, show decide ((1 : Int) ≤ (l.length : Nat)) = decide (1 ≤ l.length) from decide_eq_decide.mpr (by omega)]
  exact q
abbrev s_check_number : Stmt := top 16
theorem sc_check_number : FnScope ["value"] ["value"] (defScope s_check_number) := ⟨rfl, rfl, rfl, by decide +kernel, rfl, by decide +kernel, by decide +kernel⟩
theorem ok_check_number (F_is_number : Kn P w K mg base 1 "is_number" ["value"] sp_is_number) (F : Fun K "check_number" "check_number" s_check_number f fd) : FnOk P w K mg base (CXE P w) 2 f fd ["value"] sp_check_number := by
  refine F.okN sc_check_number (fun vs H Q E h => ?_) (fun cdv A outer s H vs Q E hr h => ?_)
  · obtain ⟨i, rfl, _⟩ := h; rfl
  obtain ⟨i, rfl, q⟩ := h
  refine ⟨_, (pss_one (ps_if (pt_not (pt_val (pe_fn F_is_number (hr.mono (by decide)) (pa_cons (pv 0) pa_nil)))) (pss_one ps_never) pss_nil)), ?_⟩
  exact ⟨_, rfl, i, rfl, true, rfl, iteF q⟩
abbrev s_check_at_least : Stmt := top 17
theorem sc_check_at_least : FnScope ["value", "least"] ["value", "least"] (defScope s_check_at_least) := ⟨rfl, rfl, rfl, by decide +kernel, rfl, by decide +kernel, by decide +kernel⟩
theorem ok_check_at_least (M : Md K mg CB) (F_check_number : Kn P w K mg base 2 "check_number" ["value"] sp_check_number) (F : Fun K "check_at_least" "check_at_least" s_check_at_least f fd) : FnOk P w K mg base (CXE P w) 3 f fd ["value", "least"] (spx_check_at_least CB) := by
  refine F.okX sc_check_at_least (fun vs H Q E h => ?_) (fun cdv A outer s H vs Q E hr h => ?_)
  · obtain ⟨i, l, rfl, _⟩ := h; rfl
  obtain ⟨i, l, rfl, hl, q1, q2⟩ := h
  refine ⟨_, (pss_cons (ps_expr (pe_fn F_check_number (hr.mono (by decide)) (pa_cons (pv 0) pa_nil)))
    (pss_one (ps_if (pt_cmpR op_lt (pv 0) (pv 1) (nomark _)) (pss_one (ps_raise M.x_bad (pa_cons (pe_fstr (pv 1)) pa_nil))) pss_nil))), ?_⟩
  refine rd_expr (pv_call (pa_1 (pv_var rfl) pa_0) fun Q' q' => ⟨i, rfl, q'⟩) ?_
  refine rd_if1 (pb_test (pv_op (pv_var rfl) (pv_var rfl))) (fun c => ?_) (fun c => ?_)
  · have c' : i < l := of_decide_eq_true c
    have q := q2 (by omega)
    rcases hl with rfl | rfl
    · exact ⟨_, rfl, 0, rfl, by decide, by decide +kernel, by decide, q⟩
    · exact ⟨_, rfl, 1, rfl, by decide, by decide +kernel, by decide, q⟩
  · have c' : ¬ i < l := of_decide_eq_false c
    exact q1 (by omega)
abbrev s_check_beats : Stmt := top 18
theorem sc_check_beats : FnScope ["beats", "places"] ["beats", "places"] (defScope s_check_beats) := ⟨rfl, rfl, rfl, by decide +kernel, rfl, by decide +kernel, by decide +kernel⟩
theorem ok_check_beats (M : Md K mg CB) (F_check_at_least : Kn P w K mg base 3 "check_at_least" ["value", "least"] (spx_check_at_least CB)) (F_is_between : Kn P w K mg base 2 "is_between" ["value", "least", "most"] sp_is_between)
    (F : Fun K "check_beats" "check_beats" s_check_beats f fd) : FnOk P w K mg base (CXE P w) 4 f fd ["beats", "places"] (spx_check_beats CB) := by
  refine F.okX sc_check_beats (fun vs H Q E h => ?_) (fun cdv A outer s H vs Q E hr h => ?_)
  · obtain ⟨i, l, rfl, _⟩ := h; rfl
  obtain ⟨b, p, rfl, q1, q2⟩ := h
  refine ⟨_, (pss_cons (ps_expr (pe_fnX F_check_at_least (hr.mono (by decide)) (pa_cons (pv 1) (pa_cons pe_int pa_nil))))
    (pss_one (ps_if (pt_not (pt_val (pe_fn F_is_between (hr.mono (by decide)) (pa_cons (pv 0) (pa_cons pe_int (pa_cons (pv 1) pa_nil)))))) (pss_one (ps_raise M.x_bad (pa_cons pe_str pa_nil))) pss_nil))), ?_⟩
  refine rd_exprK ⟨_, rfl, p, 1, rfl, .inr rfl, fun hp => ?_, fun hp => q2 fun z => hp z.1⟩
  refine rd_if1 (pb_not (pb_val (pv_call (pa_1 (pv_var rfl) (pa_1 pv_c (pa_1 (pv_var rfl) pa_0))) fun Q' q' => ⟨b, 0, p, rfl, q'⟩))) (fun c => ?_) (fun c => ?_)
  · have c' : ¬ (0 ≤ b ∧ b ≤ p) := fun z => by rw [decide_eq_true z] at c; cases c
    exact ⟨by show 1 ≤ sizeLine; decide, q2 fun z => c' z.2⟩
  · have c' : 0 ≤ b ∧ b ≤ p := Classical.byContradiction fun z => by rw [decide_eq_false z] at c; cases c
    exact q1 ⟨hp, c'⟩
end
end K08
set_option maxHeartbeats 4000000
namespace K08
open PySem L2 Eb
theorem lc2_of {J : It} {te : TE} {js : List Nat} {Q : VK} {σ : St} {H : Hp} (h : tLCgo J te js Q σ H) : tLC2 J 1 (gName 0) tYes te js Q σ H := by
  intro D hD
  obtain ⟨W, w0, hs⟩ := h D hD
  refine ⟨W, w0, fun i m σ' H' hw => ?_⟩
  rcases hs i m σ' H' hw with a | ⟨go, N, hN, st⟩
  · exact .inl a
  · refine .inr ⟨go, N, hN, fun x H2 y => ?_⟩
    unfold gName tYes
    dsimp only
    rw [if_pos rfl]
    exact st x H2 y
section
variable {P : Program} {w : World} {K : PySem.W.Frag} {mg : Str → Option Value} {base : Heap} {f CB CN CU : Addr} {fd : FuncData}
abbrev s_check_ring : Stmt := top 15
theorem sc_check_ring : FnScope ["value"] ["value"] (defScope s_check_ring) := ⟨rfl, rfl, rfl, by decide +kernel, rfl, by decide +kernel, by decide +kernel⟩
theorem ok_check_ring (F_is_ring : Kn P w K mg base 2 "is_ring" ["value"] sp_is_ring) (F : Fun K "check_ring" "check_ring" s_check_ring f fd) : FnOk P w K mg base (CXE P w) 3 f fd ["value"] sp_check_ring := by
  refine F.okN sc_check_ring (fun vs H Q E h => ?_) (fun cdv A outer s H vs Q E hr h => ?_)
  · obtain ⟨l, rfl, _⟩ := h; rfl
  obtain ⟨l, rfl, h1, h2, q⟩ := h
  refine ⟨_, (pss_one (ps_if (pt_not (pt_val (pe_fn F_is_ring (hr.mono (by decide)) (pa_cons (pv 0) pa_nil)))) (pss_one ps_never) pss_nil)), ?_⟩
  refine rd_if1 (pb_not (pb_val (pv_call (pa_1 (pv_var rfl) pa_0) fun Q' q' => ⟨l, rfl, h2, q'⟩))) (fun c => ?_) (fun _ => q)
  rw [decide_eq_true h1] at c; cases c
abbrev s_gaps : Stmt := top 20
theorem sc_gaps : FnScope ["ring", "beats", "following"] ["ring"] (defScope s_gaps) := ⟨rfl, rfl, rfl, by decide +kernel, rfl, by decide +kernel, by decide +kernel⟩
def sub2 : V → V → V
  | .int a, .int b => .int (b - a)
  | _, _ => .non
theorem ok_gaps (M : Md K mg CB) (hzip : mg "zip" = none) (xN : XCls K mg "NoBeat" CN) (F_check_ring : Kn P w K mg base 3 "check_ring" ["value"] sp_check_ring) (F : Fun K "gaps" "gaps" s_gaps f fd) : FnOk P w K mg base (CXE P w) 4 f fd ["ring"] (spx_gaps CN) := by
  refine F.okX sc_gaps (fun vs H Q E h => ?_) (fun cdv A outer s H vs Q E hr h => ?_)
  · obtain ⟨l, rfl, _⟩ := h; rfl
  obtain ⟨l, rfl, h1, h2, qG, qN⟩ := h
  have nd := sc_gaps.nd
  have nd1 : ((["place"] : List Str) ++ (["ring"] : List Str)).Nodup := by decide +kernel
  have nd2 : ((["place", "later"] : List Str) ++ ([] : List Str)).Nodup := by decide +kernel
  have hz : (rowS l).length ≤ sizeLine := by rw [rowS_length]; exact sizeOk (by omega)
  refine ⟨_, (pss_cons (ps_expr (pe_fn F_check_ring (hr.mono (by decide)) (pa_cons (pv 0) pa_nil)))
    (pss_cons (ps_lc2 (zs := ["place"]) (ys := ["ring"]) (js := [0]) (cl := [("ring", s.heap.objs.size + 1)]) (pi_range1 rfl M.b_range (pa_cons (pe_callB call_len_str rfl M.b_len bo_len (pa_cons (pv 0) pa_nil)) pa_nil))
        ⟨rfl, by decide +kernel, rfl, by decide +kernel, ⟨rfl, trivial⟩, ⟨.inl rfl, .inl rfl, .inr (.inl rfl), .inr (.inr ⟨_, rfl⟩), trivial⟩, ⟨⟨rfl, .inl rfl, .inl rfl⟩, trivial⟩, rfl⟩ rfl (fun _ _ _ _ => pg_name (i := 0) nd1 rfl (.inl rfl) (.inr rfl))
        (fun _ _ _ _ => pc_one (pt_cmpR op_eq (pe_ix (r := rIxS) ix_str (pv 1) (pv 0) (fun _ _ => rfl)) (pe_gstr M.c_BEAT) (nomark _))) (fun _ _ _ _ => (pv 0)) (pg_name (i := 1) nd rfl (Or.inl rfl) (Or.inl rfl)))
    (pss_cons (ps_if (pt_cmpR op_eq (pe_callB call_len_seq rfl M.b_len bo_len (pa_cons (pv 1) pa_nil)) pe_int (nomark _)) (pss_one (ps_raise xN (pa_cons pe_str pa_nil))) pss_nil)
    (pss_cons (ps_set (i := 2) nd rfl (Or.inl rfl) (pe_op op_cat (pe_slice sl_list (pv 1) (po_some pe_int) po_none) (pe_lst (pa_cons (pe_op op_add (pe_ix ix_list (pv 1) pe_int (fun _ _ => rfl)) (pe_callB call_len_str rfl M.b_len bo_len (pa_cons (pv 0) pa_nil))) pa_nil))))
    (pss_one (ps_ret (pe_lc2 (g := gTup K 2 (gCons (gName 0) (gCons (gName 1) gNil))) (zs := ["place", "later"]) (ys := []) (js := []) (cl := []) (pi_zip rfl hzip (pa_cons (pv 1) (pa_cons (pv 2) pa_nil)))
        ⟨rfl, by decide +kernel, rfl, by decide +kernel, trivial, ⟨.inl rfl, .inl rfl, .inl rfl, trivial⟩, trivial, rfl⟩ rfl (fun _ _ _ _ => pg_tup rfl (pgs_cons (pg_name (i := 0) nd2 rfl (.inl rfl) (.inr rfl)) (pgs_cons (pg_name (i := 1) nd2 rfl (.inl rfl) (.inr rfl)) pgs_nil)))
        (fun _ _ _ _ => pc_nil) (fun _ _ _ _ => (pe_op op_sub (pv 1) (pv 0)))))))))), ?_⟩
  refine rd_expr (pv_call (pa_1 (pv_var rfl) pa_0) fun Q' q' => ⟨l, rfl, h1, by omega, q'⟩) ?_
  refine rd_seq (ti_rng1 (pa_1 (pv_len (pv_var rfl) hz) pa_0) ⟨_, rfl, by omega, by rw [rowS_length]; omega, ?_⟩)
  rw [rowS_length, show ((l.length : Nat) : Int).toNat = l.length by omega]
  refine lc2_rangeIf (fun i => V.int ((i : Nat) : Int)) (fun i => l.getD i false) (sizeOk (by omega)) (fun i D zs R hi hD r => ?_) (fun i D zs R hi hb hD r => ?_) (fun D hD => ?_)
  · obtain ⟨b, hb, ha⟩ := ix_row l ((0 : Int) + (i : Nat)) (by omega) (by omega)
    have eb : l.getD i false = b := by
      rw [show ((0 : Int) + (i : Nat)).toNat = i by omega] at hb
      rw [List.getD_eq_getElem?_getD, hb]; rfl
    rw [eb] at r
    refine (pb_test (pv_eq (pv_ixS (pv_var rfl) (pv_var rfl) hz ha) pv_c rfl)) R ?_
    rw [sign_sg]
    cases b
    · exact r
    · exact r
  · refine ⟨_, rfl, ?_⟩
    rw [Int.zero_add]; exact r
  rw [pl_range]
  have gD := same_new hD (HO.lst ((pl 0 l).map fun i => V.int ((i : Nat) : Int)))
  have hB0 : upd H D (HO.lst ((pl 0 l).map fun i => V.int ((i : Nat) : Int))) D = some (HO.lst (vG (pl 0 l))) := upd_same
  generalize upd H D (HO.lst ((pl 0 l).map fun i => V.int ((i : Nat) : Int))) = H1 at gD hB0
  have hB : SqL K H1 D (vG (pl 0 l)) := SqL.of hB0
  have lenP := pl_length l 0
  have c0 := cnt_nonneg l
  have vl : ∀ g : List Nat, (vG g).length = g.length := fun g => by simp [vG]
  dsimp only
  refine rd_ifn (pb_test (pv_eq (pv_lenL (pv_var rfl) hB) pv_c rfl)) (fun c => ?_) (fun c => ?_)
  · have c' := of_decide_eq_true c
    rw [vl] at c'
    have e0 : ((pl 0 l).length : Int) = 0 := V.int.inj c'
    exact ⟨by show 1 ≤ sizeLine; decide, qN (by omega) _ gD⟩
  · have c' := of_decide_eq_false c
    rw [vl] at c'
    have e0 : ((pl 0 l).length : Int) ≠ 0 := fun z => c' (by rw [z])
    have hc : 1 ≤ cnt l := by omega
    obtain ⟨f0, r, ep, eg⟩ := gaps_places hc
    have c1 := cnt_le l
    rw [ep] at hB hB0 lenP
    have lr : r.length + 1 ≤ 1000 := by rw [List.length_cons] at lenP; omega
    have a0 : atI (vG (f0 :: r)) ((0 : Nat) : Int) = some (.int (f0 : Nat)) := atI_nat rfl
    refine rd_setK (te_op ⟨_, rfl, 1, rfl, D, vG (f0 :: r), rfl, hB, fun p1 hp1 => ?_⟩)
    have g1 := same_new hp1 (HO.lst (cutV (vG (f0 :: r)) (some 1) none))
    have h1' : upd H1 p1 (HO.lst (cutV (vG (f0 :: r)) (some 1) none)) p1 = some (HO.lst (vG r)) := by
      rw [upd_same]
      congr 2
      unfold cutV
      rw [show HT.sIx (vG (f0 :: r)).length 0 (some 1) = 1 by show min 1 (vG (f0 :: r)).length = 1; rw [vl, List.length_cons]; omega, HT.sIx_none]
      show ((vG (f0 :: r)).drop 1).take ((vG (f0 :: r)).length - 1) = vG r
      rw [show (vG (f0 :: r)).drop 1 = vG r from rfl, List.take_of_length_le (by rw [vl, vl, List.length_cons]; omega)]
    generalize upd H1 p1 (HO.lst (cutV (vG (f0 :: r)) (some 1) none)) = H2 at g1 h1'
    have hB2 := g1.seq hB
    refine te_lst ((pa_1 (pv_op (pv_ixL (pv_var rfl) pv_c hB2 a0) (pv_len (pv_var rfl) hz)) pa_0) _ ⟨by show 1 ≤ sizeLine; decide, fun p2 hp2 => ?_⟩)
    rw [rowS_length]
    have g2 := same_new hp2 (HO.lst [V.int ((f0 : Nat) + (l.length : Nat))])
    refine ⟨p1, p2, vG r, [V.int ((f0 : Nat) + (l.length : Nat))], rfl, rfl, g2 _ _ h1', upd_same, by rw [vl]; exact sizeOk (by show r.length + 1 ≤ _; omega), fun p3 hp3 => ?_⟩
    have g3 := same_new hp3 (HO.lst (vG r ++ [V.int ((f0 : Nat) + (l.length : Nat))]))
    have g23 : Same H2 (upd (upd H2 p2 (HO.lst [V.int ((f0 : Nat) + (l.length : Nat))])) p3 (HO.lst (vG r ++ [V.int ((f0 : Nat) + (l.length : Nat))]))) := g2.trans g3
    have hF : SqL K (upd (upd H2 p2 (HO.lst [V.int ((f0 : Nat) + (l.length : Nat))])) p3 (HO.lst (vG r ++ [V.int ((f0 : Nat) + (l.length : Nat))]))) p3 (vG (r ++ [f0 + l.length])) := SqL.of (by rw [upd_same]; simp [vG])
    have hB3 := g23.seq hB2
    have g03 : Same H _ := gD.trans (g1.trans g23)
    generalize upd (upd H2 p2 (HO.lst [V.int ((f0 : Nat) + (l.length : Nat))])) p3 (HO.lst (vG r ++ [V.int ((f0 : Nat) + (l.length : Nat))])) = H3 at g23 hF hB3 g03
    refine rd_retK ((pa_1 (pv_var rfl) (pa_1 (pv_var rfl) pa_0)) _ ⟨D, p3, _, _, rfl, hB3, hF, ?_⟩)
    refine lc2_zip sub2 (by rw [vl, vl]; simp) (by rw [vl]; exact sizeOk (by rw [List.length_cons]; omega)) hB3 hF (fun i x y H4 R hx hy g4 rr => ?_) (fun D4 H4 hD4 g4 h4 => ?_)
    · unfold vG at hx hy
      rw [List.getElem?_map] at hx hy
      obtain ⟨x', hx', rfl⟩ := Option.map_eq_some_iff.mp hx
      obtain ⟨y', hy', rfl⟩ := Option.map_eq_some_iff.mp hy
      exact (pv_op (pv_var rfl) (pv_var rfl)) R rr
    · refine qG hc D4 H4 ?_ (g03.trans g4) ?_
      · cases e : H D4 with
        | none => rfl
        | some o => rw [g03 _ _ e] at hD4; cases hD4
      · rw [h4, eg]
        congr 2
        apply List.ext_getElem?
        intro i
        unfold difs vG
        rw [List.getElem?_zipWith, List.getElem?_map, List.getElem?_map, List.getElem?_map, List.getElem?_zipWith]
        cases hx : (f0 :: r)[i]? with
        | none => cases (r ++ [f0 + l.length])[i]? <;> rfl
        | some x =>
          cases hy : (r ++ [f0 + l.length])[i]? with
          | none => rfl
          | some y =>
            have := pl_cons ep i x y hx hy
            show some (V.int ((y : Int) - (x : Int))) = some (V.int ((y - x : Nat) : Int))
            rw [Int.ofNat_sub this]
abbrev s_folded : Stmt := top 21
theorem sc_folded : FnScope ["ring", "between", "least"] ["ring"] (defScope s_folded) := ⟨rfl, rfl, rfl, by decide +kernel, rfl, by decide +kernel, by decide +kernel⟩
theorem ok_folded (M : Md K mg CB) (xU : XCls K mg "Uneven" CU) (F_gaps : Kn P w K mg base 4 "gaps" ["ring"] (spx_gaps CN)) (F : Fun K "folded" "folded" s_folded f fd) : FnOk P w K mg base (CXE P w) 5 f fd ["ring"] (spx_folded CN CU) := by
  refine F.okX sc_folded (fun vs H Q E h => ?_) (fun cdv A outer s H vs Q E hr h => ?_)
  · obtain ⟨l, rfl, _⟩ := h; rfl
  obtain ⟨l, rfl, h1, h2, qF, qN, qU⟩ := h
  have nd := sc_folded.nd
  have nd1 : ((["gap"] : List Str) ++ (["least"] : List Str)).Nodup := by decide +kernel
  have c0 := cnt_nonneg l
  have c1 := cnt_le l
  refine ⟨_, (pss_cons (ps_set (i := 1) nd rfl (Or.inl rfl) (pe_fnX F_gaps (hr.mono (by decide)) (pa_cons (pv 0) pa_nil)))
    (pss_cons (ps_set (i := 2) nd rfl (Or.inr rfl) (pe_callB (call_min1 rfl) rfl M.b_min bo_min (pa_cons (pv 1) pa_nil)))
    (pss_cons (ps_if (pt_cmpR op_gt (pe_callB (call_max1 rfl) rfl M.b_max bo_max (pa_cons (pv 1) pa_nil)) (pe_op op_add (pv 2) pe_int) (nomark _)) (pss_one (ps_raise xU (pa_cons pe_str pa_nil))) pss_nil)
    (pss_one (ps_ret (pe_bm PySem.F.plainAttrs_str PySem.F.slot_str_join PySem.F.type_str_join mt_join pe_str (pa_cons (pe_lc2 (g := gName 0) (tc := tYes) (zs := ["gap"]) (js := [2]) (ys := ["least"]) (cl := [("least", s.heap.objs.size + 1)]) (pi_list (pv 1))
        ⟨rfl, by decide +kernel, rfl, by decide +kernel, ⟨rfl, trivial⟩, ⟨.inl rfl, .inl rfl, .inr (.inl rfl), .inr (.inl rfl), .inr (.inr ⟨_, rfl⟩), trivial⟩, ⟨⟨rfl, .inl rfl, .inl rfl⟩, trivial⟩, rfl⟩ rfl (fun _ _ _ _ => pg_name (i := 0) nd1 rfl (.inl rfl) (.inr rfl)) (fun _ _ _ _ => pc_nil) (fun _ _ _ _ => (pe_ifExp (pt_cmpR op_gt (pv 0) (pv 1) (nomark _)) (pe_gstr M.c_BEAT) (pe_gstr M.c_REST)))) pa_nil))))))), ?_⟩
  refine rd_setK ⟨_, rfl, l, rfl, h1, h2, fun hc p H1 _ g1 hp => ?_, fun hc H1 g1 => qN hc H1 g1⟩
  have hp' : SqL K H1 p (((gapsL l).map fun x => ((x : Nat) : Int)).map V.int) := SqL.of (by rw [hp, vG_map])
  have hv : SqL K H1 p (vG (gapsL l)) := SqL.of hp
  obtain ⟨d, hd, hm⟩ := min_gap hc
  have hne : (gapsL l).map (fun x => ((x : Nat) : Int)) ≠ [] := fun z => by
    have e := List.map_eq_nil_iff.mp z
    rw [e] at hd; cases hd
  obtain ⟨mx, hmx, amx⟩ := ex_max hne
  have lg := gapsL_len hc
  refine rd_set (pv_min1 (m := (d : Int)) (pv_var rfl) hp' (List.mem_map.mpr ⟨d, hd, rfl⟩) (fun a ha => by
    obtain ⟨x, hx, rfl⟩ := List.mem_map.mp ha
    have := hm x hx; omega)) ?_
  refine rd_ifn (pb_test (pv_op (pv_max1 (pv_var rfl) hp' hmx amx) (pv_op (pv_var rfl) pv_c))) (fun c => ?_) (fun c => ?_)
  · have c' : (d : Int) + 1 < mx := of_decide_eq_true c
    refine ⟨by show 1 ≤ sizeLine; decide, qU hc d hd hm (fun z => ?_) H1 g1⟩
    obtain ⟨x, hx, rfl⟩ := List.mem_map.mp hmx
    have := z x hx; omega
  · have c' : ¬ (d : Int) + 1 < mx := of_decide_eq_false c
    refine rd_retK ⟨rfl, _, rfl, p, rfl, ⟨_, hv⟩, ?_⟩
    refine lc2_of ?_
    refine lc_list (fold1 d) (by simp [vG]; exact sizeOk (by omega)) hv (fun i x D zs R hi hD r => ?_) (fun D hD => ?_)
    · unfold vG at hi
      rw [List.getElem?_map] at hi
      obtain ⟨x', hx', rfl⟩ := Option.map_eq_some_iff.mp hi
      refine (pv_if (v := fold1 d (V.int (x' : Nat))) (b := decide ((d : Int) < (x' : Nat))) (pb_test (pv_op (pv_var rfl) (pv_var rfl))) (fun z => ?_) (fun z => ?_)) R r
      · have e : fold1 d (V.int (x' : Nat)) = V.str "x" := by unfold fold1; dsimp only; rw [z]; rfl
        rw [e]; exact pv_c
      · have e : fold1 d (V.int (x' : Nat)) = V.str "." := by unfold fold1; dsimp only; rw [z]; rfl
        rw [e]; exact pv_c
    · refine ⟨"", D, (foldL (gapsL l) d).map signS, rfl, rfl, SqL.of ?_, joinOk_rows _ (by simp [foldL]; omega), ?_⟩
      · rw [upd_same, fold1_map]
      · rw [join_rows]
        refine qF hc d hd hm (fun x hx => ?_) _ (g1.trans (same_new hD _))
        have := amx _ (List.mem_map.mpr ⟨x, hx, rfl⟩)
        omega
abbrev s_unfolded : Stmt := top 22
theorem sc_unfolded : FnScope ["ring", "gap", "short"] ["ring", "gap"] (defScope s_unfolded) := ⟨rfl, rfl, rfl, by decide +kernel, rfl, by decide +kernel, by decide +kernel⟩
theorem ok_unfolded (M : Md K mg CB) (F_check_ring : Kn P w K mg base 3 "check_ring" ["value"] sp_check_ring) (F_check_at_least : Kn P w K mg base 3 "check_at_least" ["value", "least"] (spx_check_at_least CB)) (F : Fun K "unfolded" "unfolded" s_unfolded f fd) :
    FnOk P w K mg base (CXE P w) 4 f fd ["ring", "gap"] sp_unfolded := by
  refine F.okX sc_unfolded (fun vs H Q E h => ?_) (fun cdv A outer s H vs Q E hr h => ?_)
  · obtain ⟨l, gap, rfl, _⟩ := h; rfl
  obtain ⟨l, gap, rfl, h1, g1, h2, g2, q⟩ := h
  have nd := sc_unfolded.nd
  have nd1 : ((["sign"] : List Str) ++ (["short"] : List Str)).Nodup := by decide +kernel
  refine ⟨_, (pss_cons (ps_expr (pe_fn F_check_ring (hr.mono (by decide)) (pa_cons (pv 0) pa_nil)))
    (pss_cons (ps_expr (pe_fnX F_check_at_least (hr.mono (by decide)) (pa_cons (pv 1) (pa_cons pe_int pa_nil))))
    (pss_cons (ps_set (i := 2) nd rfl (Or.inr rfl) (pe_op op_add_str (pe_gstr M.c_BEAT) (pe_op op_mulS (pe_gstr M.c_REST) (pe_op op_sub (pv 1) pe_int))))
    (pss_one (ps_ret (pe_bm PySem.F.plainAttrs_str PySem.F.slot_str_join PySem.F.type_str_join mt_join pe_str (pa_cons (pe_lc2 (g := gName 0) (tc := tYes) (zs := ["sign"]) (js := [2]) (ys := ["short"]) (cl := [("short", s.heap.objs.size + 1)]) (pi_str (pv 0))
        ⟨rfl, by decide +kernel, rfl, by decide +kernel, ⟨rfl, trivial⟩, ⟨.inl rfl, .inl rfl, .inr (.inl rfl), .inr (.inl rfl), .inr (.inr ⟨_, rfl⟩), trivial⟩, ⟨⟨rfl, .inl rfl, .inl rfl⟩, trivial⟩, rfl⟩ rfl (fun _ _ _ _ => pg_name (i := 0) nd1 rfl (.inl rfl) (.inr rfl)) (fun _ _ _ _ => pc_nil) (fun _ _ _ _ => (pe_ifExp (pt_cmpR op_eq (pv 0) (pe_gstr M.c_BEAT) (nomark _)) (pe_op op_add_str (pv 1) (pe_gstr M.c_REST)) (pv 1)))) pa_nil))))))), ?_⟩
  refine rd_expr (pv_call (pa_1 (pv_var rfl) pa_0) fun Q' q' => ⟨l, rfl, h1, by omega, q'⟩) ?_
  refine rd_exprK ⟨_, rfl, gap, 1, rfl, .inr rfl, fun _ => ?_, fun z => absurd g1 z⟩
  have ex : ("x" : Str) = rowS [true] := by decide +kernel
  have ed : ("." : Str) = rowS [false] := by decide +kernel
  have hm : Txt.mul "." (gap - 1) = rowS (List.replicate (gap - 1).toNat false) := mul_sign false (gap - 1) (by omega)
  have hk : MulOk "." (gap - 1) := mulOk_sign false (gap - 1) (by omega) (by omega)
  have es : ("x" : Str) ++ Txt.mul "." (gap - 1) = rowS (short gap.toNat) := by
    rw [hm, ex, rowS_append]
    congr 1
    unfold short
    rw [show (gap - 1).toNat = gap.toNat - 1 by omega]; rfl
  have ep : ∀ b : Bool, piece gap.toNat b = short gap.toNat ++ if b then [false] else [] := fun b => piece_short gap.toNat b
  have ls : (short gap.toNat).length = gap.toNat := by simp [short]; omega
  refine rd_set (pv_strcat pv_c (pv_mulS pv_c (pv_op (pv_var rfl) pv_c) hk) ?_) ?_
  · rw [hm, ex, rowS_length, rowS_length, List.length_replicate]; exact sizeOk (by simp; omega)
  rw [es]
  refine rd_retK ⟨rfl, _, rfl, _, rfl, rowS_ascii l, ?_⟩
  refine lc2_of ?_
  refine lc_str (fun c => V.str (rowS (piece gap.toNat (decide (c = 120))))) (by rw [rowS_size]; exact sizeOk (by omega)) (fun i c D zs R hi hD r => ?_) (fun D hD => ?_)
  · obtain ⟨b, hb, rfl⟩ := rowS_get l i c hi
    have eb : decide (sg b = 120) = b := by cases b <;> rfl
    rw [eb, ep] at r
    rw [sign_sg]
    refine (pv_if (v := V.str (rowS (short gap.toNat ++ if b then [false] else []))) (b := decide (V.str (signS b) = V.str "x")) (pb_test (pv_eq (pv_var rfl) pv_c rfl)) (fun z => ?_) (fun z => ?_)) R r
    · cases b
      · exact absurd z (by decide +kernel)
      · rw [if_pos rfl, ← rowS_append, ← ed]
        exact pv_strcat (pv_var rfl) pv_c (by rw [ed, rowS_length, rowS_length, ls]; exact sizeOk (by simp; omega))
    · cases b
      · rw [if_neg (by decide), List.append_nil]; exact pv_var rfl
      · exact absurd z (by decide +kernel)
  · have hu := unf_length_le (l := l) (gap := gap.toNat) (by omega)
    have hu2 : l.length * (gap.toNat + 1) ≤ 1000 * 1001 := Nat.mul_le_mul h2 (by omega)
    refine ⟨"", D, (l.map (piece gap.toNat)).map rowS, rfl, rfl, SqL.of ?_, joinOk_pieces _ (by rw [← unf_pieces (by omega)]; omega), ?_⟩
    · rw [upd_same]
      congr 2
      show ((l.map sg).toArray.toList.map _) = _
      rw [List.toList_toArray, List.map_map, List.map_map, List.map_map]
      refine List.map_congr_left fun b _ => ?_
      cases b <;> rfl
    · rw [join_pieces, ← unf_pieces (by omega)]
      exact q _ (same_new hD _)
end
end K08
set_option maxHeartbeats 4000000
namespace K08
open PySem L2 Eb
theorem while_rel {c : TT} {tb : TS} {D : Ends} {σ : St} {H : Hp} (W : Nat → St → Hp → Prop) {m0 : Nat} (h0 : W m0 σ H)
    (hs : ∀ m σ H, W m σ H → c σ H fun b H1 => if b = true then ∃ N : St → Hp → Prop, (∀ σ' H', N σ' H' → ∃ m', m' < m ∧ W m' σ' H') ∧ tb { D with nx := N, ct := N, bk := D.nx } σ H1 else D.nx σ H1) : tWhile c tb D σ H := ⟨W, ⟨m0, h0⟩, hs⟩
section
variable {P : Program} {w : World} {K : PySem.W.Frag} {mg : Str → Option Value} {base : Heap} {f CB CN CU : Addr} {fd : FuncData}
abbrev s_folds : Stmt := top 23
theorem sc_folds : FnScope ["ring", "told"] ["ring"] (defScope s_folds) := ⟨rfl, rfl, rfl, by decide +kernel, rfl, by decide +kernel, by decide +kernel⟩
theorem ok_folds (M : Md K mg CB) (F_check_ring : Kn P w K mg base 3 "check_ring" ["value"] sp_check_ring) (F_folded : Kn P w K mg base 5 "folded" ["ring"] (spx_folded CN CU)) (F : Fun K "folds" "folds" s_folds f fd) : FnOk P w K mg base (CXE P w) 6 f fd ["ring"] (spx_folds8 CU) := by
  refine F.okX sc_folds (fun vs H Q E h => ?_) (fun cdv A outer s H vs Q E hr h => ?_)
  · obtain ⟨l, rfl, _⟩ := h; rfl
  obtain ⟨l, rfl, h1, h2, qQ, qE⟩ := h
  have nd := sc_folds.nd
  refine ⟨_, (pss_cons (ps_expr (pe_fn F_check_ring (hr.mono (by decide)) (pa_cons (pv 0) pa_nil)))
    (pss_cons (ps_set (i := 1) nd rfl (Or.inl rfl) (pe_lst (pa_cons (pv 0) pa_nil)))
    (pss_cons (ps_while PassesOwn.leaving (pt_cmpR op_in_str (pe_gstr M.c_BEAT) (pe_ix ix_list (pv 1) (pe_un un_neg pe_int) (fun _ _ => rfl)) rfl)
      (pss_one (ps_expr (pe_bm PySem.F.plainAttrs_list PySem.F.slot_list_append PySem.F.type_list_append mt_append (pv 1) (pa_cons (pe_fnX F_folded (hr.mono (by decide)) (pa_cons (pe_ix ix_list (pv 1) (pe_un un_neg pe_int) (fun _ _ => rfl)) pa_nil)) pa_nil)))))
    (pss_one (ps_ret (pv 1)))))), ?_⟩
  refine rd_expr (pv_call (pa_1 (pv_var rfl) pa_0) fun Q' q' => ⟨l, rfl, h1, by omega, q'⟩) ?_
  refine rd_setK (te_lst ((pa_1 (pv_var rfl) pa_0) _ ⟨by show 1 ≤ sizeLine; decide, fun p hp => ?_⟩))
  have hfar : far l ≤ 2 * l.length + 1 := by unfold far; split <;> omega
  refine rd_seq (while_rel (fun m σ H' => ∃ L z, σ = [some (.str (rowS l)), some (.ref p)] ∧ Same H H' ∧ H' p = some (.lst (vR (L ++ [z]))) ∧ Chain8 l (L ++ [z]) ∧ L.length + far z ≤ far l ∧ m = far z) (m0 := far l) ⟨[], l, rfl, same_new hp _, upd_same, Chain8.one h1, by simp, rfl⟩ (fun m σ H' h => ?_))
  obtain ⟨L, z, rfl, g, hL, C, hb, rfl⟩ := h
  have hS : SqL K H' p (vR (L ++ [z])) := SqL.of hL
  obtain ⟨z1, z2⟩ := C.ok z (by simp)
  refine (pb_test (pv_in pv_c (pv_ixL (pv_var rfl) (pv_neg pv_c) hS (vR_last L z)))) _ ?_
  rw [in_x]
  by_cases hc : 1 ≤ cnt z
  · rw [decide_eq_true hc, if_pos rfl]
    refine ⟨fun σ' H2 => ∃ L2 z2, σ' = [some (.str (rowS l)), some (.ref p)] ∧ Same H H2 ∧ H2 p = some (.lst (vR (L2 ++ [z2]))) ∧ Chain8 l (L2 ++ [z2]) ∧ L2.length + far z2 ≤ far l ∧ far z2 < far z, fun σ' H2 ⟨L2, z2, a1, a2, a3, a4, a5, a6⟩ => ⟨far z2, a6, L2, z2, a1, a2, a3, a4, a5, rfl⟩, ?_⟩
    refine ⟨_, rfl, .inl ⟨rfl, _, hS⟩, ta_cons (te_callE ((pa_1 (pv_ixL (pv_var rfl) (pv_neg pv_c) hS (vR_last L z)) pa_0) _ ⟨z, rfl, z1, by omega, fun _ d hd d1 d2 H2 g2 => ?_, fun c0 => by omega, fun _ d hd d1 d2 H2 g2 => ?_⟩))⟩
    · have hL2 := g2 _ _ hL
      have fd' := far_fold hc hd
      refine ⟨p, _, _, rfl, rfl, hL2, ?_, L ++ [z], foldL (gapsL z) d, rfl, (g.trans g2).upd_none hp, ?_, C.more hc hd d1 d2, ?_, fd'⟩
      · rw [vR_length, List.length_append]
        exact sizeLt (by simp; omega)
      · rw [upd_same]
        simp [vR]
      · rw [List.length_append]; simp; omega
    · obtain ⟨x, hx, lt⟩ : ∃ x, x ∈ gapsL z ∧ d + 1 < x := Classical.byContradiction fun no => d2 fun x hx => Classical.byContradiction fun nle => no ⟨x, hx, by omega⟩
      exact qE L z d x C hc hd d1 hx lt H2 (g.trans g2)
  · rw [decide_eq_false hc, if_neg (by decide)]
    have c0 : cnt z = 0 := by have := cnt_nonneg z; omega
    exact ⟨_, rfl, qQ p H' L z hp g hL C c0⟩
end
end K08
set_option maxHeartbeats 4000000
namespace K08
open PySem L2 Eb
section
variable {P : Program} {w : World} {K : PySem.W.Frag} {mg : Str → Option Value} {base : Heap} {f CB CR : Addr} {fd : FuncData}
theorem no_is_number (M : Md K mg CB) (F : Fun K "is_number" "is_number" s_is_number f fd) : FnOk P w K mg base (CXE P w) 1 f fd ["value"] (spn_is_number K) := by
  refine F.okN sc_is_number (fun vs H Q E h => ?_) (fun cdv A outer s H vs Q E hr h => ?_)
  · obtain ⟨v, rfl, _⟩ := h; rfl
  obtain ⟨v, rfl, ⟨t, ty, hn⟩, q⟩ := h
  refine ⟨_, (pss_one (ps_ret (pe_and (pe_callB call_isi rfl M.b_isinstance bo_isinstance (pa_cons (pv 0) (pa_cons (pe_bty M.b_int bo_int) pa_nil))) (pe_one (pe_not (pe_callB call_isi rfl M.b_isinstance bo_isinstance (pa_cons (pv 0) (pa_cons (pe_bty M.b_bool bo_bool) pa_nil)))))))), ?_⟩
  rcases hn with hi | ⟨hi, hb⟩
  · exact rd_ret (pv_and (q := true) (pv_isi (pv_var rfl) ty hi) fun z => by cases z) q
  · exact rd_ret (pv_and (pv_isi (pv_var rfl) ty hi) fun _ => pv_not (pv_isi (pv_var rfl) ty hb)) q
theorem no_is_between (F_is_number : Kn P w K mg base 1 "is_number" ["value"] (spn_is_number K)) (F : Fun K "is_between" "is_between" s_is_between f fd) : FnOk P w K mg base (CXE P w) 2 f fd ["value", "least", "most"] (spn_is_between K) := by
  refine F.okN sc_is_between (fun vs H Q E h => ?_) (fun cdv A outer s H vs Q E hr h => ?_)
  · obtain ⟨v, l, m, rfl, _⟩ := h; rfl
  obtain ⟨v, l, m, rfl, hv, q⟩ := h
  refine ⟨_, (pss_one (ps_ret (pe_and (pe_fn F_is_number (hr.mono (by decide)) (pa_cons (pv 0) pa_nil)) (pe_one (pe_chain op_le op_le (pv 1) (pv 0) (pv 2)))))), ?_⟩
  exact rd_ret (pv_and (q := true) (pv_call (pa_1 (pv_var rfl) pa_0) fun Q' q' => ⟨v, rfl, hv, q'⟩) fun z => by cases z) q
theorem no_is_row (M : Md K mg CB) (F : Fun K "is_row" "is_row" s_is_row f fd) : FnOk P w K mg base (CXE P w) 1 f fd ["value"] (spn_is_row K) := by
  refine F.okN sc_is_row (fun vs H Q E h => ?_) (fun cdv A outer s H vs Q E hr h => ?_)
  · obtain ⟨v, rfl, _⟩ := h; rfl
  obtain ⟨v, rfl, hv, q⟩ := h
  refine ⟨_, (pss_one (ps_ret (pe_and (pe_callB call_isi rfl M.b_isinstance bo_isinstance (pa_cons (pv 0) (pa_cons (pe_bty M.b_str bo_str) pa_nil))) (pe_one (pe_cmpR op_eq (pe_op op_add (pe_bm PySem.F.plainAttrs_str PySem.F.slot_str_count PySem.F.type_str_count mt_count (pv 0) (pa_cons (pe_gstr M.c_BEAT) pa_nil)) (pe_bm PySem.F.plainAttrs_str PySem.F.slot_str_count PySem.F.type_str_count mt_count (pv 0) (pa_cons (pe_gstr M.c_REST) pa_nil))) (pe_callB call_len_str rfl M.b_len bo_len (pa_cons (pv 0) pa_nil)) (nomark _)))))), ?_⟩
  rcases hv with ⟨t, ty, hn⟩ | ⟨z, rfl, hz, hne⟩
  · exact rd_ret (pv_and (q := true) (pv_isi (pv_var rfl) ty hn) fun z => by cases z) q
  · refine rd_ret (pv_and (pv_isi (pv_var rfl) (.str _) kit_str_str) fun _ => pv_eq (pv_op (pv_count (pv_var rfl) pv_c) (pv_count (pv_var rfl) pv_c)) (pv_len (pv_var rfl) (sizeOk (by omega))) rfl) ?_
    show Q (V.bl (true && decide (V.int (Txt.count z "x" + Txt.count z ".") = V.int (z.length : Nat)))) H
    rw [decide_eq_false (fun e => hne (V.int.inj e))]
    exact q
theorem no_is_ring (M : Md K mg CB) (F_is_row : Kn P w K mg base 1 "is_row" ["value"] (spn_is_row K)) (G_is_row : Kn P w K mg base 1 "is_row" ["value"] sp_is_row) (F : Fun K "is_ring" "is_ring" s_is_ring f fd) : FnOk P w K mg base (CXE P w) 2 f fd ["value"] (spn_is_ring K) := by
  refine F.okN sc_is_ring (fun vs H Q E h => ?_) (fun cdv A outer s H vs Q E hr h => ?_)
  · obtain ⟨v, rfl, _⟩ := h; rfl
  obtain ⟨v, rfl, hv, q⟩ := h
  rcases hv with hv | rfl
  · refine ⟨_, (pss_one (ps_ret (pe_and (pe_fn F_is_row (hr.mono (by decide)) (pa_cons (pv 0) pa_nil)) (pe_one (pe_cmpR op_ge (pe_callB call_len_str rfl M.b_len bo_len (pa_cons (pv 0) pa_nil)) pe_int (nomark _)))))), ?_⟩
    exact rd_ret (pv_and (q := true) (pv_call (pa_1 (pv_var rfl) pa_0) fun Q' q' => ⟨v, rfl, hv, q'⟩) fun z => by cases z) q
  · refine ⟨_, (pss_one (ps_ret (pe_and (pe_fn G_is_row (hr.mono (by decide)) (pa_cons (pv 0) pa_nil)) (pe_one (pe_cmpR op_ge (pe_callB call_len_str rfl M.b_len bo_len (pa_cons (pv 0) pa_nil)) pe_int (nomark _)))))), ?_⟩
    refine rd_ret (pv_and (pv_call (pa_1 (pv_var rfl) pa_0) fun Q' q' => ⟨[], rfl, by simp, q'⟩) fun _ => pv_op (pv_len (pv_var rfl) (by rw [rowS_length]; exact sizeOk (by simp))) pv_c) ?_
    show Q (V.bl (true && decide ((1 : Int) ≤ ((rowS []).length : Nat)))) H
    rw [rowS_length]
    exact q
abbrev s_check_row : Stmt := top 14
theorem sc_check_row : FnScope ["value"] ["value"] (defScope s_check_row) := ⟨rfl, rfl, rfl, by decide +kernel, rfl, by decide +kernel, by decide +kernel⟩
theorem no_check_row (xR : XCls K mg "BadRing" CR) (F_is_row : Kn P w K mg base 1 "is_row" ["value"] (spn_is_row K)) (F : Fun K "check_row" "check_row" s_check_row f fd) : FnOk P w K mg base (CXE P w) 2 f fd ["value"] (spn_row K CR) := by
  refine F.okX sc_check_row (fun vs H Q E h => ?_) (fun cdv A outer s H vs Q E hr h => ?_)
  · obtain ⟨v, rfl, _⟩ := h; rfl
  obtain ⟨v, rfl, hv, q⟩ := h
  refine ⟨_, (pss_one (ps_if (pt_not (pt_val (pe_fn F_is_row (hr.mono (by decide)) (pa_cons (pv 0) pa_nil)))) (pss_one (ps_raise xR (pa_cons pe_str pa_nil))) pss_nil)), ?_⟩
  exact rd_if1 (pb_not (pb_val (pv_call (pa_1 (pv_var rfl) pa_0) fun Q' q' => ⟨v, rfl, hv, q'⟩))) (fun _ => ⟨by show 1 ≤ sizeLine; decide, q⟩) (fun c => by cases c)
theorem no_check_ring (xR : XCls K mg "BadRing" CR) (F_is_ring : Kn P w K mg base 2 "is_ring" ["value"] (spn_is_ring K)) (F : Fun K "check_ring" "check_ring" s_check_ring f fd) : FnOk P w K mg base (CXE P w) 3 f fd ["value"] (spn_ring K CR) := by
  refine F.okX sc_check_ring (fun vs H Q E h => ?_) (fun cdv A outer s H vs Q E hr h => ?_)
  · obtain ⟨v, rfl, _⟩ := h; rfl
  obtain ⟨v, rfl, hv, q⟩ := h
  refine ⟨_, (pss_one (ps_if (pt_not (pt_val (pe_fn F_is_ring (hr.mono (by decide)) (pa_cons (pv 0) pa_nil)))) (pss_one (ps_raise xR (pa_cons pe_str pa_nil))) pss_nil)), ?_⟩
  exact rd_if1 (pb_not (pb_val (pv_call (pa_1 (pv_var rfl) pa_0) fun Q' q' => ⟨v, rfl, hv, q'⟩))) (fun _ => ⟨by show 1 ≤ sizeLine; decide, q⟩) (fun c => by cases c)
theorem no_check_number (M : Md K mg CB) (F_is_number : Kn P w K mg base 1 "is_number" ["value"] (spn_is_number K)) (F : Fun K "check_number" "check_number" s_check_number f fd) : FnOk P w K mg base (CXE P w) 2 f fd ["value"] (spn_num K CB) := by
  refine F.okX sc_check_number (fun vs H Q E h => ?_) (fun cdv A outer s H vs Q E hr h => ?_)
  · obtain ⟨v, rfl, _⟩ := h; rfl
  obtain ⟨v, rfl, hv, q⟩ := h
  refine ⟨_, (pss_one (ps_if (pt_not (pt_val (pe_fn F_is_number (hr.mono (by decide)) (pa_cons (pv 0) pa_nil)))) (pss_one (ps_raise M.x_bad (pa_cons pe_str pa_nil))) pss_nil)), ?_⟩
  exact rd_if1 (pb_not (pb_val (pv_call (pa_1 (pv_var rfl) pa_0) fun Q' q' => ⟨v, rfl, hv, q'⟩))) (fun _ => ⟨by show 1 ≤ sizeLine; decide, q⟩) (fun c => by cases c)
theorem no_check_at_least (G_check_at_least : FnOk P w K mg base (CXE P w) 3 f fd ["value", "least"] (spx_check_at_least CB)) (F_check_number : Kn P w K mg base 2 "check_number" ["value"] (spn_num K CB)) (F : Fun K "check_at_least" "check_at_least" s_check_at_least f fd) :
    FnOk P w K mg base (CXE P w) 3 f fd ["value", "least"] (spn_least K CB) := by
  have no : FnOk P w K mg base (CXE P w) 3 f fd ["value", "least"] (fun vs H _ E => ∃ v l, vs = [v, .int l] ∧ NoNum K H v ∧ E (.ref CB) none H) := by
    refine F.okX sc_check_at_least (fun vs H Q E h => ?_) (fun cdv A outer s H vs Q E hr h => ?_)
    · obtain ⟨v, l, rfl, _⟩ := h; rfl
    obtain ⟨v, l, rfl, hv, q⟩ := h
    refine ⟨_, (pss_cons (ps_expr (pe_fnX F_check_number (hr.mono (by decide)) (pa_cons (pv 0) pa_nil))) pss_never), ?_⟩
    exact rd_exprK ⟨_, rfl, v, rfl, hv, q⟩
  refine ⟨fun vs H Q E h => by obtain ⟨v, l, rfl, _⟩ := h; rfl, fun A outer s H args us vs Q E hr he hb hv hs => ?_⟩
  obtain ⟨v, l, rfl, hl, hbad, q⟩ := hs
  rcases hbad with hn | ⟨i, rfl, hi⟩
  · exact no.run A outer s H args us _ Q E hr he hb hv ⟨v, l, rfl, hn, q⟩
  · exact G_check_at_least.run A outer s H args us _ Q E hr he hb hv ⟨i, l, rfl, hl, fun z => by omega, fun _ => q⟩
theorem no_check_beats (M : Md K mg CB) (F_check_at_least : Kn P w K mg base 3 "check_at_least" ["value", "least"] (spn_least K CB)) (G_check_at_least : Kn P w K mg base 3 "check_at_least" ["value", "least"] (spx_check_at_least CB))
    (F_is_between : Kn P w K mg base 2 "is_between" ["value", "least", "most"] (spn_is_between K)) (G_is_between : Kn P w K mg base 2 "is_between" ["value", "least", "most"] sp_is_between) (F : Fun K "check_beats" "check_beats" s_check_beats f fd) :
    FnOk P w K mg base (CXE P w) 4 f fd ["beats", "places"] (spn_beats K CB) := by
  refine F.okX sc_check_beats (fun vs H Q E h => ?_) (fun cdv A outer s H vs Q E hr h => ?_)
  · obtain ⟨b, p, rfl, _⟩ := h; rfl
  obtain ⟨b, p, rfl, hb, q⟩ := h
  rcases hb with hp | ⟨i, rfl, hi, hb⟩
  · refine ⟨_, (pss_cons (ps_expr (pe_fnX F_check_at_least (hr.mono (by decide)) (pa_cons (pv 1) (pa_cons pe_int pa_nil)))) pss_never), ?_⟩
    exact rd_exprK ⟨_, rfl, p, 1, rfl, .inr rfl, hp, q⟩
  · rcases hb with hn | ⟨j, rfl, hj⟩
    · refine ⟨_, (pss_cons (ps_expr (pe_fnX G_check_at_least (hr.mono (by decide)) (pa_cons (pv 1) (pa_cons pe_int pa_nil))))
        (pss_one (ps_if (pt_not (pt_val (pe_fn F_is_between (hr.mono (by decide)) (pa_cons (pv 0) (pa_cons pe_int (pa_cons (pv 1) pa_nil)))))) (pss_one (ps_raise M.x_bad (pa_cons pe_str pa_nil))) pss_nil))), ?_⟩
      refine rd_exprK ⟨_, rfl, i, 1, rfl, .inr rfl, fun _ => ?_, fun z => absurd hi z⟩
      exact rd_if1 (pb_not (pb_val (pv_call (pa_1 (pv_var rfl) (pa_1 pv_c (pa_1 (pv_var rfl) pa_0))) fun Q' q' => ⟨b, _, _, rfl, hn, q'⟩))) (fun _ => ⟨by show 1 ≤ sizeLine; decide, q⟩) (fun c => by cases c)
    · refine ⟨_, (pss_cons (ps_expr (pe_fnX G_check_at_least (hr.mono (by decide)) (pa_cons (pv 1) (pa_cons pe_int pa_nil))))
        (pss_one (ps_if (pt_not (pt_val (pe_fn G_is_between (hr.mono (by decide)) (pa_cons (pv 0) (pa_cons pe_int (pa_cons (pv 1) pa_nil)))))) (pss_one (ps_raise M.x_bad (pa_cons pe_str pa_nil))) pss_nil))), ?_⟩
      refine rd_exprK ⟨_, rfl, i, 1, rfl, .inr rfl, fun _ => ?_, fun z => absurd hi z⟩
      refine rd_if1 (pb_not (pb_val (pv_call (pa_1 (pv_var rfl) (pa_1 pv_c (pa_1 (pv_var rfl) pa_0))) fun Q' q' => ⟨j, 0, i, rfl, q'⟩))) (fun _ => ⟨by show 1 ≤ sizeLine; decide, q⟩) (fun c => ?_)
      rw [decide_eq_false hj] at c; cases c
abbrev s_reckoned : Stmt := top 25
theorem sc_reckoned : FnScope ["beats", "places", "shift", "many", "start"] ["beats", "places", "shift", "many"] (defScope s_reckoned) := ⟨rfl, rfl, rfl, by decide +kernel, rfl, by decide +kernel, by decide +kernel⟩
theorem no_reckoned (F_check_beats : Kn P w K mg base 4 "check_beats" ["beats", "places"] (spn_beats K CB)) (G_check_beats : Kn P w K mg base 4 "check_beats" ["beats", "places"] (spx_check_beats CB)) (F_check_number : Kn P w K mg base 2 "check_number" ["value"] (spn_num K CB))
    (G_check_number : Kn P w K mg base 2 "check_number" ["value"] sp_check_number) (F_check_at_least : Kn P w K mg base 3 "check_at_least" ["value", "least"] (spn_least K CB)) (F : Fun K "reckoned" "reckoned" s_reckoned f fd) : FnOk P w K mg base (CXE P w) 5 f fd ["beats", "places", "shift", "many"] (spn_reck K CB) := by
  refine F.okX sc_reckoned (fun vs H Q E h => ?_) (fun cdv A outer s H vs Q E hr h => ?_)
  · obtain ⟨b, p, s, m, rfl, _⟩ := h; rfl
  obtain ⟨b, p, sh, m, rfl, hb, q⟩ := h
  rcases hb with hb | ⟨j, i, rfl, rfl, i1, j0, ji, hs⟩
  · refine ⟨_, (pss_cons (ps_expr (pe_fnX F_check_beats (hr.mono (by decide)) (pa_cons (pv 0) (pa_cons (pv 1) pa_nil)))) pss_never), ?_⟩
    exact rd_exprK ⟨_, rfl, _, rfl, b, p, rfl, hb, q⟩
  · rcases hs with hn | ⟨k, rfl, hm⟩
    · refine ⟨_, (pss_cons (ps_expr (pe_fnX G_check_beats (hr.mono (by decide)) (pa_cons (pv 0) (pa_cons (pv 1) pa_nil)))) (pss_cons (ps_expr (pe_fnX F_check_number (hr.mono (by decide)) (pa_cons (pv 2) pa_nil))) pss_never)), ?_⟩
      refine rd_exprK ⟨_, rfl, _, rfl, j, i, rfl, fun _ => ?_, fun z => absurd ⟨i1, j0, ji⟩ z⟩
      exact rd_exprK ⟨_, rfl, sh, rfl, hn, q⟩
    · refine ⟨_, (pss_cons (ps_expr (pe_fnX G_check_beats (hr.mono (by decide)) (pa_cons (pv 0) (pa_cons (pv 1) pa_nil)))) (pss_cons (ps_expr (pe_fn G_check_number (hr.mono (by decide)) (pa_cons (pv 2) pa_nil))) (pss_cons (ps_expr (pe_fnX F_check_at_least (hr.mono (by decide)) (pa_cons (pv 3) (pa_cons pe_int pa_nil)))) pss_never))), ?_⟩
      refine rd_exprK ⟨_, rfl, _, rfl, j, i, rfl, fun _ => ?_, fun z => absurd ⟨i1, j0, ji⟩ z⟩
      refine rd_expr (pv_call (pa_1 (pv_var rfl) pa_0) fun Q' q' => ⟨k, rfl, q'⟩) ?_
      exact rd_exprK ⟨_, rfl, m, 0, rfl, .inl rfl, hm, q⟩
abbrev s_laid : Stmt := top 26
theorem sc_laid : FnScope ["beats", "places"] ["beats", "places"] (defScope s_laid) := ⟨rfl, rfl, rfl, by decide +kernel, rfl, by decide +kernel, by decide +kernel⟩
theorem no_laid (F_reckoned : Kn P w K mg base 5 "reckoned" ["beats", "places", "shift", "many"] (spn_reck K CB)) (F : Fun K "laid" "laid" s_laid f fd) : FnOk P w K mg base (CXE P w) 6 f fd ["beats", "places"] (spn_beats K CB) := by
  refine F.okX sc_laid (fun vs H Q E h => ?_) (fun cdv A outer s H vs Q E hr h => ?_)
  · obtain ⟨b, p, rfl, _⟩ := h; rfl
  obtain ⟨b, p, rfl, hb, q⟩ := h
  refine ⟨_, (pss_one (ps_ret (pe_fnX F_reckoned (hr.mono (by decide)) (pa_cons (pv 0) (pa_cons (pv 1) (pa_cons pe_int (pa_cons (pv 1) pa_nil))))))), ?_⟩
  exact rd_retK ⟨_, rfl, _, rfl, _, rfl, b, p, _, p, rfl, .inl hb, q⟩
abbrev s_turned : Stmt := top 27
theorem sc_turned : FnScope ["ring", "by", "begin"] ["ring", "by"] (defScope s_turned) := ⟨rfl, rfl, rfl, by decide +kernel, rfl, by decide +kernel, by decide +kernel⟩
theorem no_turned (F_check_ring : Kn P w K mg base 3 "check_ring" ["value"] (spn_ring K CR)) (F : Fun K "turned" "turned" s_turned f fd) : FnOk P w K mg base (CXE P w) 4 f fd ["ring", "by"] (spn_ring2 K CR) := by
  refine F.okX sc_turned (fun vs H Q E h => ?_) (fun cdv A outer s H vs Q E hr h => ?_)
  · obtain ⟨v, u, rfl, _⟩ := h; rfl
  obtain ⟨v, u, rfl, hv, q⟩ := h
  refine ⟨_, (pss_cons (ps_expr (pe_fnX F_check_ring (hr.mono (by decide)) (pa_cons (pv 0) pa_nil))) pss_never), ?_⟩
  exact rd_exprK ⟨_, rfl, v, rfl, hv, q⟩
theorem no_turned2 (G_check_ring : Kn P w K mg base 3 "check_ring" ["value"] sp_check_ring) (F_check_number : Kn P w K mg base 2 "check_number" ["value"] (spn_num K CB)) (F : Fun K "turned" "turned" s_turned f fd) : FnOk P w K mg base (CXE P w) 4 f fd ["ring", "by"] (spn_turned K CB) := by
  refine F.okX sc_turned (fun vs H Q E h => ?_) (fun cdv A outer s H vs Q E hr h => ?_)
  · obtain ⟨l, u, rfl, _⟩ := h; rfl
  obtain ⟨l, u, rfl, h1, h2, hv, q⟩ := h
  refine ⟨_, (pss_cons (ps_expr (pe_fn G_check_ring (hr.mono (by decide)) (pa_cons (pv 0) pa_nil))) (pss_cons (ps_expr (pe_fnX F_check_number (hr.mono (by decide)) (pa_cons (pv 1) pa_nil))) pss_never)), ?_⟩
  refine rd_expr (pv_call (pa_1 (pv_var rfl) pa_0) fun Q' q' => ⟨l, rfl, h1, by omega, q'⟩) ?_
  exact rd_exprK ⟨_, rfl, u, rfl, hv, q⟩
abbrev s_exchanged : Stmt := top 28
theorem sc_exchanged : FnScope ["ring"] ["ring"] (defScope s_exchanged) := ⟨rfl, rfl, rfl, by decide +kernel, rfl, by decide +kernel, by decide +kernel⟩
theorem no_exchanged (F_check_ring : Kn P w K mg base 3 "check_ring" ["value"] (spn_ring K CR)) (F : Fun K "exchanged" "exchanged" s_exchanged f fd) : FnOk P w K mg base (CXE P w) 4 f fd ["ring"] (spn_ring K CR) := by
  refine F.okX sc_exchanged (fun vs H Q E h => ?_) (fun cdv A outer s H vs Q E hr h => ?_)
  · obtain ⟨v, rfl, _⟩ := h; rfl
  obtain ⟨v, rfl, hv, q⟩ := h
  refine ⟨_, (pss_cons (ps_expr (pe_fnX F_check_ring (hr.mono (by decide)) (pa_cons (pv 0) pa_nil))) pss_never), ?_⟩
  exact rd_exprK ⟨_, rfl, v, rfl, hv, q⟩
abbrev s_about : Stmt := top 29
theorem sc_about : FnScope ["ring"] ["ring"] (defScope s_about) := ⟨rfl, rfl, rfl, by decide +kernel, rfl, by decide +kernel, by decide +kernel⟩
theorem no_about (F_check_ring : Kn P w K mg base 3 "check_ring" ["value"] (spn_ring K CR)) (F : Fun K "about" "about" s_about f fd) : FnOk P w K mg base (CXE P w) 4 f fd ["ring"] (spn_ring K CR) := by
  refine F.okX sc_about (fun vs H Q E h => ?_) (fun cdv A outer s H vs Q E hr h => ?_)
  · obtain ⟨v, rfl, _⟩ := h; rfl
  obtain ⟨v, rfl, hv, q⟩ := h
  refine ⟨_, (pss_cons (ps_expr (pe_fnX F_check_ring (hr.mono (by decide)) (pa_cons (pv 0) pa_nil))) pss_never), ?_⟩
  exact rd_exprK ⟨_, rfl, v, rfl, hv, q⟩
theorem no_gaps (F_check_ring : Kn P w K mg base 3 "check_ring" ["value"] (spn_ring K CR)) (F : Fun K "gaps" "gaps" s_gaps f fd) : FnOk P w K mg base (CXE P w) 4 f fd ["ring"] (spn_ring K CR) := by
  refine F.okX sc_gaps (fun vs H Q E h => ?_) (fun cdv A outer s H vs Q E hr h => ?_)
  · obtain ⟨v, rfl, _⟩ := h; rfl
  obtain ⟨v, rfl, hv, q⟩ := h
  refine ⟨_, (pss_cons (ps_expr (pe_fnX F_check_ring (hr.mono (by decide)) (pa_cons (pv 0) pa_nil))) pss_never), ?_⟩
  exact rd_exprK ⟨_, rfl, v, rfl, hv, q⟩
theorem no_folded (F_gaps : Kn P w K mg base 4 "gaps" ["ring"] (spn_ring K CR)) (F : Fun K "folded" "folded" s_folded f fd) : FnOk P w K mg base (CXE P w) 5 f fd ["ring"] (spn_ring K CR) := by
  refine F.okX sc_folded (fun vs H Q E h => ?_) (fun cdv A outer s H vs Q E hr h => ?_)
  · obtain ⟨v, rfl, _⟩ := h; rfl
  obtain ⟨v, rfl, hv, q⟩ := h
  have nd := sc_folded.nd
  refine ⟨_, (pss_cons (ps_set (i := 1) nd rfl (Or.inl rfl) (pe_fnX F_gaps (hr.mono (by decide)) (pa_cons (pv 0) pa_nil))) pss_never), ?_⟩
  exact rd_setK ⟨_, rfl, v, rfl, hv, q⟩
theorem no_unfolded (F_check_ring : Kn P w K mg base 3 "check_ring" ["value"] (spn_ring K CR)) (F : Fun K "unfolded" "unfolded" s_unfolded f fd) : FnOk P w K mg base (CXE P w) 4 f fd ["ring", "gap"] (spn_ring2 K CR) := by
  refine F.okX sc_unfolded (fun vs H Q E h => ?_) (fun cdv A outer s H vs Q E hr h => ?_)
  · obtain ⟨v, u, rfl, _⟩ := h; rfl
  obtain ⟨v, u, rfl, hv, q⟩ := h
  refine ⟨_, (pss_cons (ps_expr (pe_fnX F_check_ring (hr.mono (by decide)) (pa_cons (pv 0) pa_nil))) pss_never), ?_⟩
  exact rd_exprK ⟨_, rfl, v, rfl, hv, q⟩
theorem no_unfolded2 (G_check_ring : Kn P w K mg base 3 "check_ring" ["value"] sp_check_ring) (F_check_at_least : Kn P w K mg base 3 "check_at_least" ["value", "least"] (spn_least K CB)) (F : Fun K "unfolded" "unfolded" s_unfolded f fd) : FnOk P w K mg base (CXE P w) 4 f fd ["ring", "gap"] (spn_unfolded K CB) := by
  refine F.okX sc_unfolded (fun vs H Q E h => ?_) (fun cdv A outer s H vs Q E hr h => ?_)
  · obtain ⟨l, u, rfl, _⟩ := h; rfl
  obtain ⟨l, u, rfl, h1, h2, hv, q⟩ := h
  refine ⟨_, (pss_cons (ps_expr (pe_fn G_check_ring (hr.mono (by decide)) (pa_cons (pv 0) pa_nil))) (pss_cons (ps_expr (pe_fnX F_check_at_least (hr.mono (by decide)) (pa_cons (pv 1) (pa_cons pe_int pa_nil)))) pss_never)), ?_⟩
  refine rd_expr (pv_call (pa_1 (pv_var rfl) pa_0) fun Q' q' => ⟨l, rfl, h1, by omega, q'⟩) ?_
  exact rd_exprK ⟨_, rfl, u, 1, rfl, .inr rfl, hv, q⟩
theorem no_folds (F_check_ring : Kn P w K mg base 3 "check_ring" ["value"] (spn_ring K CR)) (F : Fun K "folds" "folds" s_folds f fd) : FnOk P w K mg base (CXE P w) 6 f fd ["ring"] (spn_ring K CR) := by
  refine F.okX sc_folds (fun vs H Q E h => ?_) (fun cdv A outer s H vs Q E hr h => ?_)
  · obtain ⟨v, rfl, _⟩ := h; rfl
  obtain ⟨v, rfl, hv, q⟩ := h
  refine ⟨_, (pss_cons (ps_expr (pe_fnX F_check_ring (hr.mono (by decide)) (pa_cons (pv 0) pa_nil))) pss_never), ?_⟩
  exact rd_exprK ⟨_, rfl, v, rfl, hv, q⟩
abbrev s_even : Stmt := top 40
theorem sc_even : FnScope ["ring", "places", "ahead", "top", "bottom", "many", "counts"] ["ring"] (defScope s_even) := ⟨rfl, rfl, rfl, by decide +kernel, rfl, by decide +kernel, by decide +kernel⟩
theorem no_even (F_check_ring : Kn P w K mg base 3 "check_ring" ["value"] (spn_ring K CR)) (F : Fun K "even" "even" s_even f fd) : FnOk P w K mg base (CXE P w) 4 f fd ["ring"] (spn_ring K CR) := by
  refine F.okX sc_even (fun vs H Q E h => ?_) (fun cdv A outer s H vs Q E hr h => ?_)
  · obtain ⟨v, rfl, _⟩ := h; rfl
  obtain ⟨v, rfl, hv, q⟩ := h
  refine ⟨_, (pss_cons (ps_expr (pe_fnX F_check_ring (hr.mono (by decide)) (pa_cons (pv 0) pa_nil))) pss_never), ?_⟩
  exact rd_exprK ⟨_, rfl, v, rfl, hv, q⟩
abbrev s_begun : Stmt := top 46
theorem sc_begun : FnScope ["row", "sums", "low", "high", "many", "counts", "most", "least"] ["row"] (defScope s_begun) := ⟨rfl, rfl, rfl, by decide +kernel, rfl, by decide +kernel, by decide +kernel⟩
theorem no_begun (F_check_row : Kn P w K mg base 2 "check_row" ["value"] (spn_row K CR)) (F : Fun K "begun" "begun" s_begun f fd) : FnOk P w K mg base (CXE P w) 4 f fd ["row"] (spn_row K CR) := by
  refine F.okX sc_begun (fun vs H Q E h => ?_) (fun cdv A outer s H vs Q E hr h => ?_)
  · obtain ⟨v, rfl, _⟩ := h; rfl
  obtain ⟨v, rfl, hv, q⟩ := h
  refine ⟨_, (pss_cons (ps_expr (pe_fnX F_check_row (hr.mono (by decide)) (pa_cons (pv 0) pa_nil))) pss_never), ?_⟩
  exact rd_exprK ⟨_, rfl, v, rfl, hv, q⟩
end
end K08
set_option maxHeartbeats 4000000
namespace K08
open PySem L2 Eb
theorem ta_c {σ : St} {H : Hp} {v : V} {t : TA} {Q : List V → Hp → Prop} (k : t σ H fun xs H2 => Q (v :: xs) H2) : tCons (tC v) t σ H Q := k
section
seal PS PSs PE PA PT PI PG PO PB
variable {P : Program} {w : World} {K : PySem.W.Frag} {mg : Str → Option Value} {base : Heap} {f CB CR : Addr} {fd : FuncData}
abbrev s_law_ring_asked : Stmt := top 48
theorem sc_law_ring_asked : FnScope ["_law_which", "_law_more", "_law_bad", "_law_door"] ["_law_which", "_law_more"] (defScope s_law_ring_asked) := ⟨rfl, rfl, rfl, by decide +kernel, rfl, by decide +kernel, by decide +kernel⟩
set_option maxHeartbeats 1000000 in
theorem ok_law_ring_asked {fe fx fa fg ff fo ft fu : Addr} (N_even : mg "even" = some (.ref fe)) (N_exchanged : mg "exchanged" = some (.ref fx)) (N_about : mg "about" = some (.ref fa)) (N_gaps : mg "gaps" = some (.ref fg)) (N_folded : mg "folded" = some (.ref ff)) (N_folds : mg "folds" = some (.ref fo)) (N_turned : mg "turned" = some (.ref ft)) (N_unfolded : mg "unfolded" = some (.ref fu))
    (F_even : KnF P w K mg base 4 fe ["ring"] (spn_ring K CR)) (F_exchanged : KnF P w K mg base 4 fx ["ring"] (spn_ring K CR)) (F_about : KnF P w K mg base 4 fa ["ring"] (spn_ring K CR)) (F_gaps : KnF P w K mg base 4 fg ["ring"] (spn_ring K CR)) (F_folded : KnF P w K mg base 5 ff ["ring"] (spn_ring K CR)) (F_folds : KnF P w K mg base 6 fo ["ring"] (spn_ring K CR))
    (F_turned : KnF P w K mg base 4 ft ["ring", "by"] (spn_ring2 K CR)) (F_unfolded : KnF P w K mg base 4 fu ["ring", "gap"] (spn_ring2 K CR)) (F_begun : Kn P w K mg base 4 "begun" ["row"] (spn_row K CR))
    (F : Fun K "_law_ring_asked" "_law_ring_asked" s_law_ring_asked f fd) : FnOk P w K mg base (CXE P w) 7 f fd ["_law_which", "_law_more"] (spn_asked CR) := by
  refine F.okX sc_law_ring_asked (fun vs H Q E h => ?_) (fun cdv A outer s H vs Q E hr h => ?_)
  · obtain ⟨x, m, rfl, _⟩ := h; rfl
  obtain ⟨x, m, rfl, w0, m0, m1, q⟩ := h
  have nd := sc_law_ring_asked.nd
  refine ⟨_, (pss_cons (ps_if (pt_cmpR op_eq (pe_op op_mod (pv 0) pe_int) pe_int (nomark _)) (pss_one (ps_ret (pe_fnX F_begun (hr.mono (by decide)) (pa_cons (pe_ix ix_list (pe_lst (pa_cons pe_non (pa_cons pe_int (pa_cons (pe_lst (pa_cons pe_str pa_nil)) (pa_cons (pe_tup (pa_cons pe_str (pa_cons pe_str pa_nil))) (pa_cons pe_str (pa_cons pe_str (pa_cons pe_str pa_nil)))))))) (pe_op op_mod (pe_op op_fdiv (pv 0) pe_int) pe_int) (fun _ _ => rfl)) pa_nil)))) pss_nil)
    (pss_cons (ps_set (i := 2) nd rfl (Or.inl rfl) (pe_ix ix_list (pe_lst (pa_cons pe_non (pa_cons pe_int (pa_cons (pe_lst (pa_cons pe_str pa_nil)) (pa_cons (pe_tup (pa_cons pe_str (pa_cons pe_str pa_nil))) (pa_cons pe_str (pa_cons pe_str (pa_cons pe_str (pa_cons pe_str (pa_cons (pe_op op_add_str (pe_op op_mulS pe_str (pe_op op_mod (pv 1) pe_int)) pe_str) pa_nil)))))))))) (pe_op op_mod (pe_op op_fdiv (pv 0) pe_int) pe_int) (fun _ _ => rfl)))
    (pss_cons (ps_set (i := 3) nd rfl (Or.inl rfl) (pe_op op_mod (pe_op op_fdiv (pv 0) pe_int) pe_int))
    (pss_cons (ps_if (pt_cmpR op_lt (pv 3) pe_int (nomark _)) (pss_one (ps_ret (pe_callV (pe_ix ix_list (pe_lst (pa_cons (pe_gref N_even) (pa_cons (pe_gref N_exchanged) (pa_cons (pe_gref N_about) (pa_cons (pe_gref N_gaps) (pa_cons (pe_gref N_folded) (pa_cons (pe_gref N_folds) pa_nil))))))) (pv 3) (fun _ _ => rfl)) pass_up (pa_cons (pv 2) pa_nil)))) pss_nil)
    (pss_one (ps_ret (pe_callV (pe_ix ix_list (pe_lst (pa_cons (pe_gref N_turned) (pa_cons (pe_gref N_unfolded) pa_nil))) (pe_op op_sub (pv 3) pe_int) (fun _ _ => rfl)) pass_up (pa_cons (pv 2) (pa_cons pe_non pa_nil))))))))), ?_⟩
  have k7 : 0 ≤ x / 3 % 7 ∧ x / 3 % 7 < 7 := ⟨Int.emod_nonneg _ (by decide), Int.emod_lt_of_pos _ (by decide)⟩
  have k9 : 0 ≤ x / 3 % 9 ∧ x / 3 % 9 < 9 := ⟨Int.emod_nonneg _ (by decide), Int.emod_lt_of_pos _ (by decide)⟩
  have k8 : 0 ≤ x / 27 % 8 ∧ x / 27 % 8 < 8 := ⟨Int.emod_nonneg _ (by decide), Int.emod_lt_of_pos _ (by decide)⟩
  have k5 : 0 ≤ m % 5 ∧ m % 5 < 5 := ⟨Int.emod_nonneg _ (by decide), Int.emod_lt_of_pos _ (by decide)⟩
  obtain ⟨t1, t2, t3, t4⟩ := bad_text (m % 5) k5.1 k5.2
  refine rd_ifn (pb_test (pv_eq (pv_opC (pv_var rfl) pv_c (by show (0 : Int) < 3; decide)) pv_c rfl)) (fun c => ?_) (fun c => ?_)
  · refine rd_retK (te_callE (ta_cons (te_op (te_lst (ta_c (ta_c (ta_cons (te_lst ((pa_1 pv_c pa_0) _ ⟨by show 1 ≤ sizeLine; decide, fun p1 hp1 => ?_⟩)))))))))
    have g1 := same_new hp1 (HO.lst [V.str "x"])
    have h1 : upd H p1 (HO.lst [V.str "x"]) p1 = some (HO.lst [V.str "x"]) := upd_same
    generalize upd H p1 (HO.lst [V.str "x"]) = H1 at g1 h1
    refine ta_cons (te_tup (pa_1 pv_c (pa_1 pv_c pa_0)) (by show 2 ≤ sizeLine; decide) fun p2 hp2 => ?_)
    have g2 := same_new hp2 (HO.tup [V.str "x", V.str "."])
    have h2 : upd H1 p2 (HO.tup [V.str "x", V.str "."]) p2 = some (HO.tup [V.str "x", V.str "."]) := upd_same
    generalize upd H1 p2 (HO.tup [V.str "x", V.str "."]) = H2 at g2 h2
    refine (pa_1 pv_c (pa_1 pv_c (pa_1 pv_c pa_0))) _ ⟨by show 7 ≤ sizeLine; decide, fun p3 hp3 => ?_⟩
    have g3 := same_new hp3 (HO.lst [V.non, .int 5, .ref p1, .ref p2, .str "X", .str "x o", .str "x\n"])
    obtain ⟨v, hv, hat⟩ := at_mem (xs := [V.non, .int 5, .ref p1, .ref p2, .str "X", .str "x o", .str "x\n"]) k7.1 k7.2
    refine (pv_opC (pv_opC (pv_var rfl) pv_c ⟨by decide, by decide⟩) pv_c (by show (0 : Int) < 7; decide)) _ ⟨p3, _, _, v, rfl, rfl, SqL.of upd_same, hat, ?_⟩
    refine ⟨v, rfl, ?_, q _ (g1.trans (g2.trans g3))⟩
    simp only [List.mem_cons, List.not_mem_nil, or_false] at hv
    rcases hv with rfl | rfl | rfl | rfl | rfl | rfl | rfl
    · exact .inl noStr_non
    · exact .inl (noStr_int 5)
    · exact .inl (noStr_lst (g3 _ _ (g2 _ _ h1)))
    · exact .inl (noStr_tup (g3 _ _ h2))
    · exact .inr ⟨_, rfl, by decide +kernel, by decide +kernel⟩
    · exact .inr ⟨_, rfl, by decide +kernel, by decide +kernel⟩
    · exact .inr ⟨_, rfl, by decide +kernel, by decide +kernel⟩
  · refine rd_setK (te_op (te_lst (ta_c (ta_c (ta_cons (te_lst ((pa_1 pv_c pa_0) _ ⟨by show 1 ≤ sizeLine; decide, fun p1 hp1 => ?_⟩)))))))
    have g1 := same_new hp1 (HO.lst [V.str "x"])
    have h1 : upd H p1 (HO.lst [V.str "x"]) p1 = some (HO.lst [V.str "x"]) := upd_same
    generalize upd H p1 (HO.lst [V.str "x"]) = H1 at g1 h1
    refine ta_cons (te_tup (pa_1 pv_c (pa_1 pv_c pa_0)) (by show 2 ≤ sizeLine; decide) fun p2 hp2 => ?_)
    have g2 := same_new hp2 (HO.tup [V.str "x", V.str "."])
    have h2 : upd H1 p2 (HO.tup [V.str "x", V.str "."]) p2 = some (HO.tup [V.str "x", V.str "."]) := upd_same
    generalize upd H1 p2 (HO.tup [V.str "x", V.str "."]) = H2 at g2 h2
    refine (pa_1 pv_c (pa_1 pv_c (pa_1 pv_c (pa_1 pv_c (pa_1 (pv_strcat (pv_mulS pv_c (pv_opC (pv_var rfl) pv_c (by show (0 : Int) < 5; decide)) t1) pv_c t3) pa_0))))) _ ⟨by show 9 ≤ sizeLine; decide, fun p3 hp3 => ?_⟩
    have g3 := same_new hp3 (HO.lst [V.non, .int 5, .ref p1, .ref p2, .str "X", .str "x o", .str "x\n", .str "", .str (Txt.mul "x." (m % 5) ++ " ")])
    have h3 : upd H2 p3 (HO.lst [V.non, .int 5, .ref p1, .ref p2, .str "X", .str "x o", .str "x\n", .str "", .str (Txt.mul "x." (m % 5) ++ " ")]) p3 = some _ := upd_same
    generalize upd H2 p3 (HO.lst [V.non, .int 5, .ref p1, .ref p2, .str "X", .str "x o", .str "x\n", .str "", .str (Txt.mul "x." (m % 5) ++ " ")]) = H3 at g3 h3
    obtain ⟨v, hv, hat⟩ := at_mem (xs := [V.non, .int 5, .ref p1, .ref p2, .str "X", .str "x o", .str "x\n", .str "", .str (Txt.mul "x." (m % 5) ++ " ")]) k9.1 k9.2
    refine (pv_opC (pv_opC (pv_var rfl) pv_c ⟨by decide, by decide⟩) pv_c (by show (0 : Int) < 9; decide)) _ ⟨p3, _, _, v, rfl, rfl, SqL.of h3, hat, ?_⟩
    have hR : NoRing K H3 v := by
      simp only [List.mem_cons, List.not_mem_nil, or_false] at hv
      rcases hv with rfl | rfl | rfl | rfl | rfl | rfl | rfl | rfl | rfl
      · exact .inl (.inl noStr_non)
      · exact .inl (.inl (noStr_int 5))
      · exact .inl (.inl (noStr_lst (g3 _ _ (g2 _ _ h1))))
      · exact .inl (.inl (noStr_tup (g3 _ _ h2)))
      · exact .inl (.inr ⟨_, rfl, by decide +kernel, by decide +kernel⟩)
      · exact .inl (.inr ⟨_, rfl, by decide +kernel, by decide +kernel⟩)
      · exact .inl (.inr ⟨_, rfl, by decide +kernel, by decide +kernel⟩)
      · exact .inr (by congr 1)
      · exact .inl (.inr ⟨_, rfl, t2, t4⟩)
    have g03 : Same H H3 := g1.trans (g2.trans g3)
    refine rd_set (pv_opC (pv_opC (pv_var rfl) pv_c ⟨by decide, by decide⟩) pv_c (by show (0 : Int) < 8; decide)) ?_
    refine rd_ifn (pb_test (pv_op (pv_var rfl) pv_c)) (fun c6 => ?_) (fun c6 => ?_)
    · have c6' : x / 27 % 8 < 6 := of_decide_eq_true c6
      refine rd_retK (te_op (te_lst ((pa_1 pv_c (pa_1 pv_c (pa_1 pv_c (pa_1 pv_c (pa_1 pv_c (pa_1 pv_c pa_0)))))) _ ⟨by show 6 ≤ sizeLine; decide, fun p4 hp4 => ?_⟩)))
      have g4 := same_new hp4 (HO.lst [V.ref fe, .ref fx, .ref fa, .ref fg, .ref ff, .ref fo])
      obtain ⟨u, hu, hau⟩ := at_mem (xs := [V.ref fe, .ref fx, .ref fa, .ref fg, .ref ff, .ref fo]) k8.1 (by simpa using c6')
      refine (pv_var rfl) _ ⟨p4, _, _, u, rfl, rfl, SqL.of upd_same, hau, ?_⟩
      have hR4 := hR.same g4
      have q4 := q _ (g03.trans g4)
      simp only [List.mem_cons, List.not_mem_nil, or_false] at hu
      rcases hu with rfl | rfl | rfl | rfl | rfl | rfl
      · exact ⟨fe, 4, _, _, rfl, F_even, hr.mono (by decide), _, rfl, v, rfl, hR4, q4⟩
      · exact ⟨fx, 4, _, _, rfl, F_exchanged, hr.mono (by decide), _, rfl, v, rfl, hR4, q4⟩
      · exact ⟨fa, 4, _, _, rfl, F_about, hr.mono (by decide), _, rfl, v, rfl, hR4, q4⟩
      · exact ⟨fg, 4, _, _, rfl, F_gaps, hr.mono (by decide), _, rfl, v, rfl, hR4, q4⟩
      · exact ⟨ff, 5, _, _, rfl, F_folded, hr.mono (by decide), _, rfl, v, rfl, hR4, q4⟩
      · exact ⟨fo, 6, _, _, rfl, F_folds, hr.mono (by decide), _, rfl, v, rfl, hR4, q4⟩
    · have c6' : ¬ x / 27 % 8 < 6 := of_decide_eq_false c6
      refine rd_retK (te_op (te_lst ((pa_1 pv_c (pa_1 pv_c pa_0)) _ ⟨by show 2 ≤ sizeLine; decide, fun p4 hp4 => ?_⟩)))
      have g4 := same_new hp4 (HO.lst [V.ref ft, .ref fu])
      obtain ⟨u, hu, hau⟩ := at_mem (xs := [V.ref ft, .ref fu]) (k := x / 27 % 8 - 6) (by omega) (by show _ < (2 : Int); omega)
      refine (pv_op (pv_var rfl) pv_c) _ ⟨p4, _, _, u, rfl, rfl, SqL.of upd_same, hau, ?_⟩
      have hR4 := hR.same g4
      have q4 := q _ (g03.trans g4)
      simp only [List.mem_cons, List.not_mem_nil, or_false] at hu
      rcases hu with rfl | rfl
      · exact ⟨ft, 4, _, _, rfl, F_turned, hr.mono (by decide), _, rfl, v, .non, rfl, hR4, q4⟩
      · exact ⟨fu, 4, _, _, rfl, F_unfolded, hr.mono (by decide), _, rfl, v, .non, rfl, hR4, q4⟩
end
end K08
set_option maxHeartbeats 4000000
namespace K08
open PySem L2 Eb
theorem at4 (a b c d : V) : atI [a, b, c, d] ((0 : Nat) : Int) = some a ∧ atI [a, b, c, d] ((1 : Nat) : Int) = some b ∧ atI [a, b, c, d] ((2 : Nat) : Int) = some c ∧ atI [a, b, c, d] ((3 : Nat) : Int) = some d := ⟨atI_nat rfl, atI_nat rfl, atI_nat rfl, atI_nat rfl⟩
section
seal PS PSs PE PA PT PI PG PO PB
variable {P : Program} {w : World} {K : PySem.W.Frag} {mg : Str → Option Value} {base : Heap} {f CB CR : Addr} {fd : FuncData}
abbrev s_law_count_asked : Stmt := top 49
theorem sc_law_count_asked : FnScope ["_law_which", "_law_more", "_law_bad", "_law_numbers"] ["_law_which", "_law_more"] (defScope s_law_count_asked) := ⟨rfl, rfl, rfl, by decide +kernel, rfl, by decide +kernel, by decide +kernel⟩
set_option maxHeartbeats 2000000 in
theorem ok_law_count_asked (F_turned : Kn P w K mg base 4 "turned" ["ring", "by"] (spn_turned K CB)) (F_unfolded : Kn P w K mg base 4 "unfolded" ["ring", "gap"] (spn_unfolded K CB)) (F_laid : Kn P w K mg base 6 "laid" ["beats", "places"] (spn_beats K CB)) (F_reckoned : Kn P w K mg base 5 "reckoned" ["beats", "places", "shift", "many"] (spn_reck K CB))
    (F : Fun K "_law_count_asked" "_law_count_asked" s_law_count_asked f fd) : FnOk P w K mg base (CXE P w) 7 f fd ["_law_which", "_law_more"] (spn_asked CB) := by
  refine F.okX sc_law_count_asked (fun vs H Q E h => ?_) (fun cdv A outer s H vs Q E hr h => ?_)
  · obtain ⟨x, m, rfl, _⟩ := h; rfl
  obtain ⟨x, m, rfl, w0, m0, m1, q⟩ := h
  have nd := sc_law_count_asked.nd
  refine ⟨_, (pss_cons (ps_set (i := 2) nd rfl (Or.inl rfl) (pe_ix ix_list (pe_lst (pa_cons pe_non (pa_cons pe_str (pa_cons pe_bl (pa_cons (pe_lst (pa_cons pe_int pa_nil)) (pa_cons (pe_tup (pa_cons pe_int pa_nil)) pa_nil)))))) (pe_op op_mod (pe_op op_fdiv (pv 0) pe_int) pe_int) (fun _ _ => rfl)))
    (pss_cons (ps_if (pt_cmpR op_eq (pe_op op_mod (pv 0) pe_int) pe_int (nomark _)) (pss_one (ps_ret (pe_fnX F_turned (hr.mono (by decide)) (pa_cons pe_str (pa_cons (pv 2) pa_nil))))) pss_nil)
    (pss_cons (ps_if (pt_cmpR op_eq (pe_op op_mod (pv 0) pe_int) pe_int (nomark _)) (pss_one (ps_ret (pe_fnX F_unfolded (hr.mono (by decide)) (pa_cons pe_str (pa_cons (pe_ix ix_list (pe_lst (pa_cons pe_non (pa_cons pe_str (pa_cons pe_bl (pa_cons pe_int (pa_cons (pe_op op_sub (pe_un un_neg pe_int) (pv 1)) pa_nil)))))) (pe_op op_mod (pe_op op_fdiv (pv 0) pe_int) pe_int) (fun _ _ => rfl)) pa_nil))))) pss_nil)
    (pss_cons (ps_if (pt_cmpR op_eq (pe_op op_mod (pv 0) pe_int) pe_int (nomark _)) (pss_one (ps_ret (pe_fnX F_laid (hr.mono (by decide)) (pa_cons (pe_ix ix_list (pe_lst (pa_cons (pe_op op_sub (pe_un un_neg pe_int) (pv 1)) (pa_cons (pe_op op_add pe_int (pv 1)) (pa_cons pe_non (pa_cons pe_bl (pa_cons pe_str pa_nil)))))) (pe_op op_mod (pe_op op_fdiv (pv 0) pe_int) pe_int) (fun _ _ => rfl)) (pa_cons pe_int pa_nil))))) pss_nil)
    (pss_cons (ps_if (pt_cmpR op_eq (pe_op op_mod (pv 0) pe_int) pe_int (nomark _)) (pss_one (ps_ret (pe_fnX F_laid (hr.mono (by decide)) (pa_cons pe_int (pa_cons (pe_ix ix_list (pe_lst (pa_cons pe_int (pa_cons (pe_op op_sub (pe_un un_neg pe_int) (pv 1)) (pa_cons pe_non (pa_cons pe_bl (pa_cons pe_str pa_nil)))))) (pe_op op_mod (pe_op op_fdiv (pv 0) pe_int) pe_int) (fun _ _ => rfl)) pa_nil))))) pss_nil)
    (pss_cons (ps_set (i := 3) nd rfl (Or.inl rfl) (pe_ix ix_list (pe_lst (pa_cons (pe_lst (pa_cons pe_int (pa_cons pe_int (pa_cons (pv 2) (pa_cons pe_int pa_nil))))) (pa_cons (pe_lst (pa_cons pe_int (pa_cons pe_int (pa_cons pe_int (pa_cons (pv 2) pa_nil))))) (pa_cons (pe_lst (pa_cons pe_int (pa_cons pe_int (pa_cons pe_int (pa_cons (pe_op op_sub (pe_un un_neg pe_int) (pv 1)) pa_nil))))) (pa_cons (pe_lst (pa_cons pe_int (pa_cons pe_int (pa_cons pe_int (pa_cons pe_int pa_nil))))) (pa_cons (pe_lst (pa_cons (pv 2) (pa_cons pe_int (pa_cons pe_int (pa_cons pe_int pa_nil))))) pa_nil)))))) (pe_op op_mod (pe_op op_fdiv (pv 0) pe_int) pe_int) (fun _ _ => rfl)))
    (pss_one (ps_ret (pe_fnX F_reckoned (hr.mono (by decide)) (pa_cons (pe_ix ix_list (pv 3) pe_int (fun _ _ => rfl)) (pa_cons (pe_ix ix_list (pv 3) pe_int (fun _ _ => rfl)) (pa_cons (pe_ix ix_list (pv 3) pe_int (fun _ _ => rfl)) (pa_cons (pe_ix ix_list (pv 3) pe_int (fun _ _ => rfl)) pa_nil))))))))))))), ?_⟩
  have k5 : 0 ≤ x / 5 % 5 ∧ x / 5 % 5 < 5 := ⟨Int.emod_nonneg _ (by decide), Int.emod_lt_of_pos _ (by decide)⟩
  have k25 : 0 ≤ x / 25 % 5 ∧ x / 25 % 5 < 5 := ⟨Int.emod_nonneg _ (by decide), Int.emod_lt_of_pos _ (by decide)⟩
  have ex : ("x." : Str) = rowS [true, false] := by decide +kernel
  refine rd_setK (te_op (te_lst (ta_c (ta_c (ta_c (ta_cons (te_lst ((pa_1 pv_c pa_0) _ ⟨by show 1 ≤ sizeLine; decide, fun p1 hp1 => ?_⟩))))))))
  have g1 := same_new hp1 (HO.lst [V.int 1])
  have h1 : upd H p1 (HO.lst [V.int 1]) p1 = some (HO.lst [V.int 1]) := upd_same
  generalize upd H p1 (HO.lst [V.int 1]) = H1 at g1 h1
  refine ta_cons (te_tup (pa_1 pv_c pa_0) (by show 1 ≤ sizeLine; decide) fun p2 hp2 => ?_)
  have g2 := same_new hp2 (HO.tup [V.int 1])
  have h2 : upd H1 p2 (HO.tup [V.int 1]) p2 = some (HO.tup [V.int 1]) := upd_same
  generalize upd H1 p2 (HO.tup [V.int 1]) = H2 at g2 h2
  refine pa_0 _ ⟨by show 5 ≤ sizeLine; decide, fun p3 hp3 => ?_⟩
  have g3 := same_new hp3 (HO.lst [V.non, .str "1", .bl true, .ref p1, .ref p2])
  have h3 : upd H2 p3 (HO.lst [V.non, .str "1", .bl true, .ref p1, .ref p2]) p3 = some _ := upd_same
  generalize upd H2 p3 (HO.lst [V.non, .str "1", .bl true, .ref p1, .ref p2]) = H3 at g3 h3
  obtain ⟨v, hv, hat⟩ := at_mem (xs := [V.non, .str "1", .bl true, .ref p1, .ref p2]) k5.1 k5.2
  refine (pv_opC (pv_opC (pv_var rfl) pv_c ⟨by decide, by decide⟩) pv_c (by show (0 : Int) < 5; decide)) _ ⟨p3, _, _, v, rfl, rfl, SqL.of h3, hat, ?_⟩
  have hN : NoNum K H3 v := by
    simp only [List.mem_cons, List.not_mem_nil, or_false] at hv
    rcases hv with rfl | rfl | rfl | rfl | rfl
    · exact noNum_non
    · exact noNum_str _
    · exact noNum_bl _
    · exact noNum_lst (g3 _ _ (g2 _ _ h1))
    · exact noNum_tup (g3 _ _ h2)
  have g03 : Same H H3 := g1.trans (g2.trans g3)
  refine rd_ifn (pb_test (pv_eq (pv_opC (pv_var rfl) pv_c (by show (0 : Int) < 5; decide)) pv_c rfl)) (fun c => ?_) (fun _ => ?_)
  · exact rd_retK (te_callE ((pa_1 pv_c (pa_1 (pv_var rfl) pa_0)) _ ⟨[true, false], v, by rw [← ex]; rfl, by decide, by decide, hN, q _ g03⟩))
  refine rd_ifn (pb_test (pv_eq (pv_opC (pv_var rfl) pv_c (by show (0 : Int) < 5; decide)) pv_c rfl)) (fun c => ?_) (fun _ => ?_)
  · refine rd_retK (te_callE (ta_c (ta_cons (te_op (te_lst ((pa_1 pv_c (pa_1 pv_c (pa_1 pv_c (pa_1 pv_c (pa_1 (pv_op (pv_neg pv_c) (pv_var rfl)) pa_0))))) _ ⟨by show 5 ≤ sizeLine; decide, fun p4 hp4 => ?_⟩))))))
    have g4 := same_new hp4 (HO.lst [V.non, .str "1", .bl true, .int 0, .int (-1 - m)])
    obtain ⟨u, hu, hau⟩ := at_mem (xs := [V.non, .str "1", .bl true, .int 0, .int (-1 - m)]) k5.1 k5.2
    refine (pv_opC (pv_opC (pv_var rfl) pv_c ⟨by decide, by decide⟩) pv_c (by show (0 : Int) < 5; decide)) _ ⟨p4, _, _, u, rfl, rfl, SqL.of upd_same, hau, ?_⟩
    refine pa_0 _ ⟨[true, false], u, by rw [← ex]; rfl, by decide, by decide, ?_, q _ (g03.trans g4)⟩
    simp only [List.mem_cons, List.not_mem_nil, or_false] at hu
    rcases hu with rfl | rfl | rfl | rfl | rfl
    · exact .inl noNum_non
    · exact .inl (noNum_str _)
    · exact .inl (noNum_bl _)
    · exact .inr ⟨0, rfl, by decide⟩
    · exact .inr ⟨-1 - m, rfl, by omega⟩
  refine rd_ifn (pb_test (pv_eq (pv_opC (pv_var rfl) pv_c (by show (0 : Int) < 5; decide)) pv_c rfl)) (fun c => ?_) (fun _ => ?_)
  · refine rd_retK (te_callE (ta_cons (te_op (te_lst ((pa_1 (pv_op (pv_neg pv_c) (pv_var rfl)) (pa_1 (pv_op pv_c (pv_var rfl)) (pa_1 pv_c (pa_1 pv_c (pa_1 pv_c pa_0))))) _ ⟨by show 5 ≤ sizeLine; decide, fun p4 hp4 => ?_⟩)))))
    have g4 := same_new hp4 (HO.lst [V.int (-1 - m), .int (4 + m), .non, .bl true, .str "1"])
    obtain ⟨u, hu, hau⟩ := at_mem (xs := [V.int (-1 - m), .int (4 + m), .non, .bl true, .str "1"]) k5.1 k5.2
    refine (pv_opC (pv_opC (pv_var rfl) pv_c ⟨by decide, by decide⟩) pv_c (by show (0 : Int) < 5; decide)) _ ⟨p4, _, _, u, rfl, rfl, SqL.of upd_same, hau, ?_⟩
    refine (pa_1 pv_c pa_0) _ ⟨u, .int 3, rfl, .inr ⟨3, rfl, by decide, ?_⟩, q _ (g03.trans g4)⟩
    simp only [List.mem_cons, List.not_mem_nil, or_false] at hu
    rcases hu with rfl | rfl | rfl | rfl | rfl
    · exact .inr ⟨-1 - m, rfl, by omega⟩
    · exact .inr ⟨4 + m, rfl, by omega⟩
    · exact .inl noNum_non
    · exact .inl (noNum_bl _)
    · exact .inl (noNum_str _)
  refine rd_ifn (pb_test (pv_eq (pv_opC (pv_var rfl) pv_c (by show (0 : Int) < 5; decide)) pv_c rfl)) (fun c => ?_) (fun _ => ?_)
  · refine rd_retK (te_callE (ta_c (ta_cons (te_op (te_lst ((pa_1 pv_c (pa_1 (pv_op (pv_neg pv_c) (pv_var rfl)) (pa_1 pv_c (pa_1 pv_c (pa_1 pv_c pa_0))))) _ ⟨by show 5 ≤ sizeLine; decide, fun p4 hp4 => ?_⟩))))))
    have g4 := same_new hp4 (HO.lst [V.int 0, .int (-1 - m), .non, .bl true, .str "1"])
    obtain ⟨u, hu, hau⟩ := at_mem (xs := [V.int 0, .int (-1 - m), .non, .bl true, .str "1"]) k5.1 k5.2
    refine (pv_opC (pv_opC (pv_var rfl) pv_c ⟨by decide, by decide⟩) pv_c (by show (0 : Int) < 5; decide)) _ ⟨p4, _, _, u, rfl, rfl, SqL.of upd_same, hau, ?_⟩
    refine pa_0 _ ⟨.int 0, u, rfl, .inl ?_, q _ (g03.trans g4)⟩
    simp only [List.mem_cons, List.not_mem_nil, or_false] at hu
    rcases hu with rfl | rfl | rfl | rfl | rfl
    · exact .inr ⟨0, rfl, by decide⟩
    · exact .inr ⟨-1 - m, rfl, by omega⟩
    · exact .inl noNum_non
    · exact .inl (noNum_bl _)
    · exact .inl (noNum_str _)
  refine rd_setK (te_op (te_lst (ta_cons (te_lst ((pa_1 pv_c (pa_1 pv_c (pa_1 (pv_var rfl) (pa_1 pv_c pa_0)))) _ ⟨by show 4 ≤ sizeLine; decide, fun p4 hp4 => ?_⟩)))))
  have g4 := same_new hp4 (HO.lst [V.int 1, .int 3, v, .int 5])
  have h4 : upd H3 p4 (HO.lst [V.int 1, .int 3, v, .int 5]) p4 = some (HO.lst [V.int 1, .int 3, v, .int 5]) := upd_same
  generalize upd H3 p4 (HO.lst [V.int 1, .int 3, v, .int 5]) = H4 at g4 h4
  refine ta_cons (te_lst ((pa_1 pv_c (pa_1 pv_c (pa_1 pv_c (pa_1 (pv_var rfl) pa_0)))) _ ⟨by show 4 ≤ sizeLine; decide, fun p5 hp5 => ?_⟩))
  have g5 := same_new hp5 (HO.lst [V.int 1, .int 3, .int 0, v])
  have h5 : upd H4 p5 (HO.lst [V.int 1, .int 3, .int 0, v]) p5 = some (HO.lst [V.int 1, .int 3, .int 0, v]) := upd_same
  generalize upd H4 p5 (HO.lst [V.int 1, .int 3, .int 0, v]) = H5 at g5 h5
  refine ta_cons (te_lst ((pa_1 pv_c (pa_1 pv_c (pa_1 pv_c (pa_1 (pv_op (pv_neg pv_c) (pv_var rfl)) pa_0)))) _ ⟨by show 4 ≤ sizeLine; decide, fun p6 hp6 => ?_⟩))
  have g6 := same_new hp6 (HO.lst [V.int 1, .int 3, .int 0, .int (-1 - m)])
  have h6 : upd H5 p6 (HO.lst [V.int 1, .int 3, .int 0, .int (-1 - m)]) p6 = some (HO.lst [V.int 1, .int 3, .int 0, .int (-1 - m)]) := upd_same
  generalize upd H5 p6 (HO.lst [V.int 1, .int 3, .int 0, .int (-1 - m)]) = H6 at g6 h6
  refine ta_cons (te_lst ((pa_1 pv_c (pa_1 pv_c (pa_1 pv_c (pa_1 pv_c pa_0)))) _ ⟨by show 4 ≤ sizeLine; decide, fun p7 hp7 => ?_⟩))
  have g7 := same_new hp7 (HO.lst [V.int 2, .int 1, .int 0, .int 5])
  have h7 : upd H6 p7 (HO.lst [V.int 2, .int 1, .int 0, .int 5]) p7 = some (HO.lst [V.int 2, .int 1, .int 0, .int 5]) := upd_same
  generalize upd H6 p7 (HO.lst [V.int 2, .int 1, .int 0, .int 5]) = H7 at g7 h7
  refine ta_cons (te_lst ((pa_1 (pv_var rfl) (pa_1 pv_c (pa_1 pv_c (pa_1 pv_c pa_0)))) _ ⟨by show 4 ≤ sizeLine; decide, fun p8 hp8 => ?_⟩))
  have g8 := same_new hp8 (HO.lst [v, .int 3, .int 0, .int 5])
  have h8 : upd H7 p8 (HO.lst [v, .int 3, .int 0, .int 5]) p8 = some (HO.lst [v, .int 3, .int 0, .int 5]) := upd_same
  generalize upd H7 p8 (HO.lst [v, .int 3, .int 0, .int 5]) = H8 at g8 h8
  refine pa_0 _ ⟨by show 5 ≤ sizeLine; decide, fun p9 hp9 => ?_⟩
  have g9 := same_new hp9 (HO.lst [V.ref p4, .ref p5, .ref p6, .ref p7, .ref p8])
  have h9 : upd H8 p9 (HO.lst [V.ref p4, .ref p5, .ref p6, .ref p7, .ref p8]) p9 = some _ := upd_same
  generalize upd H8 p9 (HO.lst [V.ref p4, .ref p5, .ref p6, .ref p7, .ref p8]) = H9 at g9 h9
  obtain ⟨u, hu, hau⟩ := at_mem (xs := [V.ref p4, .ref p5, .ref p6, .ref p7, .ref p8]) k25.1 k25.2
  refine (pv_opC (pv_opC (pv_var rfl) pv_c ⟨by decide, by decide⟩) pv_c (by show (0 : Int) < 5; decide)) _ ⟨p9, _, _, u, rfl, rfl, SqL.of h9, hau, ?_⟩
  have g39 : Same H3 H9 := g4.trans (g5.trans (g6.trans (g7.trans (g8.trans g9))))
  have hN9 := hN.same g39
  obtain ⟨pN, a, b, c, d, rfl, hp, hb⟩ : ∃ pN a b c d, u = .ref pN ∧ H9 pN = some (.lst [a, b, c, d]) ∧ BadReck K H9 a b c d := by
    simp only [List.mem_cons, List.not_mem_nil, or_false] at hu
    rcases hu with rfl | rfl | rfl | rfl | rfl
    · exact ⟨p4, _, _, _, _, rfl, g9 _ _ (g8 _ _ (g7 _ _ (g6 _ _ (g5 _ _ h4)))), .inr ⟨1, 3, rfl, rfl, by decide, by decide, by decide, .inl hN9⟩⟩
    · exact ⟨p5, _, _, _, _, rfl, g9 _ _ (g8 _ _ (g7 _ _ (g6 _ _ h5))), .inr ⟨1, 3, rfl, rfl, by decide, by decide, by decide, .inr ⟨0, rfl, .inl hN9⟩⟩⟩
    · exact ⟨p6, _, _, _, _, rfl, g9 _ _ (g8 _ _ (g7 _ _ h6)), .inr ⟨1, 3, rfl, rfl, by decide, by decide, by decide, .inr ⟨0, rfl, .inr ⟨-1 - m, rfl, by omega⟩⟩⟩⟩
    · exact ⟨p7, _, _, _, _, rfl, g9 _ _ (g8 _ _ h7), .inl (.inr ⟨1, rfl, by decide, .inr ⟨2, rfl, by decide⟩⟩)⟩
    · exact ⟨p8, _, _, _, _, rfl, g9 _ _ h8, .inl (.inr ⟨3, rfl, by decide, .inl hN9⟩)⟩
  have S : SqL K H9 pN [a, b, c, d] := SqL.of hp
  obtain ⟨a0, a1, a2, a3⟩ := at4 a b c d
  exact rd_retK (te_callE ((pa_1 (pv_ixL (pv_var rfl) pv_c S a0) (pa_1 (pv_ixL (pv_var rfl) pv_c S a1) (pa_1 (pv_ixL (pv_var rfl) pv_c S a2) (pa_1 (pv_ixL (pv_var rfl) pv_c S a3) pa_0)))) _ ⟨a, b, c, d, rfl, hb, q _ (g03.trans g39)⟩))
end
end K08
set_option maxHeartbeats 4000000
namespace K08
open PySem L2 Eb
def unevenB (l : List Bool) : Bool := decide (1 ≤ cnt l) && (gapsL l).any fun d => (gapsL l).all (fun x => decide (d ≤ x)) && (gapsL l).any fun x => decide (d + 1 < x)
theorem uneven_of {l : List Bool} (h : unevenB l = true) : 1 ≤ cnt l ∧ ∃ d x, d ∈ gapsL l ∧ (∀ y ∈ gapsL l, d ≤ y) ∧ x ∈ gapsL l ∧ d + 1 < x := by
  unfold unevenB at h
  rw [Bool.and_eq_true, List.any_eq_true] at h
  obtain ⟨h1, d, hd, h2⟩ := h
  rw [Bool.and_eq_true, List.all_eq_true, List.any_eq_true] at h2
  obtain ⟨h3, x, hx, h4⟩ := h2
  exact ⟨of_decide_eq_true h1, d, x, hd, fun y hy => of_decide_eq_true (h3 y hy), hx, of_decide_eq_true h4⟩
def bases : List (List Bool) := [[true, true, false, false], [true, true, false, true, false, false], [true, false, true, true, false, false, true, false, false, false], [true, true, true, false, false, false]]
theorem bases_uneven : ∀ b ∈ bases, ∀ n, n < 9 → unevenB (b ++ List.replicate n false) = true := by
  have : ∀ b ∈ bases, ∀ n ∈ List.range 9, unevenB (b ++ List.replicate n false) = true := by decide +kernel
  exact fun b hb n hn => this b hb n (List.mem_range.mpr hn)
theorem bases_len : ∀ b ∈ bases, 1 ≤ b.length ∧ b.length ≤ 10 := by decide +kernel
theorem base0 : ("xx.." : Str) = rowS [true, true, false, false] := by decide +kernel
theorem base1 : ("xx.x.." : Str) = rowS [true, true, false, true, false, false] := by decide +kernel
theorem base2 : ("x.xx..x..." : Str) = rowS [true, false, true, true, false, false, true, false, false, false] := by decide +kernel
theorem base3 : ("xxx..." : Str) = rowS [true, true, true, false, false, false] := by decide +kernel
def sp_told : Sp := fun vs H Q _ => ∃ k x m : Int, vs = [.int k, .int x, .int m] ∧ 0 ≤ k ∧ k < 4 ∧ 0 ≤ x ∧ 0 ≤ m ∧ m < 1000 ∧ ∀ p H', Same H H' → H' p = some (.lst ([decide (k = 0), decide (k = 1), decide (k = 2), decide (k = 3), true].map V.bl)) → Q (.ref p) H'
section
seal PS PSs PE PA PT PI PG PO PB
variable {P : Program} {w : World} {K : PySem.W.Frag} {mg : Str → Option Value} {base : Heap} {f CB CT CR CN CU : Addr} {fd : FuncData}
abbrev s_law_told : Stmt := top 50
theorem sc_law_told : FnScope ["_law_kind", "_law_which", "_law_more", "error", "_law_found"] ["_law_kind", "_law_which", "_law_more"] (defScope s_law_told) := ⟨rfl, rfl, rfl, by decide +kernel, rfl, by decide +kernel, by decide +kernel⟩
set_option maxHeartbeats 2000000 in
theorem ok_law_told {fg ff fo : Addr} (M : Md K mg CB) (Z : KX K mg CT CR CB CN CU) (TR : KE K CT CR CB CN CU CR true false false false) (TC : KE K CT CR CB CN CU CB false true false false) (TN : KE K CT CR CB CN CU CN false false true false) (TU : KE K CT CR CB CN CU CU false false false true)
    (N_gaps : mg "gaps" = some (.ref fg)) (N_folded : mg "folded" = some (.ref ff)) (N_folds : mg "folds" = some (.ref fo))
    (F_gaps : KnF P w K mg base 4 fg ["ring"] (spx_gaps CN)) (F_folded : KnF P w K mg base 5 ff ["ring"] (spx_folded CN CU)) (F_folds : KnF P w K mg base 6 fo ["ring"] (spx_folds8 CU))
    (F__law_ring_asked : Kn P w K mg base 7 "_law_ring_asked" ["_law_which", "_law_more"] (spn_asked CR)) (F__law_count_asked : Kn P w K mg base 7 "_law_count_asked" ["_law_which", "_law_more"] (spn_asked CB))
    (F : Fun K "_law_told" "_law_told" s_law_told f fd) : FnOk P w K mg base (CXE P w) 8 f fd ["_law_kind", "_law_which", "_law_more"] sp_told := by
  refine F.okX sc_law_told (fun vs H Q E h => ?_) (fun cdv A outer s H vs Q E hr h => ?_)
  · obtain ⟨k, x, m, rfl, _⟩ := h; rfl
  obtain ⟨k, x, m, rfl, k0, k4, x0, m0, m1, q⟩ := h
  have nd := sc_law_told.nd
  refine ⟨_, (pss_cons (ps_tryAs (i := 3) rfl rfl Z.nT
      (pb_if (pt_cmpR op_eq (pv 0) pe_int (nomark _)) (pb_call F__law_ring_asked (hr.mono (by decide)) (pa_cons (pv 1) (pa_cons (pv 2) pa_nil)))
      (pb_if (pt_cmpR op_eq (pv 0) pe_int (nomark _)) (pb_call F__law_count_asked (hr.mono (by decide)) (pa_cons (pv 1) (pa_cons (pv 2) pa_nil)))
      (pb_if (pt_cmpR op_eq (pv 0) pe_int (nomark _)) (pb_callV (pe_ix ix_list (pe_lst (pa_cons (pe_gref N_gaps) (pa_cons (pe_gref N_folded) pa_nil))) (pe_op op_mod (pv 1) pe_int) (fun _ _ => rfl)) (pa_cons (pe_op op_mulS pe_str (pe_op op_add pe_int (pe_op op_mod (pv 2) pe_int))) pa_nil))
      (pb_callV (pe_ix ix_list (pe_lst (pa_cons (pe_gref N_folded) (pa_cons (pe_gref N_folds) pa_nil))) (pe_op op_mod (pv 1) pe_int) (fun _ _ => rfl)) (pa_cons (pe_op op_add_str (pe_ix ix_list (pe_lst (pa_cons pe_str (pa_cons pe_str (pa_cons pe_str (pa_cons pe_str pa_nil))))) (pe_op op_mod (pe_op op_fdiv (pv 1) pe_int) pe_int) (fun _ _ => rfl)) (pe_op op_mulS pe_str (pe_op op_mod (pv 2) pe_int))) pa_nil)))))
      nd rfl rfl (fun _ =>
      (pss_cons (ps_set (i := 4) nd rfl (Or.inl rfl) (pe_lst (pa_cons (pe_callB (call_isiXK K) rfl M.b_isinstance bo_isinstance (pa_cons (pv 3) (pa_cons (pe_gref Z.nR) pa_nil))) (pa_cons (pe_callB (call_isiXK K) rfl M.b_isinstance bo_isinstance (pa_cons (pv 3) (pa_cons (pe_gref Z.nC) pa_nil))) (pa_cons (pe_callB (call_isiXK K) rfl M.b_isinstance bo_isinstance (pa_cons (pv 3) (pa_cons (pe_gref Z.nN) pa_nil))) pa_nil)))))
      (pss_one (ps_ret (pe_op op_cat (pv 4) (pe_lst (pa_cons (pe_callB (call_isiXK K) rfl M.b_isinstance bo_isinstance (pa_cons (pv 3) (pa_cons (pe_gref Z.nU) pa_nil))) (pa_cons (pe_callB (call_isiXK K) rfl M.b_isinstance bo_isinstance (pa_cons (pv 3) (pa_cons (pe_bty Z.nV bo_ValueError) pa_nil))) pa_nil)))))))))
    (pss_one (ps_ret (pe_lst pa_nil)))), ?_⟩
  have suite : ∀ (Ca : Addr) (r c n u : Bool) (D' : Ends) (H1 : Hp) (ea : Addr), KE K CT CR CB CN CU Ca r c n u → [r, c, n, u] = [decide (k = 0), decide (k = 1), decide (k = 2), decide (k = 3)] → Same H H1 → H1 ea = none → D'.rt = Q →
      tSeq (tAsg (tLst (tCons (tCB (rIsX K) (tCons (tVar 3) (tCons (tC (.ref CR)) tNil))) (tCons (tCB (rIsX K) (tCons (tVar 3) (tCons (tC (.ref CB)) tNil))) (tCons (tCB (rIsX K) (tCons (tVar 3) (tCons (tC (.ref CN)) tNil))) tNil)))) (gName 4))
        (tRet (tOp rCat (tVar 4) (tLst (tCons (tCB (rIsX K) (tCons (tVar 3) (tCons (tC (.ref CU)) tNil))) (tCons (tCB (rIsX K) (tCons (tVar 3) (tCons (tC (.ty "ValueError")) tNil))) tNil))))) D' [some (.int k), some (.int x), some (.int m), some (.ref ea), none] (upd H1 ea (ExcO ea Ca)) := by
    intro Ca r c n u D' H1 ea T hl g1 hea hD
    have he : (upd H1 ea (ExcO ea Ca)) ea = some (ExcO ea Ca) := upd_same
    have g2 := g1.trans (same_new hea (ExcO ea Ca))
    generalize upd H1 ea (ExcO ea Ca) = H2 at he g2
    refine rd_setK (te_lst ((pa_1 (pv_isiX (cv := .ref CR) (cu := .ref CR) (pv_var rfl) rfl he T.ty T.kR) (pa_1 (pv_isiX (cv := .ref CB) (cu := .ref CB) (pv_var rfl) rfl he T.ty T.kC) (pa_1 (pv_isiX (cv := .ref CN) (cu := .ref CN) (pv_var rfl) rfl he T.ty T.kN) pa_0))) _ ⟨by show 3 ≤ sizeLine; decide, fun p hp => ?_⟩))
    have g3 := same_new hp (HO.lst [V.bl r, .bl c, .bl n])
    have L3 : (upd H2 p (HO.lst [V.bl r, .bl c, .bl n])) p = some (HO.lst [V.bl r, .bl c, .bl n]) := upd_same
    generalize upd H2 p (HO.lst [V.bl r, .bl c, .bl n]) = H3 at g3 L3
    have he3 := g3 _ _ he
    refine rd_retK (te_op ⟨_, rfl, te_lst ((pa_1 (pv_isiX (cv := .ref CU) (cu := .ref CU) (pv_var rfl) rfl he3 T.ty T.kU) (pa_1 (pv_isiX (cv := .ty "ValueError") (cu := .type "ValueError") (pv_var rfl) rfl he3 T.ty T.kV) pa_0)) _ ⟨by show 2 ≤ sizeLine; decide, fun p2 hp2 => ⟨p, p2, _, _, rfl, rfl, same_new hp2 _ _ _ L3, upd_same, by show 5 ≤ sizeLine; decide, fun p3 hp3 => ?_⟩⟩)⟩)
    rw [hD]
    refine q _ _ (g2.trans (g3.trans ((same_new hp2 _).trans (same_new hp3 _)))) ?_
    rw [upd_same]
    simp only [List.cons.injEq, and_true] at hl
    obtain ⟨rfl, rfl, rfl, rfl⟩ := hl
    rfl
  have kk : k = 0 ∨ k = 1 ∨ k = 2 ∨ k = 3 := by omega
  refine rd_seq ?_
  refine (pb_test (pv_eq (pv_var rfl) pv_c rfl)) _ ?_
  rcases kk with rfl | rfl | rfl | rfl
  · refine iteDT rfl ?_
    exact ⟨_, rfl, _, rfl, x, m, rfl, x0, m0, m1, fun H1 g1 => ⟨CR, rfl, TR.ex, fun ea hea => suite CR true false false false _ H1 ea TR rfl g1 hea rfl⟩⟩
  · refine iteDF (fun z => absurd (V.int.inj z) (by decide)) ?_
    refine (pb_test (pv_eq (pv_var rfl) pv_c rfl)) _ (iteDT rfl ?_)
    exact ⟨_, rfl, _, rfl, x, m, rfl, x0, m0, m1, fun H1 g1 => ⟨CB, rfl, TC.ex, fun ea hea => suite CB false true false false _ H1 ea TC rfl g1 hea rfl⟩⟩
  · refine iteDF (fun z => absurd (V.int.inj z) (by decide)) ?_
    refine (pb_test (pv_eq (pv_var rfl) pv_c rfl)) _ (iteDF (fun z => absurd (V.int.inj z) (by decide)) ?_)
    refine (pb_test (pv_eq (pv_var rfl) pv_c rfl)) _ (iteDT rfl ?_)
    have k2 : 0 ≤ x % 2 ∧ x % 2 < 2 := ⟨Int.emod_nonneg _ (by decide), Int.emod_lt_of_pos _ (by decide)⟩
    have k9 : 0 ≤ m % 9 ∧ m % 9 < 9 := ⟨Int.emod_nonneg _ (by decide), Int.emod_lt_of_pos _ (by decide)⟩
    refine te_op (te_lst ((pa_1 pv_c (pa_1 pv_c pa_0)) _ ⟨by show 2 ≤ sizeLine; decide, fun p hp => ?_⟩))
    have g1 := same_new hp (HO.lst [V.ref fg, .ref ff])
    obtain ⟨u, hu, hau⟩ := at_mem (xs := [V.ref fg, .ref ff]) k2.1 k2.2
    refine (pv_opC (pv_var rfl) pv_c (by show (0 : Int) < 2; decide)) _ ⟨p, _, _, u, rfl, rfl, SqL.of upd_same, hau, ?_⟩
    have hm : Txt.mul "." (1 + m % 9) = rowS (List.replicate (1 + m % 9).toNat false) := mul_sign false (1 + m % 9) (by omega)
    have hk : MulOk "." (1 + m % 9) := mulOk_sign false (1 + m % 9) (by omega) (by omega)
    have hc := cnt_replicate (1 + m % 9).toNat
    have hl : (List.replicate (1 + m % 9).toNat false).length = (1 + m % 9).toNat := List.length_replicate
    have told : ∀ H1, Same H H1 → ∃ Ca, Value.ref CN = .ref Ca ∧ PySem.W.exmOne K (.ref Ca) (.ref CT) = some true ∧ True := fun H1 g => ⟨CN, rfl, TN.ex, trivial⟩
    simp only [List.mem_cons, List.not_mem_nil, or_false] at hu
    rcases hu with rfl | rfl
    · refine ⟨fg, 4, _, _, rfl, F_gaps, hr.mono (by decide), ?_⟩
      exact (pa_1 (pv_mulS pv_c (pv_op pv_c (pv_opC (pv_var rfl) pv_c (by show (0 : Int) < 9; decide))) hk) pa_0) _ ⟨List.replicate (1 + m % 9).toNat false, by rw [← hm], by rw [hl]; omega, by rw [hl]; omega, fun z => by rw [hc] at z; omega, fun _ H1 g => ⟨CN, rfl, TN.ex, fun ea hea => suite CN false false true false _ H1 ea TN rfl (g1.trans g) hea rfl⟩⟩
    · refine ⟨ff, 5, _, _, rfl, F_folded, hr.mono (by decide), ?_⟩
      exact (pa_1 (pv_mulS pv_c (pv_op pv_c (pv_opC (pv_var rfl) pv_c (by show (0 : Int) < 9; decide))) hk) pa_0) _ ⟨List.replicate (1 + m % 9).toNat false, by rw [← hm], by rw [hl]; omega, by rw [hl]; omega, fun z => by rw [hc] at z; omega, fun _ H1 g => ⟨CN, rfl, TN.ex, fun ea hea => suite CN false false true false _ H1 ea TN rfl (g1.trans g) hea rfl⟩, fun z => by rw [hc] at z; omega⟩
  · refine iteDF (fun z => absurd (V.int.inj z) (by decide)) ?_
    refine (pb_test (pv_eq (pv_var rfl) pv_c rfl)) _ (iteDF (fun z => absurd (V.int.inj z) (by decide)) ?_)
    refine (pb_test (pv_eq (pv_var rfl) pv_c rfl)) _ (iteDF (fun z => absurd (V.int.inj z) (by decide)) ?_)
    have k2 : 0 ≤ x % 2 ∧ x % 2 < 2 := ⟨Int.emod_nonneg _ (by decide), Int.emod_lt_of_pos _ (by decide)⟩
    have kq : 0 ≤ x / 2 % 4 ∧ x / 2 % 4 < 4 := ⟨Int.emod_nonneg _ (by decide), Int.emod_lt_of_pos _ (by decide)⟩
    have k9 : 0 ≤ m % 9 ∧ m % 9 < 9 := ⟨Int.emod_nonneg _ (by decide), Int.emod_lt_of_pos _ (by decide)⟩
    refine te_op (te_lst ((pa_1 pv_c (pa_1 pv_c pa_0)) _ ⟨by show 2 ≤ sizeLine; decide, fun p hp => ?_⟩))
    have g1 := same_new hp (HO.lst [V.ref ff, .ref fo])
    have h1 : upd H p (HO.lst [V.ref ff, .ref fo]) p = some (HO.lst [V.ref ff, .ref fo]) := upd_same
    generalize upd H p (HO.lst [V.ref ff, .ref fo]) = H1 at g1 h1
    obtain ⟨u, hu, hau⟩ := at_mem (xs := [V.ref ff, .ref fo]) k2.1 k2.2
    refine (pv_opC (pv_var rfl) pv_c (by show (0 : Int) < 2; decide)) _ ⟨p, _, _, u, rfl, rfl, SqL.of h1, hau, ?_⟩
    have hm : Txt.mul "." (m % 9) = rowS (List.replicate (m % 9).toNat false) := mul_sign false (m % 9) (by omega)
    have hk : MulOk "." (m % 9) := mulOk_sign false (m % 9) (by omega) (by omega)
    -- the argument
    have arg : ∀ (R : List V → Hp → Prop), (∀ (b : List Bool) H2, b ∈ bases → Same H1 H2 → R [.str (rowS (b ++ List.replicate (m % 9).toNat false))] H2) →
        tCons (tOp (fun x y H Q => ∃ i j, x = .str i ∧ y = .str j ∧ i.length + j.length ≤ sizeLine ∧ Q (.str (i ++ j)) H) (tOp (rIxL K) (tLst (tCons (tC (.str "xx..")) (tCons (tC (.str "xx.x..")) (tCons (tC (.str "x.xx..x...")) (tCons (tC (.str "xxx...")) tNil))))) (tOp (rI (fun _ j => 0 < j) fun i j => .int (i % j)) (tOp (rI CDiv fun i j => .int (i / j)) (tVar 1) (tC (.int 2))) (tC (.int 4))))
          (tOp (fun x y H Q => ∃ z n, x = .str z ∧ y = .int n ∧ MulOk z n ∧ Q (.str (Txt.mul z n)) H) (tC (.str ".")) (tOp (rI (fun _ j => 0 < j) fun i j => .int (i % j)) (tVar 2) (tC (.int 9))))) tNil [some (.int 3), some (.int x), some (.int m), none, none] H1 R := by
      intro R hR
      refine ta_cons (te_op (te_op (te_lst ((pa_1 pv_c (pa_1 pv_c (pa_1 pv_c (pa_1 pv_c pa_0)))) _ ⟨by show 4 ≤ sizeLine; decide, fun p4 hp4 => ?_⟩))))
      have g4 := same_new hp4 (HO.lst [V.str "xx..", .str "xx.x..", .str "x.xx..x...", .str "xxx..."])
      obtain ⟨v, hv, hav⟩ := at_mem (xs := [V.str "xx..", .str "xx.x..", .str "x.xx..x...", .str "xxx..."]) kq.1 kq.2
      refine (pv_opC (pv_opC (pv_var rfl) pv_c ⟨by decide, by decide⟩) pv_c (by show (0 : Int) < 4; decide)) _ ⟨p4, _, _, v, rfl, rfl, SqL.of upd_same, hav, ?_⟩
      obtain ⟨b, hb, rfl⟩ : ∃ b, b ∈ bases ∧ v = .str (rowS b) := by
        simp only [List.mem_cons, List.not_mem_nil, or_false] at hv
        rcases hv with rfl | rfl | rfl | rfl
        · exact ⟨_, by decide, congrArg V.str base0⟩
        · exact ⟨_, by decide, congrArg V.str base1⟩
        · exact ⟨_, by decide, congrArg V.str base2⟩
        · exact ⟨_, by decide, congrArg V.str base3⟩
      have bl := bases_len b hb
      refine (pv_mulS pv_c (pv_opC (pv_var rfl) pv_c (by show (0 : Int) < 9; decide)) hk) _ ⟨_, _, rfl, rfl, ?_, ?_⟩
      · rw [hm, rowS_length, rowS_length, List.length_replicate]; exact sizeOk (by omega)
      · rw [hm, rowS_append]
        exact hR b _ hb g4
    simp only [List.mem_cons, List.not_mem_nil, or_false] at hu
    rcases hu with rfl | rfl
    · refine ⟨ff, 5, _, _, rfl, F_folded, hr.mono (by decide), arg _ fun b H2 hb g2 => ?_⟩
      obtain ⟨hc, d, y, hd, dm, hy, lt⟩ := uneven_of (bases_uneven b hb (m % 9).toNat (by omega))
      have bl := bases_len b hb
      refine ⟨_, rfl, by rw [List.length_append]; omega, by rw [List.length_append, List.length_replicate]; omega, fun _ e he em el => ?_, fun z => by omega, fun _ e he em el H3 g3 => ⟨CU, rfl, TU.ex, fun ea hea => suite CU false false false true _ H3 ea TU rfl (g1.trans (g2.trans g3)) hea rfl⟩⟩
      have a1 := dm e he
      have a2 := em d hd
      have a3 := el y hy
      omega
    · refine ⟨fo, 6, _, _, rfl, F_folds, hr.mono (by decide), arg _ fun b H2 hb g2 => ?_⟩
      obtain ⟨hc, d, y, hd, dm, hy, lt⟩ := uneven_of (bases_uneven b hb (m % 9).toNat (by omega))
      have bl := bases_len b hb
      exact ⟨_, rfl, by rw [List.length_append]; omega, by rw [List.length_append, List.length_replicate]; omega, fun p' H3 L z _ _ _ C c0 => absurd c0 (chain_uneven C hc hd dm hy lt), fun L z d' x' _ _ _ _ _ _ H3 g3 => ⟨CU, rfl, TU.ex, fun ea hea => suite CU false false false true _ H3 ea TU rfl (g1.trans (g2.trans g3)) hea rfl⟩⟩
end
end K08
set_option maxHeartbeats 4000000
namespace K08
open PySem L2 Eb
def sp_law (K : PySem.W.Frag) : Sp := fun vs H Q _ => ∃ (a : Addr) (ns : List Int), vs = [.ref a] ∧ SqL K H a (ns.map V.int) ∧ ns.length ≤ 63 ∧ (∀ x ∈ ns, Builtin.Int.intBits x ≤ 2 ^ 20) ∧ ∀ H', Q (.bl true) H'
section
seal PS PSs PE PA PT PI PG PO PB
variable {P : Program} {w : World} {K : PySem.W.Frag} {mg : Str → Option Value} {base : Heap} {f CB CN CU : Addr} {fd : FuncData}
abbrev s_law : Stmt := top 51
theorem sc_law : FnScope ["_law_script", "_law_cell", "_law_kind", "_law_due"] ["_law_script"] (defScope s_law) := ⟨rfl, rfl, rfl, by decide +kernel, rfl, by decide +kernel, by decide +kernel⟩
set_option maxHeartbeats 2000000 in
theorem ok_law (F__law_told : Kn P w K mg base 8 "_law_told" ["_law_kind", "_law_which", "_law_more"] sp_told) (F_folds : Kn P w K mg base 6 "folds" ["ring"] (spx_folds8 CU)) (F_unfolded : Kn P w K mg base 4 "unfolded" ["ring", "gap"] sp_unfolded) (F_gaps : Kn P w K mg base 4 "gaps" ["ring"] (spx_gaps CN))
    (F : Fun K "law" "law" s_law f fd) : FnOk P w K mg base (CXE P w) 9 f fd ["_law_script"] (sp_law K) := by
  refine F.okN sc_law (fun vs H Q E h => ?_) (fun cdv A outer s H vs Q E hr h => ?_)
  · obtain ⟨a, ns, rfl, _⟩ := h; rfl
  obtain ⟨a, ns, rfl, hS, h63, _, q⟩ := h
  have nd := sc_law.nd
  refine ⟨_, (pss_cons (ps_for PassesOwn.never rfl (pi_list (pv 0)) (pg_name (i := 1) nd rfl (Or.inl rfl) (Or.inl rfl))
      (pss_cons (ps_set (i := 2) nd rfl (Or.inl rfl) (pe_op op_mod (pv 1) pe_int))
      (pss_cons (ps_set (i := 3) nd rfl (Or.inl rfl) (pe_lst (pa_cons (pe_cmpR op_eq (pv 2) pe_int (nomark _)) (pa_cons (pe_cmpR op_eq (pv 2) pe_int (nomark _)) (pa_cons (pe_cmpR op_eq (pv 2) pe_int (nomark _)) (pa_cons (pe_cmpR op_eq (pv 2) pe_int (nomark _)) (pa_cons pe_bl pa_nil)))))))
      (pss_one (ps_if (pt_cmpR (flatB.ne hr.units) (pe_fn F__law_told (hr.mono (by decide)) (pa_cons (pv 2) (pa_cons (pe_op op_mod (pe_op op_fdiv (pv 1) pe_int) pe_int) (pa_cons (pe_op op_mod (pe_op op_fdiv (pv 1) pe_int) pe_int) pa_nil)))) (pv 3) (nomark _)) (pss_one (ps_ret pe_bl)) pss_nil)))))
    (pss_one (ps_ret (pe_and (pe_cmpR (flatS.eq hr.units) (pe_fn F_folds (hr.mono (by decide)) (pa_cons pe_str pa_nil)) (pe_lst (pa_cons pe_str pa_nil)) (nomark _)) (pe_and (pe_cmpR (flatS.eq hr.units) (pe_fn F_folds (hr.mono (by decide)) (pa_cons pe_str pa_nil)) (pe_lst (pa_cons pe_str (pa_cons pe_str pa_nil))) (nomark _)) (pe_and (pe_cmpR op_eq (pe_fn F_unfolded (hr.mono (by decide)) (pa_cons pe_str (pa_cons pe_int pa_nil))) pe_str (nomark _)) (pe_one (pe_cmpR (flatI.eq hr.units) (pe_fn F_gaps (hr.mono (by decide)) (pa_cons pe_str pa_nil)) (pe_lst (pa_cons pe_int pa_nil)) (nomark _))))))))), ?_⟩
  have ed : ("." : Str) = rowS [false] := by decide +kernel
  have ex : ("x" : Str) = rowS [true] := by decide +kernel
  have eg : ("x.." : Str) = rowS [true, false, false] := by decide +kernel
  refine rd_seq (ti_list ((pv_var rfl) _ ⟨a, rfl, ⟨_, hS⟩, ?_⟩))
  refine for_list (K := K) (a := a) (xs := ns.map V.int) (fun i σ H' => Same H H' ∧ ∃ z1 z2 z3, σ = [some (.ref a), z1, z2, z3]) ⟨Same.refl _, _, _, _, rfl⟩ (fun i σ H' _ h => h.1.seq hS) (fun i y σ H' hy h => ?_) (fun σ H' h => ?_)
  · obtain ⟨g, z1, z2, z3, rfl⟩ := h
    obtain ⟨c, hc, rfl⟩ : ∃ c, c ∈ ns ∧ V.int c = y := List.mem_map.mp (List.mem_of_getElem? hy)
    have k4 : 0 ≤ c % 4 ∧ c % 4 < 4 := ⟨Int.emod_nonneg _ (by decide), Int.emod_lt_of_pos _ (by decide)⟩
    have kx : 0 ≤ c / 4 % 100000 := Int.emod_nonneg _ (by decide)
    have km : 0 ≤ c / 400000 % 1000 ∧ c / 400000 % 1000 < 1000 := ⟨Int.emod_nonneg _ (by decide), Int.emod_lt_of_pos _ (by decide)⟩
    refine rd_set (pv_opC (pv_var rfl) pv_c (by show (0 : Int) < 4; decide)) ?_
    refine rd_setK (te_lst ((pa_1 (pv_eq (pv_var rfl) pv_c rfl) (pa_1 (pv_eq (pv_var rfl) pv_c rfl) (pa_1 (pv_eq (pv_var rfl) pv_c rfl) (pa_1 (pv_eq (pv_var rfl) pv_c rfl) (pa_1 pv_c pa_0))))) _ ⟨by show 5 ≤ sizeLine; decide, fun p hp => ?_⟩))
    have di : ∀ i : Int, decide (V.int (c % 4) = V.int i) = decide (c % 4 = i) := fun i => decide_eq_decide.mpr ⟨V.int.inj, fun e => by rw [e]⟩
    rw [di, di, di, di]
    have g1 := same_new hp (HO.lst [V.bl (decide (c % 4 = 0)), .bl (decide (c % 4 = 1)), .bl (decide (c % 4 = 2)), .bl (decide (c % 4 = 3)), .bl true])
    have S1 : SqL K (upd H' p (HO.lst [V.bl (decide (c % 4 = 0)), .bl (decide (c % 4 = 1)), .bl (decide (c % 4 = 2)), .bl (decide (c % 4 = 3)), .bl true])) p ([decide (c % 4 = 0), decide (c % 4 = 1), decide (c % 4 = 2), decide (c % 4 = 3), true].map V.bl) := SqL.of upd_same
    generalize upd H' p (HO.lst [V.bl (decide (c % 4 = 0)), .bl (decide (c % 4 = 1)), .bl (decide (c % 4 = 2)), .bl (decide (c % 4 = 3)), .bl true]) = H1 at g1 S1
    refine rd_if1K (tt_test (te_op (te_call ((pa_1 (pv_var rfl) (pa_1 (pv_opC (pv_opC (pv_var rfl) pv_c ⟨by decide, by decide⟩) pv_c (by show (0 : Int) < 100000; decide)) (pa_1 (pv_opC (pv_opC (pv_var rfl) pv_c ⟨by decide, by decide⟩) pv_c (by show (0 : Int) < 1000; decide)) pa_0))) _ ⟨c % 4, _, _, rfl, k4.1, k4.2, kx, km.1, km.2, fun p2 H2 g2 h2 => ?_⟩))))
    exact ⟨_, rfl, p2, p, _, _, rfl, rfl, fun _ _ => trivial, fun _ _ => trivial, SqL.of h2, g2.seq S1, _, rfl, iteNS rfl ⟨g.trans (g1.trans g2), _, _, _, rfl⟩⟩
  · obtain ⟨g, z1, z2, z3, rfl⟩ := h
    dsimp only
    refine rd_retK (te_and (te_op (te_call ((pa_1 pv_c pa_0) _ ⟨[false], by rw [← ed]; rfl, by decide, by decide, fun p H1 L z hp g1 hL C c0 => ?_, fun L z d x C hz _ _ _ _ => by obtain ⟨_, rfl⟩ := chain_rest C (by decide); exact absurd hz (by decide)⟩))))
    obtain ⟨rfl, rfl⟩ := chain_rest C (by decide)
    refine te_lst ((pa_1 pv_c pa_0) _ ⟨by show 1 ≤ sizeLine; decide, fun p2 hp2 => ?_⟩)
    have g2 := same_new hp2 (HO.lst [V.str "."])
    have h2 : upd H1 p2 (HO.lst [V.str "."]) p2 = some (HO.lst ([rowS [false]].map V.str)) := by rw [upd_same, ed]; rfl
    generalize upd H1 p2 (HO.lst [V.str "."]) = H2 at g2 h2
    have ok1 : ∀ (l : List Bool) x, x ∈ [rowS l] → PyData.strOk x = true := fun l x hx => by
      have : x = rowS l := by simpa using hx
      rw [this]; exact strOk_row l
    refine ⟨p, p2, [rowS [false]], [rowS [false]], rfl, rfl, ok1 _, ok1 _, SqL.of (g2 _ _ hL), SqL.of h2, _, rfl, iteDT rfl ?_⟩
    refine te_and (te_op (te_call ((pa_1 pv_c pa_0) _ ⟨[true], by rw [← ex]; rfl, by decide, by decide, fun p3 H3 L3 z3 hp3 g3 hL3 C3 c3 => ?_, fun L z d x C hz hd _ hx lt => by
      rcases chain_beat C with ⟨_, rfl⟩ | ⟨_, rfl⟩
      · have g1 : gapsL [true] = [1] := by decide
        rw [g1] at hd hx
        have e1 : d = 1 := by simpa using hd
        have e2 : x = 1 := by simpa using hx
        omega
      · exact absurd hz (by decide)⟩)))
    obtain ⟨rfl, rfl⟩ : L3 = [[true]] ∧ z3 = [false] := by
      rcases chain_beat C3 with ⟨_, rfl⟩ | h
      · exact absurd c3 (by decide)
      · exact h
    refine te_lst ((pa_1 pv_c (pa_1 pv_c pa_0)) _ ⟨by show 2 ≤ sizeLine; decide, fun p4 hp4 => ?_⟩)
    have g4 := same_new hp4 (HO.lst [V.str "x", .str "."])
    have h4 : upd H3 p4 (HO.lst [V.str "x", .str "."]) p4 = some (HO.lst ([rowS [true], rowS [false]].map V.str)) := by rw [upd_same, ed, ex]; rfl
    generalize upd H3 p4 (HO.lst [V.str "x", .str "."]) = H4 at g4 h4
    have ok2 : ∀ x, x ∈ [rowS [true], rowS [false]] → PyData.strOk x = true := fun x hx => by
      simp only [List.mem_cons, List.not_mem_nil, or_false] at hx
      rcases hx with rfl | rfl <;> exact strOk_row _
    refine ⟨p3, p4, [rowS [true], rowS [false]], [rowS [true], rowS [false]], rfl, rfl, ok2, ok2, SqL.of (g4 _ _ hL3), SqL.of h4, _, rfl, iteDT rfl ?_⟩
    refine te_and (te_op (te_call ((pa_1 pv_c (pa_1 pv_c pa_0)) _ ⟨[true], 1, by rw [← ex]; rfl, by decide, by decide, by decide, by decide, fun H5 g5 => ⟨rfl, _, rfl, ?_⟩⟩)))
    refine iteDT (by decide +kernel) ?_
    refine te_op (te_call ((pa_1 pv_c pa_0) _ ⟨[true, false, false], by rw [← eg]; rfl, by decide, by decide, fun _ p6 H6 hp6 g6 h6 => ?_, fun z => absurd z (by decide)⟩))
    refine te_lst ((pa_1 pv_c pa_0) _ ⟨by show 1 ≤ sizeLine; decide, fun p7 hp7 => ?_⟩)
    have g7 := same_new hp7 (HO.lst [V.int 3])
    have e6 : vG (gapsL [true, false, false]) = [3].map V.int := by decide
    rw [e6] at h6
    exact ⟨p6, p7, [3], [3], rfl, rfl, fun _ _ => trivial, fun _ _ => trivial, SqL.of (g7 _ _ h6), SqL.of upd_same, q _⟩
end
end K08
set_option maxHeartbeats 4000000
theorem PySem.W.Fast.te8299507297534065170 : True := trivial
namespace K08
open PySem L2 Eb
set_option maxHeartbeats 8000000 in
theorem all_mk {l : PySem.W.OpenLaw} {w : World} {K : PySem.W.Frag} {h : Heap} {mg : Str → Option Value} {fa CB CT CR CN CU : Addr}
    {f_is_number f_is_between f_is_row f_is_ring f_check_row f_check_ring f_check_number f_check_at_least f_check_beats f_reckoned f_laid f_turned f_exchanged f_about f_gaps f_folded f_unfolded f_folds f_even f_begun f_law_ring_asked f_law_count_asked f_law_told f_law : Addr} {d_is_number d_is_between d_is_row d_is_ring d_check_row d_check_ring d_check_number d_check_at_least d_check_beats d_reckoned d_laid d_turned d_exchanged d_about d_gaps d_folded d_unfolded d_folds d_even d_begun d_law_ring_asked d_law_count_asked d_law_told : FuncData} {u_BEAT u_REST : Value}
    {od an : Option Addr} {sl : Array (Option Value)} {oc kV dc pm cd ct : Value} (X : K.In h) (G : h.Ns mainGlobals mg) (hfa : mg "law" = some (.ref fa))
    (a_is_number : At K "is_number" s_is_number f_is_number d_is_number)
    (a_is_between : At K "is_between" s_is_between f_is_between d_is_between)
    (a_is_row : At K "is_row" s_is_row f_is_row d_is_row)
    (a_is_ring : At K "is_ring" s_is_ring f_is_ring d_is_ring)
    (a_check_row : At K "check_row" s_check_row f_check_row d_check_row)
    (a_check_ring : At K "check_ring" s_check_ring f_check_ring d_check_ring)
    (a_check_number : At K "check_number" s_check_number f_check_number d_check_number)
    (a_check_at_least : At K "check_at_least" s_check_at_least f_check_at_least d_check_at_least)
    (a_check_beats : At K "check_beats" s_check_beats f_check_beats d_check_beats)
    (a_reckoned : At K "reckoned" s_reckoned f_reckoned d_reckoned)
    (a_laid : At K "laid" s_laid f_laid d_laid)
    (a_turned : At K "turned" s_turned f_turned d_turned)
    (a_exchanged : At K "exchanged" s_exchanged f_exchanged d_exchanged)
    (a_about : At K "about" s_about f_about d_about)
    (a_gaps : At K "gaps" s_gaps f_gaps d_gaps)
    (a_folded : At K "folded" s_folded f_folded d_folded)
    (a_unfolded : At K "unfolded" s_unfolded f_unfolded d_unfolded)
    (a_folds : At K "folds" s_folds f_folds d_folds)
    (a_even : At K "even" s_even f_even d_even)
    (a_begun : At K "begun" s_begun f_begun d_begun)
    (a_law_ring_asked : At K "_law_ring_asked" s_law_ring_asked f_law_ring_asked d_law_ring_asked)
    (a_law_count_asked : At K "_law_count_asked" s_law_count_asked f_law_count_asked d_law_count_asked)
    (a_law_told : At K "_law_told" s_law_told f_law_told d_law_told)
    (e_BadCount : PySem.W.nsIn K mainGlobals "BadCount" = some (some (.ref CB))) (ec_BadCount : PySem.W.excIn K CB veMro "ValueError.__new__" = true)
    (n_law : PySem.W.nsIn K mainGlobals "law" = some (some (.ref f_law))) (l_law : K.lookup f_law = some ⟨oc, od, .func (PySem.W.fnOf "law" "law" (defArgs s_law) (defBody s_law) (defScope s_law) .none kV dc pm an cd ct), sl⟩) (c_law : PySem.W.codeIn K cd "law" = true) (k_law : PySem.W.keepIn K (.ref f_law) = true)
    (z_len : PySem.W.nsIn K mainGlobals "len" = some none)
    (z_isinstance : PySem.W.nsIn K mainGlobals "isinstance" = some none)
    (z_sum : PySem.W.nsIn K mainGlobals "sum" = some none)
    (z_max : PySem.W.nsIn K mainGlobals "max" = some none)
    (z_min : PySem.W.nsIn K mainGlobals "min" = some none)
    (z_range : PySem.W.nsIn K mainGlobals "range" = some none)
    (z_list : PySem.W.nsIn K mainGlobals "list" = some none)
    (z_int : PySem.W.nsIn K mainGlobals "int" = some none)
    (z_bool : PySem.W.nsIn K mainGlobals "bool" = some none)
    (z_str : PySem.W.nsIn K mainGlobals "str" = some none)
    (y_BEAT : PySem.W.nsIn K mainGlobals "BEAT" = some (some u_BEAT)) (v_BEAT : ∃ t, u_BEAT = Value.str "x" t)
    (y_REST : PySem.W.nsIn K mainGlobals "REST" = some (some u_REST)) (v_REST : ∃ t, u_REST = Value.str "." t)
    (z_zip : PySem.W.nsIn K mainGlobals "zip" = some none)
    (z_ValueError : PySem.W.nsIn K mainGlobals "ValueError" = some none)
    (e_BeatError : PySem.W.nsIn K mainGlobals "BeatError" = some (some (.ref CT)))
    (e_BadRing : PySem.W.nsIn K mainGlobals "BadRing" = some (some (.ref CR))) (ec_BadRing : PySem.W.excIn K CR veMro "ValueError.__new__" = true)
    (e_NoBeat : PySem.W.nsIn K mainGlobals "NoBeat" = some (some (.ref CN))) (ec_NoBeat : PySem.W.excIn K CN veMro "ValueError.__new__" = true)
    (e_Uneven : PySem.W.nsIn K mainGlobals "Uneven" = some (some (.ref CU))) (ec_Uneven : PySem.W.excIn K CU veMro "ValueError.__new__" = true)
    (x_BadRing : KE K CT CR CB CN CU CR true false false false)
    (x_BadCount : KE K CT CR CB CN CU CB false true false false)
    (x_NoBeat : KE K CT CR CB CN CU CN false false true false)
    (x_Uneven : KE K CT CR CB CN CU CU false false false true) :
    ∃ fd : FuncData, (∀ (s : Shared) (v : Value), BindsTo s fd ⟨[v], []⟩ [("_law_script", v)]) ∧ ∀ base : Heap, K.In base → base.Ns mainGlobals mg → FnOk l.prog w K mg base (CXE l.prog w) 9 fa fd ["_law_script"] (sp_law K) := by
  have e := hfa.symm.trans (PySem.W.mg_of X G n_law)
  cases e
  have F_law := fun_mk (st := s_law) l_law c_law k_law
  obtain ⟨t_BEAT, rfl⟩ := v_BEAT
  obtain ⟨t_REST, rfl⟩ := v_REST
  have M : Md K mg CB := ⟨PySem.W.mg_none_of X G z_len, PySem.W.mg_none_of X G z_isinstance, PySem.W.mg_none_of X G z_sum, PySem.W.mg_none_of X G z_max, PySem.W.mg_none_of X G z_min, PySem.W.mg_none_of X G z_range, PySem.W.mg_none_of X G z_list, PySem.W.mg_none_of X G z_int, PySem.W.mg_none_of X G z_bool, PySem.W.mg_none_of X G z_str, ⟨t_BEAT, PySem.W.mg_of X G y_BEAT⟩, ⟨t_REST, PySem.W.mg_of X G y_REST⟩, xcls_mk X G e_BadCount ec_BadCount⟩
  have hzip : mg "zip" = none := PySem.W.mg_none_of X G z_zip
  have xR : XCls K mg "BadRing" CR := xcls_mk X G e_BadRing ec_BadRing
  have xN : XCls K mg "NoBeat" CN := xcls_mk X G e_NoBeat ec_NoBeat
  have xU : XCls K mg "Uneven" CU := xcls_mk X G e_Uneven ec_Uneven
  have Z : KX K mg CT CR CB CN CU := ⟨PySem.W.mg_of X G e_BeatError, PySem.W.mg_of X G e_BadRing, PySem.W.mg_of X G e_BadCount, PySem.W.mg_of X G e_NoBeat, PySem.W.mg_of X G e_Uneven, PySem.W.mg_none_of X G z_ValueError⟩
  refine ⟨PySem.W.fnOf "law" "law" (defArgs s_law) (defBody s_law) (defScope s_law) .none kV dc pm an cd ct, fun s v => .of_eq rfl, fun base _ _ => ?_⟩
  have k_is_number := a_is_number.kn X G (ok_is_number (P := l.prog) (w := w) (mg := mg) (base := base) M a_is_number.fn) (fun _ _ _ _ _ _ us hl => match us, hl with | [_], _ => rfl)
  have n_is_number := a_is_number.kn X G (no_is_number (P := l.prog) (w := w) (mg := mg) (base := base) M a_is_number.fn) (fun _ _ _ _ _ _ us hl => match us, hl with | [_], _ => rfl)
  have k_is_between := a_is_between.kn X G (ok_is_between k_is_number a_is_between.fn) (fun _ _ _ _ _ _ us hl => match us, hl with | [_, _, _], _ => rfl)
  have n_is_between := a_is_between.kn X G (no_is_between n_is_number a_is_between.fn) (fun _ _ _ _ _ _ us hl => match us, hl with | [_, _, _], _ => rfl)
  have k_is_row := a_is_row.kn X G (ok_is_row (P := l.prog) (w := w) (mg := mg) (base := base) M a_is_row.fn) (fun _ _ _ _ _ _ us hl => match us, hl with | [_], _ => rfl)
  have n_is_row := a_is_row.kn X G (no_is_row (P := l.prog) (w := w) (mg := mg) (base := base) M a_is_row.fn) (fun _ _ _ _ _ _ us hl => match us, hl with | [_], _ => rfl)
  have k_is_ring := a_is_ring.kn X G (ok_is_ring M k_is_row a_is_ring.fn) (fun _ _ _ _ _ _ us hl => match us, hl with | [_], _ => rfl)
  have n_is_ring := a_is_ring.kn X G (no_is_ring M n_is_row k_is_row a_is_ring.fn) (fun _ _ _ _ _ _ us hl => match us, hl with | [_], _ => rfl)
  have n_check_row := a_check_row.kn X G (no_check_row xR n_is_row a_check_row.fn) (fun _ _ _ _ _ _ us hl => match us, hl with | [_], _ => rfl)
  have k_check_ring := a_check_ring.kn X G (ok_check_ring k_is_ring a_check_ring.fn) (fun _ _ _ _ _ _ us hl => match us, hl with | [_], _ => rfl)
  have n_check_ring := a_check_ring.kn X G (no_check_ring xR n_is_ring a_check_ring.fn) (fun _ _ _ _ _ _ us hl => match us, hl with | [_], _ => rfl)
  have k_check_number := a_check_number.kn X G (ok_check_number k_is_number a_check_number.fn) (fun _ _ _ _ _ _ us hl => match us, hl with | [_], _ => rfl)
  have n_check_number := a_check_number.kn X G (no_check_number M n_is_number a_check_number.fn) (fun _ _ _ _ _ _ us hl => match us, hl with | [_], _ => rfl)
  have k_check_at_least := a_check_at_least.kn X G (ok_check_at_least M k_check_number a_check_at_least.fn) (fun _ _ _ _ _ _ us hl => match us, hl with | [_, _], _ => rfl)
  have n_check_at_least := a_check_at_least.kn X G (no_check_at_least (ok_check_at_least M k_check_number a_check_at_least.fn) n_check_number a_check_at_least.fn) (fun _ _ _ _ _ _ us hl => match us, hl with | [_, _], _ => rfl)
  have k_check_beats := a_check_beats.kn X G (ok_check_beats M k_check_at_least k_is_between a_check_beats.fn) (fun _ _ _ _ _ _ us hl => match us, hl with | [_, _], _ => rfl)
  have n_check_beats := a_check_beats.kn X G (no_check_beats M n_check_at_least k_check_at_least n_is_between k_is_between a_check_beats.fn) (fun _ _ _ _ _ _ us hl => match us, hl with | [_, _], _ => rfl)
  have n_reckoned := a_reckoned.kn X G (no_reckoned n_check_beats k_check_beats n_check_number k_check_number n_check_at_least a_reckoned.fn) (fun _ _ _ _ _ _ us hl => match us, hl with | [_, _, _, _], _ => rfl)
  have n_laid := a_laid.kn X G (no_laid n_reckoned a_laid.fn) (fun _ _ _ _ _ _ us hl => match us, hl with | [_, _], _ => rfl)
  have n_turned : KnF l.prog w K mg base 4 f_turned ["ring", "by"] (spn_ring2 K CR) := ⟨_, no_turned n_check_ring a_turned.fn, a_turned.fn.binds (fun _ _ _ _ _ _ us hl => match us, hl with | [_, _], _ => rfl), a_turned.fn.kp⟩
  have n2_turned := a_turned.kn X G (no_turned2 k_check_ring n_check_number a_turned.fn) (fun _ _ _ _ _ _ us hl => match us, hl with | [_, _], _ => rfl)
  have n_exchanged : KnF l.prog w K mg base 4 f_exchanged ["ring"] (spn_ring K CR) := ⟨_, no_exchanged n_check_ring a_exchanged.fn, a_exchanged.fn.binds (fun _ _ _ _ _ _ us hl => match us, hl with | [_], _ => rfl), a_exchanged.fn.kp⟩
  have n_about : KnF l.prog w K mg base 4 f_about ["ring"] (spn_ring K CR) := ⟨_, no_about n_check_ring a_about.fn, a_about.fn.binds (fun _ _ _ _ _ _ us hl => match us, hl with | [_], _ => rfl), a_about.fn.kp⟩
  have n_even : KnF l.prog w K mg base 4 f_even ["ring"] (spn_ring K CR) := ⟨_, no_even n_check_ring a_even.fn, a_even.fn.binds (fun _ _ _ _ _ _ us hl => match us, hl with | [_], _ => rfl), a_even.fn.kp⟩
  have k_gaps := a_gaps.kn X G (ok_gaps M hzip xN k_check_ring a_gaps.fn) (fun _ _ _ _ _ _ us hl => match us, hl with | [_], _ => rfl)
  have q_gaps : KnF l.prog w K mg base 4 f_gaps ["ring"] (spx_gaps CN) := ⟨_, ok_gaps M hzip xN k_check_ring a_gaps.fn, a_gaps.fn.binds (fun _ _ _ _ _ _ us hl => match us, hl with | [_], _ => rfl), a_gaps.fn.kp⟩
  have n_gaps := a_gaps.kn X G (no_gaps n_check_ring a_gaps.fn) (fun _ _ _ _ _ _ us hl => match us, hl with | [_], _ => rfl)
  have nf_gaps : KnF l.prog w K mg base 4 f_gaps ["ring"] (spn_ring K CR) := ⟨_, no_gaps n_check_ring a_gaps.fn, a_gaps.fn.binds (fun _ _ _ _ _ _ us hl => match us, hl with | [_], _ => rfl), a_gaps.fn.kp⟩
  have k_folded := a_folded.kn X G (ok_folded M xU k_gaps a_folded.fn) (fun _ _ _ _ _ _ us hl => match us, hl with | [_], _ => rfl)
  have q_folded : KnF l.prog w K mg base 5 f_folded ["ring"] (spx_folded CN CU) := ⟨_, ok_folded M xU k_gaps a_folded.fn, a_folded.fn.binds (fun _ _ _ _ _ _ us hl => match us, hl with | [_], _ => rfl), a_folded.fn.kp⟩
  have nf_folded : KnF l.prog w K mg base 5 f_folded ["ring"] (spn_ring K CR) := ⟨_, no_folded n_gaps a_folded.fn, a_folded.fn.binds (fun _ _ _ _ _ _ us hl => match us, hl with | [_], _ => rfl), a_folded.fn.kp⟩
  have k_unfolded := a_unfolded.kn X G (ok_unfolded M k_check_ring k_check_at_least a_unfolded.fn) (fun _ _ _ _ _ _ us hl => match us, hl with | [_, _], _ => rfl)
  have nf_unfolded : KnF l.prog w K mg base 4 f_unfolded ["ring", "gap"] (spn_ring2 K CR) := ⟨_, no_unfolded n_check_ring a_unfolded.fn, a_unfolded.fn.binds (fun _ _ _ _ _ _ us hl => match us, hl with | [_, _], _ => rfl), a_unfolded.fn.kp⟩
  have n2_unfolded := a_unfolded.kn X G (no_unfolded2 k_check_ring n_check_at_least a_unfolded.fn) (fun _ _ _ _ _ _ us hl => match us, hl with | [_, _], _ => rfl)
  have k_folds := a_folds.kn X G (ok_folds M k_check_ring k_folded a_folds.fn) (fun _ _ _ _ _ _ us hl => match us, hl with | [_], _ => rfl)
  have q_folds : KnF l.prog w K mg base 6 f_folds ["ring"] (spx_folds8 CU) := ⟨_, ok_folds M k_check_ring k_folded a_folds.fn, a_folds.fn.binds (fun _ _ _ _ _ _ us hl => match us, hl with | [_], _ => rfl), a_folds.fn.kp⟩
  have nf_folds : KnF l.prog w K mg base 6 f_folds ["ring"] (spn_ring K CR) := ⟨_, no_folds n_check_ring a_folds.fn, a_folds.fn.binds (fun _ _ _ _ _ _ us hl => match us, hl with | [_], _ => rfl), a_folds.fn.kp⟩
  have n_begun := a_begun.kn X G (no_begun n_check_row a_begun.fn) (fun _ _ _ _ _ _ us hl => match us, hl with | [_], _ => rfl)
  have N_even := PySem.W.mg_of X G a_even.nm
  have N_exchanged := PySem.W.mg_of X G a_exchanged.nm
  have N_about := PySem.W.mg_of X G a_about.nm
  have N_gaps := PySem.W.mg_of X G a_gaps.nm
  have N_folded := PySem.W.mg_of X G a_folded.nm
  have N_folds := PySem.W.mg_of X G a_folds.nm
  have N_turned := PySem.W.mg_of X G a_turned.nm
  have N_unfolded := PySem.W.mg_of X G a_unfolded.nm
  have k_ring_asked := a_law_ring_asked.kn X G (ok_law_ring_asked N_even N_exchanged N_about N_gaps N_folded N_folds N_turned N_unfolded n_even n_exchanged n_about nf_gaps nf_folded nf_folds n_turned nf_unfolded n_begun a_law_ring_asked.fn) (fun _ _ _ _ _ _ us hl => match us, hl with | [_, _], _ => rfl)
  have k_count_asked := a_law_count_asked.kn X G (ok_law_count_asked n2_turned n2_unfolded n_laid n_reckoned a_law_count_asked.fn) (fun _ _ _ _ _ _ us hl => match us, hl with | [_, _], _ => rfl)
  have k_told := a_law_told.kn X G (ok_law_told M Z x_BadRing x_BadCount x_NoBeat x_Uneven N_gaps N_folded N_folds q_gaps q_folded q_folds k_ring_asked k_count_asked a_law_told.fn) (fun _ _ _ _ _ _ us hl => match us, hl with | [_, _, _], _ => rfl)
  exact ok_law k_told k_folds k_unfolded k_gaps F_law
theorem walk {l : PySem.W.OpenLaw} {q : Program} {loose : List Str} {XP : (Str → Option Value) → Heap → Prop} {YP : World → Heap → Prop} {d : DefRec} {K : Params → PySem.W.Frag} (hn : l.most = some 63) (hdf : d.params.defaults = [])
    (hY : ∀ (w : World) (h : Heap), YP w h → (K w.params).In h)
    (F : ∀ (w : World) (mg : Str → Option Value) (fa : Addr) (h : Heap), (K w.params).In h → h.Ns mainGlobals mg → mg d.name = some (.ref fa) →
      ∃ fd : FuncData, (∀ (s : Shared) (u : Value), BindsTo s fd ⟨[u], []⟩ [("_law_script", u)]) ∧ ∀ base : Heap, (K w.params).In base → base.Ns mainGlobals mg → FnOk l.prog w (K w.params) mg base (CXE l.prog w) 9 fa fd ["_law_script"] (sp_law (K w.params))) :
    PySem.W.WalkO q loose XP YP l.row.toRowW d [] (fun f vs => PySem.call f vs) :=
  L2.walk_ofB (n := 63) (k := 9) (x := "_law_script") (CX := fun w => CXE l.prog w) (sp := fun w => sp_law (K w.params)) hn (by decide) hdf ⟨rfl, by decide, by decide⟩ hY F (fun _ _ a ns hl hb _ hS => ⟨a, ns, rfl, hS, hl, hb, fun _ => rfl⟩) fun _ _ _ _ _ ⟨_, _, _, _, _, _, _, z⟩ => z
end K08
open PySem PySem.W PyProof.Rows
set_option maxRecDepth 100000 in
set_option maxHeartbeats 0 in
theorem PySem.Challenge.cw_evenbeats_k08_refused_holds : PySem.Challenge.rw_evenbeats_k08_refused.Holds := by
  w_on; o_law; k_head; (case hw => w_witness2)
  k_fill
  refine K08.walk (l := PySem.Challenge.rw_evenbeats_k08_refused) rfl rfl (fun w h Y => PySem.W.kIn_of Y) ?F
  case F =>
    intro w mg fa h KX G hmg
    refine' K08.all_mk KX G hmg (L2.at_mk ?ga_is_number ?gl_is_number ?gc_is_number ?gk_is_number) (L2.at_mk ?ga_is_between ?gl_is_between ?gc_is_between ?gk_is_between) (L2.at_mk ?ga_is_row ?gl_is_row ?gc_is_row ?gk_is_row) (L2.at_mk ?ga_is_ring ?gl_is_ring ?gc_is_ring ?gk_is_ring) (L2.at_mk ?ga_check_row ?gl_check_row ?gc_check_row ?gk_check_row) (L2.at_mk ?ga_check_ring ?gl_check_ring ?gc_check_ring ?gk_check_ring) (L2.at_mk ?ga_check_number ?gl_check_number ?gc_check_number ?gk_check_number) (L2.at_mk ?ga_check_at_least ?gl_check_at_least ?gc_check_at_least ?gk_check_at_least) (L2.at_mk ?ga_check_beats ?gl_check_beats ?gc_check_beats ?gk_check_beats) (L2.at_mk ?ga_reckoned ?gl_reckoned ?gc_reckoned ?gk_reckoned) (L2.at_mk ?ga_laid ?gl_laid ?gc_laid ?gk_laid) (L2.at_mk ?ga_turned ?gl_turned ?gc_turned ?gk_turned) (L2.at_mk ?ga_exchanged ?gl_exchanged ?gc_exchanged ?gk_exchanged) (L2.at_mk ?ga_about ?gl_about ?gc_about ?gk_about) (L2.at_mk ?ga_gaps ?gl_gaps ?gc_gaps ?gk_gaps) (L2.at_mk ?ga_folded ?gl_folded ?gc_folded ?gk_folded) (L2.at_mk ?ga_unfolded ?gl_unfolded ?gc_unfolded ?gk_unfolded) (L2.at_mk ?ga_folds ?gl_folds ?gc_folds ?gk_folds) (L2.at_mk ?ga_even ?gl_even ?gc_even ?gk_even) (L2.at_mk ?ga_begun ?gl_begun ?gc_begun ?gk_begun) (L2.at_mk ?ga_law_ring_asked ?gl_law_ring_asked ?gc_law_ring_asked ?gk_law_ring_asked) (L2.at_mk ?ga_law_count_asked ?gl_law_count_asked ?gc_law_count_asked ?gk_law_count_asked) (L2.at_mk ?ga_law_told ?gl_law_told ?gc_law_told ?gk_law_told) ?ge_BadCount ?gx_BadCount ?gn_law ?gl_law ?gc_law ?gk_law ?gz_len ?gz_isinstance ?gz_sum ?gz_max ?gz_min ?gz_range ?gz_list ?gz_int ?gz_bool ?gz_str ?gy_BEAT ?gv_BEAT ?gy_REST ?gv_REST ?gz_zip ?gz_ValueError ?ge_BeatError ?ge_BadRing ?gxc_BadRing ?ge_NoBeat ?gxc_NoBeat ?ge_Uneven ?gxc_Uneven (Eb.ke_mk (L2.xty_mk ?gx0_BadRing ?gx1_BadRing ?gx2_BadRing ?gx3_BadRing ?gx4_BadRing ?gx5_BadRing ?gx6_BadRing ?gx7_BadRing) (L2.own_mk ?goCT_BadRing ?gtCT_BadRing) ?gb_BadRing (L2.own_mk ?goCR_BadRing ?gtCR_BadRing) (L2.own_mk ?goCB_BadRing ?gtCB_BadRing) (L2.own_mk ?goCN_BadRing ?gtCN_BadRing) (L2.own_mk ?goCU_BadRing ?gtCU_BadRing) ?gs0_BadRing ?gs1_BadRing ?gs2_BadRing ?gs3_BadRing ?gs4_BadRing ?gs5_BadRing ?gh0_BadRing ?gh1_BadRing ?gh2_BadRing ?gh3_BadRing) (Eb.ke_mk (L2.xty_mk ?gx0_BadCount ?gx1_BadCount ?gx2_BadCount ?gx3_BadCount ?gx4_BadCount ?gx5_BadCount ?gx6_BadCount ?gx7_BadCount) (L2.own_mk ?goCT_BadCount ?gtCT_BadCount) ?gb_BadCount (L2.own_mk ?goCR_BadCount ?gtCR_BadCount) (L2.own_mk ?goCB_BadCount ?gtCB_BadCount) (L2.own_mk ?goCN_BadCount ?gtCN_BadCount) (L2.own_mk ?goCU_BadCount ?gtCU_BadCount) ?gs0_BadCount ?gs1_BadCount ?gs2_BadCount ?gs3_BadCount ?gs4_BadCount ?gs5_BadCount ?gh0_BadCount ?gh1_BadCount ?gh2_BadCount ?gh3_BadCount) (Eb.ke_mk (L2.xty_mk ?gx0_NoBeat ?gx1_NoBeat ?gx2_NoBeat ?gx3_NoBeat ?gx4_NoBeat ?gx5_NoBeat ?gx6_NoBeat ?gx7_NoBeat) (L2.own_mk ?goCT_NoBeat ?gtCT_NoBeat) ?gb_NoBeat (L2.own_mk ?goCR_NoBeat ?gtCR_NoBeat) (L2.own_mk ?goCB_NoBeat ?gtCB_NoBeat) (L2.own_mk ?goCN_NoBeat ?gtCN_NoBeat) (L2.own_mk ?goCU_NoBeat ?gtCU_NoBeat) ?gs0_NoBeat ?gs1_NoBeat ?gs2_NoBeat ?gs3_NoBeat ?gs4_NoBeat ?gs5_NoBeat ?gh0_NoBeat ?gh1_NoBeat ?gh2_NoBeat ?gh3_NoBeat) (Eb.ke_mk (L2.xty_mk ?gx0_Uneven ?gx1_Uneven ?gx2_Uneven ?gx3_Uneven ?gx4_Uneven ?gx5_Uneven ?gx6_Uneven ?gx7_Uneven) (L2.own_mk ?goCT_Uneven ?gtCT_Uneven) ?gb_Uneven (L2.own_mk ?goCR_Uneven ?gtCR_Uneven) (L2.own_mk ?goCB_Uneven ?gtCB_Uneven) (L2.own_mk ?goCN_Uneven ?gtCN_Uneven) (L2.own_mk ?goCU_Uneven ?gtCU_Uneven) ?gs0_Uneven ?gs1_Uneven ?gs2_Uneven ?gs3_Uneven ?gs4_Uneven ?gs5_Uneven ?gh0_Uneven ?gh1_Uneven ?gh2_Uneven ?gh3_Uneven)
    (case ga_is_number => k_is); (case gl_is_number => k_is); (case gc_is_number => k_is); (case gk_is_number => k_is)
    (case ga_is_between => k_is); (case gl_is_between => k_is); (case gc_is_between => k_is); (case gk_is_between => k_is)
    (case ga_is_row => k_is); (case gl_is_row => k_is); (case gc_is_row => k_is); (case gk_is_row => k_is)
    (case ga_is_ring => k_is); (case gl_is_ring => k_is); (case gc_is_ring => k_is); (case gk_is_ring => k_is)
    (case ga_check_row => k_is); (case gl_check_row => k_is); (case gc_check_row => k_is); (case gk_check_row => k_is)
    (case ga_check_ring => k_is); (case gl_check_ring => k_is); (case gc_check_ring => k_is); (case gk_check_ring => k_is)
    (case ga_check_number => k_is); (case gl_check_number => k_is); (case gc_check_number => k_is); (case gk_check_number => k_is)
    (case ga_check_at_least => k_is); (case gl_check_at_least => k_is); (case gc_check_at_least => k_is); (case gk_check_at_least => k_is)
    (case ga_check_beats => k_is); (case gl_check_beats => k_is); (case gc_check_beats => k_is); (case gk_check_beats => k_is)
    (case ga_reckoned => k_is); (case gl_reckoned => k_is); (case gc_reckoned => k_is); (case gk_reckoned => k_is)
    (case ga_laid => k_is); (case gl_laid => k_is); (case gc_laid => k_is); (case gk_laid => k_is)
    (case ga_turned => k_is); (case gl_turned => k_is); (case gc_turned => k_is); (case gk_turned => k_is)
    (case ga_exchanged => k_is); (case gl_exchanged => k_is); (case gc_exchanged => k_is); (case gk_exchanged => k_is)
    (case ga_about => k_is); (case gl_about => k_is); (case gc_about => k_is); (case gk_about => k_is)
    (case ga_gaps => k_is); (case gl_gaps => k_is); (case gc_gaps => k_is); (case gk_gaps => k_is)
    (case ga_folded => k_is); (case gl_folded => k_is); (case gc_folded => k_is); (case gk_folded => k_is)
    (case ga_unfolded => k_is); (case gl_unfolded => k_is); (case gc_unfolded => k_is); (case gk_unfolded => k_is)
    (case ga_folds => k_is); (case gl_folds => k_is); (case gc_folds => k_is); (case gk_folds => k_is)
    (case ga_even => k_is); (case gl_even => k_is); (case gc_even => k_is); (case gk_even => k_is)
    (case ga_begun => k_is); (case gl_begun => k_is); (case gc_begun => k_is); (case gk_begun => k_is)
    (case ga_law_ring_asked => k_is); (case gl_law_ring_asked => k_is); (case gc_law_ring_asked => k_is); (case gk_law_ring_asked => k_is)
    (case ga_law_count_asked => k_is); (case gl_law_count_asked => k_is); (case gc_law_count_asked => k_is); (case gk_law_count_asked => k_is)
    (case ga_law_told => k_is); (case gl_law_told => k_is); (case gc_law_told => k_is); (case gk_law_told => k_is)
    (case ge_BadCount => k_is)
    (case gx_BadCount => k_exc)
    (case gn_law => k_is)
    (case gl_law => k_is)
    (case gc_law => k_is)
    (case gk_law => k_is)
    (case gz_len => k_is)
    (case gz_isinstance => k_is)
    (case gz_sum => k_is)
    (case gz_max => k_is)
    (case gz_min => k_is)
    (case gz_range => k_is)
    (case gz_list => k_is)
    (case gz_int => k_is)
    (case gz_bool => k_is)
    (case gz_str => k_is)
    (case gy_BEAT => k_is)
    (case gv_BEAT => exact ⟨_, rfl⟩)
    (case gy_REST => k_is)
    (case gv_REST => exact ⟨_, rfl⟩)
    (case gz_zip => k_is)
    (case gz_ValueError => k_is)
    (case ge_BeatError => k_is)
    (case ge_BadRing => k_is); (case gxc_BadRing => k_exc)
    (case ge_NoBeat => k_is); (case gxc_NoBeat => k_exc)
    (case ge_Uneven => k_is); (case gxc_Uneven => k_exc)
    (case gx0_BadRing => k_is); (case gx1_BadRing => k_is); (case gx2_BadRing => k_is); (case gx3_BadRing => k_is); (case gx4_BadRing => k_is); (case gx5_BadRing => k_is); (case gx6_BadRing => k_is); (case gx7_BadRing => k_is); (case goCT_BadRing => k_is); (case gtCT_BadRing => k_is); (case goCR_BadRing => k_is); (case gtCR_BadRing => k_is); (case goCB_BadRing => k_is); (case gtCB_BadRing => k_is); (case goCN_BadRing => k_is); (case gtCN_BadRing => k_is); (case goCU_BadRing => k_is); (case gtCU_BadRing => k_is); (case gb_BadRing => k_is); (case gs0_BadRing => k_is); (case gs1_BadRing => k_is); (case gs2_BadRing => k_is); (case gs3_BadRing => k_is); (case gs4_BadRing => k_is); (case gs5_BadRing => k_is); (case gh0_BadRing => decide); (case gh1_BadRing => decide); (case gh2_BadRing => decide); (case gh3_BadRing => decide)
    (case gx0_BadCount => k_is); (case gx1_BadCount => k_is); (case gx2_BadCount => k_is); (case gx3_BadCount => k_is); (case gx4_BadCount => k_is); (case gx5_BadCount => k_is); (case gx6_BadCount => k_is); (case gx7_BadCount => k_is); (case goCT_BadCount => k_is); (case gtCT_BadCount => k_is); (case goCR_BadCount => k_is); (case gtCR_BadCount => k_is); (case goCB_BadCount => k_is); (case gtCB_BadCount => k_is); (case goCN_BadCount => k_is); (case gtCN_BadCount => k_is); (case goCU_BadCount => k_is); (case gtCU_BadCount => k_is); (case gb_BadCount => k_is); (case gs0_BadCount => k_is); (case gs1_BadCount => k_is); (case gs2_BadCount => k_is); (case gs3_BadCount => k_is); (case gs4_BadCount => k_is); (case gs5_BadCount => k_is); (case gh0_BadCount => decide); (case gh1_BadCount => decide); (case gh2_BadCount => decide); (case gh3_BadCount => decide)
    (case gx0_NoBeat => k_is); (case gx1_NoBeat => k_is); (case gx2_NoBeat => k_is); (case gx3_NoBeat => k_is); (case gx4_NoBeat => k_is); (case gx5_NoBeat => k_is); (case gx6_NoBeat => k_is); (case gx7_NoBeat => k_is); (case goCT_NoBeat => k_is); (case gtCT_NoBeat => k_is); (case goCR_NoBeat => k_is); (case gtCR_NoBeat => k_is); (case goCB_NoBeat => k_is); (case gtCB_NoBeat => k_is); (case goCN_NoBeat => k_is); (case gtCN_NoBeat => k_is); (case goCU_NoBeat => k_is); (case gtCU_NoBeat => k_is); (case gb_NoBeat => k_is); (case gs0_NoBeat => k_is); (case gs1_NoBeat => k_is); (case gs2_NoBeat => k_is); (case gs3_NoBeat => k_is); (case gs4_NoBeat => k_is); (case gs5_NoBeat => k_is); (case gh0_NoBeat => decide); (case gh1_NoBeat => decide); (case gh2_NoBeat => decide); (case gh3_NoBeat => decide)
    (case gx0_Uneven => k_is); (case gx1_Uneven => k_is); (case gx2_Uneven => k_is); (case gx3_Uneven => k_is); (case gx4_Uneven => k_is); (case gx5_Uneven => k_is); (case gx6_Uneven => k_is); (case gx7_Uneven => k_is); (case goCT_Uneven => k_is); (case gtCT_Uneven => k_is); (case goCR_Uneven => k_is); (case gtCR_Uneven => k_is); (case goCB_Uneven => k_is); (case gtCB_Uneven => k_is); (case goCN_Uneven => k_is); (case gtCN_Uneven => k_is); (case goCU_Uneven => k_is); (case gtCU_Uneven => k_is); (case gb_Uneven => k_is); (case gs0_Uneven => k_is); (case gs1_Uneven => k_is); (case gs2_Uneven => k_is); (case gs3_Uneven => k_is); (case gs4_Uneven => k_is); (case gs5_Uneven => k_is); (case gh0_Uneven => decide); (case gh1_Uneven => decide); (case gh2_Uneven => decide); (case gh3_Uneven => decide)
