import PyProof.Rows.All
import Wide.All
import OpenK.AllK
import Wide.FinOn
import Lean
import PyProof.EqAt
import PyProof.EqKinds
import PyProof.TupleCall
import PySem.Challenge.RW_onceround_k45_words_behind
-- CHANGE: your row's module here, as the last of these rows
set_option Elab.async false
set_option linter.all false
set_option maxRecDepth 100000
/-! THE HAND LAYER, for ints, bools, texts, own classes, LISTS and tuples (index, slices, in, append, pop ..), calls, loops. Paste it whole ahead of your own text; what your proof does not reach may be deleted. -/
namespace L2
open PySem PySem.Spec PyProof.Rows

/-- a key: an int or a str -/
noncomputable abbrev Key := Sum Int Str
noncomputable def keyIs : Key → Value → Bool
  | .inl k, v => Value.isInt k v
  | .inr x, v => Value.isStrOf x v
noncomputable def keyH (w : World) : Key → Int
  | .inl k => hashInt k
  | .inr x => hashStr w x
theorem keyIs_shape : ∀ {k : Key} {v : Value}, keyIs k v = true → (∃ i t, k = Sum.inl i ∧ v = Value.int i t) ∨ (∃ x t, k = Sum.inr x ∧ v = Value.str x t)
  | .inl i, v, h => by
    obtain ⟨t, e⟩ := Value.isInt_shape (k := i) (v := v) h
    exact .inl ⟨i, t, rfl, e⟩
  | .inr x, v, h => by
    obtain ⟨t, e⟩ := Value.isStrOf_shape (x := x) (v := v) h
    exact .inr ⟨x, t, rfl, e⟩
theorem key_ll (a b : Int) : decide ((Sum.inl a : Key) = Sum.inl b) = (a == b) := by
  by_cases e : a = b
  · subst e; simp
  · have h : ¬ (Sum.inl a : Key) = Sum.inl b := fun q => e (Sum.inl.inj q)
    rw [decide_eq_false h]
    exact (beq_eq_false_iff_ne.mpr e).symm
theorem key_rr (a b : Str) : decide ((Sum.inr a : Key) = Sum.inr b) = decide (a = b) := by
  by_cases e : a = b
  · subst e; simp
  · have h : ¬ (Sum.inr a : Key) = Sum.inr b := fun q => e (Sum.inr.inj q)
    rw [decide_eq_false h, decide_eq_false e]
theorem key_lr (a : Int) (b : Str) : decide ((Sum.inl a : Key) = Sum.inr b) = false := decide_eq_false (fun q => nomatch q)
theorem key_rl (a : Str) (b : Int) : decide ((Sum.inr a : Key) = Sum.inl b) = false := decide_eq_false (fun q => nomatch q)

noncomputable def mixKind (prog : Program) (w : World) : PySem.KeyKind prog w Key where
  is := keyIs
  hash := keyH w
  inj := fun v a b ha hb => by
    rcases keyIs_shape ha with ⟨i, t, rfl, rfl⟩ | ⟨x, t, rfl, rfl⟩
    · rcases keyIs_shape hb with ⟨j, u, rfl, e⟩ | ⟨y, u, rfl, e⟩
      · injection e with e1 _; rw [e1]
      · exact nomatch e
    · rcases keyIs_shape hb with ⟨j, u, rfl, e⟩ | ⟨y, u, rfl, e⟩
      · exact nomatch e
      · injection e with e1 _; rw [e1]
  byValue := fun k v h => by
    rcases keyIs_shape h with ⟨i, t, rfl, rfl⟩ | ⟨x, t, rfl, rfl⟩ <;> rfl
  pyHash := fun hv h => by
    rcases keyIs_shape hv with ⟨i, t, rfl, rfl⟩ | ⟨x, t, rfl, rfl⟩
    · exact wpAny_pyHash_int h
    · exact wpAny_pyHash_str h
  eqBool := fun hu hv h => by
    rcases keyIs_shape hu with ⟨i, t, rfl, rfl⟩ | ⟨x, t, rfl, rfl⟩
    · rcases keyIs_shape hv with ⟨j, u, rfl, rfl⟩ | ⟨y, u, rfl, rfl⟩
      · rw [key_ll] at h; exact wpAny_eqBool_int h
      · rw [key_lr] at h; exact SeqAt.EqAt.int_str i t y u _ _ _ _ h
    · rcases keyIs_shape hv with ⟨j, u, rfl, rfl⟩ | ⟨y, u, rfl, rfl⟩
      · rw [key_rl] at h; exact SeqAt.EqAt.str_int x t j u _ _ _ _ h
      · rw [key_rr] at h; exact wpAny_eqBool_str h
  «strs» := fun k x t v h => by
    rcases keyIs_shape h with ⟨i, u, rfl, e⟩ | ⟨y, u, rfl, e⟩
    · exact nomatch e
    · injection e with e1 _
      subst e1
      cases v <;> rfl

end L2

namespace L2
open PySem PySem.Spec PyProof.Rows

/-- a value, without the heap -/
inductive V where
  | non | bl (b : Bool) | int (i : Int) | str (x : Str) | byt (b : Array UInt8) | flt (b : UInt64) | ref (a : Addr) | ty (n : String)
  deriving DecidableEq

noncomputable def RelV : V → Value → Prop
  | .non, u => u = Value.none
  | .bl b, u => u = Value.bool b
  | .int i, u => ∃ t, u = Value.int i t
  | .str x, u => ∃ t, u = Value.str x t
  | .byt b, u => ∃ t, u = Value.bytes b t
  | .flt b, u => ∃ t, u = Value.float b t
  | .ref a, u => u = Value.ref a
  | .ty n, u => u = Value.type n

noncomputable abbrev Vals : List V → List Value → Prop := Paired RelV
theorem Vals.length {xs : List V} {us : List Value} (r : Vals xs us) : xs.length = us.length := Paired.length r
theorem Vals.get : ∀ {xs : List V} {us : List Value} {i : Nat} {x : V}, Vals xs us → xs[i]? = some x → ∃ u, us[i]? = some u ∧ RelV x u
  | _, _, _, _, .nil, e => by simp at e
  | _, _, 0, _, .cons r _, e => by simp at e; subst e; exact ⟨_, rfl, r⟩
  | _, _, i + 1, x, .cons _ t, e => by
    obtain ⟨u, h1, h2⟩ := Vals.get (i := i) (x := x) t (by simpa using e)
    exact ⟨u, by simpa using h1, h2⟩
theorem Vals.set {x : V} {u : Value} (r : RelV x u) : ∀ {xs : List V} {us : List Value} (i : Nat), Vals xs us → Vals (xs.set i x) (us.set i u)
  | _, _, _, .nil => .nil
  | _, _, 0, .cons _ t => .cons r t
  | _, _, i + 1, .cons q t => .cons q (Vals.set r i t)
theorem Vals.append : ∀ {xs ys : List V} {us ws : List Value}, Vals xs us → Vals ys ws → Vals (xs ++ ys) (us ++ ws)
  | _, _, _, _, .nil, s => s
  | _, _, _, _, .cons r t, s => .cons r (Vals.append t s)
noncomputable def RelO : Option V → Option Value → Prop
  | some v, some u => RelV v u
  | none, none => True
  | _, _ => False
noncomputable def KV {κ : Type} : List (κ × V) → List (κ × Value) → Prop := Paired fun (p : κ × V) (q : κ × Value) => p.1 = q.1 ∧ RelV p.2 q.2

/-- a key of a dict (00_mix): an int or a text -/
noncomputable def kV : Key → V
  | .inl i => .int i
  | .inr x => .str x

/-- what stands at a tracked address -/
inductive HO where
  /-- a list -/
  | lst (xs : List V)
  /-- a tuple (never changes) -/
  | tup (xs : List V)
  /-- a dict whose keys are ints and texts; one whose keys are tuples of ints and texts (the empty one is both) -/
  | dK (kvs : List (Key × V)) | dT (kvs : List (List Key × V))
  /-- a set of ints: its members, its size -/
  | set (S : Int → Bool) (n : Nat)
  /-- an instance of the class at C, its dict at dx, its attributes -/
  | ins (C dx : Addr) (fs : List (Str × V))
  /-- the dict of the instance at x -/
  | own (x : Addr)
  /-- the dict of an exception -/
  | xd (fs : List (Str × V))
  /-- a bound method, f of x -/
  | met (f x : Addr)
  /-- a range object lo, lo + 1, .. below hi -/
  | rng (lo hi : Int)
  /-- a thing that is known to the object (the script; a dict while a loop walks it): read, never written while it is so -/
  | frz (o : Obj) (u : HO)
  /-- a code object's table -/
  | tbl (ps : Array Value)
  /-- any other thing, by what is true of its one object (a def of one's own: SetO a S n := HO.ext fun h => ..) -/
  | ext (φ : Heap → Prop)

noncomputable abbrev Hp := Addr → Option HO
noncomputable def upd (H : Hp) (a : Addr) (o : HO) : Hp := fun b => if b = a then some o else H b
theorem upd_same {H : Hp} {a : Addr} {o : HO} : upd H a o a = some o := by unfold upd; rw [if_pos rfl]
theorem upd_ne {H : Hp} {a b : Addr} {o : HO} (h : b ≠ a) : upd H a o b = H b := by unfold upd; rw [if_neg h]
theorem ne_of_none {H : Hp} {a b : Addr} {o : HO} (h : H a = some o) (h' : H b = none) : a ≠ b := by
  intro e; subst e; rw [h] at h'; cases h'

section
variable (P : Program) (w : World)
noncomputable def ObjOk (H : Hp) (h : Heap) (a : Addr) : HO → Prop
  | .lst xs => xs.length ≤ sizeLine ∧ ∃ (its : List Value) (n : Nat), Vals xs its ∧ h.get? a = some { cls := .type "list", data := .seq its.toArray n }
  | .tup xs => xs.length ≤ sizeLine ∧ ∃ its : List Value, Vals xs its ∧ IsTup h a its.toArray
  | .dK kvs => kvs.length ≤ sizeLine ∧ (a == sysModules) = false ∧ ∃ vs, KV kvs vs ∧ h.DictOf (mixKind P w) a vs
  | .dT kvs => kvs.length ≤ sizeLine ∧ (a == sysModules) = false ∧ ∃ xs : List (List Key × Addr × Value),
      Paired (fun (p : List Key × V) (q : List Key × Addr × Value) => p.1 = q.1 ∧ H q.2.1 = some (.tup (p.1.map kV)) ∧ RelV p.2 q.2.2) kvs xs ∧
      ∃ o es ep, h.get? a = some o ∧ o.ExactDict ∧ o.data = .dict es ep ∧ es.toList = xs.map (entryOfKey (tupleKind (mixKind P w))) ∧ (xs.map (·.1)).Nodup
  | .set S n => h.SetOf (intKind P w) a S n
  | .ins C dx fs => H dx = some (.own a) ∧ fs.length ≤ 1000 ∧ dx ≠ a ∧ h.get? a = some (PySem.W.instObj C dx) ∧
      ∃ mA, h.Ns1 dx mA ∧ (∀ f, RelO (fs.lookup f) (mA f)) ∧ PySem.Within mA (fs.map (·.1))
  | .own _ => ∃ o, h.get? a = some o
  | .xd fs => ∃ mA, h.Ns1 a mA ∧ ∀ f, RelO (fs.lookup f) (mA f)
  | .rng lo hi => ∃ t u v, h.get? a = some { cls := .type "range", data := .fields #[.int lo t, .int hi u, .int 1 v] }
  | .frz o u => h.get? a = some o ∧ ObjOk H h a u
  | .tbl ps => h.get? a = some { cls := .none, data := .fields ps }
  | .met f x => h.get? a = some (PySem.W.methodObj (.ref f) (.ref x))
  | .ext φ => φ h ∧ (∃ o, h.get? a = some o) ∧ ∀ h1 h2 : Heap, φ h1 → (∀ o, h1.get? a = some o → h2.get? a = some o) → φ h2
/-- the abstract heap is held -/
noncomputable def HOk (H : Hp) (h : Heap) : Prop := ∀ a o, H a = some o → ObjOk P w H h a o
end

section
variable {P : Program} {w : World} {H H' : Hp} {h h' : Heap} {a : Addr} {o : HO}
theorem ObjOk.lt (x : ObjOk P w H h a o) : a < h.objs.size := by
  cases o with
  | lst xs => obtain ⟨_, _, _, _, e⟩ := x; exact Heap.lt_size e
  | tup xs => obtain ⟨_, _, _, p⟩ := x; exact p.lt
  | dK kvs => obtain ⟨_, _, _, _, o, _, _, e, _⟩ := x; exact Heap.lt_size e
  | dT kvs => obtain ⟨_, _, _, _, o, _, _, e, _⟩ := x; exact Heap.lt_size e
  | set S n => obtain ⟨o, _, _, _, e, _⟩ := x; exact Heap.lt_size e
  | ins C dx fs => obtain ⟨_, _, _, e, _⟩ := x; exact Heap.lt_size e
  | own y => obtain ⟨_, e⟩ := x; exact Heap.lt_size e
  | xd fs => obtain ⟨_, ⟨_, _, _, e, _⟩, _⟩ := x; exact Heap.lt_size e
  | rng lo hi => obtain ⟨_, _, _, e⟩ := x; exact Heap.lt_size e
  | frz ob u => obtain ⟨e, _⟩ := x; exact Heap.lt_size e
  | tbl ps => exact Heap.lt_size (show h.get? a = some _ from x)
  | met f y => exact Heap.lt_size (show h.get? a = some _ from x)
  | ext φ => obtain ⟨_, ⟨_, e⟩, _⟩ := x; exact Heap.lt_size e
theorem Paired.mapP {α β : Type} {F G : α → β → Prop} : ∀ {l₁ : List α} {l₂ : List β}, Paired F l₁ l₂ → (∀ a b, F a b → G a b) → Paired G l₁ l₂
  | _, _, .nil, _ => .nil
  | _, _, .cons r t, f => .cons (f _ _ r) (Paired.mapP t f)
/-- what an object's description leans on: its own object, its own dict, the tuples -/
theorem ObjOk.stay (x : ObjOk P w H h a o) (k : ∀ b u, (b = a ∨ H b = some (.own a)) → h.get? b = some u → h'.get? b = some u)
    (ho : ∀ b, H b = some (.own a) → H' b = some (.own a)) (ht : ∀ b xs, H b = some (.tup xs) → H' b = some (.tup xs)) : ObjOk P w H' h' a o := by
  induction o with
  | lst xs => obtain ⟨z, its, n, r, e⟩ := x; exact ⟨z, its, n, r, k _ _ (.inl rfl) e⟩
  | tup xs => obtain ⟨z, its, r, ob, e, c⟩ := x; exact ⟨z, its, r, ob, k _ _ (.inl rfl) e, c⟩
  | dK kvs => obtain ⟨z, y, vs, r, ob, es, ep, e, c⟩ := x; exact ⟨z, y, vs, r, ob, es, ep, k _ _ (.inl rfl) e, c⟩
  | dT kvs =>
    obtain ⟨z, y, xs, r, ob, es, ep, e, c⟩ := x
    exact ⟨z, y, xs, Paired.mapP r fun p q z => ⟨z.1, ht _ _ z.2.1, z.2.2⟩, ob, es, ep, k _ _ (.inl rfl) e, c⟩
  | set S n => obtain ⟨ob, es, ep, t, e, c⟩ := x; exact ⟨ob, es, ep, t, k _ _ (.inl rfl) e, c⟩
  | ins C dx fs =>
    obtain ⟨d, z, ne, e, mA, ⟨od, es, ep, e2, c⟩, r⟩ := x
    exact ⟨ho _ d, z, ne, k _ _ (.inl rfl) e, mA, ⟨od, es, ep, k _ _ (.inr d) e2, c⟩, r⟩
  | own y => obtain ⟨ob, e⟩ := x; exact ⟨ob, k _ _ (.inl rfl) e⟩
  | xd fs => obtain ⟨mA, ⟨od, es, ep, e, c⟩, r⟩ := x; exact ⟨mA, ⟨od, es, ep, k _ _ (.inl rfl) e, c⟩, r⟩
  | rng lo hi => obtain ⟨t, u, v, e⟩ := x; exact ⟨t, u, v, k _ _ (.inl rfl) e⟩
  | frz ob u ih => obtain ⟨e, q⟩ := x; exact ⟨k _ _ (.inl rfl) e, ih q⟩
  | tbl ps =>
    have e : h.get? a = some { cls := .none, data := .fields ps } := x
    show h'.get? a = some { cls := .none, data := .fields ps }
    exact k a _ (.inl rfl) e
  | met f y =>
    have e : h.get? a = some (PySem.W.methodObj (.ref f) (.ref y)) := x
    show h'.get? a = some (PySem.W.methodObj (.ref f) (.ref y))
    exact k a _ (.inl rfl) e
  | ext φ => obtain ⟨p, ⟨o, e⟩, st⟩ := x; exact ⟨st _ _ p fun o q => k _ _ (.inl rfl) q, ⟨o, k _ _ (.inl rfl) e⟩, st⟩
theorem HOk.lt (x : HOk P w H h) (e : H a = some o) : a < h.objs.size := (x a o e).lt
theorem HOk.fresh (x : HOk P w H h) (e : h.objs.size ≤ a) : H a = none := by
  cases q : H a with
  | none => rfl
  | some u => exact absurd (Nat.lt_of_lt_of_le (x.lt q) e) (Nat.lt_irrefl _)
/-- every object of the heap is kept -/
theorem HOk.kept (x : HOk P w H h) (k : ∀ b u, h.get? b = some u → h'.get? b = some u) : HOk P w H h' := fun a o e =>
  (x a o e).stay (fun b u _ q => k b u q) (fun _ q => q) fun _ _ q => q
/-- a new object is laid and tracked -/
theorem HOk.laid (x : HOk P w H h) (k : ∀ b u, h.get? b = some u → h'.get? b = some u) (hp : h.objs.size ≤ a) (new : ObjOk P w (upd H a o) h' a o) : HOk P w (upd H a o) h' := fun b u e => by
  have hn := x.fresh hp
  by_cases hb : b = a
  · subst hb; rw [upd_same] at e; cases e; exact new
  · rw [upd_ne hb] at e
    exact (x b u e).stay (fun c v _ q => k c v q) (fun c q => by rw [upd_ne (ne_of_none q hn)]; exact q) fun c xs q => by rw [upd_ne (ne_of_none q hn)]; exact q
end

/-- what may be read as u: it is u, or a known u -/
noncomputable def Rd (H : Hp) (a : Addr) (u : HO) : Prop := H a = some u ∨ ∃ o, H a = some (.frz o u)
theorem Rd.ok {P : Program} {w : World} {H : Hp} {h : Heap} {a : Addr} {u : HO} (r : Rd H a u) (x : HOk P w H h) : ObjOk P w H h a u := by
  rcases r with r | ⟨o, r⟩
  · exact x a u r
  · obtain ⟨_, q⟩ := x a _ r
    exact q
/-- what may be written -/
noncomputable def Mut : Option HO → Prop
  | some (.lst _) => True
  | some (.dK _) => True
  | some (.dT _) => True
  | some (.set _ _) => True
  | some (.ins _ _ _) => True
  | some (.ext _) => True
  | _ => False
section
variable {P : Program} {w : World} {H : Hp} {h h' : Heap} {x e : Addr} {o' : HO}
/-- the object at e is changed: x itself, or the dict of the instance x -/
theorem HOk.write (ok : HOk P w H h) (mu : Mut (H x)) (he : e = x ∨ H e = some (.own x)) (k : ∀ b u, b ≠ e → h.get? b = some u → h'.get? b = some u) (heo : ∃ u, h'.get? e = some u)
    (new : ObjOk P w (upd H x o') h' x o') : HOk P w (upd H x o') h' := fun b u q => by
  have nown : ∀ c y, H c = some (.own y) → c ≠ x := fun c y r z => by subst z; rw [r] at mu; exact mu
  have ntup : ∀ c xs, H c = some (.tup xs) → c ≠ x := fun c xs r z => by subst z; rw [r] at mu; exact mu
  by_cases hb : b = x
  · subst hb; rw [upd_same] at q; cases q; exact new
  · rw [upd_ne hb] at q
    by_cases hbe : b = e
    · have q' : H b = some (.own x) := by
        rcases he with z | z
        · exact absurd (hbe.trans z) hb
        · rw [hbe]; exact z
      rw [q] at q'; cases q'
      obtain ⟨v, hv⟩ := heo
      exact ⟨v, by rw [hbe]; exact hv⟩
    · refine (ok b u q).stay (fun c v hc r => k c v ?_ r) (fun c r => by rw [upd_ne (nown c b r)]; exact r) fun c xs r => by rw [upd_ne (ntup c xs r)]; exact r
      rcases hc with rfl | hc
      · exact hbe
      · rintro rfl
        rcases he with z | z
        · exact nown c b hc z
        · rw [hc] at z; cases z; exact hb rfl
end

/-! ### kept unless tracked; of the frames at fs (the callers') the slots may change (an exception that passes writes there); of the records at ex (iterators) nothing is said -/
structure Un (fs ex : List Addr) (H H' : Hp) (h h' : Heap) : Prop where
  keep : ∀ b o, h.get? b = some o → H b = none → b ∉ fs → b ∉ ex → h'.get? b = some o
  slot : ∀ b o, h.get? b = some o → H b = none → b ∈ fs → b ∉ ex → ∃ sl, h'.get? b = some { o with slots := sl }
  free : ∀ b o, h.get? b = some o → H b = none → b ∉ ex → H' b = none
  there : ∀ b o, h.get? b = some o → b ∉ ex → ∃ o', h'.get? b = some o'
  tups : ∀ b xs, H b = some (.tup xs) → H' b = some (.tup xs)
  frzs : ∀ b o u, H b = some (.frz o u) → H' b = some (.frz o u)
  tbls : ∀ b ps, H b = some (.tbl ps) → ∃ more, H' b = some (.tbl (ps ++ more))
section
variable {fs fs' ex ex' : List Addr} {H H1 H2 : Hp} {h h1 h2 h' : Heap} {a x e : Addr} {o : HO}
theorem Un.any (u : Un fs ex H H1 h h1) {b : Addr} {ob : Obj} (q : h.get? b = some ob) (n : H b = none) (hx : b ∉ ex) : ∃ sl, h1.get? b = some { ob with slots := sl } := by
  by_cases hb : b ∈ fs
  · exact u.slot b ob q n hb hx
  · exact ⟨ob.slots, u.keep b ob q n hb hx⟩
theorem Un.kept (k : ∀ b u, h.get? b = some u → h'.get? b = some u) : Un fs ex H H h h' :=
  ⟨fun b ob q _ _ _ => k b ob q, fun b ob q _ _ _ => ⟨ob.slots, k b ob q⟩, fun _ _ _ n _ => n, fun b ob q _ => ⟨ob, k b ob q⟩, fun _ _ q => q, fun _ _ _ q => q, fun _ ps q => ⟨#[], by rw [q]; simp⟩⟩
theorem Un.refl : Un fs ex H H h h := Un.kept fun _ _ q => q
theorem Un.laid (k : ∀ b u, h.get? b = some u → h'.get? b = some u) (hp : h.objs.size ≤ a) (hn : H a = none) : Un fs ex H (upd H a o) h h' where
  keep := fun b u q _ _ _ => k b u q
  slot := fun b u q _ _ _ => ⟨u.slots, k b u q⟩
  free := fun b u q n _ => by rw [upd_ne (Nat.ne_of_lt (Nat.lt_of_lt_of_le (Heap.lt_size q) hp))]; exact n
  there := fun b u q _ => ⟨u, k b u q⟩
  tups := fun b xs q => by rw [upd_ne (ne_of_none q hn)]; exact q
  frzs := fun b u xs q => by rw [upd_ne (ne_of_none q hn)]; exact q
  tbls := fun b ps q => ⟨#[], by rw [upd_ne (ne_of_none q hn), q]; simp⟩
theorem Un.write (mu : Mut (H x)) (he : e = x ∨ H e = some (.own x)) (k : ∀ b u, b ≠ e → h.get? b = some u → h'.get? b = some u) (heo : ∃ u, h'.get? e = some u) : Un fs ex H (upd H x o) h h' := by
  have hx : ∀ b, H b = none → b ≠ x := fun b n z => by subst z; rw [n] at mu; exact mu
  have hb : ∀ b, H b = none → b ≠ e := fun b n z => by
    subst z
    rcases he with r | r
    · exact hx b n r
    · rw [n] at r; cases r
  have hm : ∀ b u, H b = some u → ¬ Mut (some u) → b ≠ x := fun b u q nm z => by subst z; rw [q] at mu; exact nm mu
  refine ⟨fun b u q n _ _ => k b u (hb b n) q, fun b u q n _ _ => ⟨u.slots, k b u (hb b n) q⟩, fun b u q n _ => by rw [upd_ne (hx b n)]; exact n, fun b u q _ => ?_,
    fun b xs q => by rw [upd_ne (hm b _ q fun z => z)]; exact q, fun b u xs q => by rw [upd_ne (hm b _ q fun z => z)]; exact q, fun b ps q => ⟨#[], by rw [upd_ne (hm b _ q fun z => z), q]; simp⟩⟩
  by_cases hbe : b = e
  · subst hbe; exact heo
  · exact ⟨u, k b u hbe q⟩
end

/-! ### the heap without what is tracked -/
noncomputable def trk (h : Heap) (H : Hp) : List Addr := (List.range h.objs.size).filter fun a => (H a).isSome
noncomputable def hidT (h : Heap) (H : Hp) : Heap := PySem.W.hideAll h (trk h H)
theorem hidT_size (h : Heap) (H : Hp) : (hidT h H).objs.size = h.objs.size := PySem.W.hideAll_size _ _
theorem hidT_get {h : Heap} {H : Hp} {b : Addr} {o : Obj} (e : h.get? b = some o) (n : H b = none) : (hidT h H).get? b = some o :=
  PySem.W.hideAll_get _ e fun hm => by
    have q : (H b).isSome = true := (List.mem_filter.mp hm).2
    rw [n] at q; simp at q
theorem of_hidT {h : Heap} {H : Hp} {b : Addr} {o : Obj} (e : (hidT h H).get? b = some o) : h.get? b = some o ∧ H b = none := by
  have e' : h.get? b = some o := PySem.W.of_hideAll (trk h H) e
  refine ⟨e', ?_⟩
  cases q : H b with
  | none => rfl
  | some x =>
    have hm : b ∈ trk h H := List.mem_filter.mpr ⟨List.mem_range.mpr (Heap.lt_size e'), by simp [q]⟩
    have z : (hidT h H).get? b = none := PySem.W.hideAll_none (trk h H) hm
    rw [z] at e; cases e

end L2

namespace L2
open PySem PySem.Spec PyProof.Rows

/-- the module's facts, over the base: the heap at the law's entry without what is tracked there -/
structure Mod (K : PySem.W.Frag) (mg : Str → Option Value) (base : Heap) : Prop where
  kin : K.In base
  glob : base.Ns mainGlobals mg
  blt : ∃ mb, base.Ns builtinsNs mb ∧ ∀ x : Str, x ≠ "__name__" → mb x = bootBuiltins x
  nolimit : base.NoLimit

/-- the context: a def's body (or a comprehension's block) running. base: fixed through the whole law; s₀, H₀: the entry; outer: the frames whose slots others may change (a def's callers); stack: all frames that run;
   ex: iterators that were made ahead of the entry and are walked here (a comprehension's); fn: the names whose cells were made at the entry (a def: all; a comprehension's block: its own); calm: not within an except suite; pn: pins that every state bears; xe: what is wanted of an exception that leaves the code -/
structure Cx where
  prog : Program
  w : World
  K : PySem.W.Frag
  mg : Str → Option Value
  base : Heap
  A : Around
  N : List Str
  s₀ : Shared
  H₀ : Hp
  env : Env
  outer : List Env
  stack : List Env
  ex : List Addr
  fn : Str → Bool
  calm : Bool
  pn : List (Addr × Obj)
  xe : Value → Shared → Prop
/-- the callers' frames -/
noncomputable def frs (l : List Env) : List Addr := l.filterMap (·.frame)
noncomputable abbrev Cx.fs (X : Cx) : List Addr := frs X.outer

noncomputable def Vis (sc : Scope) (x : Str) : Prop := sc.names.lookup x = some .local ∨ sc.names.lookup x = some .cell ∨ sc.names.lookup x = some .free
noncomputable def Loc (sc : Scope) (x : Str) : Prop := sc.names.lookup x = some .local ∨ sc.names.lookup x = some .cell
noncomputable def Look (env : Env) (h : Heap) (m : Str → Option Value) (x : Str) (u : Value) : Prop :=
  (env.kindOf x = some .local ∧ m x = some u) ∨ ((env.kindOf x = some .cell ∨ env.kindOf x = some .free) ∧ ∃ c, env.cells.lookup x = some c ∧ h.IsCell c (some u))

structure Cx.Ok (X : Cx) : Prop where
  mod : Mod X.K X.mg X.base
  kind : X.env.scope.kind = .function
  glob : X.env.globals = mainGlobals
  blt : X.env.builtins = builtinsNs
  above : X.s₀.heap.objs.size ≤ X.env.locals
  inj : ∀ x y c, X.env.cells.lookup x = some c → X.env.cells.lookup y = some c → x = y
  has : ∀ x, (X.env.kindOf x = some .cell ∨ X.env.kindOf x = some .free) → ∃ c, X.env.cells.lookup x = some c
  cab : ∀ x c, X.fn x = true → X.env.cells.lookup x = some c → X.s₀.heap.objs.size ≤ c
  hd : X.calm = true → X.A.handled = none
  frames : X.A.frames = some X.stack
  stk : X.stack = X.outer ∨ (X.stack = X.env :: X.outer ∧ X.env.frame = some X.env.locals)
  exf : ∀ b ∈ X.ex, b ≠ X.env.locals ∧ ∀ x c, X.env.cells.lookup x = some c → c ≠ b
  bs : ∀ b o, X.base.get? b = some o → X.s₀.heap.get? b = some o ∧ X.H₀ b = none
  bsz : X.base.objs.size ≤ X.s₀.heap.objs.size
  noex : ∀ b o, X.base.get? b = some o → b ∉ X.ex
  exfs : ∀ b ∈ X.ex, b ∉ X.fs
  funs : X.s₀.heap.FunFrames X.base X.outer
  frf : ∀ b ∈ X.fs, X.H₀ b = none

structure Inv (X : Cx) (pins : List (Addr × Obj)) (σ : List (Option V)) (H : Hp) (s : Shared) : Prop where
  ok : X.Ok
  os : s.os = X.s₀.os
  bare : AllBare s.gens
  base : Un X.fs X.ex X.H₀ H X.s₀.heap s.heap
  loc : ∃ m, s.heap.Ns X.env.locals m ∧ ∀ (i : Nat) (x : Str) (v : V), X.N[i]? = some x → σ[i]? = some (some v) → Vis X.env.scope x → ∃ u, RelV v u ∧ Look X.env s.heap m x u
  cell : ∀ x c, X.env.cells.lookup x = some c → ∃ v, s.heap.IsCell c v
  free : H X.env.locals = none
  freeC : ∀ x c, X.env.cells.lookup x = some c → H c = none
  pin : ∀ p ∈ X.pn ++ pins, s.heap.get? p.1 = some p.2 ∧ H p.1 = none ∧ p.1 ≠ X.env.locals ∧ p.1 ∉ X.fs ∧ ∀ v, p.2.data ≠ .cell v
  hok : HOk X.prog X.w H s.heap
  len : σ.length = X.N.length

section
variable {X : Cx} {pins : List (Addr × Obj)} {σ : List (Option V)} {H H' : Hp} {s : Shared} {h' : Heap}

theorem Cx.Ok.nofr (ok : X.Ok) {b : Addr} {o : Obj} (e : X.base.get? b = some o) : b ∉ X.fs := fun hb => by
  have := (ok.funs.mem hb).1
  rw [e] at this; cases this
theorem Inv.bs (I : Inv X pins σ H s) : ∀ b o, X.base.get? b = some o → s.heap.get? b = some o ∧ H b = none := fun b o e =>
  ⟨I.base.keep b o (I.ok.bs b o e).1 (I.ok.bs b o e).2 (I.ok.nofr e) (I.ok.noex b o e), I.base.free b o (I.ok.bs b o e).1 (I.ok.bs b o e).2 (I.ok.noex b o e)⟩
theorem Inv.bk (I : Inv X pins σ H s) : ∀ b o, X.base.get? b = some o → s.heap.get? b = some o := fun b o e => (I.bs b o e).1
theorem Inv.mod (I : Inv X pins σ H s) : Mod X.K X.mg X.base := I.ok.mod
theorem Inv.kIn (I : Inv X pins σ H s) : X.K.In s.heap := I.ok.mod.kin.keeps I.bk
theorem Inv.lt (I : Inv X pins σ H s) : X.env.locals < s.heap.objs.size := let ⟨_, hn, _⟩ := I.loc; hn.lt
theorem Inv.sz (I : Inv X pins σ H s) : X.s₀.heap.objs.size ≤ s.heap.objs.size := Nat.le_trans I.ok.above (Nat.le_of_lt I.lt)
theorem Inv.nofs (I : Inv X pins σ H s) {a : Addr} (h : s.heap.objs.size ≤ a) : a ∉ X.fs := fun hb => by
  obtain ⟨_, o, ho, _⟩ := I.ok.funs.mem hb
  exact absurd (Nat.lt_of_lt_of_le (Heap.lt_size ho) (Nat.le_trans I.sz h)) (Nat.lt_irrefl _)
theorem Inv.cne (I : Inv X pins σ H s) : ∀ x c, X.env.cells.lookup x = some c → c ≠ X.env.locals := fun x c e z => by
  obtain ⟨v, o, ho, hd⟩ := I.cell x c e
  obtain ⟨m, ⟨o', es, ep, ho', hd', _⟩, _⟩ := I.loc
  rw [z, ho'] at ho; cases ho; rw [hd'] at hd; cases hd
theorem Inv.funs (I : Inv X pins σ H s) : s.heap.FunFrames X.base X.outer := by
  have all : ∀ (l : List Env), (∀ b ∈ frs l, b ∈ X.fs) → X.s₀.heap.FunFrames X.base l → s.heap.FunFrames X.base l := by
    intro l
    induction l with
    | nil => intro _ _; trivial
    | cons env r ih =>
      intro hs hl
      obtain ⟨hk, ⟨L, o, hf, hn, ho, hd⟩, hr⟩ := hl
      have hL : L ∈ X.fs := hs L (by unfold frs; rw [List.filterMap_cons, hf]; exact List.mem_cons_self)
      obtain ⟨sl, e⟩ := I.base.slot L o ho (I.ok.frf L hL) hL fun z => I.ok.exfs L z hL
      exact ⟨hk, ⟨L, _, hf, hn, e, hd⟩, ih (fun b hb => hs b (by unfold frs; rw [List.filterMap_cons, hf]; exact List.mem_cons_of_mem _ hb)) hr⟩
  exact all X.outer (fun _ hb => hb) I.ok.funs

/-- the frames that run, for a call -/
theorem Inv.stack (I : Inv X pins σ H s) : s.heap.FunFrames X.base X.stack := by
  rcases I.ok.stk with e | ⟨e, hf⟩
  · rw [e]; exact I.funs
  · rw [e]
    obtain ⟨m, hn, _⟩ := I.loc
    refine .cons (by rw [I.ok.kind]; decide) hf hn ?_ I.funs
    exact Heap.get?_none_of_le (Nat.le_trans I.ok.bsz I.ok.above)
theorem Inv.stkSub (I : Inv X pins σ H s) : ∀ b ∈ frs X.stack, b ∈ X.env.locals :: X.fs := fun b hb => by
  rcases I.ok.stk with e | ⟨e, hf⟩
  · rw [e] at hb; exact List.mem_cons_of_mem _ hb
  · rw [e] at hb
    unfold frs at hb
    rw [List.filterMap_cons, hf] at hb
    exact hb
theorem Inv.stkFree (I : Inv X pins σ H s) : ∀ b ∈ frs X.stack, H b = none := fun b hb => by
  rcases List.mem_cons.mp (I.stkSub b hb) with e | hb
  · rw [e]; exact I.free
  · obtain ⟨_, o, ho, _⟩ := I.ok.funs.mem hb
    exact I.base.free b o ho (I.ok.frf b hb) fun z => I.ok.exfs b z hb

/-- THE STEP: the untracked objects but the frame and the records at ch are kept (the callers' frames up to slots), the frame's map is kept, the new abstract heap is held -/
theorem Inv.step {g' : Array GenState} {t' : Nat} {d' : Drawn} {ch : List Addr} (I : Inv X pins σ H s)
    (hch : ∀ b ∈ ch, (b ∈ X.ex ∨ X.s₀.heap.objs.size ≤ b) ∧ b ≠ X.env.locals ∧ (∀ x c, X.env.cells.lookup x = some c → c ≠ b) ∧ ∀ p ∈ X.pn ++ pins, p.1 ≠ b)
    (keep : ∀ b o, b ≠ X.env.locals → b ∉ X.fs → b ∉ ch → s.heap.get? b = some o → H b = none → h'.get? b = some o)
    (slot : ∀ b o, b ≠ X.env.locals → b ∈ X.fs → b ∉ ch → s.heap.get? b = some o → H b = none → ∃ sl, h'.get? b = some { o with slots := sl }) (free : ∀ b o, b ∉ ch → s.heap.get? b = some o → H b = none → H' b = none)
    (there : ∀ b o, b ∉ ch → s.heap.get? b = some o → ∃ o', h'.get? b = some o')
    (tups : ∀ b xs, H b = some (.tup xs) → H' b = some (.tup xs)) (frzs : ∀ b o u, H b = some (.frz o u) → H' b = some (.frz o u)) (tbls : ∀ b ps, H b = some (.tbl ps) → ∃ more, H' b = some (.tbl (ps ++ more)))
    (ns : ∀ m, s.heap.Ns X.env.locals m → h'.Ns X.env.locals m) (hok : HOk X.prog X.w H' h') (hg : AllBare g') :
    Inv X pins σ H' { s with heap := h', gens := g', drawn := d', toks := t' } := by
  have neL : ∀ b o, X.s₀.heap.get? b = some o → b ≠ X.env.locals := fun b o e => Nat.ne_of_lt (Nat.lt_of_lt_of_le (Heap.lt_size e) I.ok.above)
  have neC : ∀ b o, X.s₀.heap.get? b = some o → b ∉ X.ex → b ∉ ch := fun b o e hx hb => by
    rcases (hch b hb).1 with z | z
    · exact hx z
    · exact absurd (Nat.lt_of_lt_of_le (Heap.lt_size e) z) (Nat.lt_irrefl _)
  have cellK : ∀ x c, X.env.cells.lookup x = some c → ∀ v, s.heap.IsCell c v → h'.IsCell c v := fun x c e v ⟨o, ho, hd⟩ => by
    have nch : c ∉ ch := fun z => (hch c z).2.2.1 x c e rfl
    by_cases hc : c ∈ X.fs
    · obtain ⟨sl, q⟩ := slot c o (I.cne x c e) hc nch ho (I.freeC x c e)
      exact ⟨_, q, hd⟩
    · exact ⟨o, keep c o (I.cne x c e) hc nch ho (I.freeC x c e), hd⟩
  refine ⟨I.ok, I.os, hg, ⟨fun b o e n hb hx => ?_, fun b o e n hb hx => ?_, fun b o e n hx => ?_, fun b o e hx => ?_, fun b xs e => tups b xs (I.base.tups b xs e), fun b o xs e => frzs b o xs (I.base.frzs b o xs e), fun b ps e => ?_⟩, ?_, fun x c e => ?_, ?_, fun x c e => ?_, fun p hp => ?_, hok, I.len⟩
  · exact keep b o (neL b o e) hb (neC b o e hx) (I.base.keep b o e n hb hx) (I.base.free b o e n hx)
  · obtain ⟨sl, e1⟩ := I.base.slot b o e n hb hx
    obtain ⟨sl', e2⟩ := slot b _ (neL b o e) hb (neC b o e hx) e1 (I.base.free b o e n hx)
    exact ⟨sl', e2⟩
  · obtain ⟨o', e1⟩ := I.base.there b o e hx
    exact free b o' (neC b o e hx) e1 (I.base.free b o e n hx)
  · obtain ⟨o', e1⟩ := I.base.there b o e hx
    exact there b o' (neC b o e hx) e1
  · obtain ⟨m1, e1⟩ := I.base.tbls b ps e
    obtain ⟨m2, e2⟩ := tbls b _ e1
    exact ⟨m1 ++ m2, by rw [e2, Array.append_assoc]⟩
  · obtain ⟨m, hn, hl⟩ := I.loc
    refine ⟨m, ns m hn, fun i x v e1 e2 e3 => ?_⟩
    obtain ⟨u, r, l⟩ := hl i x v e1 e2 e3
    refine ⟨u, r, ?_⟩
    rcases l with l | ⟨k, c, e, z⟩
    · exact .inl l
    · exact .inr ⟨k, c, e, cellK x c e _ z⟩
  · obtain ⟨v, z⟩ := I.cell x c e
    exact ⟨v, cellK x c e v z⟩
  · obtain ⟨m, ⟨o, _, _, ho, _⟩, _⟩ := I.loc
    exact free _ o (fun z => (hch _ z).2.1 rfl) ho I.free
  · obtain ⟨v, o, ho, hd⟩ := I.cell x c e
    exact free c o (fun z => (hch c z).2.2.1 x c e rfl) ho (I.freeC x c e)
  · obtain ⟨e, n, ne, nf, d⟩ := I.pin p hp
    have nch : p.1 ∉ ch := fun z => (hch p.1 z).2.2.2 p hp rfl
    exact ⟨keep p.1 p.2 ne nf nch e n, free p.1 p.2 nch e n, ne, nf, d⟩
/-- .. where the frame's own object is kept too -/
theorem Inv.un {t' : Nat} (I : Inv X pins σ H s) (u : Un X.fs [] H H' s.heap h') (hok : HOk X.prog X.w H' h') : Inv X pins σ H' { s with heap := h', toks := t' } := by
  obtain ⟨m, ⟨o, es, ep, ho, r⟩, _⟩ := id I.loc
  obtain ⟨sl, hL⟩ := u.any ho I.free (by simp)
  exact I.step (g' := s.gens) (d' := s.drawn) (ch := []) (fun _ z => nomatch z) (fun b o _ hb _ e n => u.keep b o e n hb (by simp)) (fun b o _ hb _ e n => u.slot b o e n hb (by simp)) (fun b o _ e n => u.free b o e n (by simp)) (fun b o _ e => u.there b o e (by simp)) u.tups u.frzs u.tbls (fun m' hm => by
    obtain ⟨o', es', ep', ho', r'⟩ := hm
    rw [ho] at ho'; cases ho'
    exact ⟨_, es', ep', hL, r'⟩) hok I.bare
/-- behind a call (or a comprehension's block): the slots of this frame may have changed too, the records at ch may have turned -/
theorem Inv.call {g' : Array GenState} {t' : Nat} {d' : Drawn} {ch : List Addr} (I : Inv X pins σ H s) (u : Un (frs X.stack) ch H H' s.heap h') (hok : HOk X.prog X.w H' h') (hg : AllBare g')
    (hch : ∀ b ∈ ch, (b ∈ X.ex ∨ X.s₀.heap.objs.size ≤ b) ∧ b ≠ X.env.locals ∧ (∀ x c, X.env.cells.lookup x = some c → c ≠ b) ∧ ∀ p ∈ X.pn ++ pins, p.1 ≠ b) :
    Inv X pins σ H' { s with heap := h', gens := g', drawn := d', toks := t' } := by
  obtain ⟨m, ⟨o, es, ep, ho, r⟩, _⟩ := id I.loc
  obtain ⟨sl, hL⟩ := u.any ho I.free fun z => (hch _ z).2.1 rfl
  exact I.step (ch := ch) hch (fun b o hL hb hc e n => u.keep b o e n (fun z => (List.mem_cons.mp (I.stkSub b z)).elim hL hb) hc) (fun b o _ _ hc e n => u.any e n hc) (fun b o hc e n => u.free b o e n hc) (fun b o hc e => u.there b o e hc) u.tups u.frzs u.tbls (fun m' hm => by
    obtain ⟨o', es', ep', ho', r'⟩ := hm
    rw [ho] at ho'; cases ho'
    exact ⟨_, es', ep', hL, r'⟩) hok hg
/-- an untracked record of ours (an iterator) has turned -/
theorem Inv.turned {t' : Nat} {it : Addr} (I : Inv X pins σ H s) (k : ∀ b o, b ≠ it → s.heap.get? b = some o → h'.get? b = some o) (hn : H it = none) (hL : it ≠ X.env.locals)
    (h1 : it ∈ X.ex ∨ X.s₀.heap.objs.size ≤ it) (h2 : ∀ x c, X.env.cells.lookup x = some c → c ≠ it) (h3 : ∀ p ∈ X.pn ++ pins, p.1 ≠ it) : Inv X pins σ H { s with heap := h', toks := t' } := by
  have nit : ∀ b u, H b = some u → b ≠ it := fun b u e z => by rw [z, hn] at e; cases e
  refine I.step (g' := s.gens) (d' := s.drawn) (ch := [it]) (fun b hb => ?_) (fun b o _ _ hc e _ => k b o (fun z => hc (by simp [z])) e) (fun b o _ _ hc e _ => ⟨o.slots, k b o (fun z => hc (by simp [z])) e⟩) (fun _ _ _ _ n => n)
    (fun b o hc e => ⟨o, k b o (fun z => hc (by simp [z])) e⟩) (fun _ _ e => e) (fun _ _ _ e => e) (fun b ps e => ⟨#[], by rw [e]; simp⟩) (fun m hm => ?_) (fun b u e => ?_) I.bare
  · have e : b = it := by simpa using hb
    subst e
    exact ⟨h1, hL, h2, h3⟩
  · obtain ⟨o, es, ep, ho, r⟩ := hm
    exact ⟨o, es, ep, k _ o (Ne.symm hL) ho, r⟩
  · refine (I.hok b u e).stay (fun c v hc q => k c v ?_ q) (fun _ q => q) fun _ _ q => q
    rcases hc with z | z
    · rw [z]; exact nit b u e
    · exact nit c _ z
theorem Inv.tok (I : Inv X pins σ H s) (t : Nat) : Inv X pins σ H { s with toks := t } := I.un (h' := s.heap) (t' := t) Un.refl I.hok
/-- all objects kept -/
theorem Inv.kept {t' : Nat} (I : Inv X pins σ H s) (k : ∀ b u, s.heap.get? b = some u → h'.get? b = some u) : Inv X pins σ H { s with heap := h', toks := t' } := I.un (Un.kept k) (I.hok.kept k)
/-- a new object laid and tracked -/
theorem Inv.laid {a : Addr} {o : HO} {t' : Nat} (I : Inv X pins σ H s) (k : ∀ b u, s.heap.get? b = some u → h'.get? b = some u) (hp : s.heap.objs.size ≤ a) (new : ObjOk X.prog X.w (upd H a o) h' a o) :
    Inv X pins σ (upd H a o) { s with heap := h', toks := t' } := I.un (Un.laid k hp (I.hok.fresh hp)) (I.hok.laid k hp new)
/-- an object written -/
theorem Inv.write {x e : Addr} {o : HO} {t' : Nat} (I : Inv X pins σ H s) (mu : Mut (H x)) (he : e = x ∨ H e = some (.own x)) (k : ∀ b u, b ≠ e → s.heap.get? b = some u → h'.get? b = some u) (heo : ∃ u, h'.get? e = some u)
    (new : ObjOk X.prog X.w (upd H x o) h' x o) : Inv X pins σ (upd H x o) { s with heap := h', toks := t' } := I.un (Un.write mu he k heo) (I.hok.write mu he k heo new)
theorem Inv.pins_of {pins' : List (Addr × Obj)} (I : Inv X pins σ H s) (h : ∀ p ∈ pins', s.heap.get? p.1 = some p.2 ∧ H p.1 = none ∧ p.1 ≠ X.env.locals ∧ p.1 ∉ X.fs ∧ ∀ v, p.2.data ≠ .cell v) : Inv X pins' σ H s :=
  ⟨I.ok, I.os, I.bare, I.base, I.loc, I.cell, I.free, I.freeC, fun p hp => (List.mem_append.mp hp).elim (fun z => I.pin p (List.mem_append_left _ z)) (h p), I.hok, I.len⟩

theorem nodup_ix {N : List Str} (hN : N.Nodup) {i j : Nat} {x : Str} (a : N[i]? = some x) (b : N[j]? = some x) : i = j := by
  obtain ⟨h1, e1⟩ := List.getElem?_eq_some_iff.mp a
  obtain ⟨h2, e2⟩ := List.getElem?_eq_some_iff.mp b
  exact (List.getElem_inj hN).mp (e1.trans e2.symm)

/-- a name is stored; what changed -/
theorem store_ok2 {M : Model} {A : Around} {E : Value → Shared → Prop} {i : Nat} {x : Str} {v : V} {u : Value} {Q : Unit → Shared → Prop} (I : Inv X pins σ H s) (hN : X.N.Nodup) (hi : X.N[i]? = some x) (hx : Loc X.env.scope x) (r : RelV v u)
    (h : ∀ s', Inv X pins (σ.set i (some v)) H s' → (∃ a, Heap.SameBut a s.heap s'.heap ∧ (a = X.env.locals ∨ X.env.cells.lookup x = some a)) → Q () s') (hf : X.fn x = true ∨ X.env.scope.names.lookup x = some .local := by first | exact .inl rfl | exact .inr rfl | assumption) : wpAny M A (storeName X.env x u) Q E s := by
  obtain ⟨m, hn, hl⟩ := id I.loc
  have hcls : (X.env.scope.kind == .class || (X.env.scope.kind == .module && X.env.locals != X.env.globals)) = false := by rw [I.ok.kind]; rfl
  have hiσ : i < σ.length := by rw [I.len]; exact (List.getElem?_eq_some_iff.mp hi).1
  have cne := I.cne
  have tracked : ∀ {a : Addr} {h' : Heap}, (∃ o, s.heap.get? a = some o ∧ H a = none) → Heap.SameBut a s.heap h' → HOk X.prog X.w H h' := fun {a h'} ha hs b ob e => by
    obtain ⟨_, _, hfree⟩ := ha
    refine (I.hok b ob e).stay (fun c w' hc q => (hs.2 c ?_).trans q) (fun _ q => q) fun _ _ q => q
    rintro rfl
    rcases hc with rfl | hc
    · rw [hfree] at e; cases e
    · rw [hfree] at hc; cases hc
  rcases hx with hk | hk
  · refine wpAny_storeName_local hk hn (fun h' hn' hs => ?_) hcls
    obtain ⟨oL, _, _, hoL, _⟩ := id hn
    refine h _ ⟨I.ok, I.os, I.bare, ⟨fun b o e n hb hx => ?_, fun b o e n hb hx => ?_, I.base.free, fun b o e hx => ?_, I.base.tups, I.base.frzs, I.base.tbls⟩, ⟨_, hn', fun j y v' e1 e2 e3 => ?_⟩, fun y c e => ?_, I.free, I.freeC, fun p hp => ?_, tracked ⟨oL, hoL, I.free⟩ hs, by simpa using I.len⟩ ⟨_, hs, .inl rfl⟩
    · exact (hs.2 b (Nat.ne_of_lt (Nat.lt_of_lt_of_le (Heap.lt_size e) I.ok.above))).trans (I.base.keep b o e n hb hx)
    · obtain ⟨sl, e1⟩ := I.base.slot b o e n hb hx
      exact ⟨sl, (hs.2 b (Nat.ne_of_lt (Nat.lt_of_lt_of_le (Heap.lt_size e) I.ok.above))).trans e1⟩
    · obtain ⟨o', e1⟩ := I.base.there b o e hx
      exact ⟨o', (hs.2 b (Nat.ne_of_lt (Nat.lt_of_lt_of_le (Heap.lt_size e) I.ok.above))).trans e1⟩
    · by_cases hj : j = i
      · subst hj
        rw [hi] at e1; cases e1
        rw [List.getElem?_set_self hiσ] at e2
        cases e2
        exact ⟨u, r, .inl ⟨hk, by simp⟩⟩
      · rw [List.getElem?_set_ne (Ne.symm hj)] at e2
        obtain ⟨u', r', q⟩ := hl j y v' e1 e2 e3
        refine ⟨u', r', ?_⟩
        rcases q with ⟨k, e⟩ | ⟨k, c, e, z⟩
        · refine .inl ⟨k, ?_⟩
          have : y ≠ x := fun e => hj (nodup_ix hN e1 (e ▸ hi))
          simp [this, e]
        · exact .inr ⟨k, c, e, z.sameBut hs (cne y c e)⟩
    · obtain ⟨w', z⟩ := I.cell y c e
      exact ⟨w', z.sameBut hs (cne y c e)⟩
    · obtain ⟨e, n, ne, nf, d⟩ := I.pin p hp
      exact ⟨(hs.2 p.1 ne).trans e, n, ne, nf, d⟩
  · have hfn : X.fn x = true := by
      rcases hf with z | z
      · exact z
      · rw [z] at hk; cases hk
    obtain ⟨c, hc⟩ := I.ok.has x (.inl hk)
    obtain ⟨w', z⟩ := I.cell x c hc
    refine wpAny_storeName_cell I.ok.kind hk hc z (fun h' hc' hs => ?_)
    obtain ⟨oc, hoc, hocd⟩ := id z
    refine h { s with heap := h' } ⟨I.ok, I.os, I.bare, ⟨fun b o e n hb hx => ?_, fun b o e n hb hx => ?_, I.base.free, fun b o e hx => ?_, I.base.tups, I.base.frzs, I.base.tbls⟩, ⟨m, hn.sameBut hs (Ne.symm (cne x c hc)), fun j y v' e1 e2 e3 => ?_⟩, fun y c' e => ?_, I.free, I.freeC, fun p hp => ?_, tracked ⟨oc, hoc, I.freeC x c hc⟩ hs, by simpa using I.len⟩ ⟨c, hs, .inr hc⟩
    · exact (hs.2 b (Nat.ne_of_lt (Nat.lt_of_lt_of_le (Heap.lt_size e) (I.ok.cab x c hfn hc)))).trans (I.base.keep b o e n hb hx)
    · obtain ⟨sl, e1⟩ := I.base.slot b o e n hb hx
      exact ⟨sl, (hs.2 b (Nat.ne_of_lt (Nat.lt_of_lt_of_le (Heap.lt_size e) (I.ok.cab x c hfn hc)))).trans e1⟩
    · obtain ⟨o', e1⟩ := I.base.there b o e hx
      exact ⟨o', (hs.2 b (Nat.ne_of_lt (Nat.lt_of_lt_of_le (Heap.lt_size e) (I.ok.cab x c hfn hc)))).trans e1⟩
    · by_cases hj : j = i
      · subst hj
        rw [hi] at e1; cases e1
        rw [List.getElem?_set_self hiσ] at e2
        cases e2
        exact ⟨u, r, .inr ⟨.inl hk, c, hc, hc'⟩⟩
      · rw [List.getElem?_set_ne (Ne.symm hj)] at e2
        obtain ⟨u', r', q⟩ := hl j y v' e1 e2 e3
        refine ⟨u', r', ?_⟩
        rcases q with q | ⟨k, c', e, z'⟩
        · exact .inl q
        · refine .inr ⟨k, c', e, z'.sameBut hs ?_⟩
          rintro rfl
          exact hj (nodup_ix hN e1 (I.ok.inj _ _ _ e hc ▸ hi))
    · by_cases hcc : c' = c
      · subst hcc; exact ⟨_, hc'⟩
      · obtain ⟨w2, z2⟩ := I.cell y c' e
        exact ⟨w2, z2.sameBut hs hcc⟩
    · obtain ⟨e, n, ne, nf, d⟩ := I.pin p hp
      refine ⟨(hs.2 p.1 ?_).trans e, n, ne, nf, d⟩
      intro q
      rw [q, hoc] at e
      have q' : oc = p.2 := Option.some.inj e
      exact d w' (by rw [← q']; exact hocd)
theorem store_ok {M : Model} {A : Around} {E : Value → Shared → Prop} {i : Nat} {x : Str} {v : V} {u : Value} {Q : Unit → Shared → Prop} (I : Inv X pins σ H s) (hN : X.N.Nodup) (hi : X.N[i]? = some x) (hx : Loc X.env.scope x) (r : RelV v u)
    (h : ∀ s', Inv X pins (σ.set i (some v)) H s' → Q () s') (hf : X.fn x = true ∨ X.env.scope.names.lookup x = some .local := by first | exact .inl rfl | exact .inr rfl | assumption) : wpAny M A (storeName X.env x u) Q E s :=
  store_ok2 I hN hi hx r (fun s' I' _ => h s' I') hf
/-- behind a call or a block, the state as it is -/
theorem Inv.call' {s' : Shared} {ch : List Addr} (I : Inv X pins σ H s) (ho : s'.os = s.os) (u : Un (frs X.stack) ch H H' s.heap s'.heap) (hok : HOk X.prog X.w H' s'.heap) (hg : AllBare s'.gens)
    (hch : ∀ b ∈ ch, (b ∈ X.ex ∨ X.s₀.heap.objs.size ≤ b) ∧ b ≠ X.env.locals ∧ (∀ x c, X.env.cells.lookup x = some c → c ≠ b) ∧ ∀ p ∈ X.pn ++ pins, p.1 ≠ b) : Inv X pins σ H' s' := by
  obtain ⟨h', g', d', t', o'⟩ := s'
  have e : o' = s.os := ho
  subst e
  exact I.call (g' := g') (t' := t') (d' := d') u hok hg hch
end

/-! ### the judgements -/
/-- an exception: its class, its own dict's address (where it has one), the abstract heap behind it -/
noncomputable abbrev XK := Value → Option Addr → Hp → Prop
noncomputable abbrev St := List (Option V)
noncomputable abbrev VK := V → Hp → Prop
/-- an expression's reading; a test's; an argument list's -/
noncomputable abbrev TE := St → Hp → VK → Prop
noncomputable abbrev TT := St → Hp → (Bool → Hp → Prop) → Prop
noncomputable abbrev TA := St → Hp → (List V → Hp → Prop) → Prop
/-- what is wanted behind a statement -/
structure Ends where
  nx : St → Hp → Prop
  rt : VK
  bk : St → Hp → Prop := fun _ _ => False
  ct : St → Hp → Prop := fun _ _ => False
noncomputable abbrev TS := Ends → St → Hp → Prop

noncomputable def EP (X : Cx) (pins : List (Addr × Obj)) (σ : St) (Q : VK) (u : Value) (s' : Shared) : Prop := ∃ v H', Inv X pins σ H' s' ∧ RelV v u ∧ Q v H'
noncomputable def TP (X : Cx) (pins : List (Addr × Obj)) (σ : St) (Q : Bool → Hp → Prop) (b : Bool) (s' : Shared) : Prop := ∃ H', Inv X pins σ H' s' ∧ Q b H'
noncomputable def AP (X : Cx) (pins : List (Addr × Obj)) (σ : St) (Q : List V → Hp → Prop) (us : List Value) (s' : Shared) : Prop := ∃ vs H', Inv X pins σ H' s' ∧ Vals vs us ∧ Q vs H'
noncomputable def SP (X : Cx) (pins : List (Addr × Obj)) (D : Ends) (f : Flow) (s' : Shared) : Prop :=
  match f with
  | .next => ∃ σ' H', Inv X pins σ' H' s' ∧ D.nx σ' H'
  | .brk => ∃ σ' H', Inv X pins σ' H' s' ∧ D.bk σ' H'
  | .cont => ∃ σ' H', Inv X pins σ' H' s' ∧ D.ct σ' H'
  | .ret u => ∃ v σ' H', Inv X pins σ' H' s' ∧ RelV v u ∧ D.rt v H'

noncomputable def PE (X : Cx) (e : Expr) (t : TE) : Prop :=
  ∀ (pins : List (Addr × Obj)) (s : Shared) (σ : St) (H : Hp) (Q : VK), Inv X pins σ H s → t σ H Q → wpAny (model X.prog X.w) X.A (eval e X.env) (EP X pins σ Q) X.xe s
noncomputable def PT (X : Cx) (e : Expr) (t : TT) : Prop :=
  ∀ (pins : List (Addr × Obj)) (s : Shared) (σ : St) (H : Hp) (Q : Bool → Hp → Prop), Inv X pins σ H s → t σ H Q → wpAny (model X.prog X.w) X.A (isTrue e X.env (eval e X.env)) (TP X pins σ Q) X.xe s
/-- a test whatever its 'whole' is (and, or) -/
noncomputable def PW (X : Cx) (e : Expr) (t : TT) : Prop :=
  ∀ (whole : Sem Value) (pins : List (Addr × Obj)) (s : Shared) (σ : St) (H : Hp) (Q : Bool → Hp → Prop), Inv X pins σ H s → t σ H Q → wpAny (model X.prog X.w) X.A (isTrue e X.env whole) (TP X pins σ Q) X.xe s
theorem PW.pt {X : Cx} {e : Expr} {t : TT} (h : PW X e t) : PT X e t := h _
/-- an argument list (no star), from the left -/
noncomputable def PA (X : Cx) (es : List Expr) (t : TA) : Prop :=
  ∀ (pos : Pos) (pins : List (Addr × Obj)) (s : Shared) (σ : St) (H : Hp) (Q : List V → Hp → Prop), Inv X pins σ H s → t σ H Q → wpAny (model X.prog X.w) X.A (spliced (backTo pos (starEach es X.env))) (AP X pins σ Q) X.xe s
noncomputable def PS (X : Cx) (st : Stmt) (t : TS) : Prop :=
  ∀ (pins : List (Addr × Obj)) (s : Shared) (σ : St) (H : Hp) (D : Ends), Inv X pins σ H s → t D σ H → wpAny (model X.prog X.w) X.A (exec st X.env) (SP X pins D) X.xe s
noncomputable def PSs (X : Cx) (st : List Stmt) (t : TS) : Prop :=
  ∀ (pins : List (Addr × Obj)) (s : Shared) (σ : St) (H : Hp) (D : Ends), Inv X pins σ H s → t D σ H → wpAny (model X.prog X.w) X.A (execs st X.env) (SP X pins D) X.xe s
/-- weaken the end -/
theorem thn {α : Type} {t : Sem α} {Q Q' : α → Shared → Prop} {M : Model} {A : Around} {E : Value → Shared → Prop} {s : Shared} (h : wpAny M A t Q E s) (hQ : ∀ a s, Q a s → Q' a s) : wpAny M A t Q' E s := wpAny_mono h hQ fun _ _ x => x
end L2

namespace L2
open PySem PySem.Spec PyProof.Rows
section
variable {X : Cx}

/-! ### names and constants -/
noncomputable def tVar (i : Nat) : TE := fun σ H Q => ∃ v, σ[i]? = some (some v) ∧ Q v H
noncomputable def tC (v : V) : TE := fun _ H Q => Q v H
theorem pe_var {i : Nat} {x : Str} {pos : Pos} (hN : X.N[i]? = some x) (hv : Vis X.env.scope x) (hd : (x == ("__debug__" : Str)) = false := by decide) (hcd : (x == ("__classdict__" : Str)) = false := by decide) : PE X (.Name x pos) (tVar i) := by
  intro pins s σ H Q I h
  obtain ⟨v, e, h⟩ := h
  obtain ⟨m, hn, hl⟩ := I.loc
  obtain ⟨u, r, l⟩ := hl i x v hN e hv
  have fin : EP X pins σ Q u s := ⟨v, H, I, r, h⟩
  rcases l with ⟨hk, hm⟩ | ⟨hk, c, hc, hcell⟩
  · exact wpAny_Name (wpAny_loadName_local I.ok.kind hk hn hm fin) hd
  · rcases hk with hk | hk
    · exact wpAny_Name (wpAny_loadName_cell I.ok.kind hk hc hcell fin) hd
    · exact wpAny_Name (wpAny_loadName_free I.ok.kind hk hc hcell fin hcd) hd
theorem pe_int {i j pos} : PE X (.Constant (.int i) j pos) (tC (.int i)) := fun _ _ _ H _ I h => wpAny_Constant_int ⟨.int i, H, I.tok _, ⟨_, rfl⟩, h⟩
theorem pe_bl {b j pos} : PE X (.Constant (.bool b) j pos) (tC (.bl b)) := fun _ _ _ H _ I h => Constant_bool ⟨.bl b, H, I, rfl, h⟩
theorem pe_non {j pos} : PE X (.Constant .none j pos) (tC .non) := fun _ _ _ H _ I h => Constant_none ⟨.non, H, I, rfl, h⟩
theorem pe_str {x j pos} : PE X (.Constant (.str x) j pos) (tC (.str x)) := fun _ _ _ H _ I h => Calls.Constant_str ⟨.str x, H, I.tok _, ⟨_, rfl⟩, h⟩

/-- a global name of the def -/
noncomputable def Gl (X : Cx) (x : Str) : Prop := X.env.kindOf x = some .globalImplicit
theorem ld_glob {E : Value → Shared → Prop} {pins : List (Addr × Obj)} {s : Shared} {σ : St} {H : Hp} {x : Str} {u : Value} {pos : Pos} {Q : Value → Shared → Prop} (I : Inv X pins σ H s) (hg : Gl X x) (hm : X.mg x = some u) (h : Q u s)
    (hd : (x == ("__debug__" : Str)) = false := by decide) : wpAny (model X.prog X.w) X.A (eval (.Name x pos) X.env) Q E s :=
  Calls.Name_function_global I.ok.kind hg (Calls.loadGlobal_global (by rw [I.ok.glob]; exact I.mod.glob.keeps I.bk) hm h) hd
theorem ld_blt {E : Value → Shared → Prop} {pins : List (Addr × Obj)} {s : Shared} {σ : St} {H : Hp} {x : Str} {u : Value} {pos : Pos} {Q : Value → Shared → Prop} (I : Inv X pins σ H s) (hg : Gl X x) (hm : X.mg x = none) (hv : bootBuiltins x = some u) (h : Q u s)
    (hn : x ≠ "__name__" := by decide) (hd : (x == ("__debug__" : Str)) = false := by decide) : wpAny (model X.prog X.w) X.A (eval (.Name x pos) X.env) Q E s := by
  obtain ⟨mb, h1, h2⟩ := I.mod.blt
  exact Calls.Name_function_global I.ok.kind hg (Calls.loadGlobal_builtin (by rw [I.ok.glob]; exact I.mod.glob.keeps I.bk) hm (by rw [I.ok.blt]; exact h1.keeps I.bk) ((h2 x hn).trans hv) h) hd
/-- a module's constant, a class, a function, as a value -/
theorem pe_glob {x : Str} {v : V} {u : Value} {pos : Pos} (hg : Gl X x) (hm : X.mg x = some u) (r : RelV v u) (hd : (x == ("__debug__" : Str)) = false := by decide) : PE X (.Name x pos) (tC v) :=
  fun _ _ _ H _ I h => ld_glob I hg hm ⟨v, H, I, r, h⟩ hd
theorem pe_bltn {x : Str} {v : V} {u : Value} {pos : Pos} (hg : Gl X x) (hm : X.mg x = none) (hv : bootBuiltins x = some u) (r : RelV v u) (hn : x ≠ "__name__" := by decide) (hd : (x == ("__debug__" : Str)) = false := by decide) : PE X (.Name x pos) (tC v) :=
  fun _ _ _ H _ I h => ld_blt I hg hm hv ⟨v, H, I, r, h⟩ hn hd

variable {a b : Expr} {ta tb : TE} {pos : Pos}
/-- a comparison as a value, as a test -/
noncomputable def tB (t : TE) : TT := fun σ H Q => t σ H fun x H1 => ∃ c, x = .bl c ∧ Q c H1
/-- an expression whose value is a bool, as a test -/
theorem pt_val {e : Expr} {t : TE} (h : PE X e t) (he : ∀ whole, isTrue e X.env whole = (do let v ← whole; standAt e.pos; holding [v] (truthy v)) := by intro _; rfl) : PT X e (tB t) := by
  intro pins s σ H Q I hw
  refine isTrue_plain (thn (h pins s σ H _ I hw) fun v s1 ⟨x, H1, I1, r1, q1⟩ => ?_) (he _)
  obtain ⟨d, rfl, q⟩ := q1
  cases r1
  exact wpAny_truthy_bool ⟨H1, I1, q⟩

/-! ### and, or, not -/
variable {tA tB' : TT} {rest : List Expr}
noncomputable def tAnd (t u : TT) : TT := fun σ H Q => t σ H fun c H1 => if c = true then u σ H1 Q else Q false H1
noncomputable def tOr (t u : TT) : TT := fun σ H Q => t σ H fun c H1 => if c = true then Q true H1 else u σ H1 Q
noncomputable def tNot (t : TT) : TT := fun σ H Q => t σ H fun c H1 => Q (!c) H1
theorem pw_and1 (ha : PT X a tA) : PW X (.BoolOp .And [a] pos) tA := by
  intro wh pins s σ H Q I h
  refine isTrue_and (thn (ha pins s σ H Q I h) fun c s1 e => ?_)
  cases c with
  | true => exact isTrue_and_nil e
  | false => exact e
theorem pw_or1 (ha : PT X a tA) : PW X (.BoolOp .Or [a] pos) tA := by
  intro wh pins s σ H Q I h
  refine isTrue_or (thn (ha pins s σ H Q I h) fun c s1 e => ?_)
  cases c with
  | false => exact isTrue_or_nil e
  | true => exact e
theorem pw_and (ha : PT X a tA) (hb : PW X (.BoolOp .And (b :: rest) pos) tB') : PW X (.BoolOp .And (a :: b :: rest) pos) (tAnd tA tB') := by
  intro wh pins s σ H Q I h
  refine isTrue_and (thn (ha pins s σ H _ I h) fun c s1 ⟨H1, I1, q1⟩ => ?_)
  cases c with
  | true => exact hb wh pins s1 σ H1 Q I1 q1
  | false => exact ⟨H1, I1, q1⟩
theorem pw_or (ha : PT X a tA) (hb : PW X (.BoolOp .Or (b :: rest) pos) tB') : PW X (.BoolOp .Or (a :: b :: rest) pos) (tOr tA tB') := by
  intro wh pins s σ H Q I h
  refine isTrue_or (thn (ha pins s σ H _ I h) fun c s1 ⟨H1, I1, q1⟩ => ?_)
  cases c with
  | true => exact ⟨H1, I1, q1⟩
  | false => exact hb wh pins s1 σ H1 Q I1 q1
theorem pt_not (ha : PT X a tA) : PT X (.UnaryOp .Not a pos) (tNot tA) := by
  intro pins s σ H Q I h
  exact isTrue_not (ha pins s σ H (fun c H1 => Q (!c) H1) I h)
/-- .. as values (bools) -/
noncomputable def tAndV (ta tb : TE) : TE := fun σ H Q => ta σ H fun x H1 => ∃ c, x = .bl c ∧ if c = true then tb σ H1 Q else Q (.bl false) H1
noncomputable def tNotV (ta : TE) : TE := fun σ H Q => ta σ H fun x H1 => ∃ c, x = .bl c ∧ Q (.bl (!c)) H1
theorem pe_one {op} {t : TE} (h : PE X a t) : PE X (.BoolOp op [a] pos) t := fun pins s σ H Q I hw => BoolOp_one (h pins s σ H Q I hw)
theorem pe_and (ha : PE X a ta) (hb : PE X (.BoolOp .And (b :: rest) pos) tb) : PE X (.BoolOp .And (a :: b :: rest) pos) (tAndV ta tb) := by
  intro pins s σ H Q I h
  refine BoolOp_and (thn (ha pins s σ H _ I h) fun v s1 ⟨x, H1, I1, r1, q1⟩ => ?_)
  obtain ⟨c, rfl, q1⟩ := q1
  cases r1
  refine wpAny_truthy_bool ?_
  cases c with
  | true => exact hb pins s1 σ H1 Q I1 q1
  | false => exact ⟨.bl false, H1, I1, rfl, q1⟩
theorem pe_not (ha : PE X a ta) : PE X (.UnaryOp .Not a pos) (tNotV ta) := by
  intro pins s σ H Q I h
  refine UnaryOp_ (thn (ha pins s σ H _ I h) fun v s1 ⟨x, H1, I1, r1, q1⟩ => ?_)
  obtain ⟨c, rfl, q1⟩ := q1
  cases r1
  exact not_of (wpAny_truthy_bool ⟨.bl (!c), H1, I1, rfl, q1⟩)
end
end L2

namespace L2
open PySem PySem.Spec PyProof.Rows

/-! ### a list, a tuple that is read: tracked, frozen, or an object of the module -/
noncomputable def SqL (K : PySem.W.Frag) (H : Hp) (a : Addr) (xs : List V) : Prop :=
  Rd H a (.lst xs) ∨
    ∃ (o : Obj) (its : Array Value) (n : Nat), K.lookup a = some o ∧ o.cls = .type "list" ∧ o.dict = none ∧ o.data = .seq its n ∧ its.size ≤ sizeLine ∧ Vals xs its.toList
noncomputable def SqT (K : PySem.W.Frag) (H : Hp) (a : Addr) (xs : List V) : Prop :=
  Rd H a (.tup xs) ∨
    ∃ (o : Obj) (its : Array Value) (n : Nat), K.lookup a = some o ∧ o.cls = .type "tuple" ∧ o.data = .seq its n ∧ its.size ≤ sizeLine ∧ Vals xs its.toList
noncomputable def absV : Value → Option V
  | .none => some .non
  | .bool b => some (.bl b)
  | .int i _ => some (.int i)
  | .str x _ => some (.str x)
  | .bytes b _ => some (.byt b)
  | .float b _ => some (.flt b)
  | .ref a => some (.ref a)
  | .type n => some (.ty n)
  | _ => none
theorem RelV.abs {x : V} {u : Value} (r : RelV x u) : absV u = some x := by
  cases x with
  | non => cases r; rfl
  | bl _ => cases r; rfl
  | int _ => obtain ⟨t, rfl⟩ := r; rfl
  | str _ => obtain ⟨t, rfl⟩ := r; rfl
  | byt _ => obtain ⟨t, rfl⟩ := r; rfl
  | flt _ => obtain ⟨t, rfl⟩ := r; rfl
  | ref _ => cases r; rfl
  | ty _ => cases r; rfl
theorem RelV.inj {x y : V} {u : Value} (r : RelV x u) (q : RelV y u) : x = y := Option.some.inj (r.abs.symm.trans q.abs)
theorem Vals.inj : ∀ {xs ys : List V} {us : List Value}, Vals xs us → Vals ys us → xs = ys
  | _, _, _, .nil, .nil => rfl
  | _, _, _, .cons r t, .cons r' t' => by rw [r.inj r', Vals.inj t t']
section
variable {X : Cx} {pins : List (Addr × Obj)} {σ : St} {H : Hp} {s : Shared} {a : Addr} {xs ys : List V}
theorem SqL.of {K : PySem.W.Frag} (h : H a = some (.lst xs)) : SqL K H a xs := .inl (.inl h)
theorem SqT.of {K : PySem.W.Frag} (h : H a = some (.tup xs)) : SqT K H a xs := .inl (.inl h)
theorem Inv.list (I : Inv X pins σ H s) (h : SqL X.K H a xs) : ∃ its : List Value, Vals xs its ∧ PlainL s.heap a its.toArray ∧ xs.length ≤ sizeLine := by
  rcases h with h | ⟨o, its, n, hk, hc, hd, hs, hz, r⟩
  · obtain ⟨z, its, n, r, e⟩ := h.ok I.hok
    exact ⟨its, r, ⟨_, n, e, rfl, rfl, rfl⟩, z⟩
  · refine ⟨its.toList, r, ⟨o, n, I.kIn a o hk, hc, hd, by simpa using hs⟩, ?_⟩
    have e := r.length
    simp only [Array.length_toList] at e
    omega
theorem Inv.tuple (I : Inv X pins σ H s) (h : SqT X.K H a xs) : ∃ its : List Value, Vals xs its ∧ IsTup s.heap a its.toArray ∧ xs.length ≤ sizeLine := by
  rcases h with h | ⟨o, its, n, hk, hc, hs, hz, r⟩
  · obtain ⟨z, its, r, p⟩ := h.ok I.hok
    exact ⟨its, r, p, z⟩
  · refine ⟨its.toList, r, ⟨o, I.kIn a o hk, hc, n, by simpa using hs⟩, ?_⟩
    have e := r.length
    simp only [Array.length_toList] at e
    omega
theorem Inv.list_inj (I : Inv X pins σ H s) (h : SqL X.K H a xs) (h' : SqL X.K H a ys) : xs = ys := by
  obtain ⟨its, r, ⟨o, n, e, _, _, d⟩, _⟩ := I.list h
  obtain ⟨its', r', ⟨o', n', e', _, _, d'⟩, _⟩ := I.list h'
  rw [e] at e'; cases e'
  rw [d] at d'
  injection d' with d1 _
  have : its = its' := by simpa using congrArg Array.toList d1
  subst this
  exact r.inj r'
end

/-! ### another wish about exceptions -/
noncomputable abbrev Cx.wish (X : Cx) (E : Value → Shared → Prop) : Cx := { X with xe := E }
/-- no exception leaves -/
noncomputable abbrev Cx.nox (X : Cx) : Cx := X.wish fun _ _ => False
theorem Cx.Ok.wish {X : Cx} (ok : X.Ok) (E : Value → Shared → Prop) : (X.wish E).Ok :=
  ⟨ok.mod, ok.kind, ok.glob, ok.blt, ok.above, ok.inj, ok.has, ok.cab, ok.hd, ok.frames, ok.stk, ok.exf, ok.bs, ok.bsz, ok.noex, ok.exfs, ok.funs, ok.frf⟩
theorem Cx.Ok.unwish {X : Cx} {E : Value → Shared → Prop} (ok : (X.wish E).Ok) : X.Ok :=
  ⟨ok.mod, ok.kind, ok.glob, ok.blt, ok.above, ok.inj, ok.has, ok.cab, ok.hd, ok.frames, ok.stk, ok.exf, ok.bs, ok.bsz, ok.noex, ok.exfs, ok.funs, ok.frf⟩
section
variable {X : Cx} {pins : List (Addr × Obj)} {σ : St} {H : Hp} {s : Shared} {E : Value → Shared → Prop}
theorem Inv.wish (I : Inv X pins σ H s) (E : Value → Shared → Prop) : Inv (X.wish E) pins σ H s := ⟨I.ok.wish E, I.os, I.bare, I.base, I.loc, I.cell, I.free, I.freeC, I.pin, I.hok, I.len⟩
theorem Inv.unwish (I : Inv (X.wish E) pins σ H s) : Inv X pins σ H s := ⟨I.ok.unwish, I.os, I.bare, I.base, I.loc, I.cell, I.free, I.freeC, I.pin, I.hok, I.len⟩
theorem SP.unwish {D : Ends} {f : Flow} {s' : Shared} (h : SP (X.wish E) pins D f s') : SP X pins D f s' := by
  cases f with
  | next => obtain ⟨σ', H', I, q⟩ := h; exact ⟨σ', H', I.unwish, q⟩
  | brk => obtain ⟨σ', H', I, q⟩ := h; exact ⟨σ', H', I.unwish, q⟩
  | cont => obtain ⟨σ', H', I, q⟩ := h; exact ⟨σ', H', I.unwish, q⟩
  | ret u => obtain ⟨v, σ', H', I, r, q⟩ := h; exact ⟨v, σ', H', I.unwish, r, q⟩
theorem PSs.nox {st : List Stmt} {t : TS} (h : PSs X.nox st t) : PSs X st t := fun pins s σ H D I hw =>
  wpAny_mono (h pins s σ H D (I.wish _) hw) (fun _ _ q => q.unwish) fun _ _ z => False.elim z
end

/-! ### blocks and small statements -/
section
variable {X : Cx} {st : Stmt} {rest : List Stmt} {t u : TS} {e : Expr} {te : TE} {pos : Pos}
noncomputable def tNext : TS := fun D σ H => D.nx σ H
noncomputable def tSeq (t u : TS) : TS := fun D σ H => t { D with nx := u D } σ H
theorem pss_nil : PSs X [] tNext := fun _ _ σ H _ I h => wpAny_execs_nil ⟨σ, H, I, h⟩
theorem pss_cons (h1 : PS X st t) (h2 : PSs X rest u) : PSs X (st :: rest) (tSeq t u) := by
  intro pins s σ H D I h
  refine wpAny_execs_cons (thn (h1 pins s σ H { D with nx := u D } I h) fun f s1 q => ?_)
  cases f with
  | next =>
    obtain ⟨σ', H', I', q⟩ := q
    exact h2 pins s1 σ' H' D I' q
  | ret v => exact q
  | brk => exact q
  | cont => exact q
theorem pss_one (h1 : PS X st t) : PSs X [st] t := by
  intro pins s σ H D I h
  refine wpAny_execs_cons (thn (h1 pins s σ H D I h) fun f s1 q => ?_)
  cases f with
  | next => exact wpAny_execs_nil q
  | ret v => exact q
  | brk => exact q
  | cont => exact q
/-- in a def's body nothing is shown -/
theorem Inv.quiet {pins : List (Addr × Obj)} {σ : St} {H : Hp} {s : Shared} (I : Inv X pins σ H s) : interactive X.env = false := by simp [interactive, I.ok.kind]
/-- an expression whose value is dropped -/
noncomputable def tDrop (te : TE) : TS := fun D σ H => te σ H fun _ H1 => D.nx σ H1
theorem ps_expr (he : PE X e te) (hs : swapsWith e none pos.line X.env = pure false := by rfl) : PS X (.Expr e pos) (tDrop te) := by
  intro pins s σ H D I h
  exact wpAny_Expr_any (thn (he pins s σ H _ I h) fun v s1 ⟨x, H1, I1, r1, q1⟩ => ⟨σ, H1, I1, q1⟩) I.quiet hs
noncomputable def tRet (te : TE) : TS := fun D σ H => te σ H D.rt
theorem ps_ret (he : PE X e te) : PS X (.Return (some e) pos) (tRet te) := by
  intro pins s σ H D I h
  exact wpAny_Return_some (thn (he pins s σ H _ I h) fun v s1 ⟨x, H1, I1, r1, q1⟩ => ⟨x, σ, H1, I1, r1, q1⟩)
noncomputable def tIfS (c : TT) (t u : TS) : TS := fun D σ H => c σ H fun b H1 => if b = true then t D σ H1 else u D σ H1
theorem ps_if {c : Expr} {a b : List Stmt} {tc : TT} (hc : PT X c tc) (ha : PSs X a t) (hb : PSs X b u) : PS X (.If c a b pos) (tIfS tc t u) := by
  intro pins s σ H D I h
  refine wpAny_If (thn (hc pins s σ H _ I h) fun d s1 ⟨H1, I1, q1⟩ => ?_)
  cases d with
  | true => exact ha pins s1 σ H1 D I1 q1
  | false => exact hb pins s1 σ H1 D I1 q1
end

/-! ### targets -/
noncomputable abbrev TG := V → St → Hp → (St → Hp → Prop) → Prop
noncomputable abbrev TGs := List V → St → Hp → (St → Hp → Prop) → Prop
noncomputable def PG (X : Cx) (target : Expr) (t : TG) : Prop :=
  ∀ (pins : List (Addr × Obj)) (s : Shared) (σ : St) (H : Hp) (v : V) (u : Value) (Q : St → Hp → Prop), Inv X pins σ H s → RelV v u → t v σ H Q →
    wpAny (model X.prog X.w) X.A (assign target X.env u) (fun _ s' => ∃ σ' H', Inv X pins σ' H' s' ∧ Q σ' H') X.xe s
/-- several targets, one after another -/
noncomputable def PGs (X : Cx) (ts : List Expr) (t : TGs) : Prop :=
  ∀ (pins : List (Addr × Obj)) (s : Shared) (σ : St) (H : Hp) (vs : List V) (us : List Value) (Q : St → Hp → Prop), Inv X pins σ H s → Vals vs us → t vs σ H Q →
    wpAny (model X.prog X.w) X.A (assignInOrder ((assignEach ts X.env).map (·.2)) us) (fun _ s' => ∃ σ' H', Inv X pins σ' H' s' ∧ Q σ' H') X.xe s
/-- o[i] = v, by values -/
noncomputable abbrev TSet := V → V → V → Hp → (Hp → Prop) → Prop
noncomputable def PSet (X : Cx) (t : TSet) : Prop :=
  ∀ (pins : List (Addr × Obj)) (s : Shared) (σ : St) (H : Hp) (o i v : V) (ov iv u : Value) (Q : Hp → Prop), Inv X pins σ H s → RelV o ov → RelV i iv → RelV v u → t o i v H Q →
    wpAny (model X.prog X.w) X.A (setItem ov iv u) (fun _ s' => ∃ H', Inv X pins σ H' s' ∧ Q H') X.xe s
section
variable {X : Cx} {pos : Pos}
noncomputable def gName (i : Nat) : TG := fun v σ H Q => Q (σ.set i (some v)) H
theorem pg_name {i : Nat} {x : Str} (hN : X.N.Nodup) (hi : X.N[i]? = some x) (hx : Loc X.env.scope x) (hf : X.fn x = true ∨ X.env.scope.names.lookup x = some .local := by first | exact .inl rfl | exact .inr rfl | assumption) : PG X (.Name x pos) (gName i) := by
  intro pins s σ H v u Q I r h
  exact wpAny_assign_Name (store_ok I hN hi hx r (fun s' I' => ⟨_, H, I', h⟩) hf)
noncomputable def gNil : TGs := fun vs σ H Q => vs = [] ∧ Q σ H
noncomputable def gCons (t : TG) (u : TGs) : TGs := fun vs σ H Q => ∃ v r, vs = v :: r ∧ t v σ H fun σ' H' => u r σ' H' Q
theorem pgs_nil : PGs X [] gNil := by
  intro pins s σ H vs us Q I r h
  obtain ⟨e, h⟩ := h
  subst e
  cases r
  exact assignInOrder_nil ⟨σ, H, I, h⟩
theorem pgs_cons {e : Expr} {es : List Expr} {t : TG} {u : TGs} (h1 : PG X e t) (h2 : PGs X es u)
    (hs : (assignEach (e :: es) X.env).map (·.2) = assign e X.env :: (assignEach es X.env).map (·.2) := by rfl) : PGs X (e :: es) (gCons t u) := by
  intro pins s σ H vs us Q I r h
  obtain ⟨v, vr, e1, h⟩ := h
  subst e1
  cases r with
  | cons r rr =>
    rw [hs]
    refine assignInOrder_cons (thn (h1 pins s σ H _ _ _ I r h) fun _ s1 ⟨σ1, H1, I1, q1⟩ => ?_)
    exact h2 pins s1 σ1 H1 _ _ Q I1 rr q1
/-- (a, b, ..) = a tuple of that length -/
noncomputable def gTup (K : PySem.W.Frag) (n : Nat) (t : TGs) : TG := fun v σ H Q => ∃ a xs, v = .ref a ∧ SqT K H a xs ∧ xs.length = n ∧ t xs σ H Q
theorem pg_tup {es : List Expr} {k : Nat} {t : TGs} {n : Nat} (hc : X.calm = true) (h : PGs X es t)
    (hn : (assignEach es X.env).length = n := by rfl) (hst : (assignEach es X.env).findIdx? (·.1) = none := by rfl) : PG X (.Tuple es k pos) (gTup X.K n t) := by
  intro pins s σ H v u Q I r hw
  obtain ⟨a, xs, e1, hq, hl, hw⟩ := hw
  subst e1
  cases r
  obtain ⟨its, rv, ht, hz⟩ := I.tuple hq
  refine assign_Tuple_tuple (I.ok.hd hc) ht (by simp [hn, ← hl, rv.length]) hst fun h' hx => ?_
  have I1 : Inv X pins σ H { s with heap := h' } := I.kept (t' := s.toks) fun b o e => hx b o (Nat.ne_of_lt (Heap.lt_size e)) e
  exact h pins _ σ H xs _ Q I1 (by simpa using rv) hw
/-- o[i] = .. -/
noncomputable def gSub (to ti : TE) (t : TSet) : TG := fun v σ H Q => to σ H fun o H1 => ti σ H1 fun i H2 => t o i v H2 fun H3 => Q σ H3
theorem pg_sub {o i : Expr} {to ti : TE} {t : TSet} (ho : PE X o to) (hi : PE X i ti) (hs : PSet X t)
    (ha : ∀ v, assign (.Subscript o i pos) X.env v = (do
      let ov ← holding [v] (eval o X.env)
      let iv ← holding [v, ov] (eval i X.env)
      standAt pos
      holding [v, ov, iv] (setItem ov iv v)
      release [v, ov, iv] []) := by intro _; rfl) : PG X (.Subscript o i pos) (gSub to ti t) := by
  intro pins s σ H v u Q I r h
  rw [ha]
  refine wpAny_bind (wpAny_holding (thn (ho pins s σ H _ I h) fun ov s1 ⟨x, H1, I1, r1, q1⟩ => ?_))
  refine wpAny_bind (wpAny_holding (thn (hi pins s1 σ H1 _ I1 q1) fun iv s2 ⟨y, H2, I2, r2, q2⟩ => ?_))
  refine wpAny_bind (wpAny_standAt (wpAny_bind (wpAny_holding (thn (hs pins s2 σ H2 x y v ov iv u _ I2 r1 r2 r q2) fun _ s3 ⟨H3, I3, q3⟩ => ?_))))
  exact wpAny_release ⟨σ, H3, I3, q3⟩
/-- target = value -/
noncomputable def tAsg (te : TE) (g : TG) : TS := fun D σ H => te σ H fun x H1 => g x σ H1 D.nx
theorem ps_asg {tg e : Expr} {te : TE} {g : TG} (he : PE X e te) (hg : PG X tg g) (hs : swapsWithSole [tg] e pos.line X.env = pure false := by rfl) (hw : swappedStores [tg] e X.env = pure none := by rfl)
    (h1 : (assignEach [tg] X.env).map (·.2) = [assign tg X.env] := by rfl) : PS X (.Assign [tg] e pos) (tAsg te g) := by
  intro pins s σ H D I h
  refine wpAny_Assign_stores (thn (he pins s σ H _ I h) fun v s1 ⟨x, H1, I1, r1, q1⟩ => ?_) hs hw
  rw [h1]
  exact thn (hg pins s1 σ H1 x v _ I1 r1 q1) fun _ s2 q => q
/-- name = value -/
theorem ps_set {i : Nat} {x : Str} {e : Expr} {te : TE} {pos' : Pos} (hN : X.N.Nodup) (hi : X.N[i]? = some x) (hx : Loc X.env.scope x) (he : PE X e te) (hs : swapsWith e (some (.Name x pos')) pos.line X.env = pure false := by rfl) (hf : X.fn x = true ∨ X.env.scope.names.lookup x = some .local := by first | exact .inl rfl | exact .inr rfl | assumption) :
    PS X (.Assign [.Name x pos'] e pos) (tAsg te (gName i)) := by
  intro pins s σ H D I h
  refine wpAny_Assign_Name (thn (he pins s σ H _ I h) fun v s1 ⟨y, H1, I1, r1, q1⟩ => ?_) hs
  exact store_ok I1 hN hi hx r1 (fun s2 I2 => ⟨_, H1, I2, q1⟩) hf
end

/-! ### while -/
section
variable {X : Cx} {pos : Pos}
end

/-! ### what a loop or a comprehension walks -/
/-- at turn i: it yields x (the heap may grow), or it stops -/
structure It where
  go : Nat → Hp → Prop
  yld : Nat → Hp → V → Hp → Prop
  stop : Nat → Hp → Prop
/-- the iterator's own objects may turn: they are not the frame's, not pinned, younger than the entry (or a comprehension's own) -/
noncomputable def FpOk (X : Cx) (pins : List (Addr × Obj)) (H : Hp) (b : Addr) : Prop :=
  H b = none ∧ b ≠ X.env.locals ∧ b ∉ X.fs ∧ (b ∈ X.ex ∨ X.s₀.heap.objs.size ≤ b) ∧ (∀ x c, X.env.cells.lookup x = some c → c ≠ b) ∧ ∀ p ∈ X.pn ++ pins, p.1 ≠ b
theorem Inv.fpOk {X : Cx} {pins : List (Addr × Obj)} {σ : St} {H H' : Hp} {s : Shared} {b : Addr} (I : Inv X pins σ H s) (hb : s.heap.objs.size ≤ b) (hn : H' b = none) : FpOk X pins H' b := by
  refine ⟨hn, Nat.ne_of_gt (Nat.lt_of_lt_of_le I.lt hb), I.nofs hb, .inr (Nat.le_trans I.sz hb), fun x c e z => ?_, fun p hp z => ?_⟩
  · obtain ⟨v, q⟩ := I.cell x c e
    exact absurd (Nat.lt_of_lt_of_le q.lt (by rw [z]; exact hb)) (Nat.lt_irrefl _)
  · exact absurd (Nat.lt_of_lt_of_le (Heap.lt_size (I.pin p hp).1) (by rw [z]; exact hb)) (Nat.lt_irrefl _)
structure Turn (P : Program) (w : World) (K : PySem.W.Frag) (tg : Expr) (J : It) (fp : List Addr) (it : Addr) (tn : Nat → Heap → Prop) : Prop where
  mem : it ∈ fp
  obj : ∀ i h, tn i h → ∀ b ∈ fp, ∃ o, h.get? b = some o ∧ ∀ v, o.data ≠ .cell v
  keep : ∀ i h h', tn i h → (∀ b ∈ fp, ∀ o, h.get? b = some o → h'.get? b = some o) → tn i h'
  item : ∀ (X : Cx), X.prog = P → X.w = w → X.K = K → X.calm = true → ∀ (i : Nat) (pins : List (Addr × Obj)) (s : Shared) (σ : St) (H : Hp) (E : Value → Shared → Prop), Inv X pins σ H s → (∀ b ∈ fp, FpOk X pins H b) → tn i s.heap → J.go i H →
    wpAny (model P w) X.A (pyNext (.ref it)) (fun r s1 => ∃ u, r = some u ∧
      wpAny (model P w) X.A (letOwnedTupleGo tg (.ref it) u) (fun _ s2 => ∃ x H', Inv X pins σ H' s2 ∧ RelV x u ∧ J.yld i H x H' ∧ tn (i + 1) s2.heap ∧ ∀ b ∈ fp, H' b = none) E s1) E s
  done : ∀ (X : Cx), X.prog = P → X.w = w → X.K = K → X.calm = true → ∀ (i : Nat) (pins : List (Addr × Obj)) (s : Shared) (σ : St) (H : Hp) (E : Value → Shared → Prop), Inv X pins σ H s → (∀ b ∈ fp, FpOk X pins H b) → tn i s.heap → J.stop i H →
    wpAny (model P w) X.A (pyNext (.ref it)) (fun r s1 => r = none ∧ Inv X pins σ H s1) E s
  self : ∀ (A : Around) (i : Nat) (s : Shared) (Q : Value → Shared → Prop) (E : Value → Shared → Prop), tn i s.heap → Q (.ref it) s → wpAny (model P w) A (pyIter (.ref it)) Q E s
noncomputable abbrev TI := St → Hp → (It → Hp → Prop) → Prop
/-- an iterator has come -/
noncomputable def PIE (X : Cx) (pins : List (Addr × Obj)) (σ : St) (tg : Expr) (R : It → Hp → Prop) (itv : Value) (s2 : Shared) : Prop :=
  ∃ (it : Addr) (fp : List Addr) (tn : Nat → Heap → Prop) (J : It) (H' : Hp), itv = .ref it ∧ Inv X pins σ H' s2 ∧ Turn X.prog X.w X.K tg J fp it tn ∧ tn 0 s2.heap ∧ (∀ b ∈ fp, FpOk X pins H' b) ∧ R J H'
noncomputable def PI (X : Cx) (tg iter : Expr) (wi : TI) : Prop :=
  ∀ (pins : List (Addr × Obj)) (s : Shared) (σ : St) (H : Hp) (R : It → Hp → Prop), Inv X pins σ H s → wi σ H R →
    wpAny (model X.prog X.w) X.A (eval iter X.env) (fun v s1 => wpAny (model X.prog X.w) X.A (pyIter v) (PIE X pins σ tg R) X.xe s1) X.xe s

/-- the step ahead of the store is nothing for an iterator that keeps no tuple -/
theorem go_of {M : Model} {A : Around} {E : Value → Shared → Prop} {s : Shared} {tg : Expr} {it : Addr} {u : Value} {o : Obj} {n : String} {vs : Array Value} {Q : Unit → Shared → Prop} (ho : s.heap.get? it = some o) (hc : o.cls = .type n) (hd : o.data = .fields vs)
    (hn : ["enumerate", "zip", "dict_itemiterator", "dict_reverseitemiterator", "odict_iterator", "itertools.zip_longest", "itertools.pairwise"].contains n = false) (hQ : Q () s) : wpAny M A (letOwnedTupleGo tg (.ref it) u) Q E s := by
  unfold letOwnedTupleGo
  cases tg <;> first
    | exact wpAny_pure hQ
    | (cases u <;> first
        | exact wpAny_pure hQ
        | (refine wpAny_bind (wpAny_load ho ?_)
           rw [hc, hd]
           show wpAny M A (if (["enumerate", "zip", "dict_itemiterator", "dict_reverseitemiterator", "odict_iterator", "itertools.zip_longest", "itertools.pairwise"].contains n && vs[0]? == some (rawInt _)) = true then _ else _) Q E s
           rw [if_neg (by intro h; rw [hn, Bool.false_and] at h; cases h)]
           exact wpAny_pure hQ))

/-- the list at a, as it stands at each turn (a loop may append to it) -/
noncomputable def Itl (K : PySem.W.Frag) (a : Addr) : It :=
  ⟨fun i H => ∃ xs x, SqL K H a xs ∧ xs[i]? = some x, fun i H x H' => H' = H ∧ ∀ xs, SqL K H a xs → xs[i]? = some x, fun i H => ∃ xs, SqL K H a xs ∧ xs.length ≤ i⟩
/-- lo, lo + 1, .. (n of them) -/
noncomputable def Itr (lo : Int) (n : Nat) : It := ⟨fun i _ => i < n, fun i H x H' => H' = H ∧ x = .int (lo + i), fun i _ => n ≤ i⟩
theorem turn_list {P : Program} {w : World} {K : PySem.W.Frag} {tg : Expr} (a it : Addr) : Turn P w K tg (Itl K a) [it] it (fun i h => h.IsListIter it a i) where
  mem := by simp
  obj := fun i h st b hb => by
    have e : b = it := by simpa using hb
    subst e
    obtain ⟨o, e, c, d⟩ := st
    exact ⟨o, e, fun v z => by rw [d] at z; cases z⟩
  keep := fun i h h' st k => st.at fun o e => k it (by simp) o e
  item := by
    intro X hP hw hK hc i pins s σ H E I hf st hg
    subst hP hw hK
    obtain ⟨xs, x, hq, hx⟩ := hg
    obtain ⟨its, rv, p, hz⟩ := I.list hq
    obtain ⟨u, hu, ru⟩ := rv.get hx
    obtain ⟨f0, f1, f2, f3, f4, f5⟩ := hf it (by simp)
    refine wpAny_pyNext_list_item st p.isList (x := u) (by simpa using hu) fun h' st' sb => ?_
    have I1 : Inv X pins σ H { s with heap := h' } := I.turned (t' := s.toks) (fun b o hb e => (sb.2 b hb).trans e) f0 f1 f3 f4 f5
    obtain ⟨o, e, c, d⟩ := id st'
    exact ⟨u, rfl, go_of (s := { s with heap := h' }) e c d (by decide) ⟨x, H, I1, ru, ⟨rfl, fun ys hy => by rw [I.list_inj hy hq]; exact hx⟩, st', fun b hb => (hf b hb).1⟩⟩
  done := by
    intro X hP hw hK hc i pins s σ H E I hf st hg
    subst hP hw hK
    obtain ⟨xs, hq, hx⟩ := hg
    obtain ⟨its, rv, p, hz⟩ := I.list hq
    obtain ⟨f0, f1, f2, f3, f4, f5⟩ := hf it (by simp)
    have hl := rv.length
    exact wpAny_pyNext_list_end (I.ok.hd hc) st p.isList (by simp; omega) fun h' eb => ⟨rfl, I.turned (t' := s.toks) (fun b o hb e => eb b o hb e) f0 f1 f3 f4 f5⟩
  self := fun _ _ _ _ _ st h => wpAny_pyIter_listiter st h
theorem turn_range {P : Program} {w : World} {K : PySem.W.Frag} {tg : Expr} (it : Addr) (lo : Int) (n : Nat) : Turn P w K tg (Itr lo n) [it] it (fun i h => IsRangeIter h it (lo + (i : Nat) * 1) ((n : Int) - (i : Nat)) 1) where
  mem := by simp
  obj := fun i h st b hb => by
    have e : b = it := by simpa using hb
    subst e
    exact ⟨_, st, fun v z => by
      have z' : Data.fields _ = Data.cell v := z
      cases z'⟩
  keep := fun i h h' st k => k it (by simp) _ st
  item := by
    intro X hP hw hK hc i pins s σ H E I hf st hg
    subst hP hw hK
    obtain ⟨f0, f1, f2, f3, f4, f5⟩ := hf it (by simp)
    have W := Walks.range (prog := X.prog) (w := X.w) (I.ok.hd hc) it lo 1 n
    refine W.item i s _ _ hg st fun v h' tk hv st' kk => ?_
    obtain ⟨t, rfl⟩ := hv
    have I1 : Inv X pins σ H { s with heap := h', toks := tk } := I.turned (fun b o hb e => kk b o (by simpa using hb) e) f0 f1 f3 f4 f5
    refine ⟨_, rfl, go_of (s := { s with heap := h', toks := tk }) (n := "range_iterator") st' rfl rfl (by decide) ⟨.int (lo + i), H, I1, ⟨t, ?_⟩, ⟨rfl, rfl⟩, st', fun b hb => (hf b hb).1⟩⟩
    rw [Int.mul_one]
  done := by
    intro X hP hw hK hc i pins s σ H E I hf st hg
    subst hP hw hK
    obtain ⟨f0, f1, f2, f3, f4, f5⟩ := hf it (by simp)
    exact wpAny_pyNext_range_end (I.ok.hd hc) st (by have : n ≤ i := hg; omega) fun h' eb => ⟨rfl, I.turned (t' := s.toks) (fun b o hb e => eb b o hb e) f0 f1 f3 f4 f5⟩
  self := fun _ _ _ _ _ st h => wpAny_pyIter_rangeiter st h
end L2

namespace L2
open PySem PySem.Spec PyProof.Rows
section
variable {X : Cx} {tg : Expr}
noncomputable def iList (K : PySem.W.Frag) (tl : TE) : TI := fun σ H R => tl σ H fun x H1 => ∃ a, x = .ref a ∧ (∃ xs, SqL K H1 a xs) ∧ R (Itl K a) H1
theorem pi_list {l : Expr} {tl : TE} (hl : PE X l tl) : PI X tg l (iList X.K tl) := by
  intro pins s σ H R I h
  refine thn (hl pins s σ H _ I h) fun v s1 ⟨x, H1, I1, r1, q1⟩ => ?_
  obtain ⟨a, e, ⟨xs, hq⟩, q⟩ := q1
  subst e
  cases r1
  obtain ⟨its, rv, p, hz⟩ := I1.list hq
  refine wpAny_pyIter_list p.isList ?_
  refine ⟨s1.heap.objs.size, [s1.heap.objs.size], _, _, H1, rfl, I1.kept (t' := s1.toks) fun b o e => Heap.get?_push_of_some _ e, turn_list a _, ⟨_, Heap.get?_push_size _ rfl, rfl, rfl⟩, fun b hb => ?_, q⟩
  have e : b = s1.heap.objs.size := by simpa using hb
  subst e
  exact I1.fpOk (Nat.le_refl _) (I1.hok.fresh (Nat.le_refl _))
/-- a range object just made, walked -/
theorem range_it {pins : List (Addr × Obj)} {σ : St} {H : Hp} {s : Shared} {R : It → Hp → Prop} {E : Value → Shared → Prop} {lo hi : Int} {t u v : Tok} {tk : Nat} (I : Inv X pins σ H s) (h1 : -(2 ^ 62) ≤ lo) (h2 : lo < 2 ^ 62) (h3 : -(2 ^ 62) ≤ hi) (h4 : hi < 2 ^ 62)
    (q : R (Itr lo (hi - lo).toNat) H) : wpAny (model X.prog X.w) X.A (pyIter (.ref s.heap.objs.size)) (PIE X pins σ tg R) E { s with heap := s.heap.push { cls := .type "range", data := .fields #[.int lo t, .int hi u, .int 1 v] }, toks := tk } := by
  refine wpAny_pyIter_range (IsRange.new ..) (small_one h1 h2 h3 h4) ?_
  have I1 : Inv X pins σ H { s with heap := s.heap.push { cls := .type "range", data := .fields #[.int lo t, .int hi u, .int 1 v] }, toks := tk } := I.kept fun b o e => Heap.get?_push_of_some _ e
  refine ⟨(s.heap.push { cls := .type "range", data := .fields #[.int lo t, .int hi u, .int 1 v] }).objs.size, [(s.heap.push { cls := .type "range", data := .fields #[.int lo t, .int hi u, .int 1 v] }).objs.size], _, _, H, rfl,
    I1.kept (t' := tk) fun b o e => Heap.get?_push_of_some _ e, turn_range _ lo (hi - lo).toNat, ?_, fun b hb => ?_, q⟩
  · have e1 : lo + ((0 : Nat) : Int) * 1 = lo := by simp
    have e2 : (((hi - lo).toNat : Nat) : Int) - ((0 : Nat) : Int) = Builtin.Range.rangeSize lo hi 1 := by rw [rangeSize_one]; split <;> omega
    show IsRangeIter _ _ (lo + ((0 : Nat) : Int) * 1) ((((hi - lo).toNat : Nat) : Int) - ((0 : Nat) : Int)) 1
    rw [e1, e2]
    exact Heap.get?_push_size _ rfl
  · have e : b = (s.heap.push { cls := .type "range", data := .fields #[.int lo t, .int hi u, .int 1 v] }).objs.size := by simpa using hb
    subst e
    exact I1.fpOk (Nat.le_refl _) (I1.hok.fresh (Nat.le_refl _))
noncomputable def iRng1 (ta : TA) : TI := fun σ H R => ta σ H fun vs H1 => ∃ j : Int, vs = [.int j] ∧ -(2 ^ 62) ≤ j ∧ j < 2 ^ 62 ∧ R (Itr 0 j.toNat) H1
theorem pi_range1 {a : Expr} {ta : TA} {p pos : Pos} (hg : Gl X "range") (hm : X.mg "range" = none) (ha : PA X [a] ta) (hs : starEach [a] X.env = [(false, eval a X.env)] := by rfl) : PI X tg (.Call (.Name "range" p) [a] [] pos) (iRng1 ta) := by
  intro pins s σ H R I h
  refine Call_ (ld_blt I hg hm boot_range (PyProof.Rows.callWith_type1 (thn (ha pos pins s σ H _ I h) fun us s1 ⟨vs, H1, I1, r1, q1⟩ => ?_) hs rfl))
  obtain ⟨j, e, q1, q2, q⟩ := q1
  subst e
  cases r1 with
  | cons r rr =>
    cases rr
    obtain ⟨t, rfl⟩ := r
    exact call_range_1 (range_it I1 (by omega) (by omega) q1 q2 (by simpa using q))
/-! ### for -/
/-- W: the invariant by the turn and a measure; N: what the body is to reach -/
noncomputable def tFor (wi : TI) (g : TG) (tb : TS) : TS := fun D σ H => wi σ H fun J H1 => ∃ W : Nat → Nat → St → Hp → Prop, (∃ m, W 0 m σ H1) ∧ ∀ i m σ H, W i m σ H →
  (J.stop i H ∧ D.nx σ H) ∨ (J.go i H ∧ ∃ N : St → Hp → Prop, (∀ σ' H', N σ' H' → ∃ m', m' < m ∧ W (i + 1) m' σ' H') ∧ ∀ x H', J.yld i H x H' → g x σ H' fun σ2 H2 => tb { D with nx := N, ct := N, bk := D.nx } σ2 H2)
/-- the records at fp as they stand -/
noncomputable def pinsAt (fp : List Addr) (h : Heap) : List (Addr × Obj) := fp.filterMap fun b => (h.get? b).map fun o => (b, o)
theorem mem_pinsAt {fp : List Addr} {h : Heap} {b : Addr} {o : Obj} (hb : b ∈ fp) (e : h.get? b = some o) : (b, o) ∈ pinsAt fp h := List.mem_filterMap.mpr ⟨b, hb, by rw [e]; rfl⟩
theorem of_pinsAt {fp : List Addr} {h : Heap} {p : Addr × Obj} (hp : p ∈ pinsAt fp h) : p.1 ∈ fp ∧ h.get? p.1 = some p.2 := by
  obtain ⟨b, hb, e⟩ := List.mem_filterMap.mp hp
  cases q : h.get? b with
  | none => rw [q] at e; cases e
  | some o =>
    rw [q] at e
    have e' : (b, o) = p := Option.some.inj e
    subst e'
    exact ⟨hb, q⟩
theorem Inv.pinned {pins : List (Addr × Obj)} {σ : St} {H : Hp} {s : Shared} {fp : List Addr} (I : Inv X pins σ H s) (hf : ∀ b ∈ fp, FpOk X pins H b) (ho : ∀ b ∈ fp, ∃ o, s.heap.get? b = some o ∧ ∀ v, o.data ≠ .cell v) : Inv X (pins ++ pinsAt fp s.heap) σ H s :=
  I.pins_of fun p hp => (List.mem_append.mp hp).elim (fun z => I.pin p (List.mem_append_right _ z)) fun z => by
    obtain ⟨hb, e⟩ := of_pinsAt z
    obtain ⟨f0, f1, f2, _⟩ := hf p.1 hb
    obtain ⟨o, e', d⟩ := ho p.1 hb
    rw [e] at e'; cases e'
    exact ⟨e, f0, f1, f2, d⟩
theorem Inv.unpinned {pins pl : List (Addr × Obj)} {σ : St} {H : Hp} {s : Shared} (I : Inv X (pins ++ pl) σ H s) : Inv X pins σ H s := I.pins_of fun p hp => I.pin p (List.mem_append_right _ (List.mem_append_left _ hp))
theorem ps_for {iter : Expr} {body : List Stmt} {wi : TI} {g : TG} {tb : TS} {pos : Pos} (hp : PassesOwn (model X.prog X.w) X.A X.env X.xe) (hc : X.calm = true) (hi : PI X tg iter wi) (hg : PG X tg g) (hb : PSs X body tb)
    (hs : ∀ x, foldedSetIterable iter X.env x = pure x := by intro _; rfl) : PS X (.For tg iter body [] pos) (tFor wi g tb) := by
  intro pins s σ H D I h
  refine wpAny_For (thn (hi pins s σ H _ I h) fun v s1 h1 => thn h1 fun itv s2 h2 => ?_) hs
  obtain ⟨it, fp, tn, J, H2, e, I2, T, st2, f2, W, ⟨m0, w0⟩, turn⟩ := h2
  subst e
  -- what stays true of the iterator's objects through the loop
  have stat : ∀ {H' : Hp}, (∀ b ∈ fp, H' b = none) → ∀ b ∈ fp, FpOk X pins H' b := fun hn b hb => ⟨hn b hb, (f2 b hb).2⟩
  refine codeAny_forLoop_any (fun n s' => ∃ i σ' H', Inv X pins σ' H' s' ∧ tn i s'.heap ∧ (∀ b ∈ fp, H' b = none) ∧ W i n σ' H') ?_ m0 ⟨0, σ, H2, I2, st2, fun b hb => (f2 b hb).1, w0⟩
  rintro n s3 ⟨i, σ3, H3, I3, st3, fr3, w3⟩
  rcases turn i n σ3 H3 w3 with ⟨stop, qn⟩ | ⟨go, N, hN, step⟩
  · refine wpAny_passesOwn hp (thn (T.done X rfl rfl rfl hc i pins s3 σ3 H3 X.xe I3 (stat fr3) st3 stop) fun r s4 ⟨hr, I4⟩ => ?_)
    subst hr
    exact wpAny_execs_nil ⟨σ3, H3, I4, qn⟩
  · refine wpAny_passesOwn hp (thn (T.item X rfl rfl rfl hc i pins s3 σ3 H3 X.xe I3 (stat fr3) st3 go) fun r s4 ⟨u, hr, h4⟩ => ?_)
    subst hr
    refine wpAny_passesOwn hp (thn h4 fun _ s5 ⟨x, H5, I5, r5, y5, st5, fr5⟩ => ?_)
    have I5' := I5.pinned (stat fr5) (T.obj _ _ st5)
    refine wpAny_passesOwn hp (thn (hg _ s5 σ3 H5 x u _ I5' r5 (step x H5 y5)) fun _ s6 ⟨σ6, H6, I6, q6⟩ => ?_)
    refine wpAny_passesOwn hp (thn (hb _ s6 σ6 H6 _ I6 q6) fun f s7 q7 => ?_)
    have again : ∀ {σ7 : St} {H7 : Hp}, Inv X (pins ++ pinsAt fp s5.heap) σ7 H7 s7 → N σ7 H7 → ∃ m, m < n ∧ ∃ i σ' H', Inv X pins σ' H' s7 ∧ tn i s7.heap ∧ (∀ b ∈ fp, H' b = none) ∧ W i m σ' H' := fun {σ7 H7} I7 n7 => by
      obtain ⟨m', hm, w7⟩ := hN σ7 H7 n7
      refine ⟨m', hm, i + 1, σ7, H7, I7.unpinned, T.keep _ _ _ st5 fun b hb o e => (I7.pin (b, o) (List.mem_append_right _ (List.mem_append_right _ (mem_pinsAt hb e)))).1, fun b hb => ?_, w7⟩
      obtain ⟨o, e, d⟩ := T.obj _ _ st5 b hb
      exact (I7.pin (b, o) (List.mem_append_right _ (List.mem_append_right _ (mem_pinsAt hb e)))).2.1
    cases f with
    | next => obtain ⟨σ7, H7, I7, n7⟩ := q7; exact again I7 n7
    | cont => obtain ⟨σ7, H7, I7, n7⟩ := q7; exact again I7 n7
    | brk => obtain ⟨σ7, H7, I7, q7⟩ := q7; exact ⟨σ7, H7, I7.unpinned, q7⟩
    | ret v => obtain ⟨x7, σ7, H7, I7, r7, q7⟩ := q7; exact ⟨x7, σ7, H7, I7.unpinned, r7, q7⟩
end

/-! ### the forms one uses -/
/-- over a list that the body leaves as it is -/
theorem for_list {K : PySem.W.Frag} {a : Addr} {xs : List V} {g : TG} {tb : TS} {D : Ends} {σ : St} {H : Hp} (Pv : Nat → St → Hp → Prop) (h0 : Pv 0 σ H) (hl : ∀ i σ H, i ≤ xs.length → Pv i σ H → SqL K H a xs)
    (hs : ∀ i x σ H, xs[i]? = some x → Pv i σ H → g x σ H fun σ2 H2 => tb { D with nx := Pv (i + 1), ct := Pv (i + 1), bk := D.nx } σ2 H2) (hd : ∀ σ H, Pv xs.length σ H → D.nx σ H) :
    ∃ W : Nat → Nat → St → Hp → Prop, (∃ m, W 0 m σ H) ∧ ∀ i m σ H, W i m σ H →
      ((Itl K a).stop i H ∧ D.nx σ H) ∨ ((Itl K a).go i H ∧ ∃ N : St → Hp → Prop, (∀ σ' H', N σ' H' → ∃ m', m' < m ∧ W (i + 1) m' σ' H') ∧ ∀ x H', (Itl K a).yld i H x H' → g x σ H' fun σ2 H2 => tb { D with nx := N, ct := N, bk := D.nx } σ2 H2) := by
  refine ⟨fun i m σ H => m = xs.length - i ∧ i ≤ xs.length ∧ Pv i σ H, ⟨xs.length, by simp, Nat.zero_le _, h0⟩, ?_⟩
  rintro i m σ H ⟨rfl, hi, p⟩
  have q := hl i σ H hi p
  by_cases hlt : i < xs.length
  · refine .inr ⟨⟨xs, xs[i], q, by simp [hlt]⟩, Pv (i + 1), fun σ' H' p' => ⟨xs.length - (i + 1), by omega, rfl, hlt, p'⟩, fun x H' y => ?_⟩
    obtain ⟨e, y⟩ := y
    subst e
    exact hs i x σ _ (y xs q) p
  · have e : i = xs.length := by omega
    subst e
    exact .inl ⟨⟨xs, q, Nat.le_refl _⟩, hd σ H p⟩
theorem for_range {lo : Int} {n : Nat} {g : TG} {tb : TS} {D : Ends} {σ : St} {H : Hp} (Pv : Nat → St → Hp → Prop) (h0 : Pv 0 σ H)
    (hs : ∀ i σ H, i < n → Pv i σ H → g (.int (lo + i)) σ H fun σ2 H2 => tb { D with nx := Pv (i + 1), ct := Pv (i + 1), bk := D.nx } σ2 H2) (hd : ∀ σ H, Pv n σ H → D.nx σ H) :
    ∃ W : Nat → Nat → St → Hp → Prop, (∃ m, W 0 m σ H) ∧ ∀ i m σ H, W i m σ H →
      ((Itr lo n).stop i H ∧ D.nx σ H) ∨ ((Itr lo n).go i H ∧ ∃ N : St → Hp → Prop, (∀ σ' H', N σ' H' → ∃ m', m' < m ∧ W (i + 1) m' σ' H') ∧ ∀ x H', (Itr lo n).yld i H x H' → g x σ H' fun σ2 H2 => tb { D with nx := N, ct := N, bk := D.nx } σ2 H2) := by
  refine ⟨fun i m σ H => m = n - i ∧ i ≤ n ∧ Pv i σ H, ⟨n, by simp, Nat.zero_le _, h0⟩, ?_⟩
  rintro i m σ H ⟨rfl, hi, p⟩
  by_cases hlt : i < n
  · refine .inr ⟨hlt, Pv (i + 1), fun σ' H' p' => ⟨n - (i + 1), by omega, rfl, hlt, p'⟩, fun x H' y => ?_⟩
    obtain ⟨e, y⟩ := y
    subst e y
    exact hs i σ _ hlt p
  · have e : i = n := by omega
    subst e
    exact .inl ⟨Nat.le_refl _, hd σ H p⟩
end L2

namespace L2
open PySem PySem.Spec PyProof.Rows

noncomputable abbrev R2 := V → V → Hp → VK → Prop
/-- a two-place operation on values: f is binaryOp op, inplaceOp op or compareOp op -/
noncomputable def OpR (X : Cx) (f : Value → Value → Sem Value) (r : R2) : Prop :=
  ∀ (pins : List (Addr × Obj)) (s : Shared) (σ : St) (H : Hp) (x y : V) (v u : Value) (Q : VK), Inv X pins σ H s → RelV x v → RelV y u → r x y H Q →
    wpAny (model X.prog X.w) X.A (f v u) (EP X pins σ Q) X.xe s
/-- a one-place operation -/
noncomputable def UnR (X : Cx) (f : Value → Sem Value) (r : V → Hp → VK → Prop) : Prop :=
  ∀ (pins : List (Addr × Obj)) (s : Shared) (σ : St) (H : Hp) (x : V) (v : Value) (Q : VK), Inv X pins σ H s → RelV x v → r x H Q →
    wpAny (model X.prog X.w) X.A (f v) (EP X pins σ Q) X.xe s
/-- a call of a value that is known (a builtin, a type) with values -/
noncomputable def CallR (X : Cx) (f : Value) (r : List V → Hp → VK → Prop) : Prop :=
  ∀ (pins : List (Addr × Obj)) (s : Shared) (σ : St) (H : Hp) (xs : List V) (us : List Value) (Q : VK), Inv X pins σ H s → Vals xs us → r xs H Q →
    wpAny (model X.prog X.w) X.A (call f us) (EP X pins σ Q) X.xe s
noncomputable def tOp (r : R2) (ta tb : TE) : TE := fun σ H Q => ta σ H fun x H1 => tb σ H1 fun y H2 => r x y H2 Q
noncomputable def tUn (r : V → Hp → VK → Prop) (ta : TE) : TE := fun σ H Q => ta σ H fun x H1 => r x H1 Q
/-- ints in, under C, and a value out -/
noncomputable def rI (C : Int → Int → Prop) (g : Int → Int → V) : R2 := fun x y H Q => ∃ i j, x = .int i ∧ y = .int j ∧ C i j ∧ Q (g i j) H
noncomputable def rI0 (g : Int → Int → V) : R2 := fun x y H Q => ∃ i j, x = .int i ∧ y = .int j ∧ Q (g i j) H
noncomputable def rU (g : Int → V) : V → Hp → VK → Prop := fun x H Q => ∃ i, x = .int i ∧ Q (g i) H

section
variable {X : Cx} {a b c : Expr} {ta tb tc : TE} {pos : Pos}

theorem binT (ha : PE X a ta) (hb : PE X b tb) {pins : List (Addr × Obj)} {s : Shared} {σ : St} {H : Hp} {R : V → V → Hp → Prop} (I : Inv X pins σ H s)
    (h : ta σ H fun x H1 => tb σ H1 fun y H2 => R x y H2) {Q : Value → Shared → Prop} {f : Value → Value → Sem Value}
    (hf : ∀ v u s2 x y H2, Inv X pins σ H2 s2 → RelV x v → RelV y u → R x y H2 → wpAny (model X.prog X.w) X.A (f v u) Q X.xe s2) :
    wpAny (model X.prog X.w) X.A (eval a X.env) (fun v s₁ => wpAny (model X.prog X.w) X.A (eval b X.env) (fun u s₂ => wpAny (model X.prog X.w) X.A (f v u) Q X.xe s₂) X.xe s₁) X.xe s := by
  refine thn (ha pins s σ H _ I h) fun v s1 ⟨x, H1, I1, r1, q1⟩ => ?_
  refine thn (hb pins s1 σ H1 _ I1 q1) fun u s2 ⟨y, H2, I2, r2, q2⟩ => ?_
  exact hf v u s2 x y H2 I2 r1 r2 q2

theorem pe_op {op : Operator} {r : R2} (ho : OpR X (binaryOp op) r) (ha : PE X a ta) (hb : PE X b tb) : PE X (.BinOp a op b pos) (tOp r ta tb) := by
  intro pins s σ H Q I h
  exact wpAny_BinOp (binT ha hb I h fun v u s2 x y H2 I2 rx ry q => ho pins s2 σ H2 x y v u Q I2 rx ry q)
theorem pe_un {op : UnaryOp} {r : V → Hp → VK → Prop} (ho : UnR X (unaryOp op) r) (ha : PE X a ta) : PE X (.UnaryOp op a pos) (tUn r ta) := by
  intro pins s σ H Q I h
  exact UnaryOp_ (thn (ha pins s σ H _ I h) fun v s1 ⟨x, H1, I1, r1, q1⟩ => ho pins s1 σ H1 x v Q I1 r1 q1)
/-! ### ints -/
theorem opI {f : Value → Value → Sem Value} {C : Int → Int → Prop} {g : Int → Int → Int}
    (rule : ∀ (i j : Int) (t u : Tok) (s : Shared) (Q : Value → Shared → Prop) (E : Value → Shared → Prop), C i j → Q (.int (g i j) s.toks) { s with toks := s.toks + 1 } → wpAny (model X.prog X.w) X.A (f (.int i t) (.int j u)) Q E s) :
    OpR X f (rI C fun i j => .int (g i j)) := by
  intro pins s σ H x y v u Q I rx ry h
  obtain ⟨i, j, rfl, rfl, hc, q⟩ := h
  obtain ⟨t, rfl⟩ := rx
  obtain ⟨t', rfl⟩ := ry
  exact rule i j t t' s _ _ hc ⟨.int (g i j), H, I.tok _, ⟨_, rfl⟩, q⟩
theorem opI0 {f : Value → Value → Sem Value} {g : Int → Int → Int}
    (rule : ∀ (i j : Int) (t u : Tok) (s : Shared) (Q : Value → Shared → Prop) (E : Value → Shared → Prop), Q (.int (g i j) s.toks) { s with toks := s.toks + 1 } → wpAny (model X.prog X.w) X.A (f (.int i t) (.int j u)) Q E s) :
    OpR X f (rI0 fun i j => .int (g i j)) := by
  intro pins s σ H x y v u Q I rx ry h
  obtain ⟨i, j, rfl, rfl, q⟩ := h
  obtain ⟨t, rfl⟩ := rx
  obtain ⟨t', rfl⟩ := ry
  exact rule i j t t' s _ _ ⟨.int (g i j), H, I.tok _, ⟨_, rfl⟩, q⟩
theorem opB0 {f : Value → Value → Sem Value} {g : Int → Int → Bool}
    (rule : ∀ (i j : Int) (t u : Tok) (s : Shared) (Q : Value → Shared → Prop) (E : Value → Shared → Prop), Q (.bool (g i j)) s → wpAny (model X.prog X.w) X.A (f (.int i t) (.int j u)) Q E s) :
    OpR X f (rI0 fun i j => .bl (g i j)) := by
  intro pins s σ H x y v u Q I rx ry h
  obtain ⟨i, j, rfl, rfl, q⟩ := h
  obtain ⟨t, rfl⟩ := rx
  obtain ⟨t', rfl⟩ := ry
  exact rule i j t t' s _ _ ⟨.bl (g i j), H, I, rfl, q⟩

noncomputable def CDiv (i j : Int) : Prop := 0 < j ∧ j < 1073741824
noncomputable def CMul (i j : Int) : Prop := (-(2 ^ 64) < i ∧ i < 2 ^ 64) ∨ (-(2 ^ 64) < j ∧ j < 2 ^ 64)
theorem CMul.ok {i j : Int} (h : CMul i j) : IntMulOk i j := by
  rcases h with ⟨h1, h2⟩ | ⟨h1, h2⟩
  · exact .of_left (intBits_le_64 h1 h2)
  · exact .of_right (intBits_le_64 h1 h2)
theorem op_add : OpR X (binaryOp .Add) (rI0 fun i j => .int (i + j)) := opI0 fun _ _ _ _ _ _ _ q => add_int q
theorem op_mul : OpR X (binaryOp .Mult) (rI CMul fun i j => .int (i * j)) := opI fun _ _ _ _ _ _ _ hc q => mul_int q hc.ok
/-- // by a positive divisor -/
theorem op_fdiv : OpR X (binaryOp .FloorDiv) (rI CDiv fun i j => .int (i / j)) := opI fun i j _ _ _ _ _ hc q => by
  have h1 : (0 : Int) < j := hc.1
  have h2 : j < 1073741824 := hc.2
  exact floordiv_int (by omega) (by rw [Int.fdiv_eq_ediv_of_nonneg i (by omega)]; exact q) (.inl (PyProof.noPylong_small (by omega)))
/-- % by a positive divisor of any size -/
theorem op_mod : OpR X (binaryOp .Mod) (rI (fun _ j => 0 < j) fun i j => .int (i % j)) := opI fun i j _ _ _ _ _ hc q => by
  have h1 : (0 : Int) < j := hc
  exact mod_int' (by omega) (by rw [Int.fmod_eq_emod_of_nonneg i (by omega)]; exact q)
theorem unI {f : Value → Sem Value} {g : Int → Int}
    (rule : ∀ (i : Int) (t : Tok) (s : Shared) (Q : Value → Shared → Prop) (E : Value → Shared → Prop), Q (.int (g i) s.toks) { s with toks := s.toks + 1 } → wpAny (model X.prog X.w) X.A (f (.int i t)) Q E s) :
    UnR X f (rU fun i => .int (g i)) := by
  intro pins s σ H x v Q I rx h
  obtain ⟨i, rfl, q⟩ := h
  obtain ⟨t, rfl⟩ := rx
  exact rule i t s _ _ ⟨.int (g i), H, I.tok _, ⟨_, rfl⟩, q⟩
theorem un_neg : UnR X (unaryOp .USub) (rU fun i => .int (-i)) := unI fun _ _ _ _ _ q => neg_int q
end

/-! ### comparisons -/
/-- the scalars that == tells apart as data does -/
noncomputable def scal : V → V → Bool
  | .non, .non => true | .non, .int _ => true | .int _, .non => true | .non, .bl _ => true | .bl _, .non => true | .non, .str _ => true | .str _, .non => true
  | .int _, .int _ => true | .bl _, .bl _ => true | .str _, .str _ => true | .byt _, .byt _ => true
  | .int _, .str _ => true | .str _, .int _ => true | .bl _, .str _ => true | .str _, .bl _ => true
  | _, _ => false
noncomputable def rEq : R2 := fun x y H Q => scal x y = true ∧ Q (.bl (decide (x = y))) H
noncomputable def rNe : R2 := fun x y H Q => scal x y = true ∧ Q (.bl (!decide (x = y))) H

theorem dec_int {i j : Int} : decide (V.int i = V.int j) = (i == j) := by
  rw [Bool.eq_iff_iff]
  simp
theorem dec_bl {i j : Bool} : decide (V.bl i = V.bl j) = (i == j) := by
  rw [Bool.eq_iff_iff]
  simp
theorem dec_str {i j : Str} : decide (V.str i = V.str j) = (i == j) := by
  rw [Bool.eq_iff_iff]
  simp
theorem dec_byt {i j : Array UInt8} : decide (V.byt i = V.byt j) = (i.toList == j.toList) := by
  rw [Bool.eq_iff_iff]
  cases i
  cases j
  simp

section
variable {X : Cx} {a b c : Expr} {ta tb tc : TE} {pos : Pos}
theorem fin_bl {pins : List (Addr × Obj)} {σ : St} {H : Hp} {s : Shared} {Q : VK} {k k' : Bool} (I : Inv X pins σ H s) (q : Q (.bl k) H) (e : k = k') : EP X pins σ Q (.bool k') s := by
  subst e
  exact ⟨.bl k, H, I, rfl, q⟩
theorem op_eq : OpR X (compareOp .Eq) rEq := by
  intro pins s σ H x y v u Q I rx ry h
  obtain ⟨hs, q⟩ := h
  cases x with
  | non =>
    cases rx
    cases y with
    | non => cases ry; exact PySem.EqNone.eq_none_none (fin_bl I q (by simp))
    | bl j => cases ry; exact PySem.EqNone.eq_none_bool (fin_bl I q (by simp))
    | int j => obtain ⟨t', rfl⟩ := ry; exact PySem.EqNone.eq_none_int (fin_bl I q (by simp))
    | str j => obtain ⟨t', rfl⟩ := ry; exact PySem.EqNone.eq_none_str (fin_bl I q (by simp))
    | _ => exact absurd (show false = true from hs) Bool.false_ne_true
  | bl i =>
    cases rx
    cases y with
    | non => cases ry; exact PySem.EqNone.eq_bool_none (fin_bl I q (by simp))
    | bl j => cases ry; exact eq_bool (fin_bl I q dec_bl)
    | str j => obtain ⟨t', rfl⟩ := ry; exact PySem.EqMixed.eq_bool_str (fin_bl I q (by simp))
    | _ => exact absurd (show false = true from hs) Bool.false_ne_true
  | int i =>
    obtain ⟨t, rfl⟩ := rx
    cases y with
    | non => cases ry; exact PySem.EqNone.eq_int_none (fin_bl I q (by simp))
    | int j => obtain ⟨t', rfl⟩ := ry; exact eq_int (fin_bl I q dec_int)
    | str j => obtain ⟨t', rfl⟩ := ry; exact PySem.EqMixed.eq_int_str (fin_bl I q (by simp))
    | _ => exact absurd (show false = true from hs) Bool.false_ne_true
  | str i =>
    obtain ⟨t, rfl⟩ := rx
    cases y with
    | non => cases ry; exact PySem.EqNone.eq_str_none (fin_bl I q (by simp))
    | bl j => cases ry; exact PySem.EqMixed.eq_str_bool (fin_bl I q (by simp))
    | int j => obtain ⟨t', rfl⟩ := ry; exact PySem.EqMixed.eq_str_int (fin_bl I q (by simp))
    | str j => obtain ⟨t', rfl⟩ := ry; exact eq_str (fin_bl I q dec_str)
    | _ => exact absurd (show false = true from hs) Bool.false_ne_true
  | byt i =>
    obtain ⟨t, rfl⟩ := rx
    cases y with
    | byt j => obtain ⟨t', rfl⟩ := ry; exact PySem.W.eq_bytes (fin_bl I q dec_byt)
    | _ => exact absurd (show false = true from hs) Bool.false_ne_true
  | _ => cases y <;> exact absurd (show false = true from hs) Bool.false_ne_true
theorem op_ne : OpR X (compareOp .NotEq) rNe := by
  intro pins s σ H x y v u Q I rx ry h
  obtain ⟨hs, q⟩ := h
  cases x with
  | non =>
    cases rx
    cases y with
    | non => cases ry; exact PySem.EqNone.ne_none_none (fin_bl I q (by simp))
    | bl j => cases ry; exact PySem.EqNone.ne_none_bool (fin_bl I q (by simp))
    | int j => obtain ⟨t', rfl⟩ := ry; exact PySem.EqNone.ne_none_int (fin_bl I q (by simp))
    | str j => obtain ⟨t', rfl⟩ := ry; exact PySem.EqNone.ne_none_str (fin_bl I q (by simp))
    | _ => exact absurd (show false = true from hs) Bool.false_ne_true
  | bl i =>
    cases rx
    cases y with
    | non => cases ry; exact PySem.EqNone.ne_bool_none (fin_bl I q (by simp))
    | bl j => cases ry; exact ne_bool (fin_bl I q (congrArg not dec_bl))
    | str j => obtain ⟨t', rfl⟩ := ry; exact PySem.EqMixed.ne_bool_str (fin_bl I q (by simp))
    | _ => exact absurd (show false = true from hs) Bool.false_ne_true
  | int i =>
    obtain ⟨t, rfl⟩ := rx
    cases y with
    | non => cases ry; exact PySem.EqNone.ne_int_none (fin_bl I q (by simp))
    | int j => obtain ⟨t', rfl⟩ := ry; exact ne_int (fin_bl I q (congrArg not dec_int))
    | str j => obtain ⟨t', rfl⟩ := ry; exact PySem.EqMixed.ne_int_str (fin_bl I q (by simp))
    | _ => exact absurd (show false = true from hs) Bool.false_ne_true
  | str i =>
    obtain ⟨t, rfl⟩ := rx
    cases y with
    | non => cases ry; exact PySem.EqNone.ne_str_none (fin_bl I q (by simp))
    | bl j => cases ry; exact PySem.EqMixed.ne_str_bool (fin_bl I q (by simp))
    | int j => obtain ⟨t', rfl⟩ := ry; exact PySem.EqMixed.ne_str_int (fin_bl I q (by simp))
    | str j => obtain ⟨t', rfl⟩ := ry; exact ne_str (fin_bl I q (congrArg not dec_str))
    | _ => exact absurd (show false = true from hs) Bool.false_ne_true
  | byt i =>
    obtain ⟨t, rfl⟩ := rx
    cases y with
    | byt j => obtain ⟨t', rfl⟩ := ry; exact PySem.W.ne_bytes (fin_bl I q (congrArg not dec_byt))
    | _ => exact absurd (show false = true from hs) Bool.false_ne_true
  | _ => cases y <;> exact absurd (show false = true from hs) Bool.false_ne_true

theorem op_lt : OpR X (compareOp .Lt) (rI0 fun i j => .bl (decide (i < j))) := opB0 fun _ _ _ _ _ _ _ q => lt_int q
theorem op_gt : OpR X (compareOp .Gt) (rI0 fun i j => .bl (decide (j < i))) := opB0 fun _ _ _ _ _ _ _ q => gt_int q
theorem op_notin_str : OpR X (compareOp .NotIn) (fun x y H Q => ∃ i j, x = .str i ∧ y = .str j ∧ Q (.bl (!(!(Builtin.Str.occurrences j i 0 j.length 1).isEmpty))) H) := by
  intro pins s σ H x y v u Q I rx ry h
  obtain ⟨i, j, rfl, rfl, q⟩ := h
  obtain ⟨t, rfl⟩ := rx
  obtain ⟨t', rfl⟩ := ry
  exact notIn_str (fin_bl I q rfl)
theorem nomark (b : Expr) {op : CmpOp} (h : op ≠ .In := by decide) (h2 : op ≠ .NotIn := by decide) : behindInMarks op b = false := by
  have e1 : (op == CmpOp.In) = false := by cases op <;> first | rfl | exact absurd rfl h
  have e2 : (op == CmpOp.NotIn) = false := by cases op <;> first | rfl | exact absurd rfl h2
  cases b <;> simp [behindInMarks, e1, e2]
/-- a comparison as a value; hm: nomark b, or (for in, not in) by with_unfolding_all rfl -/
theorem pe_cmpR {op : CmpOp} {r : R2} (ho : OpR X (compareOp op) r) (ha : PE X a ta) (hb : PE X b tb) (hm : behindInMarks op b = false) : PE X (.Compare a [op] [b] pos) (tOp r ta tb) := by
  intro pins s σ H Q I h
  exact wpAny_Compare1 (binT ha hb I h fun v u s2 x y H2 I2 rx ry q => ho pins s2 σ H2 x y v u Q I2 rx ry q) hm
/-- a reading of a value as a test -/
noncomputable def tTest (t : TE) : TT := fun σ H Q => t σ H fun x H' => ∃ k, x = .bl k ∧ Q k H'
theorem pt_cmpR {op : CmpOp} {r : R2} (ho : OpR X (compareOp op) r) (ha : PE X a ta) (hb : PE X b tb) (hm : behindInMarks op b = false) : PT X (.Compare a [op] [b] pos) (tTest (tOp r ta tb)) := by
  intro pins s σ H Q I h
  refine wpAny_isTrue_Compare1 (thn (ha pins s σ H _ I h) fun v s1 ⟨x, H1, I1, r1, q1⟩ => thn (hb pins s1 σ H1 _ I1 q1) fun u s2 ⟨y, H2, I2, r2, q2⟩ =>
    thn (ho pins s2 σ H2 x y v u _ I2 r1 r2 q2) fun c s3 ⟨z, H3, I3, r3, k, e, q3⟩ => ?_) hm
  subst e
  cases r3
  exact wpAny_truthy_bool ⟨H3, I3, q3⟩
theorem line63 : (sizeLine : Nat) < 2 ^ 63 := by rw [sizeLine_eq]; decide
theorem op_add_str : OpR X (binaryOp .Add) (fun x y H Q => ∃ i j, x = .str i ∧ y = .str j ∧ i.length + j.length ≤ sizeLine ∧ Q (.str (i ++ j)) H) := by
  intro pins s σ H x y v u Q I rx ry h
  obtain ⟨i, j, rfl, rfl, hz, q⟩ := h
  obtain ⟨t, rfl⟩ := rx
  obtain ⟨t', rfl⟩ := ry
  exact add_str (fun t' tk => ⟨.str (i ++ j), H, I.tok _, ⟨_, rfl⟩, q⟩) hz
/-! ### scalar builtins, by CallR -/
theorem vals1 {x : V} {us : List Value} (r : Vals [x] us) : ∃ u, us = [u] ∧ RelV x u := by
  cases r with
  | cons r1 r2 => cases r2; exact ⟨_, rfl, r1⟩
theorem vals2 {x y : V} {us : List Value} (r : Vals [x, y] us) : ∃ u w', us = [u, w'] ∧ RelV x u ∧ RelV y w' := by
  cases r with
  | cons r1 r2 =>
    cases r2 with
    | cons r3 r4 => cases r4; exact ⟨_, _, rfl, r1, r3⟩
end
end L2

namespace L2
open PySem PySem.Spec PyProof.Rows

/-! ### an instance, its attributes a map -/
structure ObjM (h : Heap) (x dx C : Addr) (mA : Str → Option Value) : Prop where
  obj : h.get? x = some (PySem.W.instObj C dx)
  ns : h.Ns1 dx mA
  ne : dx ≠ x

theorem lookIn_ns {h : Heap} {dx : Addr} {mA : Str → Option Value} (n : h.Ns1 dx mA) : ∃ od, h.get? dx = some od ∧ ∀ name, PySem.W.lookIn name od = some (mA name) := by
  obtain ⟨o, es, ep, ho, hd, hk, _, hm⟩ := n
  refine ⟨o, ho, fun name => ?_⟩
  have e := hm name
  unfold nsFind findBy at e
  rw [← Array.find?_toList] at e
  unfold PySem.W.lookIn
  rw [hd]
  dsimp only
  split
  · rename_i y q
    rw [q] at e
    exact congrArg some e
  · rename_i q
    rw [q] at e
    have a : es.toList.any (·.refKey) = false := by
      rw [List.any_eq_false]
      intro y hy
      obtain ⟨z, t, hkey⟩ := hk y (Array.mem_toList_iff.mp hy)
      simp [DictEntry.refKey, hkey]
    have a' : ¬ es.toList.any (·.refKey) = true := by rw [a]; exact Bool.false_ne_true
    rw [if_neg a']
    exact congrArg some e

theorem ObjM.look {h : Heap} {x dx C : Addr} {mA : Str → Option Value} (I : ObjM h x dx C mA) : ∃ od, PySem.W.InstAt h x (PySem.W.instObj C dx) C (some od) ∧ ∀ name, PySem.W.lookIn name od = some (mA name) :=
  let ⟨od, ho, hl⟩ := lookIn_ns I.ns
  ⟨od, ⟨I.obj, rfl, rfl, ho⟩, hl⟩

section
variable {prog : Program} {w : World} {A : Around} {E : Value → Shared → Prop} {s : Shared} {K : PySem.W.Frag} {x dx C f : Addr} {mA : Str → Option Value} {name : Str} {v : Value}

theorem get_map {expr : Bool} {Q : Value → Shared → Prop} (X : K.In s.heap) (I : ObjM s.heap x dx C mA) (hg : PySem.W.plainGet K C name = true) (hh : PySem.W.hasDictIn K C = true)
    (ha : PySem.W.findIn K (.ref C) name = some none) (hv : mA name = some v) (hv' : PySem.W.handedIn v = true) (h : Q v { s with toks := s.toks + 1 }) :
    wpAny (model prog w) A (getAttr (.ref x) name expr) Q E s := by
  obtain ⟨od, J, hl⟩ := I.look
  exact PySem.W.get_value X J (PySem.W.plainGet_of hg).1 (PySem.W.findObj_own hh ha rfl (by rw [hl, hv])) hv' h

theorem set_map {ns : List Str} {Q : Unit → Shared → Prop} (X : K.In s.heap) (I : ObjM s.heap x dx C mA)
    (hs : PySem.W.findIn K (.ref C) "__setattr__" = some (some (.builtin "object.__setattr__"))) (hp : PySem.W.plainOver K C = true) (ht : PySem.W.takerIn K C name = some none) (hh : PySem.W.hasDictIn K C = true)
    (hw : PySem.Within mA ns) (hsz : ns.length ≤ sizeLine)
    (h : ∀ h', ObjM h' x dx C (fun y => if y = name then some v else mA y) → Heap.SameBut dx s.heap h' → Q () { s with heap := h', toks := s.toks + 2 }) :
    wpAny (model prog w) A (setAttr (.ref x) name v) Q E s := by
  obtain ⟨od, J, hl⟩ := I.look
  refine PySem.W.set_plain X J hs (PySem.W.osa_open (s := { s with toks := s.toks + 1 }) (r := none) X J hp ht fun b => ?_)
  obtain ⟨cd, hc, hd'⟩ := PySem.W.any_some hh
  have hx : s.heap.get? x = some ⟨.ref C, some dx, .plain, #[]⟩ := I.obj
  refine wpAny_bind (wpAny_pure (wpAny_bind (wpAny_bind (wpAny_loadPart hx (wpAny_bind (PySem.W.Looks.here (s := { s with toks := s.toks + 1 }) (PySem.W.looks_clsIn X hc) ?_))))))
  rw [hd']
  refine wpAny_pure (a := some dx) (wpAny_bind (wpAny_pure (wpAny_bind ?_)))
  refine wpAny_nsSet1 (s := { s with toks := s.toks + 1 }) I.ns fun h' hn2 hs2 => ?_
  obtain ⟨oD, esD, epD, hoD, hdD, hcD⟩ := hn2.count (PySem.Within.cons name v hw)
  refine wpAny_bind (wpAny_lookBehind hoD (by rw [hdD]; exact pastItsLine_dict (Nat.le_trans hcD (by rw [List.length_cons]; omega))) ?_)
  exact wpAny_pure (h _ ⟨(hs2.2 _ (Ne.symm I.ne)).trans I.obj, hn2, I.ne⟩ hs2)

/-- C(..): the dict at the heap's end, the instance behind it; then its __init__ -/
theorem make_map {R : Result → Shared → Prop} {vs : List Value} {kw : List (Str × Value)} (X : K.In s.heap) (hm : PySem.W.makesIn K C = true)
    (hi : PySem.W.findIn K (.ref C) "__init__" = some (some (.ref f))) (hf : PySem.W.typeIn K (.ref f) = some (.type "function"))
    (h : codeAny (model prog w) (A.under (.builtin "type.__call__" ⟨.ref C :: vs, kw⟩)) (.call (.ref f) ⟨.ref (s.heap.objs.size + 1) :: vs, kw⟩) (PySem.W.InitBack (s.heap.objs.size + 1) R)
      { s with heap := (s.heap.push PySem.W.emptyDict).push (PySem.W.instObj C s.heap.objs.size) }) :
    codeAny (model prog w) A (.call (.ref C) ⟨vs, kw⟩) R s := by
  obtain ⟨hh, g, d, t, os⟩ := s
  exact PySem.W.make_core (PySem.W.makes_of X hm) (PySem.W.looks_findIn X hi) (fun self => PySem.W.bind_fn X self hf) (.inl rfl) h
end

/-! ### the attributes as a list of pairs -/
noncomputable def putF (f : Str) (v : V) : List (Str × V) → List (Str × V)
  | [] => [(f, v)]
  | (g, x) :: r => if g = f then (g, v) :: r else (g, x) :: putF f v r
theorem lookup_putF (f g : Str) (v : V) : ∀ fs : List (Str × V), (putF f v fs).lookup g = if g = f then some v else fs.lookup g
  | [] => by
    show List.lookup g [(f, v)] = _
    by_cases h : g = f
    · have hb : (g == f) = true := beq_iff_eq.mpr h
      simp only [List.lookup, hb, if_pos h]
    · have hb : (g == f) = false := beq_eq_false_iff_ne.mpr h
      simp only [List.lookup, hb, if_neg h]
  | (k, x) :: r => by
    have ih := lookup_putF f g v r
    rw [show putF f v ((k, x) :: r) = (if k = f then (k, v) :: r else (k, x) :: putF f v r) from rfl]
    by_cases hk : k = f
    · rw [if_pos hk]
      by_cases h : g = k
      · have hb : (g == k) = true := beq_iff_eq.mpr h
        simp only [List.lookup, hb, if_pos (h.trans hk)]
      · have hb : (g == k) = false := beq_eq_false_iff_ne.mpr h
        simp only [List.lookup, hb, if_neg (fun e : g = f => h (e.trans hk.symm))]
    · rw [if_neg hk]
      by_cases h : g = k
      · have hb : (g == k) = true := beq_iff_eq.mpr h
        simp only [List.lookup, hb, if_neg (fun e : g = f => hk (h.symm.trans e))]
      · have hb : (g == k) = false := beq_eq_false_iff_ne.mpr h
        simp only [List.lookup, hb]
        exact ih
theorem keys_putF (f : Str) (v : V) : ∀ fs : List (Str × V), f ∈ (putF f v fs).map (·.1) ∧ ∀ g, g ∈ fs.map (·.1) → g ∈ (putF f v fs).map (·.1)
  | [] => ⟨by simp [putF], fun g h => by simp at h⟩
  | (k, x) :: r => by
    obtain ⟨i1, i2⟩ := keys_putF f v r
    rw [show putF f v ((k, x) :: r) = (if k = f then (k, v) :: r else (k, x) :: putF f v r) from rfl]
    by_cases hk : k = f
    · rw [if_pos hk]
      subst hk
      exact ⟨by simp, fun g h => by simpa using h⟩
    · rw [if_neg hk]
      refine ⟨?_, fun g h => ?_⟩
      · rw [List.map_cons]
        exact List.mem_cons_of_mem _ i1
      · rw [List.map_cons] at h ⊢
        rcases List.mem_cons.mp h with e | e
        · exact List.mem_cons.mpr (.inl e)
        · exact List.mem_cons_of_mem _ (i2 g e)
theorem length_putF (f : Str) (v : V) : ∀ fs : List (Str × V), (putF f v fs).length ≤ fs.length + 1
  | [] => by simp [putF]
  | (k, x) :: r => by
    have ih := length_putF f v r
    rw [show putF f v ((k, x) :: r) = (if k = f then (k, v) :: r else (k, x) :: putF f v r) from rfl]
    by_cases hk : k = f
    · rw [if_pos hk, List.length_cons, List.length_cons]; omega
    · rw [if_neg hk, List.length_cons, List.length_cons]; omega

theorem RelO.some_of {v : V} {o : Option Value} (r : RelO (some v) o) : ∃ u, o = some u ∧ RelV v u := by
  cases o with
  | none => exact (show False from r).elim
  | some u => exact ⟨u, rfl, r⟩
theorem handed_of {v : V} {u : Value} (r : RelV v u) : PySem.W.handedIn u = true := by
  cases v with
  | non => cases (show u = Value.none from r); rfl
  | bl b => cases (show u = Value.bool b from r); rfl
  | int i => obtain ⟨t, e⟩ := (show ∃ t, u = Value.int i t from r); cases e; rfl
  | str x => obtain ⟨t, e⟩ := (show ∃ t, u = Value.str x t from r); cases e; rfl
  | byt b => obtain ⟨t, e⟩ := (show ∃ t, u = Value.bytes b t from r); cases e; rfl
  | flt b => obtain ⟨t, e⟩ := (show ∃ t, u = Value.float b t from r); cases e; rfl
  | ref a => cases (show u = Value.ref a from r); rfl
  | ty n => cases (show u = Value.type n from r); rfl

section
variable {P : Program} {w : World} {H H' : Hp} {h h' : Heap} {a C dx : Addr} {fs fs' : List (Str × V)}
theorem ins_get (hok : HOk P w H h) (e : H a = some (.ins C dx fs)) : ∃ mA, ObjM h a dx C mA ∧ (∀ f, RelO (fs.lookup f) (mA f)) ∧ PySem.Within mA (fs.map (·.1)) ∧ fs.length ≤ 1000 ∧ H dx = some (.own a) := by
  obtain ⟨d, z, ne, ob, mA, n, r, q⟩ := (show ObjOk P w H h a (.ins C dx fs) from hok a _ e)
  exact ⟨mA, ⟨ob, n, ne⟩, r, q, z, d⟩
end

/-! ### what of the text a class must have -/
structure Cls (K : PySem.W.Frag) (C : Addr) : Prop where
  pg : PySem.W.plainGet K C Str.empty = true
  hd : PySem.W.hasDictIn K C = true
  po : PySem.W.plainOver K C = true
  sa : PySem.W.findIn K (.ref C) "__setattr__" = some (some (.builtin "object.__setattr__"))
theorem Cls.get {K : PySem.W.Frag} {C : Addr} (c : Cls K C) (f : Str) : PySem.W.plainGet K C f = true := c.pg
/-- no class of it has the name -/
noncomputable def NoAttr (K : PySem.W.Frag) (C : Addr) (f : Str) : Prop := PySem.W.findIn K (.ref C) f = some none
theorem NoAttr.taker {K : PySem.W.Frag} {C : Addr} {f : Str} (n : NoAttr K C f) : PySem.W.takerIn K C f = some none := by
  unfold PySem.W.takerIn
  rw [show PySem.W.findIn K (.ref C) f = some none from n]
  rfl
section
variable {X : Cx} {pins : List (Addr × Obj)} {σ : St} {H : Hp} {s : Shared} {a C dx : Addr} {fs : List (Str × V)} {f : Str} {v : V} {A : Around} {E : Value → Shared → Prop}

theorem getattr_ok {b : Bool} {Q : Value → Shared → Prop} (I : Inv X pins σ H s) (e : H a = some (.ins C dx fs)) (c : Cls X.K C) (n : NoAttr X.K C f) (l : fs.lookup f = some v)
    (h : ∀ u s', Inv X pins σ H s' → RelV v u → Q u s') : wpAny (model X.prog X.w) A (getAttr (.ref a) f b) Q E s := by
  obtain ⟨mA, O, r, _, _, _⟩ := ins_get I.hok e
  obtain ⟨u, hu, ru⟩ := RelO.some_of (v := v) (o := mA f) (by rw [← l]; exact r f)
  exact get_map I.kIn O (c.get f) c.hd n hu (handed_of ru) (h u _ (I.tok _) ru)

theorem setattr_ok {y : V} {u : Value} {Q : Unit → Shared → Prop} (I : Inv X pins σ H s) (e : H a = some (.ins C dx fs)) (c : Cls X.K C) (n : NoAttr X.K C f) (hl : fs.length < 1000) (ry : RelV y u)
    (h : ∀ s', Inv X pins σ (upd H a (.ins C dx (putF f y fs))) s' → Q () s') : wpAny (model X.prog X.w) A (setAttr (.ref a) f u) Q E s := by
  obtain ⟨mA, O, r, wi, _, ho⟩ := ins_get I.hok e
  have hz : (fs.map (·.1)).length ≤ sizeLine := by rw [List.length_map, sizeLine_eq]; omega
  refine set_map I.kIn O c.sa c.po n.taker c.hd wi hz fun h' O' sb => h _ ?_
  have hd : ∃ o, h'.get? dx = some o := let ⟨o, _, _, e', _⟩ := O'.ns; ⟨o, e'⟩
  refine I.write (x := a) (e := dx) (by rw [e]; exact True.intro) (.inr ho) (fun b q hb z => (sb.2 b hb).trans z) hd ?_
  refine ⟨by rw [upd_ne O.ne]; exact ho, ?_, O.ne, O'.obj, _, O'.ns, fun g => ?_, fun g hg => ?_⟩
  · have := length_putF f y fs; omega
  · show RelO ((putF f y fs).lookup g) (if g = f then some u else mA g)
    rw [lookup_putF]
    by_cases q : g = f
    · rw [if_pos q, if_pos q]; exact ry
    · rw [if_neg q, if_neg q]; exact r g
  · by_cases q : g = f
    · rw [q]; exact (keys_putF f y fs).1
    · refine (keys_putF f y fs).2 g (wi g fun z => hg ?_)
      show (if g = f then some u else mA g) = none
      rw [if_neg q]; exact z

/-- a new instance, tracked, without attributes -/
theorem Inv.made (I : Inv X pins σ H s) : Inv X pins σ (upd (upd H s.heap.objs.size (.own (s.heap.objs.size + 1))) (s.heap.objs.size + 1) (.ins C s.heap.objs.size []))
    { s with heap := (s.heap.push PySem.W.emptyDict).push (PySem.W.instObj C s.heap.objs.size) } := by
  have e1 : (s.heap.push PySem.W.emptyDict).get? s.heap.objs.size = some PySem.W.emptyDict := Heap.get?_push_size s.heap rfl
  have e2 : ((s.heap.push PySem.W.emptyDict).push (PySem.W.instObj C s.heap.objs.size)).get? (s.heap.objs.size + 1) = some (PySem.W.instObj C s.heap.objs.size) := by
    have := Heap.get?_push_size (s.heap.push PySem.W.emptyDict) (o := PySem.W.instObj C s.heap.objs.size) rfl
    rwa [Heap.size_push] at this
  have e3 : (s.heap.push PySem.W.emptyDict).Ns s.heap.objs.size (fun _ => none) := ⟨PySem.W.emptyDict, #[], _, e1, rfl, (fun e he => absurd he (by simp)), fun _ => rfl⟩
  have I1 := I.laid (a := s.heap.objs.size) (o := .own (s.heap.objs.size + 1)) (h' := s.heap.push PySem.W.emptyDict) (t' := s.toks) (fun b u q => Heap.get?_push_of_some _ q) (Nat.le_refl _) ⟨_, e1⟩
  refine I1.laid (a := s.heap.objs.size + 1) (o := .ins C s.heap.objs.size []) (t' := s.toks) (fun b u q => Heap.get?_push_of_some _ q) (Nat.le_of_eq (Heap.size_push _ _)) ?_
  have ne : s.heap.objs.size ≠ s.heap.objs.size + 1 := Nat.ne_of_lt (Nat.lt_succ_self _)
  refine ⟨by rw [upd_ne ne, upd_same], Nat.zero_le _, ne, e2, fun _ => none, (Heap.Ns1.of_empty e3).at fun o q => Heap.get?_push_of_some _ q, fun _ => True.intro, fun y hy => absurd rfl hy⟩

/-- e.f where nothing but the object is asked: through attributeBase (super) and the last hold -/
theorem attr_of {prog : Program} {w : World} {env : Env} {e : Expr} {f : Str} {pos : Pos} {s : Shared} {Q : Value → Shared → Prop} (hb : attributeBase e f env (eval e env) = eval e env)
    (h : wpAny (model prog w) A (eval e env) (fun o s₁ => wpAny (model prog w) A (getAttr o f true) Q E s₁) E s) : wpAny (model prog w) A (eval (.Attribute e f pos) env) Q E s :=
  Attribute_any_ h (by rw [arm_eval_Attribute, hb])
end

/-! ### readings and rules -/
/-- e.f, an attribute of the instance -/
noncomputable def tFld (K : PySem.W.Frag) (ta : TE) (f : Str) : TE := fun σ H Q => ta σ H fun x H1 => ∃ a C dx fs v, x = .ref a ∧ H1 a = some (.ins C dx fs) ∧ Cls K C ∧ NoAttr K C f ∧ fs.lookup f = some v ∧ Q v H1
/-- e.f = value -/
noncomputable def sFld (K : PySem.W.Frag) (ta tv : TE) (f : Str) : TS := fun D σ H => tv σ H fun y H1 => ta σ H1 fun x H2 => ∃ a C dx fs, x = .ref a ∧ H2 a = some (.ins C dx fs) ∧ Cls K C ∧ NoAttr K C f ∧ fs.length < 1000 ∧
  D.nx σ (upd H2 a (.ins C dx (putF f y fs)))
section
variable {X : Cx} {o e value : Expr} {f : Str} {pos pos' tpos : Pos} {ta tv : TE}
theorem pe_fld (he : PE X e ta) (hb : attributeBase e f X.env (eval e X.env) = eval e X.env) : PE X (.Attribute e f pos) (tFld X.K ta f) := by
  intro pins s σ H Q I h
  refine attr_of hb (thn (he pins s σ H _ I h) fun u s1 ⟨x, H1, I1, rx, a, C, dx, fs, v, ex, ea, c, n, l, q⟩ => ?_)
  subst ex
  obtain rfl : u = Value.ref a := rx
  exact getattr_ok I1 ea c n l fun u' s2 I2 ru => ⟨v, H1, I2, ru, q⟩
theorem ps_fld (ha : PE X o ta) (hv : PE X value tv) (hs : swapsWith value (some (.Attribute o f pos')) pos.line X.env = pure false) : PS X (.Assign [.Attribute o f pos'] value pos) (sFld X.K ta tv f) := by
  intro pins s σ H D I h
  refine plainObj_wpAny_Assign_Attribute (thn (hv pins s σ H _ I h) fun u s1 ⟨y, H1, I1, ry, q⟩ => thn (ha pins s1 σ H1 _ I1 q) fun ov s2 ⟨x, H2, I2, rx, a, C, dx, fs, ex, ea, c, n, l, q2⟩ => ?_) hs
  subst ex
  obtain rfl : ov = Value.ref a := rx
  exact setattr_ok I2 ea c n l ry fun s3 I3 => ⟨σ, _, I3, q2⟩
end

/-! ### isinstance -/
section
variable {X : Cx} {pins : List (Addr × Obj)} {σ : St} {H : Hp} {s : Shared} {A : Around} {E : Value → Shared → Prop} {Q : Value → Shared → Prop} {c : Value} {b : Bool}
/-- the type of a value, as the fragment's deciders take it; for an instance its class -/
inductive TyOf (K : PySem.W.Frag) (H : Hp) : V → Value → Prop where
  | non : TyOf K H .non (.type "NoneType")
  | bl (x : Bool) : TyOf K H (.bl x) (.type "bool")
  | int (i : Int) : TyOf K H (.int i) (.type "int")
  | str (x : Str) : TyOf K H (.str x) (.type "str")
  | flt (x : UInt64) : TyOf K H (.flt x) (.type "float")
  | lst {a : Addr} {xs : List V} (e : H a = some (.lst xs)) : TyOf K H (.ref a) (.type "list")
  | frz {a : Addr} {o : Obj} {xs : List V} (e : H a = some (.frz o (.lst xs))) : TyOf K H (.ref a) (.type "list")
  | tup {a : Addr} {xs : List V} (e : H a = some (.tup xs)) : TyOf K H (.ref a) (.type "tuple")
  | dK {a : Addr} {kvs : List (Key × V)} (e : H a = some (.dK kvs)) : TyOf K H (.ref a) (.type "dict")
  | dT {a : Addr} {kvs : List (List Key × V)} (e : H a = some (.dT kvs)) : TyOf K H (.ref a) (.type "dict")
  | ins {a C dx : Addr} {fs : List (Str × V)} (e : H a = some (.ins C dx fs)) (cl : Cls K C) (ha : PySem.W.findIn K (.ref C) "__class__" = some (some (.builtin "object.__class__")))
      (hn : PySem.W.specialIn K (.builtin "object.__class__") "__get__" = some (some (.builtin "getset_descriptor.__get__"))) (htk : PySem.W.takesIn K (.builtin "object.__class__") = some true)
      (hm : PySem.W.mroIn K C (.type "object") = some true) : TyOf K H (.ref a) (.ref C)
/-- isinstance(x, c) for one class c, a built-in or an own one: kitOne's answer -/
theorem isinst_ok {x : V} {u t : Value} (I : Inv X pins σ H s) (rx : RelV x u) (ty : TyOf X.K H x t) (e : PySem.W.kitOne X.K t c = some b) (h : ∀ tk, Q (.bool b) { s with toks := tk }) :
    wpAny (model X.prog X.w) A (call (.builtin "isinstance") [u, c]) Q E s := by
  cases ty with
  | non => cases (show u = Value.none from rx); exact PySem.W.kia_one PySem.W.kitx_none I.kIn True.intro e (fun z => nomatch z) h
  | bl y => cases (show u = Value.bool y from rx); exact PySem.W.kia_one PySem.W.kitx_bool I.kIn True.intro e (fun z => nomatch z) h
  | int i => obtain ⟨t, q⟩ := (show ∃ t, u = Value.int i t from rx); cases q; exact PySem.W.kia_one PySem.W.kitx_int I.kIn True.intro e (fun z => nomatch z) h
  | str y => obtain ⟨t, q⟩ := (show ∃ t, u = Value.str y t from rx); cases q; exact PySem.W.kia_one PySem.W.kitx_str I.kIn True.intro e (fun z => nomatch z) h
  | flt y => obtain ⟨t, q⟩ := (show ∃ t, u = Value.float y t from rx); cases q; exact PySem.W.kia_one PySem.W.kitx_float I.kIn True.intro e (fun z => nomatch z) h
  | @lst a xs ea =>
    cases (show u = Value.ref a from rx)
    obtain ⟨_, _, n, _, h1⟩ := (show ObjOk X.prog X.w H s.heap a (.lst xs) from I.hok a _ ea)
    exact PySem.W.kia_one PySem.W.kitx_list I.kIn ⟨_, h1, rfl⟩ e (fun z => nomatch z) h
  | @frz a ob xs ea =>
    cases (show u = Value.ref a from rx)
    obtain ⟨_, _, _, n, _, h1⟩ := (show ObjOk X.prog X.w H s.heap a (.frz ob (.lst xs)) from I.hok a _ ea)
    exact PySem.W.kia_one PySem.W.kitx_list I.kIn ⟨_, h1, rfl⟩ e (fun z => nomatch z) h
  | @tup a xs ea =>
    cases (show u = Value.ref a from rx)
    obtain ⟨_, _, _, p⟩ := (show ObjOk X.prog X.w H s.heap a (.tup xs) from I.hok a _ ea)
    obtain ⟨o, h1, h2, _⟩ := p
    exact PySem.W.kia_one PySem.W.kitx_tuple I.kIn ⟨o, h1, h2⟩ e (fun z => nomatch z) h
  | @dK a kvs ea =>
    cases (show u = Value.ref a from rx)
    obtain ⟨_, _, vs, _, p⟩ := (show ObjOk X.prog X.w H s.heap a (.dK kvs) from I.hok a _ ea)
    obtain ⟨o, es, ep, h1, h2, _⟩ := p
    exact PySem.W.kia_one PySem.W.kitx_dict I.kIn ⟨o, h1, h2.1⟩ e (fun z => nomatch z) h
  | @dT a kvs ea =>
    cases (show u = Value.ref a from rx)
    obtain ⟨_, _, xs, _, o, es, ep, h1, h2, _⟩ := (show ObjOk X.prog X.w H s.heap a (.dT kvs) from I.hok a _ ea)
    exact PySem.W.kia_one PySem.W.kitx_dict I.kIn ⟨o, h1, h2.1⟩ e (fun z => nomatch z) h
  | @ins a C dx fs ea cl ha hn htk hm =>
    cases (show u = Value.ref a from rx)
    obtain ⟨mA, O, _⟩ := ins_get I.hok ea
    obtain ⟨od, J, _⟩ := O.look
    exact PySem.W.kia_one (PySem.W.kitx_own (cl.get _) cl.hd ha hn htk hm) I.kIn J e (fun z => nomatch z) h
end
end L2

namespace L2
open PySem PySem.Spec PyProof.Rows

/-! ### room -/
structure Room (k : Nat) (A : Around) : Prop where
  hd : A.handled = none
  dp : A.depth + 3 * k + 5 < recursionLimit
  un : A.units + 16 * k + 200 < cLine
theorem Room.mono {j k : Nat} {A : Around} (r : Room k A) (h : j ≤ k) : Room j A := ⟨r.hd, by have := r.dp; omega, by have := r.un; omega⟩
theorem Room.deeper {k : Nat} {A : Around} (r : Room (k + 1) A) (env : Env) : Room k (A.deeper env) :=
  ⟨r.hd, by have := r.dp; show A.depth + 1 + 3 * k + 5 < _; omega, by have := r.un; show A.units + 3 + 16 * k + 200 < _; omega⟩
theorem make_depth {A : Around} {C : Addr} {us : List Value} {kw : List (Str × Value)} : (A.under (.builtin "type.__call__" ⟨.ref C :: us, kw⟩)).depth = A.depth + 1 := by
  first | rfl | simp [Around.under, Code.weight, Code.isCreation, Code.isGuard, Code.isCaller, Code.frames, Code.isFrame, guardIds]
theorem make_units {A : Around} {C : Addr} {us : List Value} {kw : List (Str × Value)} : (A.under (.builtin "type.__call__" ⟨.ref C :: us, kw⟩)).units = A.units + 1 := by
  first | rfl | simp [Around.under, Code.cUnits, Code.frames, Code.isFrame]
theorem Room.make {k : Nat} {A : Around} (r : Room (k + 1) A) (C : Addr) (us : List Value) (kw : List (Str × Value)) : Room k (A.under (.builtin "type.__call__" ⟨.ref C :: us, kw⟩)) :=
  ⟨r.hd, by have := r.dp; rw [make_depth]; omega, by have := r.un; rw [make_units]; omega⟩
theorem Room.depth {k : Nat} {A : Around} (r : Room k A) : A.depth < recursionLimit := by have := r.dp; omega
theorem Room.units {k : Nat} {A : Around} (r : Room k A) : A.units + 64 < cLine := by have := r.un; omega
/-! ### argument lists and displays -/
noncomputable def tNil : TA := fun _ H Q => Q [] H
noncomputable def tCons (ta : TE) (tr : TA) : TA := fun σ H Q => ta σ H fun x H1 => tr σ H1 fun xs H2 => Q (x :: xs) H2
section
variable {X : Cx} {e : Expr} {es : List Expr} {te : TE} {t : TA} {pos : Pos}
theorem pa_nil : PA X [] tNil := fun _ _ _ _ H Q I h => Calls.spliced_nil ⟨[], H, I, .nil, h⟩
theorem pa_cons (ha : PE X e te) (hr : PA X es t) (hs : starEach (e :: es) X.env = (false, eval e X.env) :: starEach es X.env := by rfl) : PA X (e :: es) (tCons te t) := by
  intro pos pins s σ H Q I h
  rw [hs]
  show wpAny _ _ (spliced ((false, eval e X.env) :: backTo pos (starEach es X.env))) _ _ s
  refine Calls.spliced_cons (thn (ha pins s σ H _ I h) fun u s1 ⟨x, H1, I1, r1, q1⟩ => ?_)
  exact thn (hr pos pins s1 σ H1 _ I1 q1) fun us s2 ⟨xs, H2, I2, r2, q2⟩ => ⟨x :: xs, H2, I2, .cons r1 r2, q2⟩

/-- a tuple, a list of written items -/
noncomputable def tTup (t : TA) : TE := fun σ H Q => t σ H fun xs H1 => xs.length ≤ sizeLine ∧ ∀ p, H1 p = none → Q (.ref p) (upd H1 p (.tup xs))
noncomputable def tLst (t : TA) : TE := fun σ H Q => t σ H fun xs H1 => xs.length ≤ sizeLine ∧ ∀ p, H1 p = none → Q (.ref p) (upd H1 p (.lst xs))
theorem pe_tup {x1} (h : PA X es t) : PE X (.Tuple es x1 pos) (tTup t) := by
  intro pins s σ H Q I hq
  refine wpAny_Tuple_spliced (thn (h pos pins s σ H _ I hq) fun us s1 ⟨xs, H1, I1, r, z, q⟩ => ⟨by rw [← r.length]; exact z, ?_⟩)
  have hf : H1 s1.heap.objs.size = none := I1.hok.fresh (Nat.le_refl _)
  refine ⟨.ref s1.heap.objs.size, upd H1 s1.heap.objs.size (.tup xs), I1.laid (t' := s1.toks) (fun b u e => Heap.get?_push_of_some _ e) (Nat.le_refl _) ?_, rfl, q _ hf⟩
  exact ⟨z, us, r, ⟨_, Heap.get?_push_size _ rfl, rfl, _, rfl⟩⟩
theorem pe_lst (h : PA X es t) : PE X (.List es pos) (tLst t) := by
  intro pins s σ H Q I hq
  refine wpAny_List_spliced (thn (h pos pins s σ H _ I hq) fun us s1 ⟨xs, H1, I1, r, z, q⟩ => ⟨by rw [← r.length]; exact z, ?_⟩)
  have hf : H1 s1.heap.objs.size = none := I1.hok.fresh (Nat.le_refl _)
  refine ⟨.ref s1.heap.objs.size, upd H1 s1.heap.objs.size (.lst xs), I1.laid (t' := s1.toks) (fun b u e => Heap.get?_push_of_some _ e) (Nat.le_refl _) ?_, rfl, q _ hf⟩
  exact ⟨z, us, 0, r, Heap.get?_push_size _ rfl⟩
end

/-! ### what a def promises -/
/-- a def's promise: the bound arguments in the parameters' order, the heap, the wanted end, the wanted exception -/
noncomputable abbrev Sp := List V → Hp → VK → XK → Prop
/-- how an exception lies behind a call (file 08 gives it): the callers' frames, abstract heap and state ahead of the call, the wish, the exception, the state -/
noncomputable abbrev CXT := List Env → Hp → Shared → XK → Value → Shared → Prop

/-- the state at a call -/
structure Env0 (P : Program) (w : World) (K : PySem.W.Frag) (mg : Str → Option Value) (base : Heap) (A : Around) (outer : List Env) (s : Shared) (H : Hp) : Prop where
  frames : A.frames = some outer
  mod : Mod K mg base
  bs : ∀ b o, base.get? b = some o → s.heap.get? b = some o ∧ H b = none
  bsz : base.objs.size ≤ s.heap.objs.size
  funs : s.heap.FunFrames base outer
  frf : ∀ b ∈ frs outer, H b = none
  hok : HOk P w H s.heap
  bare : AllBare s.gens
/-- a call's end -/
noncomputable def CE (outer : List Env) (P : Program) (w : World) (H : Hp) (s : Shared) (Q : VK) (u : Value) (s' : Shared) : Prop :=
  ∃ v H', s'.os = s.os ∧ AllBare s'.gens ∧ Un (frs outer) [] H H' s.heap s'.heap ∧ HOk P w H' s'.heap ∧ RelV v u ∧ Q v H'
noncomputable def CR (CX : CXT) (outer : List Env) (P : Program) (w : World) (H : Hp) (s : Shared) (Q : VK) (E : XK) (r : Result) (s' : Shared) : Prop :=
  match r with
  | .ok (.ret u) => CE outer P w H s Q u s'
  | .ok _ => False
  | .error e => CX outer H s E e s'
structure FnOk (P : Program) (w : World) (K : PySem.W.Frag) (mg : Str → Option Value) (base : Heap) (CX : CXT) (k : Nat) (f : Addr) (fd : FuncData) (ps : List Str) (sp : Sp) : Prop where
  len : ∀ vs H Q E, sp vs H Q E → vs.length = ps.length
  run : ∀ (A : Around) (outer : List Env) (s : Shared) (H : Hp) (args : Args) (us : List Value) (vs : List V) (Q : VK) (E : XK), Room k A → Env0 P w K mg base A outer s H → BindsTo s fd args (ps.zip us) → Vals vs us → sp vs H Q E →
    codeAny (model P w) A (.call (.ref f) args) (CR CX outer P w H s Q E) s
theorem Env0.make {P : Program} {w : World} {K : PySem.W.Frag} {mg : Str → Option Value} {base : Heap} {A : Around} {outer : List Env} {s : Shared} {H : Hp} (e : Env0 P w K mg base A outer s H) (C : Addr) (us : List Value) (kw : List (Str × Value)) :
    Env0 P w K mg base (A.under (.builtin "type.__call__" ⟨.ref C :: us, kw⟩)) outer s H := ⟨by first | exact e.frames | (simpa [Around.under, Code.envs, Code.isFrame, pushEnvs] using e.frames), e.mod, e.bs, e.bsz, e.funs, e.frf, e.hok, e.bare⟩
section
variable {X : Cx} {pins : List (Addr × Obj)} {σ : St} {H : Hp} {s s' : Shared}
/-- from a body: what a callee wants -/
theorem Inv.env0 (I : Inv X pins σ H s) : Env0 X.prog X.w X.K X.mg X.base X.A X.stack s H :=
  ⟨I.ok.frames, I.ok.mod, I.bs, Nat.le_trans I.ok.bsz I.sz, I.stack, I.stkFree, I.hok, I.bare⟩
/-- behind a call -/
theorem Inv.after {Q : VK} {u : Value} (I : Inv X pins σ H s) (h : CE X.stack X.prog X.w H s Q u s') : EP X pins σ Q u s' := by
  obtain ⟨v, H', os, bare, un, hok, r, q⟩ := h
  obtain ⟨hh, g, d, t, os'⟩ := s'
  obtain rfl : os' = s.os := os
  exact ⟨v, H', I.call (h' := hh) (g' := g) (d' := d) (t' := t) (ch := []) un hok bare (fun b z => absurd z (by simp)), r, q⟩
end

/-! ### calls -/
/-- f(..): the written arguments, then the defaults dvs; E: what is wanted of an exception -/
noncomputable def tCall (sp : Sp) (dvs : List V) (E : XK) (t : TA) : TE := fun σ H Q => t σ H fun vs H1 => sp (vs ++ dvs) H1 Q E
/-- C(..): a new instance and its dict, then __init__ -/
noncomputable def tMake (C : Addr) (sp : Sp) (dvs : List V) (E : XK) (t : TA) : TE := fun σ H Q => t σ H fun vs H1 => ∀ x dx, H1 x = none → H1 dx = none → dx ≠ x →
  sp (.ref x :: (vs ++ dvs)) (upd (upd H1 dx (.own x)) x (.ins C dx [])) (fun v H2 => v = .non ∧ Q (.ref x) H2) E

/-- how the parameters are bound: us the positional arguments, kw the keywords' values by name, ds the defaults that fill up -/
noncomputable def Binds (K : PySem.W.Frag) (fd : FuncData) (ps : List Str) (ds : List Value) : Prop :=
  ∀ (s : Shared) (us : List Value), K.In s.heap → (us ++ ds).length = ps.length → BindsTo s fd ⟨us, []⟩ (ps.zip (us ++ ds))
/-- every parameter is given -/
theorem Binds.all {K : PySem.W.Frag} {fd : FuncData} {ps : List Str} (h : ∀ us : List Value, us.length = ps.length → bindArgs fd ⟨us, []⟩ = pure (ps.zip us)) : Binds K fd ps [] := fun s us _ hl => by
  rw [List.append_nil] at hl ⊢
  exact .of_eq (h us hl)

/-- an exception of a callee reaches what this body wants of exceptions -/
noncomputable def Passes (CX : CXT) (X : Cx) (E : XK) : Prop := ∀ (pins : List (Addr × Obj)) (σ : St) (H : Hp) (s : Shared) (e : Value) (s' : Shared), Inv X pins σ H s → CX X.stack H s E e s' → X.xe e s'

section
variable {X : Cx} {CX : CXT} {k : Nat} {f C : Addr} {fd : FuncData} {ps : List Str} {sp : Sp} {dvs : List V} {ds : List Value} {E : XK} {x m : Str} {p pos apos : Pos} {e o : Expr} {es : List Expr} {ta : TE} {t : TA}

/-- the callee runs -/
theorem run_fn {pins : List (Addr × Obj)} {σ : St} {H : Hp} {s : Shared} {Q : VK} {us : List Value} {vs : List V} (F : FnOk X.prog X.w X.K X.mg X.base CX k f fd ps sp) (hr : Room k X.A) (hb : Binds X.K fd ps ds) (hd : Vals dvs ds) (hx : Passes CX X E)
    (I : Inv X pins σ H s) (r : Vals vs us) (h : sp (vs ++ dvs) H Q E) : wpAny (model X.prog X.w) X.A (call (.ref f) us) (EP X pins σ Q) X.xe s := by
  have r2 : Vals (vs ++ dvs) (us ++ ds) := r.append hd
  have hl : (us ++ ds).length = ps.length := by rw [← r2.length]; exact F.len _ _ _ _ h
  refine wpAny_call (codeAny_mono (F.run X.A X.stack s H ⟨us, []⟩ (us ++ ds) (vs ++ dvs) Q E hr I.env0 (hb s us I.kIn hl) r2 h) fun r s' hq => ?_)
  cases r with
  | error e => exact hx pins σ H s e s' I hq
  | ok fl =>
    cases fl with
    | ret u => exact I.after hq
    | next => exact False.elim hq
    | brk => exact False.elim hq
    | cont => exact False.elim hq

theorem pe_call (F : FnOk X.prog X.w X.K X.mg X.base CX k f fd ps sp) (hr : Room k X.A) (hg : Gl X x) (hm : X.mg x = some (.ref f)) (hk : PySem.W.keepIn X.K (.ref f) = true) (hb : Binds X.K fd ps ds) (hd : Vals dvs ds) (hx : Passes CX X E)
    (ha : PA X (e :: es) t) (hdb : (x == ("__debug__" : Str)) = false := by decide) (he : starEach (e :: es) X.env = (false, eval e X.env) :: starEach es X.env := by rfl) (hpl : (backTo pos (starEach es X.env)).any (·.1) = false := by rfl) :
    PE X (.Call (.Name x p) (e :: es) [] pos) (tCall sp dvs E t) := by
  intro pins s σ H Q I h
  refine wpAny_Call_Name_kw (ld_glob I hg hm ?_ hdb)
  refine PySem.W.callWith_K (h₀ := X.base) I.ok.mod.kin hk (thn (ha pos pins s σ H _ I h) fun us s1 ⟨vs, H1, I1, r, q⟩ => ⟨I1.kIn, ?_⟩) he hpl
  exact run_fn F hr hb hd hx I1 r q
/-- what a class must have to be made -/
structure Mk (K : PySem.W.Frag) (C f : Addr) : Prop where
  makes : PySem.W.makesIn K C = true
  init : PySem.W.findIn K (.ref C) "__init__" = some (some (.ref f))
  fn : PySem.W.isFn K (.ref f) = true
  kp : PySem.W.keepIn K (.ref C) = true

theorem run_make {pins : List (Addr × Obj)} {σ : St} {H : Hp} {s : Shared} {Q : VK} {us : List Value} {vs : List V} (M : Mk X.K C f) (F : FnOk X.prog X.w X.K X.mg X.base CX k f fd ps sp) (hr : Room (k + 1) X.A) (hb : Binds X.K fd ps ds) (hd : Vals dvs ds)
    (hx : Passes CX X E) (I : Inv X pins σ H s) (r : Vals vs us)
    (h : ∀ x dx, H x = none → H dx = none → dx ≠ x → sp (.ref x :: (vs ++ dvs)) (upd (upd H dx (.own x)) x (.ins C dx [])) (fun v H2 => v = .non ∧ Q (.ref x) H2) E) :
    wpAny (model X.prog X.w) X.A (call (.ref C) us) (EP X pins σ Q) X.xe s := by
  have hq := h (s.heap.objs.size + 1) s.heap.objs.size (I.hok.fresh (Nat.le_succ _)) (I.hok.fresh (Nat.le_refl _)) (Nat.ne_of_lt (Nat.lt_succ_self _))
  have I2 := Inv.made (C := C) I
  have r2 : Vals (V.ref (s.heap.objs.size + 1) :: (vs ++ dvs)) (Value.ref (s.heap.objs.size + 1) :: (us ++ ds)) := .cons rfl (r.append hd)
  have hl : (Value.ref (s.heap.objs.size + 1) :: us ++ ds).length = ps.length := by
    have e := r2.length
    rw [F.len _ _ _ _ hq] at e
    exact e.symm
  refine wpAny_call (make_map (f := f) I.kIn M.makes M.init (beq_iff_eq.mp M.fn) (codeAny_mono (F.run _ X.stack _ _ ⟨Value.ref (s.heap.objs.size + 1) :: us, []⟩ (Value.ref (s.heap.objs.size + 1) :: (us ++ ds)) _ _ E (hr.make C us [])
    (I2.env0.make C us []) (hb _ (Value.ref (s.heap.objs.size + 1) :: us) I2.kIn hl) r2 hq) fun r s' hq' => ?_))
  cases r with
  | error e => exact hx pins σ _ _ e s' I2 hq'
  | ok fl =>
    cases fl with
    | ret u =>
      obtain ⟨v, H', I3, rv, ev, q3⟩ := I2.after hq'
      subst ev
      exact ⟨rv, ⟨V.ref (s.heap.objs.size + 1), H', I3, rfl, q3⟩⟩
    | next => exact False.elim hq'
    | brk => exact False.elim hq'
    | cont => exact False.elim hq'
theorem pe_make (M : Mk X.K C f) (F : FnOk X.prog X.w X.K X.mg X.base CX k f fd ps sp) (hr : Room (k + 1) X.A) (hg : Gl X x) (hm : X.mg x = some (.ref C)) (hb : Binds X.K fd ps ds) (hd : Vals dvs ds) (hx : Passes CX X E)
    (ha : PA X (e :: es) t) (hdb : (x == ("__debug__" : Str)) = false := by decide) (he : starEach (e :: es) X.env = (false, eval e X.env) :: starEach es X.env := by rfl) (hpl : (backTo pos (starEach es X.env)).any (·.1) = false := by rfl) :
    PE X (.Call (.Name x p) (e :: es) [] pos) (tMake C sp dvs E t) := by
  intro pins s σ H Q I h
  refine wpAny_Call_Name_kw (ld_glob I hg hm ?_ hdb)
  refine PySem.W.callWith_K (h₀ := X.base) I.ok.mod.kin M.kp (thn (ha pos pins s σ H _ I h) fun us s1 ⟨vs, H1, I1, r, q⟩ => ⟨I1.kIn, ?_⟩) he hpl
  exact run_make M F hr hb hd hx I1 r q
end

section
variable {X : Cx} {CX : CXT} {k : Nat} {f C : Addr} {fd : FuncData} {ps ks : List Str} {sp : Sp} {E : XK} {x m : Str} {p pos apos kpos : Pos} {e o : Expr} {es : List Expr} {kws : List Keyword} {te ta : TE} {t tk : TA} {nm : Option Str}
variable {g : List Value → List Value → List Value} {gV : List V → List V → List V}
end

/-! ### a def's body keeps its promise -/
/-- names: the parameters first -/
structure FnScope (N P : List Str) (sc : Scope) : Prop where
  kind : sc.kind = .function
  co : sc.isCoroutine = false
  gen : sc.isGenerator = false
  nd : N.Nodup
  pre : N.take P.length = P
  par : ∀ x ∈ P, sc.names.lookup x = some .local ∨ sc.names.lookup x = some .cell
  nofree : ∀ y ∈ sc.names, y.2 ≠ .free

theorem bindL_out {kindOf : Str → Option NameKind} {x : Str} : ∀ {binds : List (Str × Value)} {m : Str → Option Value}, (∀ v, (x, v) ∉ binds) → bindL kindOf binds m x = m x
  | [], _, _ => rfl
  | (n, v) :: r, m, h => by
    unfold bindL
    rw [bindL_out fun w hw => h w (List.mem_cons_of_mem _ hw)]
    split
    · have : x ≠ n := by rintro rfl; exact h v List.mem_cons_self
      simp [this]
    · rfl
theorem bindC_out {kindOf : Str → Option NameKind} {x : Str} : ∀ {binds : List (Str × Value)} {m : Str → Option Value}, (∀ v, (x, v) ∉ binds) → bindC kindOf binds m x = m x
  | [], _, _ => rfl
  | (n, v) :: r, m, h => by
    unfold bindC
    rw [bindC_out fun w hw => h w (List.mem_cons_of_mem _ hw)]
    split
    · rfl
    · have : x ≠ n := by rintro rfl; exact h v List.mem_cons_self
      simp [this]
theorem bindL_get {kindOf : Str → Option NameKind} {x : Str} {v : Value} : ∀ {P : List Str} {vs : List Value} {i : Nat} {m : Str → Option Value}, P.Nodup → P[i]? = some x → vs[i]? = some v → kindOf x = some .local →
    bindL kindOf (P.zip vs) m x = some v
  | [], _, _, _, _, h, _, _ => by simp at h
  | _ :: _, [], _, _, _, _, h, _ => by simp at h
  | p :: P, w :: vs, 0, m, nd, h1, h2, hk => by
    simp at h1 h2; subst h1; subst h2
    show bindL kindOf ((p, w) :: P.zip vs) m p = _
    unfold bindL
    rw [bindL_out fun v hv => (List.nodup_cons.mp nd).1 (List.of_mem_zip hv).1, if_pos hk]
    simp
  | p :: P, w :: vs, i + 1, m, nd, h1, h2, hk => by
    show bindL kindOf ((p, w) :: P.zip vs) m x = _
    unfold bindL
    exact bindL_get (i := i) (List.nodup_cons.mp nd).2 (by simpa using h1) (by simpa using h2) hk
theorem bindC_get {kindOf : Str → Option NameKind} {x : Str} {v : Value} : ∀ {P : List Str} {vs : List Value} {i : Nat} {m : Str → Option Value}, P.Nodup → P[i]? = some x → vs[i]? = some v → kindOf x ≠ some .local →
    bindC kindOf (P.zip vs) m x = some v
  | [], _, _, _, _, h, _, _ => by simp at h
  | _ :: _, [], _, _, _, _, h, _ => by simp at h
  | p :: P, w :: vs, 0, m, nd, h1, h2, hk => by
    simp at h1 h2; subst h1; subst h2
    show bindC kindOf ((p, w) :: P.zip vs) m p = _
    unfold bindC
    rw [bindC_out fun v hv => (List.nodup_cons.mp nd).1 (List.of_mem_zip hv).1, if_neg hk]
    simp
  | p :: P, w :: vs, i + 1, m, nd, h1, h2, hk => by
    show bindC kindOf ((p, w) :: P.zip vs) m x = _
    unfold bindC
    exact bindC_get (i := i) (List.nodup_cons.mp nd).2 (by simpa using h1) (by simpa using h2) hk

/-- the names' values at the entry -/
noncomputable def start (N : List Str) (vs : List V) : St := vs.map some ++ List.replicate (N.length - vs.length) none

/-- the context of a def's body, at its entry; an exception leaves the frame, then lies as CX says -/
noncomputable def cxOf (CX : CXT) (P : Program) (w : World) (K : PySem.W.Frag) (mg : Str → Option Value) (base : Heap) (N : List Str) (qual : Str) (scope : Scope) (f : Addr) (cd : Value) (A : Around) (outer : List Env) (s : Shared) (H : Hp) (E : XK) : Cx where
  prog := P
  w := w
  K := K
  mg := mg
  base := base
  A := A.deeper (envOfC qual scope s.heap.objs.size f cd)
  N := N
  s₀ := s
  H₀ := H
  env := envOfC qual scope s.heap.objs.size f cd
  outer := outer
  stack := envOfC qual scope s.heap.objs.size f cd :: outer
  ex := []
  calm := true
  fn := fun _ => true
  pn := []
  xe := fun e s' => wpAny (model P w) (A.deeper (envOfC qual scope s.heap.objs.size f cd)) (leaving (envOfC qual scope s.heap.objs.size f cd) e) (fun _ s'' => CX outer H s E e s'') (fun e' s'' => CX outer H s E e' s'') s'

theorem cell_has {sc : Scope} {n : Nat} {x : Str} (h : sc.names.lookup x = some .cell) : ∃ c, (cellsFrom n sc.names []).lookup x = some c := by
  have q := PySem.W.cellsFrom_some sc.names n [] (.inl h)
  exact Option.isSome_iff_exists.mp q

theorem inv_start {CX : CXT} {P : Program} {w : World} {K : PySem.W.Frag} {mg : Str → Option Value} {base : Heap} {N ps : List Str} {qual : Str} {scope : Scope} {f : Addr} {cd : Value} {A : Around} {outer : List Env} {s s1 : Shared} {H : Hp} {E : XK} {us : List Value} {vs : List V}
    (S : FnScope N ps scope) (hd : A.handled = none) (e0 : Env0 P w K mg base A outer s H) (hl : vs.length = ps.length) (r : Vals vs us)
    (x : InCallC s s.heap.objs.size (bindL (envOfC qual scope s.heap.objs.size f cd).kindOf (ps.zip us) fun _ => none) (cellsFrom (s.heap.objs.size + 1) scope.names []) (bindC (envOfC qual scope s.heap.objs.size f cd).kindOf (ps.zip us) fun _ => none) s1) :
    Inv (cxOf CX P w K mg base N qual scope f cd A outer s H E) [] (start N vs) H s1 := by
  have hpl : ps.length ≤ N.length := by have := congrArg List.length S.pre; rw [List.length_take] at this; omega
  obtain ⟨h1, tk, rfl, hk⟩ := x.done
  have noA : ∀ b : Addr, b ∉ (cxOf CX P w K mg base N qual scope f cd A outer s H E).ex := fun b z => absurd (show b ∈ ([] : List Addr) from z) (by simp)
  refine ⟨⟨e0.mod, S.kind, rfl, rfl, Nat.le_refl _, fun y z c h1 h2 => ?_, fun y hy => ?_, fun y c _ h => ?_, fun _ => hd, Around.frames_deeper e0.frames, .inr ⟨rfl, rfl⟩, fun b z => absurd z (noA b), e0.bs, e0.bsz, fun b _ _ => noA b, fun b z => absurd z (noA b), e0.funs, e0.frf⟩,
    rfl, e0.bare, Un.kept hk, ⟨_, x.toInCall.ns, fun i y v h1 h2 h3 => ?_⟩, fun y c h => ⟨_, x.cell y c h⟩, e0.hok.fresh (Nat.le_refl _), fun y c h => ?_, fun p hp => absurd (show p ∈ ([] : List (Addr × Obj)) from hp) (by simp), e0.hok.kept hk, ?_⟩
  · exact name_of_addr x.apart (PySem.mem_of_lookup h1) (PySem.mem_of_lookup h2)
  · have hy : scope.names.lookup y = some .cell ∨ scope.names.lookup y = some .free := hy
    rcases hy with hy | hy
    · exact cell_has hy
    · exact absurd rfl (S.nofree _ (PySem.mem_of_lookup hy))
  · exact Nat.le_of_lt (x.above y c (PySem.mem_of_lookup h))
  · have hi : i < vs.length := by
      unfold start at h2
      by_cases hi : i < vs.length
      · exact hi
      · rw [List.getElem?_append_right (by simpa using hi)] at h2
        rw [List.getElem?_replicate] at h2
        split at h2 <;> cases h2
    have ha : vs[i]? = some v := by
      unfold start at h2
      rw [List.getElem?_append_left (by simpa using hi), List.getElem?_map] at h2
      cases e : vs[i]? with
      | none => rw [e] at h2; cases h2
      | some a => rw [e] at h2; cases h2; rfl
    obtain ⟨u, hu, rv⟩ := r.get ha
    have hp : ps[i]? = some y := by
      rw [← S.pre, List.getElem?_take_of_lt (by omega)]; exact h1
    have ndP : ps.Nodup := by rw [← S.pre]; exact S.nd.sublist (List.take_sublist _ _)
    refine ⟨u, rv, ?_⟩
    rcases S.par y (List.mem_of_getElem? hp) with k | k
    · exact .inl ⟨k, bindL_get ndP hp hu k⟩
    · obtain ⟨c, e⟩ := cell_has (n := s.heap.objs.size + 1) k
      refine .inr ⟨.inl k, c, e, ?_⟩
      have q := x.cell y c e
      rw [bindC_get ndP hp hu (by show scope.names.lookup y ≠ _; rw [k]; decide)] at q
      exact q
  · exact e0.hok.fresh (Nat.le_of_lt (x.above y c (PySem.mem_of_lookup h)))
  · unfold start
    show _ = N.length
    rw [List.length_append, List.length_map, List.length_replicate]
    omega

/-- THE RULE: a def (or a method) of the text, by its body. The body's reading t is chosen for each entry; it is run at the parameters' values -/
theorem fn_of {CX : CXT} {P : Program} {w : World} {K : PySem.W.Frag} {mg : Str → Option Value} {base : Heap} {k : Nat} {f : Addr} {name qual : Str} {params : Arguments} {body : List Stmt} {scope : Scope} {dV kV doc pm cdv ct oc : Value} {an od : Option Addr}
    {osl : Array (Option Value)} {N ps : List Str} {sp : Sp} (lk : K.lookup f = some ⟨oc, od, .func (PySem.W.fnOf name qual params body scope dV kV doc pm an cdv ct), osl⟩) (hcd : PySem.W.codeIn K cdv qual = true) (S : FnScope N ps scope)
    (len : ∀ vs H Q E, sp vs H Q E → vs.length = ps.length)
    (hbody : ∀ (A : Around) (outer : List Env) (s : Shared) (H : Hp) (vs : List V) (Q : VK) (E : XK), Room k (A.deeper (envOfC qual scope s.heap.objs.size f cdv)) → sp vs H Q E →
      ∃ t, PSs (cxOf CX P w K mg base N qual scope f cdv A outer s H E) body t ∧ t { nx := fun _ H' => Q .non H', rt := Q } (start N vs) H) :
    FnOk P w K mg base CX (k + 1) f (PySem.W.fnOf name qual params body scope dV kV doc pm an cdv ct) ps sp := by
  refine ⟨len, fun A outer s H args us vs Q E hr e0 hb r hsp => ?_⟩
  have hl := len _ _ _ _ hsp
  have KX : K.In s.heap := e0.mod.kin.keeps fun b o e => (e0.bs b o e).1
  have lim : s.heap.NoLimit := e0.mod.nolimit.keeps fun b o e => (e0.bs b o e).1
  have hkind : ∀ y ∈ ps.zip us, scope.names.lookup y.1 = some .local ∨ (scope.names.lookup y.1 = some .cell ∧ ((cellsFrom (s.heap.objs.size + 1) scope.names []).lookup y.1).isSome = true) := fun ⟨n, v⟩ hy => by
    rcases S.par n (List.of_mem_zip hy).1 with q | q
    · exact .inl q
    · exact .inr ⟨q, PySem.W.cellsFrom_some _ _ _ (.inl q)⟩
  refine codeAny_call_function hr.depth (KX _ _ lk) rfl S.co S.gen rfl (PySem.W.codeRec_of KX hcd) (hb _ _ _ _ ?_)
  refine wpAny_newFunctionEnv_cells S.kind hkind fun env he s1 x => ?_
  subst he
  refine ⟨lim.keeps x.toInCall.keep, codeAny_func ?_⟩
  obtain ⟨t, ht, hq⟩ := hbody A outer s H vs Q E (hr.deeper _) hsp
  have I : Inv (cxOf CX P w K mg base N qual scope f cdv A outer s H E) [] (start N vs) H s1 := inv_start S hr.hd e0 hl r x
  refine wpAny_mono (ht [] s1 (start N vs) H _ I hq) (fun fl s' hs => ?_) fun e s' hs => hs
  have fin : ∀ {σ' : St} {H' : Hp} {v : V} {u : Value}, Inv (cxOf CX P w K mg base N qual scope f cdv A outer s H E) [] σ' H' s' → RelV v u → Q v H' → CE outer P w H s Q u s' :=
    fun {σ' H' v u} J rv q => ⟨v, H', J.os, J.bare, J.base, J.hok, rv, q⟩
  cases fl with
  | ret u =>
    obtain ⟨v, σ', H', J, rv, q⟩ := hs
    exact fin J rv q
  | next =>
    obtain ⟨σ', H', J, q⟩ := hs
    exact fin (v := V.non) (u := Value.none) J rfl q
  | brk =>
    obtain ⟨_, _, _, q⟩ := hs
    exact False.elim q
  | cont =>
    obtain ⟨_, _, _, q⟩ := hs
    exact False.elim q
end L2

namespace L2
open PySem PySem.Spec PyProof.Rows
section
variable {X : Cx} {x : Str} {p pos : Pos} {e : Expr} {es : List Expr} {t : TA} {id T : String} {r : List V → Hp → VK → Prop}

noncomputable def tCB (r : List V → Hp → VK → Prop) (t : TA) : TE := fun σ H Q => t σ H fun vs H1 => r vs H1 Q
/-- f(e, ..), f a built-in function -/
theorem pe_callB (hc : CallR X (.builtin id) r) (hg : Gl X x) (hm : X.mg x = none) (hv : bootBuiltins x = some (.builtin id)) (ha : PA X (e :: es) t) (hn : x ≠ "__name__" := by decide) (hdb : (x == ("__debug__" : Str)) = false := by decide)
    (he : starEach (e :: es) X.env = (false, eval e X.env) :: starEach es X.env := by rfl) (hpl : (backTo pos (starEach es X.env)).any (·.1) = false := by rfl) : PE X (.Call (.Name x p) (e :: es) [] pos) (tCB r t) := by
  intro pins s σ H Q I h
  refine wpAny_Call_Name_kw (ld_blt I hg hm hv ?_ hn hdb)
  exact PyProof.Rows.callWith_builtin1 (thn (ha pos pins s σ H _ I h) fun us s1 ⟨vs, H1, I1, r1, q1⟩ => hc pins s1 σ H1 vs us Q I1 r1 q1) he hpl
/-- T(e, ..), T a built-in type -/
theorem pe_callTy (hc : CallR X (.type T) r) (hg : Gl X x) (hm : X.mg x = none) (hv : bootBuiltins x = some (.type T)) (ha : PA X (e :: es) t) (hn : x ≠ "__name__" := by decide) (hdb : (x == ("__debug__" : Str)) = false := by decide)
    (he : starEach (e :: es) X.env = (false, eval e X.env) :: starEach es X.env := by rfl) (hpl : (backTo pos (starEach es X.env)).any (·.1) = false := by rfl) : PE X (.Call (.Name x p) (e :: es) [] pos) (tCB r t) := by
  intro pins s σ H Q I h
  refine wpAny_Call_Name_kw (ld_blt I hg hm hv ?_ hn hdb)
  exact PyProof.Rows.callWith_type1 (thn (ha pos pins s σ H _ I h) fun us s1 ⟨vs, H1, I1, r1, q1⟩ => hc pins s1 σ H1 vs us Q I1 r1 q1) he hpl
end
end L2

namespace HT
open PySem PyProof.Rows

section
open PySem.SeqAt
open PySem.AutoSeq1 (wpAny_loadPart')
open PySem.MeetsSeq PySem.MeetsSeq2 PySem.MeetsSeq3

end

section
variable {prog : Program} {w : World} {A : Around} {E : Value → Shared → Prop} {s : Shared}

/-! ### t[a:b], not the whole -/
/-- a slice's bound as a place among n (d where it is left out) -/
noncomputable def sIx (n d : Nat) : Option Int → Nat
  | none => d
  | some v => if v < 0 then (v + (n : Int)).toNat else min v.toNat n
theorem sIx_none (n d : Nat) : sIx n d none = d := rfl
theorem sIx_nat (n d k : Nat) : sIx n d (some (k : Int)) = min k n := by
  show (if (k : Int) < 0 then ((k : Int) + (n : Int)).toNat else min (k : Int).toNat n) = min k n
  rw [if_neg (by omega), Int.toNat_natCast]
theorem sIx_le (n d : Nat) (hd : d ≤ n) (o : Option Int) : sIx n d o ≤ n := by
  cases o with
  | none => exact hd
  | some v =>
    show (if v < 0 then (v + (n : Int)).toNat else min v.toNat n) ≤ n
    by_cases hv : v < 0
    · rw [if_pos hv]; omega
    · rw [if_neg hv]; exact Nat.min_le_right _ _
end
end HT

namespace L2
open PySem PySem.Spec PyProof.Rows

/-! ### the parts of a slice -/
noncomputable abbrev TO := St → Hp → (Option Int → Hp → Prop) → Prop
/-- a slice's part (left out, or an int) -/
noncomputable def PO (X : Cx) (e : Option Expr) (t : TO) : Prop :=
  ∀ (pins : List (Addr × Obj)) (s : Shared) (σ : St) (H : Hp) (Q : Option Int → Hp → Prop), Inv X pins σ H s → t σ H Q →
    wpAny (model X.prog X.w) X.A (evalPart e X.env) (fun u s' => ∃ o H', Inv X pins σ H' s' ∧ IsPart u o ∧ Q o H') X.xe s
noncomputable def tNoPart : TO := fun _ H Q => Q none H
noncomputable def tPart (t : TE) : TO := fun σ H Q => t σ H fun x H1 => ∃ i, x = .int i ∧ Q (some i) H1

theorem intsAre_of {ns : List Int} : ∀ {us : List Value}, Vals (ns.map V.int) us → IntsAre us ns := by
  induction ns with
  | nil => intro us r; rw [List.map_nil] at r; cases r; exact .nil
  | cons n ns ih =>
    intro us r
    rw [List.map_cons] at r
    cases r with
    | cons r1 r2 =>
      obtain ⟨t, e⟩ := r1
      subst e
      exact .cons n t (ih r2)

section
variable {X : Cx} {e : Expr} {te : TE} {lo hi : Option Expr} {tl th : TO} {pos p2 : Pos}

theorem po_none : PO X none tNoPart := by
  intro pins s σ H Q I h
  rw [evalPart_none]
  exact wpAny_pure ⟨none, H, I, .none, h⟩
theorem po_some (h : PE X e te) : PO X (some e) (tPart te) := by
  intro pins s σ H Q I hw
  rw [evalPart_some]
  refine thn (h pins s σ H _ I hw) fun u s1 ⟨x, H1, I1, r1, q1⟩ => ?_
  obtain ⟨i, rfl, q⟩ := q1
  obtain ⟨t, rfl⟩ := r1
  exact ⟨some i, H1, I1, .int i t, q⟩

/-- what a slice of a value is, by values: the slice object stands at sl -/
noncomputable def SlR (X : Cx) (r : V → Option Int → Option Int → Hp → VK → Prop) : Prop :=
  ∀ (pins : List (Addr × Obj)) (s : Shared) (σ : St) (H : Hp) (x : V) (v vl vu : Value) (lo hi : Option Int) (sl : Addr) (Q : VK), Inv X pins σ H s → RelV x v → s.heap.IsSliceOf sl vl vu .none → IsPart vl lo → IsPart vu hi → r x lo hi H Q →
    ∃ T id, typeLookup (.type T) "__getitem__" = pure (some (.builtin id)) ∧ s.TypeIs v T ∧ wpAny (model X.prog X.w) X.A (getItem v (.ref sl)) (EP X pins σ Q) X.xe s
noncomputable def tSl (r : V → Option Int → Option Int → Hp → VK → Prop) (te : TE) (tl th : TO) : TE := fun σ H Q => te σ H fun x H1 => tl σ H1 fun l H2 => th σ H2 fun u H3 => r x l u H3 Q
/-- a[lo:hi], any a -/
theorem pe_slice {r : V → Option Int → Option Int → Hp → VK → Prop} (hr : SlR X r) (he : PE X e te) (hl : PO X lo tl) (hu : PO X hi th) : PE X (.Subscript e (.Slice lo hi none p2) pos) (tSl r te tl th) := by
  intro pins s σ H Q I h
  refine Subscript_ (thn (he pins s σ H _ I h) fun v s1 ⟨x, H1, I1, r1, q1⟩ => ?_)
  refine wpAny_Slice (thn (hl pins s1 σ H1 _ I1 q1) fun vl s2 ⟨l, H2, I2, pl, q2⟩ => thn (hu pins s2 σ H2 _ I2 q2) fun vu s3 ⟨u, H3, I3, pu, q3⟩ => ?_)
  rw [evalPart_none]
  refine wpAny_pure ?_
  have I4 : Inv X pins σ H3 { s3 with heap := s3.heap.push { cls := .type "slice", data := .fields #[vl, vu, .none] } } := I3.kept (t' := s3.toks) fun b ob q => Heap.get?_push_of_some _ q
  obtain ⟨T, id, hT, ht, hg⟩ := hr pins { s3 with heap := s3.heap.push { cls := .type "slice", data := .fields #[vl, vu, .none] } } σ H3 x v vl vu l u s3.heap.objs.size Q I4 r1 (Heap.IsSliceOf.new ..) pl pu q3
  show wpAny (model X.prog X.w) X.A (subscriptTail e (.Slice lo hi none p2) v (.ref s3.heap.objs.size)) (EP X pins σ Q) X.xe { s3 with heap := s3.heap.push { cls := .type "slice", data := .fields #[vl, vu, .none] } }
  exact tail_any (ops := [.ref s3.heap.objs.size, v]) ht hT hg (by with_unfolding_all rfl)

end
end L2

namespace L2
open PySem PySem.Spec PyProof.Rows

/-! ### places -/
/-- the place that an index of any sign means -/
noncomputable def ixN (n : Nat) (i : Int) : Option Nat := if 0 ≤ i then (if i < n then some i.toNat else none) else if -(n : Int) ≤ i then some (i + n).toNat else none
noncomputable def atI {α : Type} (xs : List α) (i : Int) : Option α := (ixN xs.length i).bind fun j => xs[j]?
theorem ixN_seq {n : Nat} {i : Int} {j : Nat} (h : ixN n i = some j) : seqIndex? i n = some j ∧ j < n ∧ -(n : Int) ≤ i ∧ i < n := by
  unfold ixN at h
  by_cases h0 : 0 ≤ i
  · rw [if_pos h0] at h
    by_cases h1 : i < n
    · rw [if_pos h1] at h
      have e : i.toNat = j := Option.some.inj h
      exact ⟨by rw [seqIndex_of h0 h1, e], by omega, by omega, h1⟩
    · rw [if_neg h1] at h; cases h
  · rw [if_neg h0] at h
    by_cases h1 : -(n : Int) ≤ i
    · rw [if_pos h1] at h
      have e : (i + n).toNat = j := Option.some.inj h
      exact ⟨by rw [seqIndex_neg (by omega) h1, e], by omega, h1, by omega⟩
    · rw [if_neg h1] at h; cases h
theorem atI_get {α : Type} {xs : List α} {i : Int} {v : α} (h : atI xs i = some v) : ∃ j, seqIndex? i xs.length = some j ∧ xs[j]? = some v ∧ j < xs.length ∧ -(xs.length : Int) ≤ i ∧ i < xs.length := by
  unfold atI at h
  cases e : ixN xs.length i with
  | none => rw [e] at h; cases h
  | some j =>
    rw [e] at h
    obtain ⟨h1, h2, h3, h4⟩ := ixN_seq e
    exact ⟨j, h1, h, h2, h3, h4⟩
theorem atI_nat {α : Type} {xs : List α} {j : Nat} {v : α} (h : xs[j]? = some v) : atI xs (j : Int) = some v := by
  have hj : j < xs.length := (List.getElem?_eq_some_iff.mp h).1
  have e : ixN xs.length (j : Int) = some j := by
    unfold ixN
    rw [if_pos (by omega), if_pos (by omega)]; simp
  unfold atI; rw [e]; exact h
/-! ### what may be subscripted -/
/-- what stands as an index of a plain subscript -/
noncomputable def PlainIx (b : Expr) : Prop := ∀ o i, subscripted b false o i = operate [o, i] (getItem o i)
/-- a subscript by values -/
noncomputable def IxR (X : Cx) (r : R2) : Prop :=
  ∀ (value slice : Expr) (pins : List (Addr × Obj)) (s : Shared) (σ : St) (H : Hp) (x y : V) (v u : Value) (Q : VK), Inv X pins σ H s → RelV x v → RelV y u → r x y H Q →
    subscripted slice false v u = operate [v, u] (getItem v u) → wpAny (model X.prog X.w) X.A (subscriptTail value slice v u) (EP X pins σ Q) X.xe s
/-- a call of a builtin's method by values: the receiver, the arguments -/
noncomputable def MtR (X : Cx) (id : String) (r : V → List V → Hp → VK → Prop) : Prop :=
  ∀ (pins : List (Addr × Obj)) (s : Shared) (σ : St) (H : Hp) (x : V) (xs : List V) (v : Value) (us : List Value) (Q : VK), Inv X pins σ H s → RelV x v → Vals xs us → r x xs H Q →
    wpAny (model X.prog X.w) X.A (call (.builtin id) (v :: us)) (EP X pins σ Q) X.xe s
section
variable {X : Cx} {a b : Expr} {ta tb : TE} {pos : Pos}
/-- a[b] -/
theorem pe_ix {r : R2} (hr : IxR X r) (ha : PE X a ta) (hb : PE X b tb) (hs : PlainIx b) : PE X (.Subscript a b pos) (tOp r ta tb) := by
  intro pins s σ H Q I h
  exact Subscript_ (binT ha hb I h fun v u s2 x y H2 I2 rx ry q => hr a b pins s2 σ H2 x y v u Q I2 rx ry q (hs _ _))

noncomputable def rIxL (K : PySem.W.Frag) : R2 := fun x y H Q => ∃ p xs i v, x = .ref p ∧ y = .int i ∧ SqL K H p xs ∧ atI xs i = some v ∧ Q v H
noncomputable def rIxS : R2 := fun x y H Q => ∃ z i c, x = .str z ∧ y = .int i ∧ z.length ≤ sizeLine ∧ atI z.cps.toList i = some c ∧ Q (.str ⟨#[c]⟩) H
theorem ix_list : IxR X (rIxL X.K) := by
  intro value slice pins s σ H x y v u Q I rx ry h hs
  obtain ⟨p, xs, i, z, rfl, rfl, hq, he, q⟩ := h
  cases rx
  obtain ⟨t, rfl⟩ := ry
  obtain ⟨its, r, pl, hz⟩ := I.list hq
  obtain ⟨j, h1, h2, h3, h4, h5⟩ := atI_get he
  obtain ⟨w, ew, rw'⟩ := r.get h2
  have hl := r.length
  have hn := line63
  have fin : EP X pins σ Q w s := ⟨z, H, I, rw', q⟩
  by_cases h0 : 0 ≤ i
  · have hj : i.toNat = j := by
      rw [seqIndex_of h0 h5] at h1
      exact Option.some.inj h1
    exact item_listR pl.isList h0 (by omega) (by rw [hj]; simpa using ew) fin hs
  · have hj : (i + (its.toArray.size : Int)).toNat = j := by
      rw [seqIndex_neg (by omega) h4] at h1
      rw [List.size_toArray, ← hl]
      exact Option.some.inj h1
    exact subscriptTail_builtinR (x := w) pl.isList.typeIs slot_list_getitem.lookup
      (wpAny_getItem_list_neg (Q := fun r s' => r = w ∧ EP X pins σ Q r s') pl.isList (by omega) (by rw [List.size_toArray] <;> omega) (by omega) (by rw [hj]; simpa using ew) ⟨rfl, fin⟩) hs
theorem ix_str : IxR X rIxS := by
  intro value slice pins s σ H x y v u Q I rx ry h hs
  obtain ⟨z, i, c, rfl, rfl, hz, he, q⟩ := h
  obtain ⟨t, rfl⟩ := rx
  obtain ⟨t', rfl⟩ := ry
  obtain ⟨j, h1, h2, h3, h4, h5⟩ := atI_get he
  have hl : z.cps.toList.length = z.length := by simp [Str.length]
  rw [hl] at h1 h4 h5
  have hn := line63
  exact tail_any (typeIs_str s z t) slot_str_getitem.lookup (getItem_str (c := c) (by
    have e1 : decide (i < -(2 ^ 63 : Int)) = false := decide_eq_false (by omega)
    have e2 : decide (i ≥ 2 ^ 63) = false := decide_eq_false (by omega)
    rw [e1, e2, Bool.or_false]) (by rw [h1]; simpa using h2) ⟨.str ⟨#[c]⟩, H, I.tok _, ⟨_, rfl⟩, q⟩) hs
/-! ### xs[i] = v, any sign -/
/-- the list's object behind a store -/
theorem mapSeq_set (its : List Value) (n j : Nat) (u : Value) : Obj.mapSeq (·.setIfInBounds j u) { cls := .type "list", data := .seq its.toArray n } = { cls := .type "list", data := .seq (its.set j u).toArray n } := by
  simp [Obj.mapSeq]
theorem Inv.lst {pins : List (Addr × Obj)} {σ : St} {H : Hp} {s : Shared} {p : Addr} {xs : List V} (I : Inv X pins σ H s) (h : H p = some (.lst xs)) :
    ∃ (its : List Value) (n : Nat), Vals xs its ∧ s.heap.get? p = some { cls := .type "list", data := .seq its.toArray n } ∧ xs.length ≤ sizeLine := by
  obtain ⟨z, its, n, r, e⟩ := I.hok p _ h
  exact ⟨its, n, r, e, z⟩
/-- the list at p is written by an update of its object -/
theorem Inv.lstUpd {pins : List (Addr × Obj)} {σ : St} {H : Hp} {s : Shared} {p : Addr} {xs ys : List V} {its its' : List Value} {n n' : Nat} {f : Obj → Obj} (I : Inv X pins σ H s) (h : H p = some (.lst xs))
    (ho : s.heap.get? p = some { cls := .type "list", data := .seq its.toArray n }) (hf : f { cls := .type "list", data := .seq its.toArray n } = { cls := .type "list", data := .seq its'.toArray n' }) (r : Vals ys its') (hz : ys.length ≤ sizeLine) (t : Nat) :
    Inv X pins σ (upd H p (.lst ys)) { s with heap := s.heap.update p f, toks := t } := by
  have e : (s.heap.update p f).get? p = some { cls := .type "list", data := .seq its'.toArray n' } := by
    rw [Heap.get?_update_self f ho (by rw [hf] <;> rfl), hf]
  refine I.write (x := p) (e := p) (by rw [h]; trivial) (.inl rfl) (fun b u hb q => (Heap.get?_update_other _ _ (Ne.symm hb)).trans q) ⟨_, e⟩ ?_
  exact ⟨hz, its', n', r, e⟩
noncomputable def rSetL : V → V → V → Hp → (Hp → Prop) → Prop := fun o i v H Q => ∃ p xs k j, o = .ref p ∧ i = .int k ∧ H p = some (.lst xs) ∧ ixN xs.length k = some j ∧ Q (upd H p (.lst (xs.set j v)))
theorem set_list : PSet X rSetL := by
  intro pins s σ H o i v ov iv u Q I ro ri rv h
  obtain ⟨p, xs, k, j, rfl, rfl, hp, hj, q⟩ := h
  cases ro
  obtain ⟨t, rfl⟩ := ri
  obtain ⟨its, n, r, ho, hz⟩ := I.lst hp
  obtain ⟨h1, h2, h3, h4⟩ := ixN_seq hj
  have hl := r.length
  have hn := line63
  have I' : Inv X pins σ (upd H p (.lst (xs.set j v))) { s with heap := s.heap.update p (Obj.mapSeq (·.setIfInBounds j u)) } :=
    I.lstUpd hp ho (mapSeq_set its n j u) (r.set rv j) (by rw [List.length_set]; exact hz) s.toks
  by_cases h0 : 0 ≤ k
  · have hk : k.toNat = j := by
      rw [seqIndex_of h0 h4] at h1
      exact Option.some.inj h1
    exact PySem.W.ki_setAt ho h0 (by omega) (by rw [List.size_toArray, ← hl]; exact h4) (by rw [hk]; exact ⟨_, I', q⟩)
  · have hk : (k + (its.toArray.size : Int)).toNat = j := by
      rw [seqIndex_neg (by omega) h3] at h1
      rw [List.size_toArray, ← hl]
      exact Option.some.inj h1
    exact PySem.W.ki_setBack ho (by omega) (by rw [List.size_toArray, ← hl]; exact h3) (by omega) (by rw [hk]; exact ⟨_, I', q⟩)

/-! ### in, not in: flat items -/
noncomputable def flatV : V → Bool
  | .non => true
  | .bl _ => true
  | .int _ => true
  | .str _ => true
  | _ => false
/-- == of flat values -/
noncomputable def eqV : V → V → Bool
  | .non, .non => true
  | .bl a, .bl b => a == b
  | .bl a, .int b => (if a then 1 else 0) == b
  | .int a, .bl b => a == (if b then 1 else 0)
  | .int a, .int b => a == b
  | .str a, .str b => a == b
  | _, _ => false
theorem eqAt_V {A : Around} {s : Shared} {y x : V} {u v : Value} (ry : RelV y u) (rx : RelV x v) (fy : flatV y = true) (fx : flatV x = true) : SeqAt.EqAt A s u v (eqV y x) := by
  cases y with
  | non =>
    cases ry
    cases x with
    | non => cases rx; exact SeqAt.EqAt.same _
    | bl b => cases rx; exact SeqAt.EqAt.none_bool b
    | int b => obtain ⟨t, rfl⟩ := rx; exact SeqAt.EqAt.none_int b t
    | str b => obtain ⟨t, rfl⟩ := rx; exact SeqAt.EqAt.none_str b t
    | _ => exact absurd (show false = true from fx) Bool.false_ne_true
  | bl a =>
    cases ry
    cases x with
    | non => cases rx; exact SeqAt.EqAt.bool_none a
    | bl b => cases rx; exact SeqAt.EqAt.bool_bool a b
    | int b => obtain ⟨t, rfl⟩ := rx; exact SeqAt.EqAt.bool_int a b t
    | str b => obtain ⟨t, rfl⟩ := rx; exact SeqAt.EqAt.bool_str a b t
    | _ => exact absurd (show false = true from fx) Bool.false_ne_true
  | int a =>
    obtain ⟨t', rfl⟩ := ry
    cases x with
    | non => cases rx; exact SeqAt.EqAt.int_none a t'
    | bl b => cases rx; exact SeqAt.EqAt.int_bool a t' b
    | int b => obtain ⟨t, rfl⟩ := rx; exact SeqAt.EqAt.int_int a t' b t
    | str b => obtain ⟨t, rfl⟩ := rx; exact SeqAt.EqAt.int_str a t' b t
    | _ => exact absurd (show false = true from fx) Bool.false_ne_true
  | str a =>
    obtain ⟨t', rfl⟩ := ry
    cases x with
    | non => cases rx; exact SeqAt.EqAt.str_none a t'
    | bl b => cases rx; exact SeqAt.EqAt.str_bool a t' b
    | int b => obtain ⟨t, rfl⟩ := rx; exact SeqAt.EqAt.str_int a t' b t
    | str b => obtain ⟨t, rfl⟩ := rx; exact SeqAt.EqAt.str_str a t' b t
    | _ => exact absurd (show false = true from fx) Bool.false_ne_true
  | _ => exact absurd (show false = true from fy) Bool.false_ne_true
/-- the items' answers, read off the values (a value's own answer does not lean on its token) -/
noncomputable def eqU (x : V) (u : Value) : Bool := match u with
  | .none => eqV .non x
  | .bool b => eqV (.bl b) x
  | .int i _ => eqV (.int i) x
  | .str z _ => eqV (.str z) x
  | _ => false
theorem eqU_of {x y : V} {u : Value} (r : RelV y u) (f : flatV y = true) : eqU x u = eqV y x := by
  cases y with
  | non => cases r; rfl
  | bl b => cases r; rfl
  | int i => obtain ⟨t, rfl⟩ := r; rfl
  | str z => obtain ⟨t, rfl⟩ := r; rfl
  | _ => exact absurd (show false = true from f) Bool.false_ne_true
theorem any_eqU {x : V} : ∀ {xs : List V} {us : List Value}, Vals xs us → xs.all flatV = true → us.any (eqU x) = xs.any fun y => eqV y x
  | _, _, .nil, _ => rfl
  | y :: xs, u :: us, .cons r t, f => by
    rw [List.all_cons, Bool.and_eq_true] at f
    rw [List.any_cons, List.any_cons, eqU_of r f.1, any_eqU t f.2]
theorem mem_eqAt {A : Around} {s : Shared} {x : V} {v : Value} (rx : RelV x v) (fx : flatV x = true) : ∀ {xs : List V} {us : List Value}, Vals xs us → xs.all flatV = true → ∀ u ∈ us, SeqAt.EqAt A s u v (eqU x u)
  | _, _, .nil, _ => fun u hu => by cases hu
  | y :: xs, u :: us, .cons r t, f => fun u' hu => by
    rw [List.all_cons, Bool.and_eq_true] at f
    rcases List.mem_cons.mp hu with rfl | hu
    · rw [eqU_of r f.1]; exact eqAt_V r rx f.1 fx
    · exact mem_eqAt rx fx t f.2 u' hu
noncomputable def inV (x : V) (xs : List V) : Bool := xs.any fun y => eqV y x
/-- x in a list or tuple of flat items -/
noncomputable def rIn (K : PySem.W.Frag) (neg : Bool) : R2 := fun x y H Q => ∃ p xs, y = .ref p ∧ (SqL K H p xs ∨ SqT K H p xs) ∧ flatV x = true ∧ xs.all flatV = true ∧ Q (.bl (if neg then !inV x xs else inV x xs)) H
theorem op_notIn_seq : OpR X (compareOp .NotIn) (rIn X.K true) := by
  intro pins s σ H x y v u Q I rx ry h
  obtain ⟨p, xs, rfl, hq, fx, fs, q⟩ := h
  cases ry
  rcases hq with hq | hq
  · obtain ⟨its, r, pl, hz⟩ := I.list hq
    refine SeqAt.notIn_listAt (eqU x) pl.isList (fun w hw => mem_eqAt rx fx r fs w (by simpa using hw)) ⟨.bl _, H, I, rfl, ?_⟩
    rw [show its.toArray.any (eqU x) = its.any (eqU x) by simp, any_eqU r fs]
    exact q
  · obtain ⟨its, r, pl, hz⟩ := I.tuple hq
    refine SeqAt.notIn_tupleAt (eqU x) pl (fun w hw => mem_eqAt rx fx r fs w (by simpa using hw)) ⟨.bl _, H, I, rfl, ?_⟩
    rw [show its.toArray.any (eqU x) = its.any (eqU x) by simp, any_eqU r fs]
    exact q
/-! ### len, list(x), tuple(x) of any list or tuple that is read -/
theorem call_len_seq : CallR X (.builtin "len") (fun xs H Q => ∃ p ys, xs = [.ref p] ∧ (SqL X.K H p ys ∨ SqT X.K H p ys) ∧ Q (.int ys.length) H) := by
  intro pins s σ H xs us Q I r h
  obtain ⟨p, ys, rfl, hq, q⟩ := h
  obtain ⟨u, rfl, rx⟩ := vals1 r
  cases rx
  have hn := line63
  rcases hq with hq | hq
  · obtain ⟨its, r', pl, hz⟩ := I.list hq
    have hlen := r'.length
    exact Calls.call_len_list pl.isList (by simp only [List.size_toArray] <;> omega) ⟨.int ys.length, H, I.tok _, ⟨s.toks + 1, by rw [List.size_toArray, hlen]⟩, q⟩
  · obtain ⟨its, r', pl, hz⟩ := I.tuple hq
    have hlen := r'.length
    exact len_tuple pl (by simp only [List.size_toArray] <;> omega) ⟨.int ys.length, H, I.tok _, ⟨s.toks + 1, by rw [List.size_toArray, hlen]⟩, q⟩
theorem call_len_str : CallR X (.builtin "len") (fun xs H Q => ∃ z, xs = [.str z] ∧ z.length ≤ sizeLine ∧ Q (.int z.length) H) := by
  intro pins s σ H xs us Q I r h
  obtain ⟨z, rfl, hz, q⟩ := h
  obtain ⟨u, rfl, t, rfl⟩ := vals1 r
  have hn := line63
  exact len_str (by omega) ⟨.int z.length, H, I.tok _, ⟨_, rfl⟩, q⟩
theorem call_list_of : CallR X (.type "list") (fun xs H Q => ∃ p ys, xs = [.ref p] ∧ (SqL X.K H p ys ∨ SqT X.K H p ys) ∧ ∀ l, H l = none → Q (.ref l) (upd H l (.lst ys))) := by
  intro pins s σ H xs us Q I r h
  obtain ⟨p, ys, rfl, hq, q⟩ := h
  obtain ⟨u, rfl, rx⟩ := vals1 r
  cases rx
  have fin : ∀ (its : List Value), Vals ys its → ys.length ≤ sizeLine → ∀ (h' : Heap) (c' : Nat), (∀ b o', s.heap.get? b = some o' → h'.get? b = some o') →
      h'.get? s.heap.objs.size = some { cls := .type "list", dict := none, data := .seq its.toArray c', slots := #[] } → EP X pins σ Q (.ref s.heap.objs.size) { s with heap := h' } := fun its r' hz h' c' kp e =>
    ⟨.ref s.heap.objs.size, _, I.laid (t' := s.toks) kp (Nat.le_refl _) (show ObjOk X.prog X.w _ h' _ (.lst ys) from ⟨hz, its, c', r', e⟩), rfl, q _ (I.hok.fresh (Nat.le_refl _))⟩
  rcases hq with hq | hq
  · obtain ⟨its, r', pl, hz⟩ := I.list hq
    have hlen := r'.length
    obtain ⟨o, ho, hc, n, hd⟩ := pl.isList
    exact call_list_seq p (.inl rfl) ho hc hd (fun h' c' kp e => fin its r' hz h' c' kp e) (by simp only [List.size_toArray] <;> omega)
  · obtain ⟨its, r', pl, hz⟩ := I.tuple hq
    have hlen := r'.length
    obtain ⟨o, ho, hc, n, hd⟩ := pl
    exact call_list_seq p (.inr rfl) ho hc hd (fun h' c' kp e => fin its r' hz h' c' kp e) (by simp only [List.size_toArray] <;> omega)
/-! ### the call of a builtin's method: o.m(..) -/
/-- the value is of that builtin type -/
noncomputable def tyV (K : PySem.W.Frag) (T : String) (x : V) (H : Hp) : Prop := match x with
  | .str _ => T = "str"
  | .int _ => T = "int"
  | .ref p => (T = "list" ∧ ∃ xs, SqL K H p xs) ∨ (T = "tuple" ∧ ∃ o, K.lookup p = some o ∧ o.cls = .type "tuple" ∧ o.dict = none) ∨
      (T = "dict" ∧ ((∃ kvs, H p = some (.dK kvs)) ∨ ∃ kvs, H p = some (.dT kvs))) ∨ (T = "set" ∧ ∃ S n, H p = some (.set S n))
  | _ => False
theorem tyV_is {pins : List (Addr × Obj)} {σ : St} {H : Hp} {s : Shared} {T : String} {x : V} {v : Value} (I : Inv X pins σ H s) (r : RelV x v) (ty : tyV X.K T x H) :
    s.TypeIs v T ∧ ∀ a, v = .ref a → ∃ ob, s.heap.get? a = some ob ∧ ob.dict = none := by
  cases x with
  | str z =>
    obtain ⟨t, rfl⟩ := r
    cases (show T = "str" from ty)
    exact ⟨typeIs_str s z t, fun _ e => nomatch e⟩
  | int i =>
    obtain ⟨t, rfl⟩ := r
    cases (show T = "int" from ty)
    exact ⟨typeIs_int s i t, fun _ e => nomatch e⟩
  | ref p =>
    cases r
    rcases ty with ⟨rfl, xs, hq⟩ | ⟨rfl, o, hk, hc, hd⟩ | ⟨rfl, hk⟩ | ⟨rfl, S, n, hk⟩
    · obtain ⟨its, _, pl, _⟩ := I.list hq
      refine ⟨pl.isList.typeIs, fun a e => ?_⟩
      cases e
      obtain ⟨o, n, e, c, hd, _⟩ := pl
      exact ⟨o, e, hd⟩
    · refine ⟨⟨o, I.kIn p o hk, hc⟩, fun a e => ?_⟩
      cases e
      exact ⟨o, I.kIn _ o hk, hd⟩
    · have z : ∃ o, s.heap.get? p = some o ∧ o.ExactDict := by
        rcases hk with ⟨kvs, hk⟩ | ⟨kvs, hk⟩
        · obtain ⟨_, _, _, _, o, _, _, e, ex, _⟩ := I.hok p _ hk
          exact ⟨o, e, ex⟩
        · obtain ⟨_, _, _, _, o, _, _, e, ex, _⟩ := I.hok p _ hk
          exact ⟨o, e, ex⟩
      obtain ⟨o, e, ex⟩ := z
      refine ⟨⟨o, e, ex.1⟩, fun a e2 => ?_⟩
      cases e2
      exact ⟨o, e, ex.2.1⟩
    · obtain ⟨o, _, _, _, e, ex, _⟩ := I.hok p _ hk
      refine ⟨⟨o, e, ex.1⟩, fun a e2 => ?_⟩
      cases e2
      exact ⟨o, e, ex.2.1⟩
  | _ => exact False.elim ty
noncomputable def tBM (K : PySem.W.Frag) (T : String) (r : V → List V → Hp → VK → Prop) (to : TE) (t : TA) : TE := fun σ H Q => to σ H fun x H1 => tyV K T x H1 ∧ t σ H1 fun xs H2 => r x xs H2 Q
variable {o e : Expr} {es : List Expr} {to : TE} {t : TA} {name : Str} {apos cpos : Pos} {T id : String} {r : V → List V → Hp → VK → Prop}
theorem pe_bm (pa : PlainAttrs T) (slot : Slot T name id) (hty : typeOf (.builtin id) = pure (.type "method_descriptor")) (hm : MtR X id r) (ho : PE X o to) (ha : PA X (e :: es) t)
    (hbase : attributeBase o name X.env (eval o X.env) = eval o X.env := by rfl)
    (hfew : ((backTo cpos (starEach (e :: es) X.env)).all (fun x => !x.1) && (backToKw cpos (keywordEach [] X.env)).all (fun x => x.1.isSome)
      && decide ((e :: es).length + ([] : List Keyword).length + (if ([] : List Keyword).isEmpty then 0 else 1) < 30)) = true := by rfl)
    (hline : (apos.endLine == cpos.line) = true := by rfl) (hs : starEach (e :: es) X.env = (false, eval e X.env) :: starEach es X.env := by rfl) (hplain : (backTo cpos (starEach es X.env)).any (·.1) = false := by rfl) :
    PE X (.Call (.Attribute o name apos) (e :: es) [] cpos) (tBM X.K T r to t) := by
  intro pins s σ H Q I h
  refine wpAny_Call_method_late hbase hfew hline rfl (thn (ho pins s σ H _ I h) fun v s1 ⟨x, H1, I1, r1, ty, q1⟩ => ?_)
  obtain ⟨h1, h2⟩ := tyV_is I1 r1 ty
  refine ⟨T, id, pa, slot, hty, h1, h2, ?_⟩
  have hA := ha cpos pins s1 σ H1 _ I1 q1
  rw [hs] at hA ⊢
  refine Calls.callWith_builtin (by show (false || (backTo cpos (starEach es X.env)).any (·.1)) = false; rw [hplain] <;> rfl) (Calls.evalArgs_plain ?_)
  exact thn hA fun us s2 ⟨vs, H2, I2, r2, q2⟩ => hm pins s2 σ H2 x vs v us Q I2 r1 r2 q2
/- xs.append(e), list.index on a module's tuple .. are MtR facts of 06m -/
end
end L2

namespace L2
open PySem PySem.Spec PyProof.Rows

noncomputable def MtM (X : Cx) (id : String) (r : V → List V → Hp → VK → Prop) : Prop :=
  ∀ (pins : List (Addr × Obj)) (s : Shared) (σ : St) (H : Hp) (x : V) (xs : List V) (v : Value) (us : List Value) (Q : VK), Inv X pins σ H s → RelV x v → Vals xs us → r x xs H Q →
    wpAny (model X.prog X.w) X.A (call (.builtin id) (v :: us)) (EP X pins σ Q) X.xe s

/-! ### lists of values -/
theorem Vals.one : ∀ {x : V} {us : List Value}, Vals [x] us → ∃ u, us = [u] ∧ RelV x u
  | _, _, .cons r .nil => ⟨_, rfl, r⟩
theorem Vals.rep {xs : List V} {us : List Value} (h : Vals xs us) : ∀ k : Nat, Vals (List.replicate k xs).flatten (List.replicate k us).flatten
  | 0 => .nil
  | k + 1 => by
    rw [List.replicate_succ, List.replicate_succ, List.flatten_cons, List.flatten_cons]
    exact Vals.append h (Vals.rep h k)
theorem foldl_rep (its : List Value) : ∀ (k : Nat) (acc : List Value),
    List.foldl (fun x1 x2 => x1 ++ x2) acc.toArray (List.replicate k its.toArray) = (acc ++ (List.replicate k its).flatten).toArray
  | 0, acc => by simp
  | k + 1, acc => by
    have e : acc.toArray ++ its.toArray = (acc ++ its).toArray := by simp
    have e2 : (acc ++ its) ++ (List.replicate k its).flatten = acc ++ (List.replicate (k + 1) its).flatten := by
      rw [List.replicate_succ, List.flatten_cons, List.append_assoc]
    rw [← e2, ← foldl_rep its k (acc ++ its), ← e, List.replicate_succ, List.foldl_cons]

section
variable {X : Cx} {pins : List (Addr × Obj)} {σ : St} {H : Hp} {s : Shared} {l b : Addr} {xs ys zs : List V}

/-! ### the two steps: a tracked list is rewritten, a new list is laid -/
theorem Inv.lset {its its' : List Value} {n : Nat} {f : Array Value → Array Value} {t' : Nat} (I : Inv X pins σ H s) (hH : H l = some (.lst xs))
    (e : s.heap.get? l = some { cls := .type "list", data := .seq its.toArray n }) (hf : f its.toArray = its'.toArray) (hv : Vals ys its') (hz : ys.length ≤ sizeLine) :
    Inv X pins σ (upd H l (.lst ys)) { s with heap := s.heap.update l (Obj.mapSeq f), toks := t' } := by
  have q := PySem.IsL.update e f
  rw [hf] at q
  refine I.write (x := l) (e := l) (by rw [hH]; exact trivial) (.inl rfl) (fun b' u hb hu => (Heap.get?_update_other s.heap (Obj.mapSeq f) (Ne.symm hb)).trans hu) ⟨_, q⟩ ?_
  exact ⟨hz, its', _, hv, q⟩
theorem Inv.lnew {its : List Value} {t' : Nat} (I : Inv X pins σ H s) (hv : Vals ys its) (hz : ys.length ≤ sizeLine) :
    Inv X pins σ (upd H s.heap.objs.size (.lst ys)) { s with heap := s.heap.push { cls := .type "list", data := .seq its.toArray }, toks := t' } :=
  I.laid (fun _ _ q => Heap.get?_push_of_some _ q) (Nat.le_refl _) ⟨hz, its, 0, hv, Heap.get?_push_size _ rfl⟩
theorem Inv.fresh (I : Inv X pins σ H s) : H s.heap.objs.size = none := I.hok.fresh (Nat.le_refl _)
theorem Inv.lstM (I : Inv X pins σ H s) (hH : H l = some (.lst xs)) : xs.length ≤ sizeLine ∧ ∃ (its : List Value) (n : Nat), Vals xs its ∧ xs.length = its.length ∧ s.heap.get? l = some { cls := .type "list", data := .seq its.toArray n } := by
  obtain ⟨z, its, n, r, e⟩ := I.hok l _ hH
  exact ⟨z, its, n, r, r.length, e⟩

theorem notLongL {n : Nat} (h : n ≤ sizeLine) : Builtin.List.listTooLong n = false := by
  unfold Builtin.List.listTooLong
  exact decide_eq_false (by omega)
end

section
variable {X : Cx}

/-! ### methods -/
noncomputable def rAppend : V → List V → Hp → VK → Prop := fun x vs H Q => ∃ l xs y, x = .ref l ∧ vs = [y] ∧ H l = some (.lst xs) ∧ xs.length < sizeLine ∧ Q .non (upd H l (.lst (xs ++ [y])))
theorem mt_append : MtM X "list.append" rAppend := by
  intro pins s σ H x vs v us Q I rx rv h
  obtain ⟨l, xs, y, rfl, rfl, hH, hz, q⟩ := h
  cases rx
  obtain ⟨u, rfl, ru⟩ := rv.one
  obtain ⟨z, its, n, r, hl, e⟩ := I.lstM hH
  refine call_meets F.slot_list_append ⟨_, e, rfl⟩ F.entry_list_append (F.args_list_append_2 _ _) (PySem.list_append l its.toArray n u (by rw [List.size_toArray]; omega)) ⟨e, ?_⟩
  refine ⟨.non, _, I.lset (its' := its ++ [u]) hH e (by simp) (r.append (.cons ru .nil)) ?_, rfl, q⟩
  rw [List.length_append, List.length_singleton]
  omega

theorem len_rep {α : Type} (xs : List α) (k : Nat) : (List.replicate k xs).flatten.length = k * xs.length := by
  induction k with
  | zero => simp
  | succ k ih => rw [List.replicate_succ, List.flatten_cons, List.length_append, ih, Nat.succ_mul, Nat.add_comm]
end

/-! ### xs[a:b] = ys -/
section
variable {prog : Program} {w : World} {A : Around} {E : Value → Shared → Prop} {s : Shared}
set_option maxRecDepth 100000 in
end

section
variable {X : Cx}
end
end L2

namespace Att
open PySem PySem.W PySem.Calls PyProof.Rows

/-! ### the script -/
theorem ints_of_wellAll {P : Params} {h : Heap} : ∀ (ns : List Int) (vs : List Value), WellAll P h vs (ns.map WData.int) → IntsAre vs ns := by
  intro ns
  induction ns with
  | nil =>
    intro vs w
    rw [List.map_nil] at w
    cases w
    exact .nil
  | cons n ns ih =>
    intro vs w
    rw [List.map_cons] at w
    cases w with
    | cons a b =>
      cases a
      exact .cons _ _ (ih _ b)

theorem script_of {l : OpenLaw} {n : Nat} (hn : l.most = some n) {P : Params} {h : Heap} {args : List WData} {vals : List Value}
    (hpre : l.row.toRowW.claim.pre args = true) (hwl : WellAll P h vals args) :
    ∃ a vs ns, vals = [Value.ref a] ∧ args = [WData.list (ns.map WData.int)] ∧ h.get? a = some { cls := .type "list", data := .seq vs.toArray } ∧ IntsAre vs ns ∧ ns.length ≤ n := by
  have hsh : WShape.hasAll [] args [.list .int] = true := (pre_splitW hpre).1
  have hc : l.pre.holds [] { args := args } = true := (pre_splitW hpre).2
  obtain ⟨d, r, rfl, h1, h2⟩ := hasAllW_cons hsh
  obtain rfl := hasAllW_nil h2
  obtain ⟨xs, rfl, h3⟩ := hasW_list h1
  obtain ⟨ns, rfl⟩ := items_int h3
  have hlen : ns.length ≤ n := by
    unfold OpenLaw.pre at hc
    have h4 : (WTm.not (.lt (.lit (.int (n : Int))) (.len (.arg 0)))).holds [] { args := [.list (ns.map .int)] } = true := by
      have h4 := (holds_andW hc).1
      rw [hn] at h4
      exact h4
    have h5 := condW_of h4 (w_not (w_lt w_lit (w_len_list (w_arg rfl))))
    rw [List.length_map] at h5
    refine Nat.le_of_not_lt fun q => ?_
    have q' : (n : Int) < ((ns.length : Nat) : Int) := by omega
    first
      | (rw [decide_eq_true q'] at h5; exact absurd h5 (by decide))
      | (simp at h5; omega)
  cases hwl with
  | cons w1 w2 =>
    cases w2
    cases w1 with
    | list ho hall => exact ⟨_, _, ns, rfl, rfl, ho, ints_of_wellAll ns _ hall, hlen⟩

theorem post_true (l : OpenLaw) (args : List WData) : l.row.toRowW.claim.post args (.bool true) args = true :=
  postW_of (r := l.row.toRowW) (X := (true == true))
    (show WShape.has [] (.bool true) .bool = true by first | rfl | decide | simp [WShape.has, WShape.arms, WShape.armsAll])
    (show (WTm.eq .res (.lit (.bool true))).value [] { args := args, res := some (.bool true), after := args } = some (.bool (true == true)) from w_eq_bool (w_res rfl) w_lit) rfl

/-- the same from a codeAny of the CALL (for a layer whose function contracts speak of calls) -/
theorem attach_call {l : OpenLaw} {n : Nat} {q : Program} {loose : List Str} {XP : (Str → Option Value) → Heap → Prop} {YP : World → Heap → Prop} {d : DefRec}
    (hn : l.most = some n) (hdf : d.params.defaults = [])
    (call : ∀ (w : World) (s₀ s₁ : Shared) (mg mb : Str → Option Value) (fa : Addr) (o : Obj) (pm cd doc : Value) (a : Addr) (vs : List Value) (ns : List Int),
      Ground q loose [] XP w s₀ mg mb s₁.heap → YP w s₁.heap →
      s₁.heap.get? fa = some o → o.data = .func (docDef d.name d.params d.body d.scope pm cd doc) → s₁.heap.CodeRec cd d.name → mg d.name = some (.ref fa) →
      s₁.heap.get? a = some { cls := .type "list", data := .seq vs.toArray } → IntsAre vs ns → ns.length ≤ n → s₁.gens = #[] →
      codeAny (model l.prog w) callerA (.call (.ref fa) ⟨[.ref a], []⟩) (fun r s' => r = .ok (.ret (.bool true)) ∧ OldK s₁.heap s'.heap ∧ s'.os = s₁.os ∧ AllBare s'.gens) s₁) :
    WalkO q loose XP YP l.row.toRowW d [] (fun f vs => PySem.call f vs) := by
  intro w s₀ s₁ mg mb G Y fa o pm cd doc dV kV ho hd hcd hD hmg hg args vals as hpre hlay hrd hwl hlo
  obtain rfl : dV = .none := Dflts.none hD hdf
  obtain rfl : kV = .none := Dflts.noKw hD
  obtain ⟨a, vs, ns, rfl, rfl, hobj, hints, hlen⟩ := script_of hn hpre hwl
  refine enter_call (codeAny_mono (call w s₀ s₁ mg mb fa o pm cd doc a vs ns G Y ho (fd_plain hd) hcd hmg hobj hints hlen hg) fun r s' hq => ?_)
  obtain ⟨rfl, h2, h3, h4⟩ := hq
  exact ⟨.inl ⟨.bool true, .bool true, [], rfl, fun _ => rfl, .bool true, post_true l _, fun _ => ⟨List.Pairwise.nil, fun _ hm => (nomatch hm)⟩⟩, h2, h3, h4⟩

/-! ### rules over ANY heap (no ledger) from facts about the written part K: the library's own take a ledger (News) for what they write -/
section
variable {prog : Program} {w : World} {A : Around} {E : Value → Shared → Prop} {s : Shared} {K : Frag}

end
end Att

namespace L2
open PySem PySem.Spec PyProof.Rows

theorem vals_ints : ∀ {vs : List Value} {ns : List Int}, IntsAre vs ns → Vals (ns.map V.int) vs
  | _, _, .nil => .nil
  | _, _, .cons n t h => .cons ⟨t, rfl⟩ (vals_ints h)

/-- nothing is tracked but the script, known to the object (or it is an object of the module) -/
noncomputable def Only (H : Hp) : Prop := ∀ b, H b = none ∨ ∃ o xs, H b = some (.frz o (.lst xs))

/-- THE HEAD: the law's promise, at the heap behind the top. F, the promise of the law's def, may use that base is part of the heap (so K.In base, base.Ns mainGlobals mg stand in Mod) -/
theorem law_call {P : Program} {w : World} {K : PySem.W.Frag} {mg mb : Str → Option Value} {CX : CXT} {k : Nat} {fa a : Addr} {fd : FuncData} {x : Str} {sp : Sp} {s₁ : Shared} {vs : List Value} {ns : List Int}
    (KX : K.In s₁.heap) (hns : s₁.heap.Ns mainGlobals mg) (hb : s₁.heap.Ns builtinsNs mb) (hbb : ∀ x : Str, x ≠ "__name__" → mb x = bootBuiltins x) (hlim : s₁.heap.NoLimit) (hg : s₁.gens = #[])
    (ha : s₁.heap.get? a = some { cls := .type "list", data := .seq vs.toArray }) (hi : IntsAre vs ns) (hl : ns.length ≤ sizeLine) (hr : Room k callerA)
    (F : ∀ base : Heap, K.In base → base.Ns mainGlobals mg → FnOk P w K mg base CX k fa fd [x] sp) (hbind : ∀ (s : Shared) (u : Value), BindsTo s fd ⟨[u], []⟩ [(x, u)])
    (hsp : ∀ H : Hp, Only H → SqL K H a (ns.map V.int) → sp [.ref a] H (fun v _ => v = .bl true) fun _ _ _ => False)
    (hCX : ∀ H e s', CX [] H s₁ (fun _ _ _ => False) e s' → False) :
    codeAny (model P w) callerA (.call (.ref fa) ⟨[.ref a], []⟩) (fun r s' => r = .ok (.ret (.bool true)) ∧ OldK s₁.heap s'.heap ∧ s'.os = s₁.os ∧ AllBare s'.gens) s₁ := by
  have rv := vals_ints hi
  have lenV := hi.length
  -- from an abstract heap in which nothing but the script may be tracked
  have core : ∀ H : Hp, Only H → SqL K H a (ns.map V.int) → HOk P w H s₁.heap → (∀ b, H b ≠ none → b = a) → (H a ≠ none → K.lookup a = none) →
      codeAny (model P w) callerA (.call (.ref fa) ⟨[.ref a], []⟩) (fun r s' => r = .ok (.ret (.bool true)) ∧ OldK s₁.heap s'.heap ∧ s'.os = s₁.os ∧ AllBare s'.gens) s₁ := by
    intro H hO hS hok hA hK
    have base_of : ∀ {b : Addr} {o : Obj}, s₁.heap.get? b = some o → H b = none → (hidT s₁.heap H).get? b = some o := fun e n => hidT_get e n
    have noA : ∀ {b : Addr} {o : Obj} {es : Array DictEntry} {ep : Nat}, s₁.heap.get? b = some o → o.data = .dict es ep → H b = none := fun {b o es ep} e d => by
      cases q : H b with
      | none => rfl
      | some u =>
        have e' : b = a := hA b (by rw [q]; simp)
        subst e'
        rw [ha] at e; cases e
        have d' : Data.seq vs.toArray _ = Data.dict es ep := d
        cases d'
    have nsK : ∀ {b : Addr} {m : Str → Option Value}, s₁.heap.Ns b m → (hidT s₁.heap H).Ns b m := fun {b m} ⟨o, es, ep, e, d, r⟩ => ⟨o, es, ep, base_of e (noA e d), d, r⟩
    have hKb : K.In (hidT s₁.heap H) := fun b o e => base_of (KX b o e) (by
      cases q : H b with
      | none => rfl
      | some u =>
        have e' : b = a := hA b (by rw [q]; simp)
        subst e'
        rw [hK (by rw [q]; simp)] at e; cases e)
    have hM : Mod K mg (hidT s₁.heap H) := ⟨hKb, nsK hns, ⟨mb, nsK hb, hbb⟩, let ⟨mc, h1, h2⟩ := hlim; ⟨mc, nsK h1, h2⟩⟩
    have e0 : Env0 P w K mg (hidT s₁.heap H) callerA [] s₁ H := ⟨rfl, hM, fun b o e => of_hidT e, Nat.le_of_eq (hidT_size _ _), trivial, fun b hb => absurd (show b ∈ ([] : List Addr) from hb) (by simp), hok, .of_eq hg⟩
    refine codeAny_mono ((F _ hKb (nsK hns)).run callerA [] s₁ H ⟨[.ref a], []⟩ [.ref a] [.ref a] _ _ hr e0 (hbind s₁ (.ref a)) (.cons rfl .nil) (hsp H hO hS)) fun r s' h => ?_
    cases r with
    | error e => exact (hCX H e s' h).elim
    | ok fl =>
      cases fl with
      | next => exact False.elim h
      | brk => exact False.elim h
      | cont => exact False.elim h
      | ret u =>
        obtain ⟨v, H', os, bare, un, hok', r', q⟩ := h
        have q' : v = .bl true := q
        subst q'
        obtain rfl : u = Value.bool true := r'
        refine ⟨rfl, OldK.of_keep fun b o e => ?_, os, bare⟩
        cases q : H b with
        | none => exact un.keep b o e q (by intro z; exact absurd (show b ∈ ([] : List Addr) from z) (by simp)) (by simp)
        | some u =>
          rcases hO b with z | ⟨ob, xs, z⟩
          · rw [q] at z; cases z
          · have z2 := un.frzs b ob _ z
            obtain ⟨e1, _⟩ := hok b _ z
            obtain ⟨e2, _⟩ := hok' b _ z2
            rw [e] at e1; cases e1
            exact e2
  cases hk : K.lookup a with
  | some o =>
    -- the script is one of the module's own objects
    have e := KX a o hk
    rw [ha] at e
    cases e
    refine core (fun _ => none) (fun _ => .inl rfl) (.inr ⟨_, vs.toArray, _, hk, rfl, rfl, rfl, by rw [List.size_toArray, lenV]; exact hl, by simpa using rv⟩) (fun b u z => by have z' : (none : Option HO) = some u := z; cases z') (fun b z => absurd rfl z) fun z => absurd rfl z
  | none =>
    refine core (fun b => if b = a then some (.frz { cls := .type "list", data := .seq vs.toArray } (.lst (ns.map V.int))) else none) (fun b => ?_) (.inl (.inr ⟨{ cls := .type "list", data := .seq vs.toArray }, if_pos rfl⟩)) (fun b u z => ?_) (fun b z => ?_) fun _ => hk
    · by_cases hb : b = a
      · exact .inr ⟨_, _, if_pos hb⟩
      · exact .inl (if_neg hb)
    · by_cases hb : b = a
      · have z' := (if_pos hb).symm.trans z
        cases z'
        subst hb
        exact ⟨ha, by rw [List.length_map]; exact hl, vs, _, rv, ha⟩
      · have z' := (if_neg hb).symm.trans z
        cases z'
    · by_cases hb : b = a
      · exact hb
      · exact absurd (if_neg hb) z
end L2

namespace L2
open PySem PySem.Spec PyProof.Rows

/-- the goal that k_head leaves (case hc), from the law's promise. F gives the function object fd (K's own) once, then the promise over every base -/
theorem walk_of {l : PySem.W.OpenLaw} {n k : Nat} {q : Program} {loose : List Str} {XP : (Str → Option Value) → Heap → Prop} {YP : World → Heap → Prop} {d : DefRec} {K : Params → PySem.W.Frag} {CX : World → CXT} {sp : World → Sp} {x : Str}
    (hn : l.most = some n) (hn2 : n ≤ sizeLine) (hdf : d.params.defaults = []) (hr : Room k callerA)
    (hY : ∀ (w : World) (h : Heap), YP w h → (K w.params).In h)
    (F : ∀ (w : World) (mg : Str → Option Value) (fa : Addr) (h : Heap), (K w.params).In h → h.Ns mainGlobals mg → mg d.name = some (.ref fa) →
      ∃ fd : FuncData, (∀ (s : Shared) (u : Value), BindsTo s fd ⟨[u], []⟩ [(x, u)]) ∧
        ∀ base : Heap, (K w.params).In base → base.Ns mainGlobals mg → FnOk l.prog w (K w.params) mg base (CX w) k fa fd [x] (sp w))
    (hsp : ∀ (w : World) (H : Hp) (a : Addr) (ns : List Int), ns.length ≤ n → Only H → SqL (K w.params) H a (ns.map V.int) → sp w [.ref a] H (fun v _ => v = .bl true) fun _ _ _ => False)
    (hCX : ∀ (w : World) (H : Hp) (s : Shared) (e : Value) (s' : Shared), CX w [] H s (fun _ _ _ => False) e s' → False) :
    PySem.W.WalkO q loose XP YP l.row.toRowW d [] (fun f vs => PySem.call f vs) := by
  refine Att.attach_call hn hdf fun w s₀ s₁ mg mb fa o pm cd doc a vs ns G Y ho hd hcd hmg hobj hints hlen hg => ?_
  have KX := hY w _ Y
  obtain ⟨fd, hb, hF⟩ := F w mg fa _ KX G.T.g hmg
  exact law_call KX G.T.g G.T.b G.T.builtins G.T.nolimit hg hobj hints (Nat.le_trans hlen hn2) hr hF hb (fun H hO hS => hsp w H a ns hlen hO hS) fun H e s' => hCX w H s₁ e s'
end L2

/- THE LAST THEOREM (shape; LID, My.* are yours):
   My.Adr: a structure of the addresses that your layer names (classes, functions); My.Txt K t: a structure (Prop) of the equations over K;
   My.txt_mk : {K} {implicit addresses ..} (e1 : nsIn K mainGlobals "law" = some (some (.ref f))) (e2 : K.lookup f = some ⟨oc, od, .func (fnOf "law" "law" params body scope dV kV doc pm an cdv ct), sl⟩) (e3 : codeIn K cdv "law" = true) .. : ∃ t, My.Txt K t

set_option maxRecDepth 100000 in
set_option maxHeartbeats 0 in
theorem PySem.Challenge.cw_LID_holds : PySem.Challenge.rw_LID.Holds := by
  w_on; o_law; k_head; (case hw => w_witness2)
  k_fill
  refine L2.walk_of (l := PySem.Challenge.rw_LID) (n := 63) (k := 40) (x := "script") (CX := fun w => ..) (sp := fun _ => My.sp_law) rfl (by decide) rfl ⟨rfl, by decide, by decide⟩ (fun w h Y => PySem.W.kIn_of Y) ?F ?S ?C
  case F =>
    intro w mg fa h KX G hmg
    have T : ∃ t, My.Txt (L2.KOf KX) t := by
      dsimp only [L2.KOf]                          -- K must stand as «<heap const> w.params» for k_is
      refine' My.txt_mk ?e1 ?e2 ?e3 ..
      (case e1 => PySem.W.k_is)                    -- in the order: a name -> its address -> its object -> its parts
      (case e2 => PySem.W.k_is)
      ..
    obtain ⟨t, T⟩ := T
    have e0 := hmg.symm.trans (PySem.W.mg_of KX G T.law)
    cases e0                                       -- fa is the law's own address
    exact ⟨_, fun s u => .of_eq rfl, fun base kb nb => My.law_fn T kb nb⟩     -- if «.of_eq rfl» comes too early: refine' ⟨_, ?b, fun base kb nb => My.law_fn T kb nb⟩; exact fun s u => .of_eq rfl
  case S => exact fun w H a ns hl hO hS => ..
  case C => exact ..
(the tactic k_is has no namespace: write k_is) -/

/-! SHORT WORDS over the layer: a def of the text, its body, what a loop and a test want. -/
namespace L2
open PySem PySem.Spec PyProof.Rows

/-! ### the text by places -/
/-- the j-th statement of a class's body -/
noncomputable def inClass (s : Stmt) (j : Nat) : Stmt := match s with
  | .ClassDef _ _ _ body _ _ _ _ _ _ _ => body.getD j (.Pass ⟨0, 0, 0, 0⟩)
  | _ => .Pass ⟨0, 0, 0, 0⟩
noncomputable def defArgs (s : Stmt) : Arguments := match s with
  | .FunctionDef _ a _ _ _ _ _ _ _ _ => a
  | _ => { posonlyargs := [], args := [], vararg := none, kwonlyargs := [], kw_defaults := [], kwarg := none, defaults := [] }
noncomputable def defBody (s : Stmt) : List Stmt := match s with
  | .FunctionDef _ _ b _ _ _ _ _ _ _ => b
  | _ => []
noncomputable def defScope (s : Stmt) : Scope := match s with
  | .FunctionDef _ _ _ _ _ _ sc _ _ _ => sc
  | _ => { kind := .function, names := [], isGenerator := false, isCoroutine := false }

noncomputable abbrev E0 : XK := fun _ _ _ => False
/-! ### a def (or method) of the text as it stands behind the top -/
structure Fun (K : PySem.W.Frag) (x qual : Str) (st : Stmt) (f : Addr) (fd : FuncData) : Prop where
  ex : ∃ (oc : Value) (od : Option Addr) (kV doc pm : Value) (an : Option Addr) (cdv ct : Value) (osl : Array (Option Value)),
    fd = PySem.W.fnOf x qual (defArgs st) (defBody st) (defScope st) .none kV doc pm an cdv ct ∧ K.lookup f = some ⟨oc, od, .func fd, osl⟩ ∧ PySem.W.codeIn K cdv qual = true
  kp : PySem.W.keepIn K (.ref f) = true
section
variable {P : Program} {w : World} {K : PySem.W.Frag} {mg : Str → Option Value} {base : Heap}
/-- how its arguments bind (no defaults): h is «fun _ _ _ _ _ _ us hl => match us, hl with | [_, _], _ => rfl», one _ a parameter -/
theorem Fun.binds {x qual : Str} {st : Stmt} {f : Addr} {fd : FuncData} {ps : List Str} (F : Fun K x qual st f fd)
    (h : ∀ (kV doc pm : Value) (an : Option Addr) (cdv ct : Value) (us : List Value), us.length = ps.length → bindArgs (PySem.W.fnOf x qual (defArgs st) (defBody st) (defScope st) .none kV doc pm an cdv ct) ⟨us, []⟩ = pure (ps.zip us)) : Binds K fd ps [] := by
  obtain ⟨oc, od, kV, doc, pm, an, cdv, ct, osl, rfl, lk, hcd⟩ := F.ex
  exact .all (h kV doc pm an cdv ct)
theorem fun_mk {x qual : Str} {st : Stmt} {f : Addr} {oc : Value} {od an : Option Addr} {osl : Array (Option Value)} {kV doc pm cdv ct : Value} (l : K.lookup f = some ⟨oc, od, .func (PySem.W.fnOf x qual (defArgs st) (defBody st) (defScope st) .none kV doc pm an cdv ct), osl⟩)
    (c : PySem.W.codeIn K cdv qual = true) (k : PySem.W.keepIn K (.ref f) = true) : Fun K x qual st f (PySem.W.fnOf x qual (defArgs st) (defBody st) (defScope st) .none kV doc pm an cdv ct) := ⟨⟨oc, od, kV, doc, pm, an, cdv, ct, osl, rfl, l, c⟩, k⟩
end
theorem hu_of {A : Around} {k : Nat} (hr : Room k A) : A.units + 1 < cLine := Nat.lt_of_le_of_lt (Nat.add_le_add_left (by decide : 1 ≤ 64) _) hr.units
/-! ### expressions in short: the name that stands in the i-th slot -/
section
variable {X : Cx}
theorem pv (i : Nat) {x : Str} {pos : Pos} (hN : X.N[i]? = some x := by rfl) (hv : Vis X.env.scope x := by first | exact Or.inl rfl | exact Or.inr (Or.inl rfl) | exact Or.inr (Or.inr rfl)) (hd : (x == ("__debug__" : Str)) = false := by decide)
    (hcd : (x == ("__classdict__" : Str)) = false := by decide) : PE X (.Name x pos) (tVar i) := pe_var hN hv hd hcd
end

/-! ### tests -/
theorem iteF {A B : Prop} (h : B) : if false = true then A else B := by
  rw [if_neg Bool.false_ne_true]
  exact h
theorem iteT {A B : Prop} (h : A) : if true = true then A else B := by
  rw [if_pos rfl]
  exact h
theorem ite2 {c A B : Prop} [Decidable c] (h1 : c → A) (h2 : ¬ c → B) : if c then A else B := by
  by_cases h : c
  · rw [if_pos h]
    exact h1 h
  · rw [if_neg h]
    exact h2 h
theorem iteNS {c A B : Prop} [Decidable c] (hc : c) (h : B) : if (!decide c) = true then A else B := by
  rw [decide_eq_true hc]
  exact iteF h

/-! ### heaps -/
/-- all that was tracked is as it was -/
noncomputable def Same (H H' : Hp) : Prop := ∀ b o, H b = some o → H' b = some o
theorem Same.refl (H : Hp) : Same H H := fun _ _ h => h
theorem Same.trans {H H1 H2 : Hp} (a : Same H H1) (b : Same H1 H2) : Same H H2 := fun c o h => b c o (a c o h)
theorem Same.seq {K : PySem.W.Frag} {H H' : Hp} {a : Addr} {xs : List V} (e : Same H H') (h : SqL K H a xs) : SqL K H' a xs := by
  rcases h with (h | ⟨o, h⟩) | h
  · exact .inl (.inl (e _ _ h))
  · exact .inl (.inr ⟨o, e _ _ h⟩)
  · exact .inr h

end L2

/-! Turns of a word, in plain lists. -/
namespace Wd
noncomputable abbrev W := List Nat
noncomputable def rot (k : Nat) (w : W) : W := w.drop k ++ w.take k
/-- the best so far, going through 1, 2, .. -/
noncomputable def bestTo (w : W) : Nat → Nat
  | 0 => 0
  | n + 1 => if rot (n + 1) w < rot (bestTo w n) w then n + 1 else bestTo w n
noncomputable def turnBy (w : W) : Nat := bestTo w (w.length - 1)
noncomputable def leastTo (w : W) : Nat → W
  | 0 => w
  | n + 1 => if rot (n + 1) w < leastTo w n then rot (n + 1) w else leastTo w n
noncomputable def least (w : W) : W := leastTo w (w.length - 1)
end Wd

/-! Primes, and a word parted into primes, in plain lists. -/
namespace Wd
/-- by turns -/
noncomputable def Prime (w : W) : Prop := w ≠ [] ∧ ∀ k, 0 < k → k < w.length → w < rot k w
/-- by ends -/
noncomputable def Ly (w : W) : Prop := w ≠ [] ∧ ∀ k, 0 < k → k < w.length → w < w.drop k
/-- text[i] for i up to m repeats with the period p -/
noncomputable def Per (t : W) (p m : Nat) : Prop := ∀ i, p ≤ i → i < m → t[i]? = t[i - p]?
end Wd

/-! Roots. -/
namespace Wd
noncomputable def rep (n : Nat) (l : W) : W := (List.replicate n l).flatten
/-- the letters stay where all go on by d -/
noncomputable def Rp (w : W) (d : Nat) : Prop := ∀ i, w[i % w.length]? = w[(i + d) % w.length]?
/-- the root's length: the least that comes out whole -/
structure RootLen (w : W) (p : Nat) : Prop where
  pos : 0 < p
  le : p ≤ w.length
  is : rep (w.length / p) (w.take p) = w
  no : ∀ q, 0 < q → q < p → rep (w.length / q) (w.take q) ≠ w
end Wd
namespace Wd
end Wd

/-! One way to part a word. -/
namespace Wd
noncomputable abbrev NI (ls : List W) : Prop := ls.Pairwise (fun a b => ¬ a < b)
end Wd

/-! Words and their numbers. -/
namespace Wd
/-- the n letters of number N over k kinds -/
noncomputable def spell (k : Nat) : Nat → Nat → W
  | 0, _ => []
  | n + 1, N => spell k n (N / k) ++ [97 + N % k]
theorem spell_len (k : Nat) : ∀ n N, (spell k n N).length = n
  | 0, _ => rfl
  | n + 1, N => by rw [spell, List.length_append, spell_len k n]; rfl
theorem spell_mem {k : Nat} (hk : 0 < k) : ∀ n N, ∀ c ∈ spell k n N, 97 ≤ c ∧ c < 97 + k
  | 0, _, c, h => by cases h
  | n + 1, N, c, h => by
    rw [spell, List.mem_append] at h
    rcases h with h | h
    · exact spell_mem hk n _ c h
    · have e : c = 97 + N % k := by simpa using h
      have := Nat.mod_lt N hk
      omega
/-- the number of a word -/
noncomputable def num (k : Nat) (w : W) : Nat := w.foldl (fun a c => a * k + (c - 97)) 0
theorem num_snoc (k : Nat) (w : W) (c : Nat) : num k (w ++ [c]) = num k w * k + (c - 97) := by
  unfold num
  rw [List.foldl_append]
  rfl
theorem num_spell {k : Nat} (hk : 0 < k) : ∀ n N, N < k ^ n → num k (spell k n N) = N
  | 0, N, h => by
    rw [Nat.pow_zero] at h
    have : N = 0 := by omega
    subst this
    rfl
  | n + 1, N, h => by
    rw [spell, num_snoc, num_spell hk n _ (Nat.div_lt_of_lt_mul (by rw [Nat.mul_comm, ← Nat.pow_succ]; exact h))]
    have e := Nat.div_add_mod N k
    rw [Nat.mul_comm] at e
    omega
theorem snoc_ex {w : W} (h : 0 < w.length) : ∃ u c, w = u ++ [c] := by
  exact ⟨w.dropLast, w.getLast (List.length_pos_iff.mp h), (List.dropLast_concat_getLast _).symm⟩
theorem spell_num {k : Nat} : ∀ (n : Nat) (w : W), w.length = n → (∀ c ∈ w, 97 ≤ c ∧ c < 97 + k) → spell k n (num k w) = w ∧ num k w < k ^ n
  | 0, w, h, _ => by
    have : w = [] := List.length_eq_zero_iff.mp h
    subst this
    exact ⟨rfl, by rw [Nat.pow_zero]; exact Nat.zero_lt_one⟩
  | n + 1, w, h, hw => by
    obtain ⟨u, c, rfl⟩ := snoc_ex (w := w) (by omega)
    rw [List.length_append] at h
    have hu : u.length = n := by
      have : [c].length = 1 := rfl
      omega
    obtain ⟨h1, h2⟩ := spell_num n u hu fun d hd => hw d (List.mem_append_left _ hd)
    have hc := hw c (by simp)
    have hk : 0 < k := by omega
    have hd : (num k u * k + (c - 97)) / k = num k u := by rw [Nat.add_comm, Nat.add_mul_div_right _ _ hk, Nat.div_eq_of_lt (by omega), Nat.zero_add]
    have hm : (num k u * k + (c - 97)) % k = c - 97 := by rw [Nat.add_comm, Nat.add_mul_mod_self_right, Nat.mod_eq_of_lt (by omega)]
    rw [num_snoc, spell, hd, hm, h1]
    refine ⟨by rw [show 97 + (c - 97) = c by omega], ?_⟩
    rw [Nat.pow_succ]
    have : num k u * k + k ≤ k ^ n * k := by rw [← Nat.succ_mul]; exact Nat.mul_le_mul_right k h2
    omega
/-- all words -/
noncomputable def allW (k n : Nat) : List W := (List.range (k ^ n)).map (spell k n)
theorem allW_len (k n : Nat) : (allW k n).length = k ^ n := by rw [allW, List.length_map, List.length_range]
theorem allW_get {k n i : Nat} (h : i < k ^ n) : (allW k n)[i]? = some (spell k n i) := by
  rw [allW, List.getElem?_map, List.getElem?_range h]
  rfl
end Wd

/-! Windows of rows and rings. -/
namespace Wd
/-- n letters from place i on, going round -/
noncomputable def ringAt (t : W) (n i : Nat) : W := (List.range n).map fun k => t.getD ((i + k) % t.length) 0
noncomputable def rowW (t : W) (n : Nat) : List W := (List.range (t.length + 1 - n)).map (ringAt t n)
noncomputable def ringW (t : W) (n : Nat) : List W := (List.range t.length).map (ringAt t n)
noncomputable def win (t : W) (n : Nat) (b : Bool) : List W := if b = true then ringW t n else rowW t n
end Wd

set_option linter.all false
/-! turned and mirrored words, their windows -/
namespace Wd
noncomputable def rotN {α : Type _} (t : List α) (s : Nat) : List α := t.drop s ++ t.take s
noncomputable def rotZ (t : W) (b : Int) : W := rotN t (b % (t.length : Int)).toNat
end Wd

/-! Beginnings of least words. -/
namespace Wd
/-- a turn by k is less, places told by a function -/
noncomputable def Nle (f : Nat → Nat) (n k : Nat) : Prop := ∃ i, i < n ∧ (∀ t, t < i → f ((k + t) % n) = f t) ∧ f ((k + i) % n) < f i
/-- letters of so many kinds -/
noncomputable def Okk (k : Nat) (w : W) : Prop := ∀ c ∈ w, 97 ≤ c ∧ c < 97 + k
noncomputable def Lst (w : W) : Prop := w = least w
/-- filled up with the top letter -/
noncomputable def fill (k n : Nat) (p : W) : W := p ++ List.replicate (n - p.length) (96 + k)
/-- a beginning -/
noncomputable def IsB (k n : Nat) (p : W) : Prop := p.length ≤ n ∧ Lst (fill k n p)
noncomputable instance (w : W) : Decidable (Lst w) := inferInstanceAs (Decidable (w = least w))
noncomputable instance (k n : Nat) (p : W) : Decidable (IsB k n p) := inferInstanceAs (Decidable (_ ∧ _))
/-- a least word of n letters -/
structure LW (k n : Nat) (w : W) : Prop where
  len : w.length = n
  ok : Okk k w
  lst : Lst w
end Wd

/-! The least least word that begins so, the next one, the last one. -/
namespace Wd
/-- going on from p: q is a beginning, and no least word that begins with p begins lower -/
structure LF (k n : Nat) (p q : W) : Prop where
  isb : IsB k n q
  ok : Okk k q
  pre : ∃ s, q = p ++ s
  low : ∀ w, LW k n w → (∃ s, w = p ++ s) → ¬ w.take q.length < q
/-- the least least word that begins so -/
structure LB (k n : Nat) (p r : W) : Prop where
  lw : LW k n r
  pre : ∃ s, r = p ++ s
  low : ∀ w, LW k n w → (∃ s, w = p ++ s) → ¬ w < r
/-- none found so far: of the words that part from w at a place from m on -/
noncomputable def Nn (k : Nat) (w : W) (m : Nat) : Prop := ∀ v, LW k w.length v → ∀ p, m ≤ p → p < w.length → v.take p = w.take p → ¬ w.getD p 0 < v.getD p 0
/-- the next least word -/
structure NX (k : Nat) (w r : W) : Prop where
  lw : LW k w.length r
  gt : w < r
  low : ∀ v, LW k w.length v → w < v → ¬ v < r
/-- the last least word that isn't greater -/
structure LL (k : Nat) (w r : W) : Prop where
  lw : LW k w.length r
  le : ¬ w < r
  high : ∀ v, LW k w.length v → ¬ w < v → ¬ r < v
/-- no least word up to w shares its first m letters -/
noncomputable def Jn (k : Nat) (w : W) (m : Nat) : Prop := ∀ v, LW k w.length v → ¬ w < v → v.take m ≠ w.take m
end Wd

/-! All least words of a length, in their order. -/
namespace Wd
theorem mem_allW {k n : Nat} {w : W} (hk : 0 < k) : w ∈ allW k n ↔ w.length = n ∧ Okk k w := by
  unfold allW
  rw [List.mem_map]
  constructor
  · rintro ⟨i, _, rfl⟩
    exact ⟨spell_len k n i, spell_mem hk n i⟩
  · rintro ⟨hl, ho⟩
    obtain ⟨h1, h2⟩ := spell_num n w hl ho
    exact ⟨num k w, List.mem_range.mpr h2, h1⟩
noncomputable def LO (k n : Nat) : List W := (allW k n).filter fun w => decide (least w = w)
/-- those that begin so -/
noncomputable def begs (p w : W) : Bool := decide (w.take p.length = p)
/-- all words of one letter more -/
theorem allW_succ (k n : Nat) (hk : 0 < k) : allW k (n + 1) = (allW k n).flatMap fun w => (List.range k).map fun c => w ++ [97 + c] := by
  unfold allW
  rw [List.flatMap_map, Nat.pow_succ]
  generalize k ^ n = m
  induction m with
  | zero => simp
  | succ m ih =>
    rw [Nat.succ_mul, List.range_add, List.map_append, ih, List.range_succ, List.flatMap_append]
    congr 1
    simp only [List.flatMap_cons, List.flatMap_nil, List.append_nil, List.map_map]
    apply List.map_congr_left
    intro c hc
    have hc' := List.mem_range.mp hc
    show spell k (n + 1) (m * k + c) = _
    rw [spell]
    have e1 : (m * k + c) / k = m := by rw [Nat.mul_comm, Nat.mul_add_div hk, Nat.div_eq_of_lt hc']; omega
    have e2 : (m * k + c) % k = c := by rw [Nat.mul_comm, Nat.mul_add_mod, Nat.mod_eq_of_lt hc']
    rw [e1, e2]
end Wd

set_option linter.all false
/-! What hangs together by words gone either way, grown word by word. -/
namespace Hg
variable {bg en : List Nat → List Nat}
inductive Rch (bg en : List Nat → List Nat) (ms : List (List Nat)) (p : List Nat) : List Nat → Prop
  | self : Rch bg en ms p p
  | fw {w : List Nat} : w ∈ ms → Rch bg en ms p (bg w) → Rch bg en ms p (en w)
  | bw {w : List Nat} : w ∈ ms → Rch bg en ms p (en w) → Rch bg en ms p (bg w)
noncomputable def Cl (bg en : List Nat → List Nat) (ls : List (List Nat)) (w : List Nat) : Prop := bg w ∈ ls ↔ en w ∈ ls
/-- a key put in -/
noncomputable def addT (ls : List (List Nat)) (t : List Nat) : List (List Nat) := if t ∈ ls then ls else ls ++ [t]
/-- found, with i words gone through since it was fs -/
structure Pass (bg en : List Nat → List Nat) (ms : List (List Nat)) (p : List Nat) (fs : List (List Nat)) (i : Nat) (ls : List (List Nat)) : Prop where
  nd : ls.Nodup
  pre : fs <+: ls
  rch : ∀ z ∈ ls, Rch bg en ms p z
  cl : ls.length = fs.length → ∀ w ∈ ms.take i, Cl bg en fs w
/-- all pieces, begins then ends -/
noncomputable def allP (bg en : List Nat → List Nat) (ms : List (List Nat)) : List (List Nat) := ms.map bg ++ ms.map en
/-- how many places of pieces are not met -/
noncomputable def miss (ps met : List (List Nat)) : Nat := (ps.filter fun z => decide (¬ z ∈ met)).length
/-- met, with i words gone through since it was fs -/
structure Walk (bg en : List Nat → List Nat) (ms : List (List Nat)) (p : List Nat) (fs : List (List Nat)) (i : Nat) (ls : List (List Nat)) (ch : Bool) : Prop where
  sub : ∀ z ∈ fs, z ∈ ls
  rch : ∀ z ∈ ls, Rch bg en ms p z
  len : ls.length + 2 * miss (allP bg en ms) ls ≤ fs.length + 2 * miss (allP bg en ms) fs
  no : ch = false → ls = fs ∧ ∀ w ∈ ms.take i, Cl bg en fs w
  yes : ch = true → miss (allP bg en ms) ls < miss (allP bg en ms) fs
end Hg

set_option Elab.async false
set_option linter.all false
set_option maxRecDepth 100000
set_option maxHeartbeats 4000000

/-! Texts by their codes, over the layer. -/
namespace L2
open PySem PySem.Spec PyProof.Rows

noncomputable def tx (l : List Nat) : Str := ⟨l.toArray⟩
noncomputable abbrev T (l : List Nat) : V := .str (tx l)
theorem tx_len (l : List Nat) : (tx l).length = l.length := by simp [tx, Str.length]
theorem tx_cps (l : List Nat) : (tx l).cps.toList = l := by simp [tx]
theorem tx_eta (x : Str) : tx x.cps.toList = x := by cases x; simp [tx]
theorem tx_inj {a b : List Nat} (h : tx a = tx b) : a = b := by
  have e := congrArg (fun x : Str => x.cps.toList) h
  simpa [tx] using e
theorem T_inj {a b : List Nat} (h : T a = T b) : a = b := tx_inj (V.str.inj h)
theorem T_dec {a b : List Nat} : decide (T a = T b) = decide (a = b) := by
  rw [Bool.eq_iff_iff, decide_eq_true_iff, decide_eq_true_iff]
  exact ⟨T_inj, fun h => by rw [h]⟩
theorem tx_app (a b : List Nat) : tx a ++ tx b = tx (a ++ b) := by
  rw [← tx_eta (tx a ++ tx b), PySem.W.KT.app_list, tx_cps, tx_cps]

section
variable {X : Cx}
theorem op_add_T : OpR X (binaryOp .Add) (fun x y H Q => ∃ a, x = T a ∧ ∃ b, y = T b ∧ a.length + b.length ≤ sizeLine ∧ Q (T (a ++ b)) H) := by
  intro pins s σ H x y v u Q I rx ry h
  obtain ⟨a, e1, b, e2, hz, q⟩ := h
  exact op_add_str pins s σ H x y v u Q I rx ry ⟨tx a, tx b, e1, e2, by rw [tx_len, tx_len]; exact hz, by rw [tx_app]; exact q⟩
theorem op_eq_T : OpR X (compareOp .Eq) (fun x y H Q => ∃ a, x = T a ∧ ∃ b, y = T b ∧ Q (.bl (decide (a = b))) H) := by
  intro pins s σ H x y v u Q I rx ry h
  obtain ⟨a, rfl, b, rfl, q⟩ := h
  exact op_eq pins s σ H _ _ v u Q I rx ry ⟨rfl, by rw [T_dec]; exact q⟩
theorem op_ne_T : OpR X (compareOp .NotEq) (fun x y H Q => ∃ a, x = T a ∧ ∃ b, y = T b ∧ Q (.bl (!decide (a = b))) H) := by
  intro pins s σ H x y v u Q I rx ry h
  obtain ⟨a, rfl, b, rfl, q⟩ := h
  exact op_ne pins s σ H _ _ v u Q I rx ry ⟨rfl, by rw [T_dec]; exact q⟩
theorem op_eq_I : OpR X (compareOp .Eq) (fun x y H Q => ∃ a, x = .int a ∧ ∃ b, y = .int b ∧ Q (.bl (decide (a = b))) H) := by
  intro pins s σ H x y v u Q I rx ry h
  obtain ⟨a, rfl, b, rfl, q⟩ := h
  exact op_eq pins s σ H _ _ v u Q I rx ry ⟨rfl, by rw [dec_int, Bool.beq_eq_decide_eq]; exact q⟩
theorem op_ne_I : OpR X (compareOp .NotEq) (fun x y H Q => ∃ a, x = .int a ∧ ∃ b, y = .int b ∧ Q (.bl (!decide (a = b))) H) := by
  intro pins s σ H x y v u Q I rx ry h
  obtain ⟨a, rfl, b, rfl, q⟩ := h
  exact op_ne pins s σ H _ _ v u Q I rx ry ⟨rfl, by rw [dec_int, Bool.beq_eq_decide_eq]; exact q⟩
/-! ### slices -/
noncomputable def cutL (l : List Nat) (lo hi : Option Int) : List Nat := (l.drop (HT.sIx l.length 0 lo)).take (HT.sIx l.length l.length hi - HT.sIx l.length 0 lo)
theorem clip_sIx (v : Option Int) (n d : Nat) : (match v with | none => (d : Int) | some i => max 0 (min (if i < 0 then i + (n : Int) else i) (n : Int))) = ((HT.sIx n d v : Nat) : Int) := by
  cases v with
  | none => rfl
  | some i =>
    show max 0 (min (if i < 0 then i + (n : Int) else i) (n : Int)) = (((if i < 0 then (i + (n : Int)).toNat else min i.toNat n) : Nat) : Int)
    by_cases hi : i < 0
    · simp only [if_pos hi]; omega
    · simp only [if_neg hi]; omega
theorem indices_sIx (lo hi : Option Int) (n : Nat) : Builtin.Str.strSliceIndices lo hi 1 n = Builtin.Str.strSliceIndices (some ((HT.sIx n 0 lo : Nat) : Int)) (some ((HT.sIx n n hi : Nat) : Int)) 1 n := by
  have h1 := HT.sIx_le n 0 (Nat.zero_le _) lo
  have h2 := HT.sIx_le n n (Nat.le_refl _) hi
  have c1 := clip_sIx lo n 0
  have c2 := clip_sIx hi n n
  have d1 := clip_sIx (some ((HT.sIx n 0 lo : Nat) : Int)) n 0
  have d2 := clip_sIx (some ((HT.sIx n n hi : Nat) : Int)) n n
  rw [HT.sIx_nat, Nat.min_eq_left h1] at d1
  rw [HT.sIx_nat, Nat.min_eq_left h2] at d2
  unfold Builtin.Str.strSliceIndices
  simp only [show ((1 : Int) > 0) from by decide, if_true]
  have g : ∀ a b c d : Int, a = c → b = d → sliceRange a b 1 = sliceRange c d 1 := fun a b c d h1 h2 => by rw [h1, h2]
  exact g _ _ _ _ (c1.trans d1.symm) (c2.trans d2.symm)
theorem slice_tx (l : List Nat) (lo hi : Option Int) : Txt.slice (tx l) lo hi = tx (cutL l lo hi) := by
  have h1 := HT.sIx_le l.length 0 (Nat.zero_le _) lo
  have h2 := HT.sIx_le l.length l.length (Nat.le_refl _) hi
  unfold Txt.slice
  rw [tx_len, indices_sIx]
  by_cases hab : HT.sIx l.length 0 lo ≤ HT.sIx l.length l.length hi
  · have e := StrLaws.sliceText_nat (tx l) hab (by rw [tx_len]; exact h2)
    unfold StrLaws.sliceText at e
    rw [tx_len, tx_cps] at e
    exact e
  · have e0 : Builtin.Str.strSliceIndices (some ((HT.sIx l.length 0 lo : Nat) : Int)) (some ((HT.sIx l.length l.length hi : Nat) : Int)) 1 l.length = [] := by
      unfold Builtin.Str.strSliceIndices sliceRange
      have n1 : ¬ (((HT.sIx l.length 0 lo : Nat) : Int) < 0) := by omega
      have n2 : ¬ (((HT.sIx l.length l.length hi : Nat) : Int) < 0) := by omega
      simp only [show ((1 : Int) > 0) from by decide, if_true, if_neg n1, if_neg n2]
      have n3 : ¬ (max (0 : Int) (min ((HT.sIx l.length 0 lo : Nat) : Int) (l.length : Int)) < max (0 : Int) (min ((HT.sIx l.length l.length hi : Nat) : Int) (l.length : Int))) := by omega
      simp [n3]
    have e1 : cutL l lo hi = [] := by
      unfold cutL
      rw [show HT.sIx l.length l.length hi - HT.sIx l.length 0 lo = 0 by omega, List.take_zero]
    rw [e0, e1]
    cases l with
    | nil => rfl
    | cons c r => rfl
theorem sl_T : SlR X (fun x lo hi H Q => ∃ a, x = T a ∧ a.length ≤ sizeLine ∧ Q (T (cutL a lo hi)) H) := by
  intro pins s σ H x v vl vu lo hi sl Q I rx hs pl pu h
  obtain ⟨a, rfl, hz, q⟩ := h
  obtain ⟨t, rfl⟩ := rx
  obtain ⟨l, hl1, hl2⟩ : ∃ l : Option (Int × Tok), partValue l = vl ∧ l.map (·.1) = lo := by
    cases pl with
    | none => exact ⟨none, rfl, rfl⟩
    | int i t => exact ⟨some (i, t), rfl, rfl⟩
  obtain ⟨u, hu1, hu2⟩ : ∃ u : Option (Int × Tok), partValue u = vu ∧ u.map (·.1) = hi := by
    cases pu with
    | none => exact ⟨none, rfl, rfl⟩
    | int i t => exact ⟨some (i, t), rfl, rfl⟩
  refine ⟨"str", _, F.slot_str_getitem.lookup, typeIs_str _ _ _, ?_⟩
  have hsl : s.heap.IsSlice sl l u none := by
    obtain ⟨o, ho, hc, hd⟩ := hs
    exact ⟨o, ho, hc, by rw [hl1, hu1]; exact hd⟩
  refine wpAny_getItem_str_slice hsl rfl ?_
  have key : (if ((1 : Int) == 1 && (Builtin.Str.strSliceIndices lo hi 1 (tx a).length).length == (tx a).length) = true then (tx a) else ⟨((Builtin.Str.strSliceIndices lo hi 1 (tx a).length).filterMap ((tx a).cps[·]?)).toArray⟩) = tx (cutL a lo hi) := slice_tx a lo hi
  unfold sliceMade slicePicked
  rw [hl2, hu2]
  refine post_val_or_str ⟨?_, fun t' k => ?_⟩
  · show (Txt.slice (tx a) lo hi).length ≤ sizeLine
    exact Nat.le_trans (Txt.slice_le _ _ _) (by rw [tx_len]; exact hz)
  · refine ⟨T (cutL a lo hi), H, I.tok _, ⟨t', ?_⟩, q⟩
    exact congrArg (fun z => Value.str z t') key

/-! ### ''.join(texts) -/
theorem strsAre_T : ∀ {ls : List (List Nat)} {us : List Value}, Vals (ls.map T) us → StrsAre us (ls.map tx)
  | [], us, r => by
    cases r
    exact .nil
  | l :: ls, us, r => by
    rw [List.map_cons] at r
    cases r with
    | cons r1 r2 =>
      obtain ⟨t, rfl⟩ := r1
      exact .cons _ _ (strsAre_T r2)
theorem glued_empty : ∀ (ls : List (List Nat)) (acc : Array Nat), (ls.map tx).foldl (fun acc p => acc ++ (tx []).cps ++ p.cps) acc = acc ++ ls.flatten.toArray
  | [], acc => by simp
  | l :: ls, acc => by
    rw [List.map_cons, List.foldl_cons, glued_empty ls]
    simp [tx]
theorem join_tx (ls : List (List Nat)) : Txt.join (tx []) (ls.map tx) = tx ls.flatten := by
  unfold Txt.join Builtin.Str.glued
  cases ls with
  | nil => rfl
  | cons l ls =>
    rw [List.map_cons, List.drop_succ_cons, List.drop_zero, List.headD_cons, glued_empty]
    simp [tx]
theorem sum_len_tx (ls : List (List Nat)) : ((ls.map tx).map (·.length)).sum = ls.flatten.length := by
  induction ls with
  | nil => rfl
  | cons l ls ih => rw [List.map_cons, List.map_cons, List.sum_cons, ih, List.flatten_cons, List.length_append, tx_len]
theorem mt_join : MtR X "str.join" (fun x xs H Q => x = T [] ∧ ∃ (p : Addr) (ls : List (List Nat)), xs = [.ref p] ∧ SqL X.K H p (ls.map T) ∧ ls.flatten.length ≤ sizeLine ∧ Q (T ls.flatten) H) := by
  intro pins s σ H x xs v us Q I rx rs h
  obtain ⟨rfl, p, ls, rfl, hq, hz, q⟩ := h
  obtain ⟨t, rfl⟩ := rx
  obtain ⟨u, rfl, ru⟩ := vals1 rs
  cases ru
  obtain ⟨its, r, pl, _⟩ := I.list hq
  have hs : sizeLine = 16777216 := sizeLine_eq
  refine join_list pl.isList (ys := ls.map tx) (by simpa using strsAre_T r) ?_ fun t' k => ⟨T ls.flatten, H, I.tok _, ⟨t', by rw [join_tx]⟩, q⟩
  rw [sum_len_tx, tx_len, List.length_nil, Nat.mul_zero]
  omega
end
end L2
namespace L2
theorem cutL_from {w : List Nat} {k : Nat} (h : k ≤ w.length) : cutL w (some (k : Int)) none = w.drop k := by
  unfold cutL
  rw [HT.sIx_nat, HT.sIx_none, Nat.min_eq_left h]
  exact List.take_of_length_le (by rw [List.length_drop]; omega)
theorem cutL_to {w : List Nat} {k : Nat} (h : k ≤ w.length) : cutL w none (some (k : Int)) = w.take k := by
  unfold cutL
  rw [HT.sIx_nat, HT.sIx_none, Nat.min_eq_left h, List.drop_zero, Nat.sub_zero]
end L2

set_option Elab.async false
set_option linter.all false
set_option maxRecDepth 100000
set_option maxHeartbeats 4000000

/-! A list comprehension (one for, a plain name, no test) over the layer. -/
namespace L2
open PySem PySem.Spec PyProof.Rows

/-- the scopes of a def and of a comprehension in it; N: the def's names, N' : the block's (its own first, a hidden one empty) -/
structure CompSc (N N' : List Str) (sc scope : Scope) (x : Str) : Prop where
  kind : scope.kind = .function
  cell : ∀ y ∈ scope.names, y.2 ≠ .cell
  names : ∀ y ∈ scope.names, y.2 = .local → scope.names.lookup y.1 = some .local
  var : scope.names.lookup x = some .local
  ok : ∀ y ∈ scope.names, y.2 = .free → sc.names.lookup y.1 = some .cell ∨ sc.names.lookup y.1 = some .free
  hd : N'[0]? = some x
  len : N'.length = N.length + 1
  sub : ∀ i, i < N.length → N'[i + 1]? = N[i]? ∨ N'[i + 1]? = some ("" : Str)
  noe : scope.names.lookup ("" : Str) = none
  nol : ∀ y ∈ N'.tail, scope.names.lookup y ≠ some .local
  nd : N'.Nodup

noncomputable def closOf (cells : List (Str × Addr)) : List (Str × NameKind) → List (Str × Addr) → List (Str × Addr)
  | [], acc => acc
  | (n, k) :: r, acc => closOf cells r (if k == .free then (n, (cells.lookup n).getD 0) :: acc else acc)
theorem clos_sound {cells : List (Str × Addr)} {y : Str} {c : Addr} : ∀ (names : List (Str × NameKind)) (acc : List (Str × Addr)), (∀ z ∈ names, z.2 = .free → ∃ c, cells.lookup z.1 = some c) →
    (acc.lookup y = some c → cells.lookup y = some c) → (closOf cells names acc).lookup y = some c → cells.lookup y = some c
  | [], acc, _, ha, h => ha h
  | (n, k) :: r, acc, hz, ha, h => by
    unfold closOf at h
    refine clos_sound r _ (fun z hm => hz z (List.mem_cons_of_mem _ hm)) (fun q => ?_) h
    split at q
    · rename_i hk
      obtain ⟨c', e⟩ := hz (n, k) List.mem_cons_self (by simpa using hk)
      rw [List.lookup_cons] at q
      split at q
      · rename_i he
        have : y = n := by simpa using he
        subst this
        rw [e] at q
        rw [e]
        exact q
      · exact ha q
    · exact ha q
theorem clos_acc {cells : List (Str × Addr)} {y : Str} : ∀ (names : List (Str × NameKind)) (acc : List (Str × Addr)), (∃ c, acc.lookup y = some c) → ∃ c, (closOf cells names acc).lookup y = some c
  | [], acc, h => h
  | (n, k) :: r, acc, ⟨c, h⟩ => by
    unfold closOf
    refine clos_acc r _ ?_
    split
    · rw [List.lookup_cons]
      split
      · exact ⟨_, rfl⟩
      · exact ⟨c, h⟩
    · exact ⟨c, h⟩
theorem clos_has {cells : List (Str × Addr)} {y : Str} : ∀ (names : List (Str × NameKind)) (acc : List (Str × Addr)), (y, NameKind.free) ∈ names → ∃ c, (closOf cells names acc).lookup y = some c
  | (n, k) :: r, acc, h => by
    unfold closOf
    rcases List.mem_cons.mp h with e | h
    · cases e
      refine clos_acc r _ ⟨(cells.lookup y).getD 0, ?_⟩
      simp
    · exact clos_has r _ h
theorem clos_eq {scope : Scope} {env : Env} (h : ∀ z ∈ scope.names, z.2 = .free → ∃ c, env.cells.lookup z.1 = some c) : closureFor scope env = pure (closOf env.cells scope.names []) := by
  have gen : ∀ (names : List (Str × NameKind)) (acc : List (Str × Addr)), (∀ z ∈ names, z.2 = .free → ∃ c, env.cells.lookup z.1 = some c) →
      (forIn names acc fun (x : Str × NameKind) (r : List (Str × Addr)) => (if (x.2 == NameKind.free) = true then (do let a ← cellOf env x.1; pure (ForInStep.yield ((x.1, a) :: r))) else pure (ForInStep.yield r) : Sem (ForInStep (List (Str × Addr))))) = (pure (closOf env.cells names acc) : Sem (List (Str × Addr))) := by
    intro names
    induction names with
    | nil => intro acc _; rfl
    | cons z r ih =>
      intro acc hz
      obtain ⟨n, k⟩ := z
      rw [List.forIn_cons]
      unfold closOf
      by_cases hk : (k == NameKind.free) = true
      · obtain ⟨c, e⟩ := hz (n, k) List.mem_cons_self (by simpa using hk)
        have e' : env.cells.lookup n = some c := e
        simp only [hk, if_true, cellOf, e', pure_bind, Option.getD_some]
        exact ih _ fun z hm => hz z (List.mem_cons_of_mem _ hm)
      · simp only [hk, Bool.false_eq_true, if_false, pure_bind]
        exact ih _ fun z hm => hz z (List.mem_cons_of_mem _ hm)
  have g := gen scope.names [] h
  unfold closureFor
  refine Eq.trans ?_ (congrArg (fun (m : Sem (List (Str × Addr))) => m >>= fun cs => pure cs) g)
  rfl
theorem relabel_lookup (scope : Scope) (env : Env) (y : Str) : (relabel scope env).names.lookup y = (scope.names.lookup y).map fun k => if (k == NameKind.free && env.scope.kind == .function && env.kindOf y == some .cell) = true then NameKind.cell else k := by
  unfold relabel
  show List.lookup y (scope.names.map fun (n, k) => if (k == NameKind.free && env.scope.kind == .function && env.kindOf n == some .cell) = true then (n, NameKind.cell) else (n, k)) = _
  induction scope.names with
  | nil => rfl
  | cons z r ih =>
    obtain ⟨n, k⟩ := z
    rw [List.map_cons]
    by_cases hy : (y == n) = true
    · have e : y = n := by simpa using hy
      subst e
      by_cases hc : (k == NameKind.free && env.scope.kind == .function && env.kindOf y == some .cell) = true
      · simp only [hc, if_true, List.lookup_cons, beq_self_eq_true, Option.map_some]
      · simp only [hc, if_false, List.lookup_cons, beq_self_eq_true, Option.map_some, Bool.false_eq_true]
    · have hy' : (y == n) = false := by simpa using hy
      by_cases hc : (k == NameKind.free && env.scope.kind == .function && env.kindOf n == some .cell) = true
      · simp only [hc, if_true, List.lookup_cons, hy']
        exact ih
      · simp only [hc, if_false, List.lookup_cons, hy', Bool.false_eq_true]
        exact ih
theorem lookup_mem {κ : Type} : ∀ {l : List (Str × κ)} {y : Str} {k : κ}, l.lookup y = some k → (y, k) ∈ l := fun h => PySem.mem_of_lookup h

/-- the context of the block -/
noncomputable abbrev cxComp (X : Cx) (N' : List Str) (scope : Scope) (cl : List (Str × Addr)) (C : Addr) (s : Shared) (H : Hp) (fp : List Addr) : Cx :=
  { X with env := compEnvC scope cl C X.env, N := N', s₀ := s, H₀ := H, outer := X.stack, stack := X.stack, ex := fp, fn := fun _ => false, xe := fun _ _ => False }

theorem codeAny_compLoop_any {prog : Program} {w : World} {A : Around} {R : Result → Shared → Prop} {s : Shared} {elt target iter : Expr} {scope : Scope} {pos : Pos} {it acc : Value} {env : Env} (I : Nat → Shared → Prop)
    (turn : ∀ n s, I n s → wpAny (model prog w) A (pyNext it) (fun r s₁ => match r with
      | none => R (.ok .next) s₁
      | some v => wpAny (model prog w) A (letOwnedTupleGo target it v) (fun _ s₁' => wpAny (model prog w) A (assign target env v) (fun _ s₂ => wpAny (model prog w) A (eval elt env) (fun x s₃ =>
          wpAny (model prog w) A (call (.builtin "list.append") [acc, x]) (fun _ s₄ => ∃ m, m < n ∧ I m s₄) (fun _ _ => False) s₃)
          (fun _ _ => False) s₂) (fun _ _ => False) s₁') (fun _ _ => False) s₁) (fun _ _ => False) s)
    (n : Nat) (h : I n s) :
    codeAny (model prog w) A (.compLoop (.ListComp elt [⟨target, iter, [], 0⟩] scope pos) 0 it acc env) R s := by
  refine codeAny_loop rfl I (fun n s hI => ?_) n h
  show wpAny _ _ ((compTurn (.ListComp elt [⟨target, iter, [], 0⟩] scope pos) 0 it acc env).onRaise (fun x => do noteFrame x env; theTreesLotGoes x)) _ _ s
  refine wpAny_noted ?_
  rw [compTurn_list1]
  refine wpAny_bind (wpAny_standAt (wpAny_bind (wpAny_mono (turn n s hI) (fun r s₁ h₁ => ?_) fun _ _ h' => h'.elim)))
  cases r with
  | none => exact wpAny_pure h₁
  | some v =>
    refine wpAny_bind (wpAny_mono h₁ (fun _ s₁' h₁' => ?_) fun _ _ h' => h'.elim)
    exact wpAny_bind (wpAny_mono h₁' (fun _ s₂ h₂ => wpAny_bind (wpAny_bind (wpAny_mono h₂ (fun x s₃ h₃ => wpAny_bind (wpAny_mono h₃
      (fun _ s₄ h₄ => wpAny_pure (wpAny_pure ⟨rfl, h₄⟩)) fun _ _ h' => h'.elim)) fun _ _ h' => h'.elim))) fun _ _ h' => h'.elim)

/-- the reading: W i m ys H: at turn i (measure m) the list so far is ys -/
noncomputable def compAt (te : TE) (σ : St) (Q : VK) (J : It) (H1 : Hp) : Prop := ∀ D, H1 D = none → ∃ W : Nat → Nat → List V → Hp → Prop, (∃ m, W 0 m [] (upd H1 D (.lst []))) ∧ ∀ i m ys H2, W i m ys H2 →
  (J.stop i H2 ∧ Q (.ref D) H2) ∨ (J.go i H2 ∧ ys.length < sizeLine ∧ ∃ N : V → Hp → Prop, (∀ v H', N v H' → H' D = some (.lst ys) ∧ ∃ m', m' < m ∧ W (i + 1) m' (ys ++ [v]) (upd H' D (.lst (ys ++ [v])))) ∧
    ∀ y H', J.yld i H2 y H' → te (some y :: σ) H' N)
noncomputable def tComp (wi : TI) (te : TE) : TE := fun σ H Q => wi σ H (compAt te σ Q)

section
variable {X : Cx} {N' : List Str} {scope : Scope} {x : Str} {px : Pos} {elt iter : Expr} {pos : Pos} {te : TE} {wi : TI}

theorem comp_core (S : CompSc X.N N' X.env.scope scope x) (hc : X.calm = true) (he : ∀ cl C s H fp, PE (cxComp X N' scope cl C s H fp) elt te)
    {pins : List (Addr × Obj)} {σ : St} {H : Hp} {s : Shared} {Q : VK} {E : Value → Shared → Prop} {RR : Value → Addr → Result → Shared → Prop} {it : Addr} {fp : List Addr} {tn : Nat → Heap → Prop} {J : It}
    (I : Inv X pins σ H s) (T : Turn X.prog X.w X.K (.Name x px) J fp it tn) (st : tn 0 s.heap) (f2 : ∀ b ∈ fp, FpOk X pins H b)
    (hw : compAt te σ Q J H)
    (hRR : ∀ D C s' H', Inv X pins σ H' s' → (∃ m, s'.heap.Ns C m) → C ≠ X.env.locals → (∀ y c, X.env.cells.lookup y = some c → c ≠ C) → H' C = none → X.s₀.heap.objs.size ≤ C → (∀ p ∈ X.pn ++ pins, p.1 ≠ C) → Q (.ref D) H' → RR (.ref D) C (.ok .next) s') :
    ∃ cl, closureFor scope X.env = pure cl ∧ wpAny (model X.prog X.w) X.A (newList []) (fun acc s₃ => wpAny (model X.prog X.w) X.A (newFunctionEnv scope X.env.globals cl [] X.env.qual none .none (some X.env)) (fun cenv s₄ =>
      codeAny (model X.prog X.w) X.A (.compStart (.ListComp elt [⟨.Name x px, iter, [], 0⟩] scope pos) 0 (.ref it) acc { cenv with scope := relabel scope X.env }) (RR acc cenv.locals) s₄) E s₃) E s := by
  have hfree : ∀ z ∈ scope.names, z.2 = .free → ∃ c, X.env.cells.lookup z.1 = some c := fun z hz hk => by
    rcases S.ok z hz hk with q | q
    · exact I.ok.has z.1 (.inl q)
    · exact I.ok.has z.1 (.inr q)
  refine ⟨_, clos_eq hfree, ?_⟩
  have clS : ∀ y c, (closOf X.env.cells scope.names []).lookup y = some c → X.env.cells.lookup y = some c := fun y c => clos_sound scope.names [] hfree fun q => by cases q
  generalize hcl : closOf X.env.cells scope.names [] = cl at clS
  have clH : ∀ y, scope.names.lookup y = some .free → ∃ c, cl.lookup y = some c := fun y hy => by
    rw [← hcl]
    exact clos_has scope.names [] (lookup_mem hy)
  refine wpAny_newObj_type (wpAny_newFunctionEnv S.cell (by intro y hy; simp at hy) (fun h₁ hns₁ hsb₁ => ?_) S.kind)
  have I3 : Inv X pins σ (upd H s.heap.objs.size (.lst [])) { s with heap := s.heap.push { cls := .type "list", data := .seq ([] : List Value).toArray } } := I.lnew (t' := s.toks) .nil (Nat.zero_le _)
  obtain ⟨W, ⟨m0, w0⟩, turn⟩ := hw s.heap.objs.size I.fresh
  dsimp only at hns₁ hsb₁ ⊢
  generalize hs3 : ({ s with heap := s.heap.push { cls := .type "list", data := .seq ([] : List Value).toArray } } : Shared) = s3 at I3
  have hh3 : s3.heap = s.heap.push { cls := .type "list", data := .seq ([] : List Value).toArray } := by rw [← hs3]
  have hsz3 : s3.heap.objs.size = s.heap.objs.size + 1 := by rw [hh3, Heap.size_push]
  rw [← hh3] at hns₁ hsb₁ ⊢
  have old : ∀ b o, s3.heap.get? b = some o → h₁.get? b = some o := fun b o e => hsb₁.extBut b o (by have := Heap.lt_size e; exact Nat.ne_of_lt this) (Heap.get?_push_of_some _ e)
  have old0 : ∀ b o, s.heap.get? b = some o → h₁.get? b = some o := fun b o e => old b o (by rw [hh3]; exact Heap.get?_push_of_some _ e)
  have CneL : s3.heap.objs.size ≠ X.env.locals := Nat.ne_of_gt I3.lt
  have CneC : ∀ y c, X.env.cells.lookup y = some c → c ≠ s3.heap.objs.size := fun y c e z => by
    obtain ⟨v, q⟩ := I3.cell y c e
    have := q.lt
    rw [z] at this
    exact absurd this (Nat.lt_irrefl _)
  have CneP : ∀ p ∈ X.pn ++ pins, p.1 ≠ s3.heap.objs.size := fun p hp z => by
    have := Heap.lt_size (I3.pin p hp).1
    rw [z] at this
    exact absurd this (Nat.lt_irrefl _)
  have CfreeH : ∀ b o, s3.heap.get? b = some o → b < s3.heap.objs.size := fun b o e => by have := Heap.lt_size e; exact this
  have fpLt : ∀ b ∈ fp, b < s3.heap.objs.size := fun b hb => by
    obtain ⟨o, e, _⟩ := T.obj 0 s.heap st b hb
    rw [hsz3]
    exact Nat.lt_succ_of_lt (Heap.lt_size e)
  have fpD : ∀ b ∈ fp, b ≠ s.heap.objs.size := fun b hb => by
    obtain ⟨o, e, _⟩ := T.obj 0 s.heap st b hb
    exact Nat.ne_of_lt (Heap.lt_size e)
  -- the block's context
  have ok' : (cxComp X N' scope cl s3.heap.objs.size s3 (upd H s.heap.objs.size (.lst [])) fp).Ok := by
    refine ⟨I3.ok.mod, ?_, I3.ok.glob, I3.ok.blt, Nat.le_refl _, fun y z c h1 h2 => I3.ok.inj y z c (clS y c h1) (clS z c h2), fun y hy => ?_, fun y c hf => (by cases hf), I3.ok.hd, I3.ok.frames, .inl rfl, fun b hb => ⟨Nat.ne_of_lt (fpLt b hb), fun y c e => (f2 b hb).2.2.2.2.1 y c (clS y c e)⟩,
      fun b o e => I3.bs b o e, Nat.le_trans I3.ok.bsz I3.sz, fun b o e hb => ?_, fun b hb z => ?_, I3.stack, I3.stkFree⟩
    · show (relabel scope X.env).kind = .function
      exact S.kind
    · have hy' : (relabel scope X.env).names.lookup y = some .cell ∨ (relabel scope X.env).names.lookup y = some .free := hy
      rw [relabel_lookup] at hy'
      cases q : scope.names.lookup y with
      | none => rw [q] at hy'; rcases hy' with z | z <;> cases z
      | some k =>
        have hm := lookup_mem q
        cases k with
        | free => exact clH y q
        | cell => exact absurd rfl (S.cell _ hm)
        | «local» => rw [q] at hy'; rcases hy' with z | z <;> simp at z
        | globalExplicit => rw [q] at hy'; rcases hy' with z | z <;> simp at z
        | globalImplicit => rw [q] at hy'; rcases hy' with z | z <;> simp at z
    · rcases (f2 b hb).2.2.2.1 with z | z
      · exact I.ok.noex b o e z
      · exact absurd (Nat.lt_of_lt_of_le (Heap.lt_size e) (Nat.le_trans I.ok.bsz z)) (Nat.lt_irrefl _)
    · rcases List.mem_cons.mp (I3.stkSub b z) with q | q
      · exact (f2 b hb).2.1 q
      · exact (f2 b hb).2.2.1 q
  have fpOk' : ∀ {H' : Hp}, (∀ b ∈ fp, H' b = none) → ∀ b ∈ fp, FpOk (cxComp X N' scope cl s3.heap.objs.size s3 (upd H s.heap.objs.size (.lst [])) fp) pins H' b := fun hn b hb =>
    ⟨hn b hb, Nat.ne_of_lt (fpLt b hb), fun z => by
      rcases List.mem_cons.mp (I3.stkSub b z) with q | q
      · exact (f2 b hb).2.1 q
      · exact (f2 b hb).2.2.1 q, .inl hb, fun y c e => (f2 b hb).2.2.2.2.1 y c (clS y c e), (f2 b hb).2.2.2.2.2⟩
  have I4 : Inv (cxComp X N' scope cl s3.heap.objs.size s3 (upd H s.heap.objs.size (.lst [])) fp) pins (none :: σ) (upd H s.heap.objs.size (.lst [])) { s3 with heap := h₁, toks := s3.toks + ([] : List (Str × Value)).length } := by
    refine ⟨ok', rfl, I3.bare, Un.kept old, ⟨_, hns₁, fun i y v e1 e2 vis => ?_⟩, fun y c e => ?_, ?_, fun y c e => I3.freeC y c (clS y c e), fun p hp => ?_, I3.hok.kept old, ?_⟩
    · cases i with
      | zero => cases e2
      | succ i =>
        have e2' : σ[i]? = some (some v) := by simpa using e2
        have hi : i < X.N.length := by rw [← I3.len]; exact (List.getElem?_eq_some_iff.mp e2').1
        have vis' : (relabel scope X.env).names.lookup y = some .local ∨ (relabel scope X.env).names.lookup y = some .cell ∨ (relabel scope X.env).names.lookup y = some .free := vis
        have e1' : N'[i + 1]? = some y := e1
        rcases S.sub i hi with q | q
        · rw [e1'] at q
          have hy : X.N[i]? = some y := q.symm
          have hmem : y ∈ N'.tail := by
            rw [List.mem_iff_getElem?]
            exact ⟨i, by rw [List.getElem?_tail]; exact e1'⟩
          have hfr : scope.names.lookup y = some .free := by
            rw [relabel_lookup] at vis'
            cases q2 : scope.names.lookup y with
            | none => rw [q2] at vis'; rcases vis' with z | z | z <;> cases z
            | some k =>
              cases k with
              | free => rfl
              | cell => exact absurd rfl (S.cell _ (lookup_mem q2))
              | «local» => exact absurd q2 (S.nol y hmem)
              | globalExplicit => rw [q2] at vis'; rcases vis' with z | z | z <;> simp at z
              | globalImplicit => rw [q2] at vis'; rcases vis' with z | z | z <;> simp at z
          have hok := S.ok (y, .free) (lookup_mem hfr) rfl
          obtain ⟨m, hn, hl⟩ := I3.loc
          have visX : Vis X.env.scope y := by
            rcases hok with z | z
            · exact .inr (.inl z)
            · exact .inr (.inr z)
          obtain ⟨u, r, l⟩ := hl i y v hy e2' visX
          refine ⟨u, r, .inr ⟨?_, ?_⟩⟩
          · show (relabel scope X.env).names.lookup y = some .cell ∨ (relabel scope X.env).names.lookup y = some .free
            rw [relabel_lookup, hfr, Option.map_some]
            by_cases hcnd : (NameKind.free == NameKind.free && X.env.scope.kind == .function && X.env.kindOf y == some .cell) = true
            · left
              rw [if_pos hcnd]
            · right
              rw [if_neg hcnd]
          · rcases l with ⟨k, _⟩ | ⟨k, c, e, z⟩
            · have k' : X.env.scope.names.lookup y = some .local := k
              have hok' : X.env.scope.names.lookup y = some .cell ∨ X.env.scope.names.lookup y = some .free := hok
              rw [k'] at hok'
              rcases hok' with z | z <;> cases z
            · obtain ⟨c', e'⟩ := clH y hfr
              have e3 := clS y c' e'
              rw [e] at e3
              cases e3
              obtain ⟨o, ho, hd⟩ := z
              exact ⟨c, e', o, old c o ho, hd⟩
        · rw [e1'] at q
          cases q
          rw [relabel_lookup, S.noe] at vis'
          rcases vis' with z | z | z <;> cases z
    · obtain ⟨v, o, ho, hd⟩ := I3.cell y c (clS y c e)
      exact ⟨v, o, old c o ho, hd⟩
    · show upd H s.heap.objs.size (.lst []) s3.heap.objs.size = none
      exact I3.hok.fresh (Nat.le_refl _)
    · obtain ⟨e, n, ne, nf, d⟩ := I3.pin p hp
      refine ⟨old _ _ e, n, CneP p hp, fun z => ?_, d⟩
      rcases List.mem_cons.mp (I3.stkSub p.1 z) with q | q
      · exact ne q
      · exact nf q
    · show (none :: σ).length = N'.length
      rw [S.len, List.length_cons, I3.len]
  have st4 : tn 0 h₁ := T.keep 0 s.heap h₁ st fun b _ o e => old0 b o e
  -- the loop
  have loop : ∀ s₄ : Shared, s₄ = { s3 with heap := h₁, toks := s3.toks + ([] : List (Str × Value)).length } →
      codeAny (model X.prog X.w) X.A (.compLoop (.ListComp elt [⟨.Name x px, iter, [], 0⟩] scope pos) 0 (.ref it) (.ref s.heap.objs.size) (compEnvC scope cl s3.heap.objs.size X.env)) (RR (.ref s.heap.objs.size) s3.heap.objs.size) s₄ := by
    rintro s₄ rfl
    refine codeAny_compLoop_any (fun n s' => ∃ i v0 ys H', Inv (cxComp X N' scope cl s3.heap.objs.size s3 (upd H s.heap.objs.size (.lst [])) fp) pins (v0 :: σ) H' s' ∧ tn i s'.heap ∧ (∀ b ∈ fp, H' b = none) ∧ W i n ys H') ?_ m0
      ⟨0, none, [], _, I4, st4, fun b hb => by rw [upd_ne (fpD b hb)]; exact (f2 b hb).1, w0⟩
    rintro n s5 ⟨i, v0, ys, H5, I5, st5, fr5, w5⟩
    rcases turn i n ys H5 w5 with ⟨stop, qn⟩ | ⟨go, hz, N, hN, step⟩
    · refine thn (T.done (cxComp X N' scope cl s3.heap.objs.size s3 (upd H s.heap.objs.size (.lst [])) fp) rfl rfl rfl hc i pins s5 (v0 :: σ) H5 (fun _ _ => False) I5 (fpOk' fr5) st5 stop) fun r s6 ⟨hr, I6⟩ => ?_
      subst hr
      have hch : ∀ b ∈ fp, (b ∈ X.ex ∨ X.s₀.heap.objs.size ≤ b) ∧ b ≠ X.env.locals ∧ (∀ x c, X.env.cells.lookup x = some c → c ≠ b) ∧ ∀ p ∈ X.pn ++ pins, p.1 ≠ b := fun b hb =>
        ⟨(f2 b hb).2.2.2.1, (f2 b hb).2.1, (f2 b hb).2.2.2.2.1, (f2 b hb).2.2.2.2.2⟩
      have I7 : Inv X pins σ H5 s6 := I3.call' (ch := fp) I6.os I6.base I6.hok I6.bare hch
      obtain ⟨m, hm, _⟩ := I6.loc
      exact hRR s.heap.objs.size s3.heap.objs.size s6 H5 I7 ⟨m, hm⟩ CneL CneC I6.free (Nat.le_trans I3.sz (Nat.le_refl _)) CneP qn
    · refine thn (T.item (cxComp X N' scope cl s3.heap.objs.size s3 (upd H s.heap.objs.size (.lst [])) fp) rfl rfl rfl hc i pins s5 (v0 :: σ) H5 (fun _ _ => False) I5 (fpOk' fr5) st5 go) fun r s6 ⟨u, hr, h6⟩ => ?_
      subst hr
      refine thn h6 fun _ s7 ⟨y, H7, I7, r7, y7, st7, fr7⟩ => ?_
      have I7' := I7.pinned (fpOk' fr7) (T.obj _ _ st7)
      refine wpAny_assign_Name (store_ok (i := 0) (v := y) I7' S.nd S.hd (.inl (lookup_relabel_local S.var)) r7 (fun s8 I8 => ?_) (.inr (lookup_relabel_local S.var)))
      have I8' : Inv (cxComp X N' scope cl s3.heap.objs.size s3 (upd H s.heap.objs.size (.lst [])) fp) (pins ++ pinsAt fp s7.heap) (some y :: σ) H7 s8 := I8
      refine thn (he cl s3.heap.objs.size s3 (upd H s.heap.objs.size (.lst [])) fp _ s8 (some y :: σ) H7 N I8' (step y H7 y7)) fun w s9 ⟨v, H9, I9, r9, q9⟩ => ?_
      obtain ⟨hD9, m', hm, w9⟩ := hN v H9 q9
      refine thn (mt_append _ s9 (some y :: σ) H9 (.ref s.heap.objs.size) [v] (.ref s.heap.objs.size) [w] (fun z H10 => z = .non ∧ H10 = upd H9 s.heap.objs.size (.lst (ys ++ [v]))) I9 rfl (.cons r9 .nil) ⟨s.heap.objs.size, ys, v, rfl, rfl, hD9, hz, rfl, rfl⟩) fun _ s10 ⟨z, H10, I10, _, ez, e10⟩ => ?_
      subst e10
      refine ⟨m', hm, i + 1, some y, ys ++ [v], _, I10.unpinned, T.keep _ _ _ st7 fun b hb o e => (I10.pin (b, o) (List.mem_append_right _ (List.mem_append_right _ (mem_pinsAt hb e)))).1, fun b hb => ?_, w9⟩
      obtain ⟨o, e, d⟩ := T.obj _ _ st7 b hb
      exact (I10.pin (b, o) (List.mem_append_right _ (List.mem_append_right _ (mem_pinsAt hb e)))).2.1
  exact codeAny_compStart_list (loop _ (by rw [← hs3])) (T.self X.A 0 _ _ _ st4 (loop _ (by rw [← hs3])))

/-- name = [elt for x in iter] where the store comes ahead of the block's end -/
theorem ps_setComp {i : Nat} {y : Str} {py spos : Pos} (S : CompSc X.N N' X.env.scope scope x) (hc : X.calm = true) (hi : PI X (.Name x px) iter wi) (he : ∀ cl C s H fp, PE (cxComp X N' scope cl C s H fp) elt te)
    (hN : X.N.Nodup) (hy : X.N[i]? = some y) (hyl : X.env.scope.names.lookup y = some .local)
    (hsw : swapsWith (.ListComp elt [⟨.Name x px, iter, [], 0⟩] scope pos) (some (.Name y py)) spos.line X.env = pure true := by rfl)
    (hs : ∀ x, foldedSetIterable iter X.env x = pure x := by intro _; rfl) : PS X (.Assign [.Name y py] (.ListComp elt [⟨.Name x px, iter, [], 0⟩] scope pos) spos) (tAsg (tComp wi te) (gName i)) := by
  intro pins s σ H D0 I h
  have hfree : ∀ z ∈ scope.names, z.2 = .free → ∃ c, X.env.cells.lookup z.1 = some c := fun z hz hk => by
    rcases S.ok z hz hk with q | q
    · exact I.ok.has z.1 (.inl q)
    · exact I.ok.has z.1 (.inr q)
  rw [exec_Assign_Name_used _ _ _ _ hsw]
  refine wpAny_bind (wpAny_standAt (wpAny_bind ?_))
  show wpAny _ X.A (do let _ ← comprehension (.ListComp elt [⟨.Name x px, iter, [], 0⟩] scope pos) scope X.env _ (newList []) false (eval iter X.env) (some (assign (.Name y py) X.env))) _ _ s
  refine wpAny_bind (wpAny_mono (wpAny_comprehension_free (use := some (assign (.Name y py) X.env)) (Q := fun _ s' => SP X pins D0 .next s') rfl hs (clos_eq hfree) S.kind S.names
    (thn (hi pins s σ H _ I h) fun xv s1 h1 => thn h1 fun itv s2 h2 => ?_)) (fun _ s' hq => wpAny_pure (wpAny_pure hq)) fun _ _ e => e)
  obtain ⟨it, fp, tn, J, H2, e, I2, T, st2, f2, hw⟩ := h2
  subst e
  obtain ⟨cl, hcl, hrun⟩ := comp_core (elt := elt) (iter := iter) (pos := pos) (px := px) (E := X.xe) (Q := fun x H1 => gName i x σ H1 D0.nx) (RR := fun acc C => compPost (model X.prog X.w) X.A X.xe (some (assign (.Name y py) X.env)) (fun _ s' => SP X pins D0 .next s') acc C) S hc he I2 T st2 f2 hw (fun D C s' H' I' ⟨m, hm⟩ n1 n2 n3 n4 n5 q => by
    show wpAny _ X.A (assign (.Name y py) X.env (.ref D)) _ _ _
    refine wpAny_assign_Name (store_ok2 (i := i) (v := .ref D) I' hN hy (.inl hyl) rfl (fun s'' I'' ⟨a, hsa, hwa⟩ => ?_) (.inr hyl))
    have haC : C ≠ a := by
      rcases hwa with z | z
      · rw [z]; exact n1
      · intro z2
        exact n2 y a z z2.symm
    refine ⟨m, hm.sameBut hsa haC, fun h' hsb => ?_⟩
    exact ⟨_, H', I''.turned (it := C) (t' := s''.toks) (fun b o hb e => (hsb.2 b hb).trans e) n3 n1 (.inr n4) n2 n5, q⟩)
  have ecl : (pure (closOf X.env.cells scope.names []) : Sem (List (Str × Addr))) = pure cl := (clos_eq hfree).symm.trans hcl
  have ecl' : closOf X.env.cells scope.names [] = cl := by
    injection ecl
  rw [ecl']
  exact hrun
end

end L2

set_option Elab.async false
set_option linter.all false
set_option maxRecDepth 100000
set_option maxHeartbeats 4000000

/-! Calls by name, isinstance, list.index, lists of texts compared, a text walked, sum. -/
namespace L2
open PySem PySem.Spec PyProof.Rows

/-- a def that is called by its name -/
structure Cal (P : Program) (w : World) (K : PySem.W.Frag) (mg : Str → Option Value) (base : Heap) (CX : CXT) (x : Str) (k : Nat) (ps : List Str) (sp : Sp) : Prop where
  ex : ∃ (f : Addr) (fd : FuncData), FnOk P w K mg base CX k f fd ps sp ∧ mg x = some (.ref f) ∧ PySem.W.keepIn K (.ref f) = true ∧ Binds K fd ps []
section
variable {X : Cx}
theorem pe_cal {CX : CXT} {x : Str} {j k : Nat} {ps : List Str} {sp : Sp} {E : XK} {e : Expr} {es : List Expr} {t : TA} {p pos : Pos} (c : Cal X.prog X.w X.K X.mg X.base CX x j ps sp) (hr : Room k X.A) (hx : Passes CX X E) (ha : PA X (e :: es) t)
    (hjk : j ≤ k := by decide) (hg : Gl X x := by rfl) (hdb : (x == ("__debug__" : Str)) = false := by decide) (he : starEach (e :: es) X.env = (false, eval e X.env) :: starEach es X.env := by rfl) (hpl : (backTo pos (starEach es X.env)).any (·.1) = false := by rfl) :
    PE X (.Call (.Name x p) (e :: es) [] pos) (tCall sp [] E t) := by
  obtain ⟨f, fd, F, hm, hk, hb⟩ := c.ex
  exact pe_call F (hr.mono hjk) hg hm hk hb .nil hx ha hdb he hpl

/-! ### small ones -/
theorem pe_strT (l : List Nat) {x : Str} {j pos} (h : x = tx l) : PE X (.Constant (.str x) j pos) (tC (T l)) := by
  subst h
  exact pe_str
theorem call_len_T : CallR X (.builtin "len") (fun xs H Q => ∃ (l : List Nat), xs = [T l] ∧ l.length ≤ sizeLine ∧ Q (.int (l.length : Nat)) H) := by
  intro pins s σ H xs us Q I r h
  obtain ⟨l, e, hz, q⟩ := h
  exact call_len_str pins s σ H xs us Q I r ⟨tx l, e, by rw [tx_len]; exact hz, by rw [tx_len]; exact q⟩
theorem ix_T : IxR X (fun x y H Q => ∃ (l : List Nat), x = T l ∧ ∃ (i : Int), y = .int i ∧ l.length ≤ sizeLine ∧ ∃ c, atI l i = some c ∧ Q (T [c]) H) := by
  intro value slice pins s σ H x y v u Q I rx ry h hs
  obtain ⟨l, e1, i, e2, hz, c, hc, q⟩ := h
  exact ix_str value slice pins s σ H x y v u Q I rx ry ⟨tx l, i, c, e1, e2, by rw [tx_len]; exact hz, by rw [tx_cps]; exact hc, q⟩ hs

/-! ### isinstance(x, C), C a built-in class -/
theorem call_isinst : CallR X (.builtin "isinstance") (fun xs H Q => ∃ (x : V) (c : String) (t : Value) (b : Bool), xs = [x, .ty c] ∧ TyOf X.K H x t ∧ PySem.W.kitOne X.K t (.type c) = some b ∧ Q (.bl b) H) := by
  intro pins s σ H xs us Q I r h
  obtain ⟨x, c, t, b, rfl, ty, e, q⟩ := h
  obtain ⟨u, w', rfl, ru, rw'⟩ := vals2 r
  cases (show w' = Value.type c from rw')
  exact isinst_ok I ru ty e fun tk => ⟨.bl b, H, I.tok tk, rfl, q⟩
theorem kit_same {K : PySem.W.Frag} (T : String) : PySem.W.kitOne K (.type T) (.type T) = some true := by
  unfold PySem.W.kitOne
  rw [if_pos (by simp)]
/-! ### xs + ys, both read -/
theorem op_catL : OpR X (binaryOp .Add) (fun x y H Q => ∃ (l b : Addr) (xs zs : List V), x = .ref l ∧ y = .ref b ∧ SqL X.K H l xs ∧ SqL X.K H b zs ∧ xs.length + zs.length ≤ sizeLine ∧ ∀ p, H p = none → Q (.ref p) (upd H p (.lst (xs ++ zs)))) := by
  intro pins s σ H x y v u Q I rx ry h
  obtain ⟨l, b, xs, zs, rfl, rfl, hH, hB, hz, q⟩ := h
  cases rx
  cases ry
  obtain ⟨its, r, ⟨⟨cls, dd, data, sl⟩, n, ho, hc, hdd, hd⟩, _⟩ := I.list hH
  obtain ⟨its2, r2, ⟨⟨cls2, dd2, data2, sl2⟩, n2, ho2, hc2, hdd2, hd2⟩, _⟩ := I.list hB
  simp only at hc hd hc2 hd2
  subst hc hd hc2 hd2
  have e : its.toArray ++ its2.toArray = (its ++ its2).toArray := by simp
  refine concat_meets ⟨_, ho, rfl⟩ ⟨_, ho2, rfl⟩ noFill_list_add seq_list_add PySem.F.slot_list_add PySem.F.entry_list_add (PySem.F.args_list_add_2 _ _) (list_addW l b its.toArray its2.toArray n n2 dd dd2 sl sl2 (by rw [List.size_toArray, List.size_toArray, ← r.length, ← r2.length]; exact hz)) ⟨ho, ho2, ?_⟩
  rw [e]
  exact ⟨.ref _, _, I.lnew (t' := s.toks) (r.append r2) (by rw [List.length_append]; exact hz), rfl, q _ I.fresh⟩

theorem all_flat (ls : List (List Nat)) : (ls.map T).all flatV = true := by
  rw [List.all_map, List.all_eq_true]
  intro l _
  rfl
/-! ### lists of texts compared -/
theorem eqAt_T {ls ms : List (List Nat)} {us ws : List Value} (r : Vals (ls.map T) us) (r' : Vals (ms.map T) ws) {A : Around} {s : Shared} {j : Nat} {u w : Value} (hu : us[j]? = some u) (hw : ws[j]? = some w) : SeqAt.EqAt A s u w (decide (ls[j]? = ms[j]?)) := by
  have h1 : j < ls.length := by have := r.length; rw [List.length_map] at this; rw [this]; exact (List.getElem?_eq_some_iff.mp hu).1
  have h2 : j < ms.length := by have := r'.length; rw [List.length_map] at this; rw [this]; exact (List.getElem?_eq_some_iff.mp hw).1
  obtain ⟨u', e1, q1⟩ := r.get (i := j) (x := T ls[j]) (by rw [List.getElem?_map, List.getElem?_eq_getElem h1]; rfl)
  obtain ⟨w', e2, q2⟩ := r'.get (i := j) (x := T ms[j]) (by rw [List.getElem?_map, List.getElem?_eq_getElem h2]; rfl)
  rw [hu] at e1
  cases e1
  rw [hw] at e2
  cases e2
  have e := eqAt_V (A := A) (s := s) q1 q2 rfl rfl
  have ee : eqV (T ls[j]) (T ms[j]) = decide (ls[j]? = ms[j]?) := by
    show (tx ls[j] == tx ms[j]) = _
    rw [Bool.eq_iff_iff, beq_iff_eq, decide_eq_true_iff, List.getElem?_eq_getElem h1, List.getElem?_eq_getElem h2]
    exact ⟨fun h => by rw [tx_inj h], fun h => by rw [Option.some.inj h]⟩
  rw [ee] at e
  exact e
theorem all_range_eq {ls ms : List (List Nat)} (h : ls.length = ms.length) : (List.range ls.length).all (fun j => decide (ls[j]? = ms[j]?)) = decide (ls = ms) := by
  rw [Bool.eq_iff_iff, List.all_eq_true, decide_eq_true_iff]
  constructor
  · intro g
    apply List.ext_getElem?
    intro i
    by_cases hi : i < ls.length
    · exact of_decide_eq_true (g i (List.mem_range.mpr hi))
    · rw [List.getElem?_eq_none (by omega), List.getElem?_eq_none (by omega)]
  · intro g j _
    rw [g]
    exact decide_eq_true rfl
end
end L2

set_option Elab.async false
set_option linter.all false
set_option maxRecDepth 100000
set_option maxHeartbeats 4000000

/-! Exceptions of the text's own classes, over the layer: raised, on their way through frames, caught. -/
namespace L2
open PySem PySem.Spec PyProof.Rows

/-- the exception at a, of the class cls, is on its way over the frames outer. H, s: abstract heap and state ahead of the call; H': the abstract heap behind -/
structure Fly (P : Program) (w : World) (outer : List Env) (H : Hp) (s : Shared) (a : Addr) (cls : Value) (H' : Hp) (s' : Shared) : Prop where
  os : s'.os = s.os
  bare : AllBare s'.gens
  ex : ∃ (B : Heap) (t : Addr), Heap.FlyingW B outer a cls (.ref t) s'.heap ∧ HOk P w H' B ∧ (∀ b o, s.heap.get? b = some o → H b = none → b ∉ frs outer → B.get? b = some o) ∧
    ∀ b o, s.heap.get? b = some o → b ∉ frs outer → ∃ o', B.get? b = some o'
  slot : ∀ b o, s.heap.get? b = some o → H b = none → b ∈ frs outer → ∃ sl, s'.heap.get? b = some { o with slots := sl }
  free : ∀ b o, s.heap.get? b = some o → H b = none → H' b = none
  tups : ∀ b xs, H b = some (.tup xs) → H' b = some (.tup xs)
  frzs : ∀ b o u, H b = some (.frz o u) → H' b = some (.frz o u)
  tbls : ∀ b ps, H b = some (.tbl ps) → ∃ more, H' b = some (.tbl (ps ++ more))
noncomputable def CX1 (P : Program) (w : World) : CXT := fun outer H s E e s' => ∃ a cls H', e = .ref a ∧ Fly P w outer H s a cls H' s' ∧ E cls none H'

theorem noTrk {P : Program} {w : World} {H : Hp} {h : Heap} {a : Addr} (x : HOk P w H h) (e : h.get? a = none) : H a = none := by
  cases q : H a with
  | none => rfl
  | some u =>
    have y := x a u q
    have z : ∃ o, h.get? a = some o := by
      cases u with
      | lst xs => obtain ⟨_, _, _, _, e⟩ := y; exact ⟨_, e⟩
      | tup xs => obtain ⟨_, _, _, o, e, _⟩ := y; exact ⟨o, e⟩
      | dK kvs => obtain ⟨_, _, _, _, o, _, _, e, _⟩ := y; exact ⟨o, e⟩
      | dT kvs => obtain ⟨_, _, _, _, o, _, _, e, _⟩ := y; exact ⟨o, e⟩
      | set S n => obtain ⟨o, _, _, _, e, _⟩ := y; exact ⟨o, e⟩
      | ins C dx fs => obtain ⟨_, _, _, e, _⟩ := y; exact ⟨_, e⟩
      | own y' => exact y
      | xd fs => obtain ⟨_, ⟨o, _, _, e, _⟩, _⟩ := y; exact ⟨o, e⟩
      | rng lo hi => obtain ⟨_, _, _, e⟩ := y; exact ⟨_, e⟩
      | frz ob u => exact ⟨_, y.1⟩
      | tbl ps => exact ⟨_, y⟩
      | met f y' => exact ⟨_, y⟩
      | ext φ => exact y.2.1
    obtain ⟨o, z⟩ := z
    rw [e] at z
    cases z

section
variable {X : Cx} {pins : List (Addr × Obj)} {σ : St} {H H' : Hp} {s s' : Shared} {a : Addr} {cls : Value} {E : Value → Shared → Prop}

/-- a frame of this body's own -/
structure Own (X : Cx) : Prop where
  stk : X.stack = X.env :: X.outer
  fr : X.env.frame = some X.env.locals
  ex : X.ex = []
theorem Own.frs (O : Own X) {b : Addr} : b ∈ frs X.stack ↔ b = X.env.locals ∨ b ∈ frs X.outer := by
  unfold L2.frs
  rw [O.stk, List.filterMap_cons, O.fr]
  exact List.mem_cons
theorem Inv.oldNe (I : Inv X pins σ H s) {b : Addr} {o : Obj} (e : X.s₀.heap.get? b = some o) : b ≠ X.env.locals := Nat.ne_of_lt (Nat.lt_of_lt_of_le (Heap.lt_size e) I.ok.above)
theorem Inv.hidHok (I : Inv X pins σ H s) : HOk X.prog X.w H (PySem.W.hideAll s.heap (L2.frs X.stack)) := fun b u e =>
  (I.hok b u e).stay (fun c v hc q => PySem.W.hideAll_get _ q fun hm => by
    have n := I.stkFree c hm
    rcases hc with z | z
    · rw [z, e] at n
      cases n
    · rw [z] at n
      cases n) (fun _ q => q) fun _ _ q => q
/-- a new exception leaves the frame in which it was raised -/
theorem Fly.raised {args : List Value} {h : Heap} (I : Inv X pins σ H s) (O : Own X) (hx : Heap.MadeExcOf s.heap h a cls args) :
    wpAny (model X.prog X.w) X.A (leaving X.env (.ref a)) (fun _ s'' => Fly X.prog X.w X.outer X.H₀ X.s₀ a cls H s'') E { s with heap := h } := by
  have hst := I.stack
  have hin : ∀ env ∈ X.stack, ∀ b, env.frame = some b → b ∈ L2.frs X.stack := fun env he b hb => List.mem_filterMap.mpr ⟨env, he, hb⟩
  have hl := PySem.W.funFrames_hide hst hin
  rw [O.stk] at hl
  have hfr := I.ok.frames
  rw [O.stk] at hfr
  have noEx : ∀ b, b ∉ X.ex := fun b z => by
    rw [O.ex] at z
    cases z
  refine wpAny_leaves_madeW (s := { s with heap := h }) hfr O.fr (fun b o q => PySem.W.of_hideAll _ q) hl hx fun h' t x1 x2 x3 x4 => ?_
  have notIn : ∀ b o, X.s₀.heap.get? b = some o → b ∉ L2.frs X.outer → b ∉ L2.frs (X.env :: X.outer) := fun b o e nb z => by
    rw [← O.stk] at z
    rcases O.frs.mp z with q | q
    · exact I.oldNe e q
    · exact nb q
  have hokB := I.hidHok
  rw [O.stk] at hokB
  refine ⟨I.os, I.bare, ⟨_, t, x1, hokB, fun b o e n nb => ?_, fun b o e nb => ?_⟩, fun b o e n hb => ?_, fun b o e n => I.base.free b o e n (noEx b), I.base.tups, I.base.frzs, I.base.tbls⟩
  · exact PySem.W.hideAll_get _ (I.base.keep b o e n nb (noEx b)) (notIn b o e nb)
  · obtain ⟨o', e'⟩ := I.base.there b o e (noEx b)
    exact ⟨o', PySem.W.hideAll_get _ e' (notIn b o e nb)⟩
  · obtain ⟨sl, e1⟩ := I.base.slot b o e n hb (noEx b)
    obtain ⟨_, o2, e2, hd⟩ := I.funs.mem hb
    rw [e1] at e2
    cases e2
    obtain ⟨sl2, e3⟩ := x4 b _ (hx.keeps b _ e1) hd
    exact ⟨sl2, e3⟩
/-- it passes on through the frame of a caller -/
theorem Fly.on (I : Inv X pins σ H s) (O : Own X) (Y : Fly X.prog X.w X.stack H s a cls H' s') :
    wpAny (model X.prog X.w) X.A (leaving X.env (.ref a)) (fun _ s'' => Fly X.prog X.w X.outer X.H₀ X.s₀ a cls H' s'') E s' := by
  obtain ⟨B, t, hfl, hokB, kp, th⟩ := Y.ex
  have hfr := I.ok.frames
  rw [O.stk] at hfr hfl
  have noEx : ∀ b, b ∉ X.ex := fun b z => by
    rw [O.ex] at z
    cases z
  have notIn : ∀ b o, X.s₀.heap.get? b = some o → b ∉ L2.frs X.outer → b ∉ L2.frs X.stack := fun b o e nb z => by
    rcases O.frs.mp z with q | q
    · exact I.oldNe e q
    · exact nb q
  refine wpAny_leaves_onW hfr O.fr hfl fun h' x1 x2 => ?_
  refine ⟨Y.os.trans I.os, Y.bare, ⟨B, t, x1, hokB, fun b o e n nb => kp b o (I.base.keep b o e n nb (noEx b)) (I.base.free b o e n (noEx b)) (notIn b o e nb), fun b o e nb => ?_⟩, fun b o e n hb => ?_, fun b o e n => ?_,
    fun b xs q => Y.tups b xs (I.base.tups b xs q), fun b o u q => Y.frzs b o u (I.base.frzs b o u q), fun b ps q => ?_⟩
  · obtain ⟨o', e'⟩ := I.base.there b o e (noEx b)
    exact th b o' e' (notIn b o e nb)
  · obtain ⟨sl, e1⟩ := I.base.slot b o e n hb (noEx b)
    obtain ⟨_, o2, e2, hd⟩ := I.funs.mem hb
    rw [e1] at e2
    cases e2
    obtain ⟨sl2, e3⟩ := Y.slot b _ e1 (I.base.free b o e n (noEx b)) (O.frs.mpr (.inr hb))
    obtain ⟨sl3, e4⟩ := x2 b _ e3 hd
    exact ⟨sl3, e4⟩
  · obtain ⟨o', e'⟩ := I.base.there b o e (noEx b)
    exact Y.free b o' e' (I.base.free b o e n (noEx b))
  · obtain ⟨m1, e1⟩ := I.base.tbls b ps q
    obtain ⟨m2, e2⟩ := Y.tbls b _ e1
    exact ⟨m1 ++ m2, by rw [e2, Array.append_assoc]⟩
/-- the state while it is on its way, seen from the body that it came to -/
theorem Fly.un (I : Inv X pins σ H s) (Y : Fly X.prog X.w X.stack H s a cls H' s') : Un (L2.frs X.stack) [] H H' s.heap s'.heap := by
  obtain ⟨B, t, hfl, hokB, kp, th⟩ := Y.ex
  refine ⟨fun b o e n nb _ => hfl.1 b o (kp b o e n nb), fun b o e n hb _ => Y.slot b o e n hb, fun b o e n _ => Y.free b o e n, fun b o e _ => ?_, Y.tups, Y.frzs, Y.tbls⟩
  by_cases hb : b ∈ L2.frs X.stack
  · obtain ⟨sl, q⟩ := Y.slot b o e (I.stkFree b hb) hb
    exact ⟨_, q⟩
  · obtain ⟨o', q⟩ := th b o e hb
    exact ⟨o', hfl.1 b o' q⟩
theorem Fly.inv (I : Inv X pins σ H s) (Y : Fly X.prog X.w X.stack H s a cls H' s') : Inv X pins σ H' s' := by
  have hok : HOk X.prog X.w H' s'.heap := by
    obtain ⟨B, t, hfl, hokB, kp, th⟩ := Y.ex
    exact hokB.kept hfl.1
  exact I.call' (ch := []) Y.os (Y.un I) hok Y.bare fun _ z => nomatch z
/-- the frames that run have dicts -/
theorem Fly.slots {outer : List Env} {h' : Heap} (Y : Fly X.prog X.w outer H s a cls H' s') (hd : ∀ b ∈ L2.frs outer, ∃ o, s.heap.get? b = some o ∧ ∀ vs, o.data ≠ .fields vs) (x : s'.heap.UpToSlots h') :
    ∀ b o, s.heap.get? b = some o → H b = none → b ∈ L2.frs outer → ∃ sl, h'.get? b = some { o with slots := sl } := fun b o e n hb => by
  obtain ⟨sl, q⟩ := Y.slot b o e n hb
  obtain ⟨o2, e2, d2⟩ := hd b hb
  rw [e] at e2
  cases e2
  obtain ⟨sl', q'⟩ := x b _ q d2
  exact ⟨sl', q'⟩
/-- it lands once more -/
theorem Fly.again {A : Around} {Q : Unit → Shared → Prop} (I : Inv X pins σ H s) (Y : Fly X.prog X.w X.stack H s a cls H' s') (h : ∀ h', Fly X.prog X.w X.stack H s a cls H' { s' with heap := h' } → Q () { s' with heap := h' }) :
    wpAny (model X.prog X.w) A (setFlight (.ref a) none) Q E s' := by
  obtain ⟨B, t, hfl, hokB, kp, th⟩ := Y.ex
  refine lands_againW hfl fun h' x1 x2 => h h' ?_
  exact ⟨Y.os, Y.bare, ⟨B, t, x1, hokB, kp, th⟩, Y.slots (fun b hb => (I.stack.mem hb).2) x2, Y.free, Y.tups, Y.frzs, Y.tbls⟩
/-- it is looked at in the frame in which the try stands -/
theorem Fly.look {Q : Unit → Shared → Prop} (I : Inv X pins σ H s) (O : Own X) (Y : Fly X.prog X.w X.stack H s a cls H' s') (h : ∀ h', Fly X.prog X.w X.stack H s a cls H' { s' with heap := h' } → Q () { s' with heap := h' }) :
    wpAny (model X.prog X.w) X.A (noteFrame (.ref a) X.env) (fun _ s2 => wpAny (model X.prog X.w) X.A (setFlight (.ref a) none) Q E s2) E s' := by
  obtain ⟨B, t, hfl, hokB, kp, th⟩ := Y.ex
  have hfr := I.ok.frames
  have hfl' := hfl
  rw [O.stk] at hfr hfl'
  refine wpAny_looks_onW hfr O.fr hfl' fun h4 x4 y4 => ?_
  refine wpAny_landsW (s := { s' with heap := h4 }) x4 fun h5 x5 y5 => h h5 ?_
  rw [← O.stk] at x5
  exact ⟨Y.os, Y.bare, ⟨B, t, x5, hokB, kp, th⟩, Y.slots (fun b hb => (I.stack.mem hb).2) (y4.trans y5), Y.free, Y.tups, Y.frzs, Y.tbls⟩
/-- what it is -/
theorem Fly.looks {M : Model} {outer : List Env} (Y : Fly X.prog X.w outer H s a cls H' s') : PySem.W.Looks M s'.heap (typeOf (.ref a)) cls := by
  obtain ⟨B, t, hfl, _⟩ := Y.ex
  obtain ⟨ob, hob, hc⟩ := hfl.there
  subst hc
  exact (PySem.W.Looks.ld hob).andThen .now
/-- it is kept: tracked by its class -/
theorem Fly.track (I : Inv X pins σ H s) (Y : Fly X.prog X.w X.stack H s a cls H' s') : H' a = none ∧ Inv X pins σ (upd H' a (.ext fun h => ∃ o, h.get? a = some o ∧ o.cls = cls)) s' := by
  obtain ⟨B, t, hfl, hokB, kp, th⟩ := Y.ex
  have J := Y.inv I
  have na : H' a = none := noTrk hokB hfl.2.1
  obtain ⟨_, _, hfr, oe, vs, _, _, _, hoe, hcl, hda, _⟩ := id hfl
  -- an object of another kind, or one that stood before, is another one
  have nfr : ∀ b ∈ L2.frs X.stack, b ≠ a := fun b hb z => by
    obtain ⟨_, o, e, d⟩ := hfr.mem hb
    rw [z, hoe] at e
    cases e
    exact d vs hda
  have nold : ∀ b o, s.heap.get? b = some o → b ≠ a := fun b o e z => by
    by_cases hb : b ∈ L2.frs X.stack
    · exact nfr b hb z
    · obtain ⟨o', e'⟩ := th b o e hb
      rw [z, hfl.2.1] at e'
      cases e'
  have n0 : ∀ b o, X.s₀.heap.get? b = some o → b ∉ X.ex → b ≠ a := fun b o e hx => by
    obtain ⟨o', e'⟩ := I.base.there b o e hx
    exact nold b o' e'
  obtain ⟨mL, ⟨oL, _, _, hoL, _⟩, _⟩ := id I.loc
  have nL : X.env.locals ≠ a := nold _ oL hoL
  refine ⟨na, J.ok, J.os, J.bare, ⟨J.base.keep, J.base.slot, fun b o e n hx => ?_, J.base.there, fun b xs q => ?_, fun b o u q => ?_, fun b ps q => ?_⟩, J.loc, J.cell, ?_, fun y c e => ?_, fun p hp => ?_, fun b u q => ?_, J.len⟩
  · rw [upd_ne (n0 b o e hx)]
    exact J.base.free b o e n hx
  · have z := J.base.tups b xs q
    rw [upd_ne (ne_of_none z na)]
    exact z
  · have z := J.base.frzs b o u q
    rw [upd_ne (ne_of_none z na)]
    exact z
  · obtain ⟨m, z⟩ := J.base.tbls b ps q
    exact ⟨m, by rw [upd_ne (ne_of_none z na)]; exact z⟩
  · rw [upd_ne nL]
    exact J.free
  · obtain ⟨v, o, ho, _⟩ := I.cell y c e
    rw [upd_ne (nold c o ho)]
    exact J.freeC y c e
  · obtain ⟨e, n, ne, nf, d⟩ := J.pin p hp
    refine ⟨e, ?_, ne, nf, d⟩
    rw [upd_ne (nold _ _ (I.pin p hp).1)]
    exact n
  · by_cases hb : b = a
    · subst hb
      rw [upd_same] at q
      cases q
      exact ⟨⟨oe, hoe, hcl.1⟩, ⟨oe, hoe⟩, fun h1 h2 ⟨o, e, c⟩ k => ⟨o, k o e, c⟩⟩
    · rw [upd_ne hb] at q
      exact (J.hok b u q).stay (fun _ _ _ z => z) (fun c z => by rw [upd_ne (ne_of_none z na)]; exact z) fun c xs z => by rw [upd_ne (ne_of_none z na)]; exact z
end

/-! ### raise C(text), C an own class under ValueError -/
noncomputable abbrev bmVE : List Value := [.type "ValueError", .type "Exception", .type "BaseException", .type "object"]
/-- what is asked of the class -/
structure Exc (K : PySem.W.Frag) (mg : Str → Option Value) (x : Str) (C : Addr) : Prop where
  mg : mg x = some (.ref C)
  is : PySem.W.excIn K C bmVE "ValueError.__new__" = true
theorem Exc.own {K : PySem.W.Frag} {mg : Str → Option Value} {x : Str} {C : Addr} {h : Heap} (c : Exc K mg x C) (X : K.In h) : OwnCls x C bmVE "ValueError.__new__" mg h := by
  refine ⟨c.mg, ?_⟩
  have q := c.is
  unfold PySem.W.excIn at q
  split at q
  · rename_i dd cd sl ho
    split at q
    · rename_i C' bm k0 k1 k2 k3 n k5 hm hs
      simp only [beq_iff_eq, Bool.not_eq_true', Bool.and_eq_true] at q
      obtain ⟨⟨⟨⟨⟨g1, g2⟩, g3⟩, g4⟩, g5⟩, g6⟩ := q
      subst g1 g2
      obtain ⟨nm, bs, mro, ns, qn, hd, sn, sub, ab, col, del⟩ := cd
      have hsl : sl = #[k0, k1, k2, k3, some (.builtin "ValueError.__new__"), k5] := by
        cases sl with
        | mk l =>
          have hs' : l = _ := hs
          rw [hs']
      have hm' : mro = _ := hm
      have g3' : del = false := g3
      subst hsl hm' g3'
      refine ⟨bm, ns, nm, qn, bs, hd, sn, sub, ab, col, dd, k0, k1, k2, k3, k5, h.nsMap ns, X _ _ ho, ?_, ?_, ?_⟩
      · exact .of_isNs (PySem.W.isNs_of_in X g5)
      · exact PySem.W.nsMap_none_of_in X g5 g6
      · exact PySem.W.tail_of_in X g4
    · cases q
  · cases q
/-- the reading: the wanted exception, at the heap as it is -/
noncomputable def tRaise (E : Value → Hp → Prop) (C : Addr) (t : TA) : TS := fun _ σ H => t σ H fun vs H1 => vs.length ≤ sizeLine ∧ E (.ref C) H1
theorem ps_raise {x : Str} {C : Addr} {e₀ : Expr} {rest : List Expr} {np cpos pos : Pos} {t : TA} {E : Value → Hp → Prop} (c : Exc X.K X.mg x C) (hc : X.calm = true)
    (hE : ∀ (pins : List (Addr × Obj)) (σ : St) (H : Hp) (s : Shared) (h : Heap) (a : Addr) (args : List Value), Inv X pins σ H s → Heap.MadeExcOf s.heap h a (.ref C) args → E (.ref C) H → X.xe (.ref a) { s with heap := h })
    (ha : PA X (e₀ :: rest) t) (hg : Gl X x := by rfl) (hd : (x == ("__debug__" : Str)) = false := by decide)
    (he : starEach (e₀ :: rest) X.env = (false, eval e₀ X.env) :: starEach rest X.env := by rfl) (hpl : (backTo cpos (starEach rest X.env)).any (·.1) = false := by rfl) :
    PS X (.Raise (some (.Call (.Name x np) (e₀ :: rest) [] cpos)) none pos) (tRaise E C t) := by
  intro pins s σ H D I h
  have O := c.own I.mod.kin
  obtain ⟨tl, N, nm, q, bs, hdct, sn, sub, ab, col, dd, k0, k1, k2, k3, k5, mN, hC, hN, hni, T⟩ := O.obj
  refine wpAny_Raise_call_subT (C := C) (nm := nm) (q := q) (N := N) (bs := bs) (bm := tl) (hdct := hdct) (sn := sn) (sub := sub) (ab := ab) (col := col) (dd := dd) (k0 := k0) (k1 := k1) (k2 := k2) (k3 := k3) (k5 := k5) PySem.F.excBase_ValueError (mN := mN)
    (T.hasType (by decide +kernel)) (I.ok.hd hc) (by rw [he]; show (false || (backTo cpos (starEach rest X.env)).any (·.1)) = false; rw [hpl]; rfl) hni (ld_glob I hg c.mg ⟨rfl, ?_⟩ hd)
  have hA := ha cpos pins s σ H _ I h
  rw [he] at hA ⊢
  refine Calls.evalArgs_plain (thn hA fun us s2 ⟨vs, H2, I2, r2, hz, q2⟩ => ?_)
  exact ⟨rfl, by rw [← r2.length]; exact hz, I2.bk _ _ hC, hN.keeps I2.bk, T.keeps I2.bk, fun h' e hx => hE pins σ H2 s2 h' e us I2 hx q2⟩

/-! ### a def's body: exceptions leave it -/
section
variable {P : Program} {w : World} {K : PySem.W.Frag} {mg : Str → Option Value} {base : Heap} {N : List Str} {qual : Str} {scope : Scope} {f : Addr} {cdv : Value} {A : Around} {outer : List Env} {s : Shared} {H : Hp} {E : XK}
theorem ownX {CX : CXT} : Own (cxOf CX P w K mg base N qual scope f cdv A outer s H E) := ⟨rfl, rfl, rfl⟩
/-- an exception of a callee passes on, as wanted -/
theorem passX : Passes (CX1 P w) (cxOf (CX1 P w) P w K mg base N qual scope f cdv A outer s H E) E := fun pins σ H1 s1 e s' I h => by
  obtain ⟨a, cls, H', rfl, Y, q⟩ := h
  exact thn (Fly.on I ownX Y) fun _ s'' Z => ⟨a, cls, H', rfl, Z, q⟩
theorem raiseX {C : Addr} {pins : List (Addr × Obj)} {σ : St} {H1 : Hp} {s1 : Shared} {h : Heap} {a : Addr} {args : List Value} (I : Inv (cxOf (CX1 P w) P w K mg base N qual scope f cdv A outer s H E) pins σ H1 s1) (hx : Heap.MadeExcOf s1.heap h a (.ref C) args) (q : E (.ref C) none H1) :
    (cxOf (CX1 P w) P w K mg base N qual scope f cdv A outer s H E).xe (.ref a) { s1 with heap := h } := thn (Fly.raised I ownX hx) fun _ s'' Z => ⟨a, .ref C, H1, rfl, Z, q⟩
/-- no exception comes of a callee -/
theorem pass1 {X : Cx} : Passes (CX1 P w) X E0 := fun _ _ _ _ _ _ _ h => by
  obtain ⟨_, _, _, _, _, q⟩ := h
  exact q.elim
/-- an exception that leaves a loop's turn, too -/
theorem Fun.okX {x qual : Str} {st : Stmt} {f : Addr} {fd : FuncData} {N ps : List Str} {k : Nat} {sp : Sp} (F : Fun K x qual st f fd) (S : FnScope N ps (defScope st)) (len : ∀ vs H Q E, sp vs H Q E → vs.length = ps.length)
    (hbody : ∀ (cdv : Value) (A : Around) (outer : List Env) (s : Shared) (H : Hp) (vs : List V) (Q : VK) (E : XK), Room k (A.deeper (envOfC qual (defScope st) s.heap.objs.size f cdv)) → sp vs H Q E →
      ∃ t, PSs (cxOf (CX1 P w) P w K mg base N qual (defScope st) f cdv A outer s H E) (defBody st) t ∧ t { nx := fun _ H' => Q .non H', rt := Q } (start N vs) H) : FnOk P w K mg base (CX1 P w) (k + 1) f fd ps sp := by
  obtain ⟨oc, od, kV, doc, pm, an, cdv, ct, osl, rfl, lk, hcd⟩ := F.ex
  exact fn_of lk hcd S len fun A outer s H vs Q E hr hsp => hbody cdv A outer s H vs Q E hr hsp
end
end L2

set_option Elab.async false
set_option linter.all false
set_option maxRecDepth 100000
set_option maxHeartbeats 4000000

/-! try .. except C [as n], over the layer. -/
namespace L2
open PySem PySem.Spec PyProof.Rows

/-- an exception has come out of a try's body -/
noncomputable def XP (X : Cx) (pins : List (Addr × Obj)) (R : St → Value → Hp → Prop) (e : Value) (s' : Shared) : Prop :=
  ∃ a cls σ' H s1 H', e = .ref a ∧ Inv X pins σ' H s1 ∧ Fly X.prog X.w X.stack H s1 a cls H' s' ∧ R σ' cls H'
noncomputable abbrev TTy := Ends → (St → Value → Hp → Prop) → St → Hp → Prop
/-- a try's body -/
noncomputable def PTy (X : Cx) (st : List Stmt) (t : TTy) : Prop :=
  ∀ (pins : List (Addr × Obj)) (s : Shared) (σ : St) (H : Hp) (D : Ends) (R : St → Value → Hp → Prop), Inv X pins σ H s → t D R σ H → wpAny (model X.prog X.w) X.A (execs st X.env) (SP X pins D) (XP X pins R) s
section
variable {X : Cx}
noncomputable def tyCall (sp : Sp) (t : TA) : TTy := fun D R σ H => t σ H fun vs H1 => sp vs H1 (fun _ H2 => D.nx σ H2) fun cls _ H2 => R σ cls H2
/-- f(e, ..) as a row -/
theorem py_call {x : Str} {j k : Nat} {ps : List Str} {sp : Sp} {e : Expr} {es : List Expr} {t : TA} {p cpos pos : Pos} (c : Cal X.prog X.w X.K X.mg X.base (CX1 X.prog X.w) x j ps sp) (hr : Room k X.A) (ha : PA X.nox (e :: es) t)
    (hjk : j ≤ k := by decide) (hg : Gl X x := by rfl) (hdb : (x == ("__debug__" : Str)) = false := by decide) (he : starEach (e :: es) X.env = (false, eval e X.env) :: starEach es X.env := by rfl) (hpl : (backTo cpos (starEach es X.env)).any (·.1) = false := by rfl)
    (hs : swapsWith (.Call (.Name x p) (e :: es) [] cpos) none pos.line X.env = pure false := by rfl) :
    PTy X [.Expr (.Call (.Name x p) (e :: es) [] cpos) pos] (tyCall sp t) := by
  intro pins s σ H D R I q
  obtain ⟨f, fd, F, hm, hk, hb⟩ := c.ex
  refine wpAny_execs_cons (wpAny_Expr_any (wpAny_Call_Name_kw (ld_glob I hg hm ?_ hdb)) I.quiet hs)
  refine PySem.W.callWith_K (h₀ := X.base) I.ok.mod.kin hk (wpAny_mono (ha cpos pins s σ H _ (I.wish _) q) (fun us s1 z => ?_) fun _ _ z => False.elim z) he hpl
  obtain ⟨vs, H1, I0, r, q1⟩ := z
  have I1 : Inv X pins σ H1 s1 := I0.unwish
  refine ⟨I1.kIn, ?_⟩
  have hl : us.length = ps.length := by rw [← r.length]; exact F.len _ _ _ _ q1
  have hbt := hb s1 us I1.kIn (by rw [List.append_nil]; exact hl)
  rw [List.append_nil] at hbt
  refine wpAny_call (codeAny_mono (F.run X.A X.stack s1 H1 ⟨us, []⟩ us vs _ _ (hr.mono hjk) I1.env0 hbt r q1) fun r' s' hq => ?_)
  cases r' with
  | error x' =>
    obtain ⟨a, cls, H', rfl, Y, q2⟩ := hq
    exact ⟨a, cls, σ, H1, s1, H', rfl, I1, Y, q2⟩
  | ok fl =>
    cases fl with
    | ret u =>
      obtain ⟨v, H', I2, _, q2⟩ := I1.after hq
      exact wpAny_execs_nil ⟨σ, H', I2, q2⟩
    | next => exact False.elim hq
    | brk => exact False.elim hq
    | cont => exact False.elim hq
noncomputable def tyIf (c : TT) (t u : TTy) : TTy := fun D R σ H => c σ H fun b H1 => if b = true then t D R σ H1 else u D R σ H1
theorem py_if {c : Expr} {a b : List Stmt} {tc : TT} {t u : TTy} {pos : Pos} (hc : PT X.nox c tc) (ha : PTy X a t) (hb : PTy X b u) : PTy X [.If c a b pos] (tyIf tc t u) := by
  intro pins s σ H D R I q
  refine wpAny_execs_cons (wpAny_If (wpAny_mono (hc pins s σ H _ (I.wish _) q) (fun d s1 z => ?_) fun _ _ z => False.elim z))
  obtain ⟨H1, I0, q1⟩ := z
  have I1 : Inv X pins σ H1 s1 := I0.unwish
  have fin : ∀ (f : Flow) (s2 : Shared), SP X pins D f s2 → (match f with | .next => wpAny (model X.prog X.w) X.A (execs [] X.env) (SP X pins D) (XP X pins R) s2 | f => SP X pins D f s2) := fun f s2 z => by
    cases f with
    | next => exact wpAny_execs_nil z
    | ret v => exact z
    | brk => exact z
    | cont => exact z
  cases d with
  | true => exact wpAny_mono (ha pins s1 σ H1 D R I1 q1) (fun f s2 z => fin f s2 z) fun _ _ z => z
  | false => exact wpAny_mono (hb pins s1 σ H1 D R I1 q1) (fun f s2 z => fin f s2 z) fun _ _ z => z

/-! ### the handlers -/
/-- an exception that was caught and is kept -/
noncomputable def ExcAt (a : Addr) (cls : Value) : HO := .ext fun h => ∃ o, h.get? a = some o ∧ o.cls = cls
noncomputable abbrev TH := Ends → St → Value → Hp → Prop
noncomputable def PH (X : Cx) (hs : List ExceptHandler) (t : TH) : Prop :=
  ∀ (pins : List (Addr × Obj)) (σ : St) (H : Hp) (s : Shared) (a : Addr) (cls : Value) (H' : Hp) (s' : Shared) (D : Ends), Inv X pins σ H s → Fly X.prog X.w X.stack H s a cls H' s' → t D σ cls H' →
    wpAny (model X.prog X.w) X.A (handleBy (.ref a) X.env hs) (SP X pins D) X.xe s'
/-- the context of a handler's rows -/
noncomputable abbrev cxMark (X : Cx) (a : Addr) : Cx := { X with A := X.A.mark (some (.ref a)), calm := false, xe := fun _ _ => False }
theorem Inv.mark {pins : List (Addr × Obj)} {σ : St} {H : Hp} {s : Shared} (I : Inv X pins σ H s) (a : Addr) : Inv (cxMark X a) pins σ H s := by
  have ok := I.ok
  exact ⟨⟨ok.mod, ok.kind, ok.glob, ok.blt, ok.above, ok.inj, ok.has, ok.cab, fun z => (by cases z), ok.frames, ok.stk, ok.exf, ok.bs, ok.bsz, ok.noex, ok.exfs, ok.funs, ok.frf⟩, I.os, I.bare, I.base, I.loc, I.cell, I.free, I.freeC, I.pin, I.hok, I.len⟩
theorem Inv.unmark {pins : List (Addr × Obj)} {σ : St} {H : Hp} {s : Shared} {a : Addr} (I : Inv (cxMark X a) pins σ H s) (J : X.Ok) : Inv X pins σ H s := ⟨J, I.os, I.bare, I.base, I.loc, I.cell, I.free, I.freeC, I.pin, I.hok, I.len⟩
theorem nsInj {h : Heap} {a : Addr} {m m' : Str → Option Value} (x : h.Ns a m) (y : h.Ns a m') : ∀ z, m z = m' z := fun z => by
  obtain ⟨o, es, ep, ho, hd, _, hf⟩ := x
  obtain ⟨o', es', ep', ho', hd', _, hf'⟩ := y
  rw [ho] at ho'
  cases ho'
  rw [hd] at hd'
  cases hd'
  rw [← hf z, ← hf' z]
/-- the step behind a state in which the frame alone has changed -/
theorem Inv.turnFrame {pins : List (Addr × Obj)} {σ σ' : St} {H : Hp} {s : Shared} {h' : Heap} {m' : Str → Option Value} (I : Inv X pins σ H s) (hn' : h'.Ns X.env.locals m') (hs : Heap.SameBut X.env.locals s.heap h') (hl : σ'.length = σ.length)
    (hm : ∀ (i : Nat) (x : Str) (v : V), X.N[i]? = some x → σ'[i]? = some (some v) → σ[i]? = some (some v) ∧ ∀ m, s.heap.Ns X.env.locals m → m' x = m x) : Inv X pins σ' H { s with heap := h' } := by
  have kp : ∀ b o, b ≠ X.env.locals → s.heap.get? b = some o → h'.get? b = some o := fun b o hb e => (hs.2 b hb).trans e
  obtain ⟨m0, hn0, hl0⟩ := I.loc
  obtain ⟨oL, _, _, hoL, _⟩ := id hn0
  have ok : HOk X.prog X.w H h' := fun b ob e => (I.hok b ob e).stay (fun c w' hc q => kp c w' (fun z => by
    subst z
    rcases hc with g | g
    · rw [← g, I.free] at e
      cases e
    · rw [I.free] at g
      cases g) q) (fun _ q => q) fun _ _ q => q
  refine ⟨I.ok, I.os, I.bare, ⟨fun b o e n hb hx => kp b o (I.oldNe e) (I.base.keep b o e n hb hx), fun b o e n hb hx => ?_, I.base.free, fun b o e hx => ?_, I.base.tups, I.base.frzs, I.base.tbls⟩, ⟨m', hn', fun i x v e1 e2 e3 => ?_⟩, fun y c e => ?_, I.free, I.freeC, fun p hp => ?_, ok, hl.trans I.len⟩
  · obtain ⟨sl, e1⟩ := I.base.slot b o e n hb hx
    exact ⟨sl, kp b _ (I.oldNe e) e1⟩
  · obtain ⟨o', e1⟩ := I.base.there b o e hx
    exact ⟨o', kp b _ (I.oldNe e) e1⟩
  · obtain ⟨g1, g2⟩ := hm i x v e1 e2
    obtain ⟨u, r, l⟩ := hl0 i x v e1 g1 e3
    refine ⟨u, r, ?_⟩
    rcases l with ⟨k, z⟩ | ⟨k, c, e, o, ho, hd⟩
    · exact .inl ⟨k, (g2 m0 hn0).trans z⟩
    · exact .inr ⟨k, c, e, o, kp c o (I.cne x c e) ho, hd⟩
  · obtain ⟨v, o, ho, hd⟩ := I.cell y c e
    exact ⟨v, o, kp c o (I.cne y c e) ho, hd⟩
  · obtain ⟨e, n, ne, nf, d⟩ := I.pin p hp
    exact ⟨kp _ _ ne e, n, ne, nf, d⟩

/-- except C: .. -/
noncomputable def thPlain (K : PySem.W.Frag) (c : Value) (ts : TS) (tr : TH) : TH := fun D σ cls H' => (PySem.W.exmOne K cls c = some true ∧ ts D σ H') ∨ (PySem.W.exmOne K cls c = some false ∧ tr D σ cls H')
noncomputable def thNone : TH := fun _ _ _ _ => False
theorem ph_nil : PH X [] thNone := fun _ _ _ _ _ _ _ _ _ _ _ h => False.elim h
/-- except C as n: .. (n in slot i) -/
noncomputable def thAs (K : PySem.W.Frag) (c : Value) (i : Nat) (ts : TS) (tr : TH) : TH := fun D σ cls H' =>
  (PySem.W.exmOne K cls c = some true ∧ ∀ a, H' a = none → ts { nx := fun σ2 H2 => D.nx (σ2.set i none) H2, rt := D.rt } (σ.set i (some (.ref a))) (upd H' a (ExcAt a cls))) ∨ (PySem.W.exmOne K cls c = some false ∧ tr D σ cls H')
theorem ph_as {x n : Str} {c : Value} {np pos : Pos} {b₀ : Stmt} {suite : List Stmt} {rest : List ExceptHandler} {ts : TS} {tr : TH} {i : Nat} (hm : X.mg x = some c) (hN : X.N.Nodup) (hi : X.N[i]? = some n) (hlo : X.env.scope.names.lookup n = some .local)
    (hsu : ∀ a, PSs (cxMark X a) (b₀ :: suite) ts) (hr : PH X rest tr) (hg : Gl X x := by rfl) (hd : (x == ("__debug__" : Str)) = false := by decide) :
    PH X (.ExceptHandler (some (.Name x np)) (some n) (b₀ :: suite) pos :: rest) (thAs X.K c i ts tr) := by
  intro pins σ H s a cls H' s' D I Y h
  have I1 := Y.inv I
  have hcls : (X.env.scope.kind == .class || (X.env.scope.kind == .module && X.env.locals != X.env.globals)) = false := by rw [I.ok.kind]; rfl
  refine wpAny_handleBy_cons (codeAny_handlers_test (ld_glob (X := cxMark X a) (I1.mark a) hg hm ?_ hd)) (by intro q; cases q)
  rcases h with ⟨e, h⟩ | ⟨e, h⟩
  · refine (PySem.W.exm_one I1.kIn Y.looks e).here ?_
    refine codeAny_handlers_suite_as (Y.again I fun h6 Y6 => ?_)
    obtain ⟨na, I7⟩ := Y6.track I
    refine store_ok (X := cxMark X a) (i := i) (v := .ref a) (I7.mark a) hN hi (.inl hlo) rfl (fun s8 I8 => ?_) (.inr hlo)
    -- the name goes behind the rows
    have gone : ∀ (σ2 : St) (H2 : Hp) (s2 : Shared) (Q : Shared → Prop), Inv X pins σ2 H2 s2 → (∀ s3, Inv X pins (σ2.set i none) H2 s3 → Q s3) →
        wpAny (model X.prog X.w) X.A (do bindName X.env n .none; unbindBehindTheSuite X.env n pos) (fun _ s3 => Q s3) X.xe s2 := fun σ2 H2 s2 Q I2 hQ => by
      refine wpAny_bind (wpAny_bindName (store_ok (v := .non) I2 hN hi (.inl hlo) rfl (fun s3 I3 => ?_) (.inr hlo)))
      have hi2 : i < (σ2.set i (some V.non)).length := by rw [I3.len]; exact (List.getElem?_eq_some_iff.mp hi).1
      obtain ⟨m, hn, hl⟩ := id I3.loc
      obtain ⟨u, r, l⟩ := hl i n .non hi (by rw [List.getElem?_set_self (by rw [List.length_set] at hi2; exact hi2)]) (.inl hlo)
      have hv : m n = some u := by
        rcases l with ⟨_, z⟩ | ⟨k, _⟩
        · exact z
        · have k' : X.env.scope.names.lookup n = some .cell ∨ X.env.scope.names.lookup n = some .free := k
          rw [hlo] at k'
          rcases k' with z | z <;> cases z
      unfold unbindBehindTheSuite
      refine wpAny_onRaise (wpAny_unbindName_local hlo hn hv hcls fun h' u' hns hsb => ?_)
      refine hQ { s3 with heap := h' } ?_
      have J := I3.turnFrame (σ' := σ2.set i none) hns hsb (by rw [List.length_set, List.length_set]) (fun j y v e1 e2 => ?_)
      · exact J
      · by_cases hj : j = i
        · subst hj
          rw [List.getElem?_set_self (by rw [List.length_set] at hi2; exact hi2)] at e2
          cases e2
        · rw [List.getElem?_set_ne (Ne.symm hj)] at e2
          refine ⟨by rw [List.getElem?_set_ne (Ne.symm hj)]; exact e2, fun m2 hn2 => ?_⟩
          have : y ≠ n := fun z => hj (nodup_ix hN e1 (z ▸ hi))
          show (if y = n then u' else m y) = m2 y
          rw [if_neg this]
          exact nsInj hn hn2 y
    have hq := h a na
    refine wpAny_mono (hsu a pins s8 _ _ _ I8 hq) (fun f s9 z => ?_) fun _ _ z => False.elim z
    cases f with
    | next =>
      obtain ⟨σ9, H9, I9, q9⟩ := z
      exact gone σ9 H9 s9 _ (I9.unmark I.ok) fun s3 I3 => ⟨_, H9, I3, q9⟩
    | ret u =>
      obtain ⟨v, σ9, H9, I9, r9, q9⟩ := z
      exact gone σ9 H9 s9 _ (I9.unmark I.ok) fun s3 I3 => ⟨v, _, H9, I3, r9, q9⟩
    | brk =>
      obtain ⟨_, _, _, q9⟩ := z
      exact False.elim q9
    | cont =>
      obtain ⟨_, _, _, q9⟩ := z
      exact False.elim q9
  · refine (PySem.W.exm_one I1.kIn Y.looks e).here ?_
    exact hr pins σ H s a cls H' s' D I Y h
/-- try: .. except .. -/
noncomputable def tTry (tb : TTy) (th : TH) : TS := fun D σ H => tb D (fun σ' cls H' => th D σ' cls H') σ H
theorem ps_try {body : List Stmt} {h₀ : ExceptHandler} {hs : List ExceptHandler} {pos : Pos} {tb : TTy} {th : TH} (O : Own X) (hb : PTy X body tb) (hh : PH X (h₀ :: hs) th) : PS X (.Try body (h₀ :: hs) [] [] pos) (tTry tb th) := by
  intro pins s σ H D I q
  refine wpAny_Try_except (wpAny_mono (hb pins s σ H D _ I q) (fun f s1 z => ?_) fun e s1 z => ?_)
  · cases f with
    | next => exact wpAny_execs_nil z
    | ret v => exact z
    | brk => exact z
    | cont => exact z
  · obtain ⟨a, cls, σ', H1, s2, H', rfl, I2, Y, q2⟩ := z
    exact Y.look I2 O fun h' Y' => hh pins σ' H1 s2 a cls H' _ D I2 Y' q2
end
end L2

set_option Elab.async false
set_option linter.all false
set_option maxRecDepth 100000
set_option maxHeartbeats 4000000

/-! sorted(texts), reversed(list), list(reversed(list)), lists of texts told apart. -/
namespace L2
open PySem PySem.Spec PyProof.Rows

namespace RV
section
variable {prog : Program} {w : World} {A : Around} {E : Value → Shared → Prop} {s : Shared}
end
end RV

section
variable {X : Cx}
noncomputable def tLR (K : PySem.W.Frag) (t : TE) : TE := fun σ H Q => t σ H fun x H1 => ∃ (p : Addr) (vs : List V), x = .ref p ∧ SqL K H1 p vs ∧ ∀ D, H1 D = none → Q (.ref D) (upd H1 D (.lst vs.reverse))
/-! ### lists of texts told apart -/
theorem op_ne_LT (hu : X.A.units < cLine) : OpR X (compareOp .NotEq) (fun x y H Q => ∃ (p b : Addr) (ls ms : List (List Nat)), x = .ref p ∧ y = .ref b ∧ SqL X.K H p (ls.map T) ∧ SqL X.K H b (ms.map T) ∧ Q (.bl (!decide (ls = ms))) H) := by
  intro pins s σ H x y v u Q I rx ry h
  obtain ⟨p, b, ls, ms, rfl, rfl, h1, h2, q⟩ := h
  cases rx
  cases ry
  obtain ⟨its, r, pl, _⟩ := I.list h1
  obtain ⟨its2, r2, pl2, _⟩ := I.list h2
  have l1 := r.length
  have l2 := r2.length
  rw [List.length_map] at l1 l2
  by_cases hl : ls.length = ms.length
  · refine SeqAt.RcNeAt.lists (e := fun j => decide (ls[j]? = ms[j]?)) pl.isList pl2.isList (by rw [List.size_toArray, List.size_toArray]; omega) hu (fun j g1 g2 => eqAt_T r r2 (by simp) (by simp)) _ _ _ _ ?_
    rw [List.size_toArray, ← l1, all_range_eq hl]
    exact ⟨.bl _, H, I, rfl, q⟩
  · refine SeqAt.RcNeAt.lists_lengths pl.isList pl2.isList (by rw [List.size_toArray, List.size_toArray, bne_iff_ne]; omega) hu _ _ _ _ ?_
    have e : decide (ls = ms) = false := decide_eq_false fun z => hl (by rw [z])
    rw [e] at q
    exact ⟨.bl _, H, I, rfl, q⟩
end
end L2

set_option Elab.async false
set_option linter.all false
set_option maxRecDepth 100000
set_option maxHeartbeats 4000000

/-! set(texts), len of it. -/
namespace L2
open PySem PySem.Spec PyProof.Rows

/-- the unlike ones, in the order in which they are met -/
noncomputable def nub : List (List Nat) → List (List Nat) → List (List Nat)
  | acc, [] => acc
  | acc, l :: ls => if l ∈ acc then nub acc ls else nub (acc ++ [l]) ls
noncomputable def nubTo (ls : List (List Nat)) : Nat → List (List Nat)
  | 0 => []
  | i + 1 => if ls.getD i [] ∈ nubTo ls i then nubTo ls i else nubTo ls i ++ [ls.getD i []]
/-- how many unlike ones there are -/
noncomputable def uniq (ls : List (List Nat)) : List (List Nat) := nubTo ls ls.length
namespace SE
section
variable {prog : Program} {w : World} {A : Around} {R : Result → Shared → Prop} {J : Addr} {fp wr : List Addr} {G : Array GenState → Array GenState → Prop} {n : Nat} {P : Nat → Value → Prop} {St : Nat → Shared → Prop}
noncomputable abbrev Has (prog : Program) (w : World) (h : Heap) (D : Addr) (ms : List (List Nat)) : Prop := h.SetOf (PySem.strKind prog w) D (fun x => decide (x.cps.toList ∈ ms)) ms.length
variable {E : Value → Shared → Prop} {s : Shared}
end
end SE

/-- a set of texts, tracked -/
noncomputable def SetT (P : Program) (w : World) (D : Addr) (ms : List (List Nat)) : HO := .ext fun h => SE.Has P w h D ms
section
variable {X : Cx}
end
end L2

set_option Elab.async false
set_option linter.all false
set_option maxRecDepth 100000
set_option maxHeartbeats 4000000

namespace L2
open PySem PySem.Spec PyProof.Rows
section
variable {X : Cx}
/-! ### a list that is read, times a number -/
namespace LM
theorem rmul (a : Int) (t : Tok) (l : Addr) (its : Array Value) (n : Nat) (dd : Option Addr) (sl : Array (Option Value)) :
    Meets (Builtin.«int.__rmul__» ⟨[.int a t, .ref l], []⟩) (fun _ R s => s.heap.get? l = some { cls := .type "list", dict := dd, data := .seq its n, slots := sl } ∧ R (.ok (.ret Value.notImplemented)) s) :=
  .of_wp fun prog w A R s z => by
    obtain ⟨hp, g, d, tk, os⟩ := s
    obtain ⟨hl, z⟩ := z
    wp_walk
    exact ⟨_, rfl, z⟩
theorem mul (l : Addr) (its : Array Value) (n : Nat) (dd : Option Addr) (sl : Array (Option Value)) (x : Int) (u : Tok) (c0 : ¬(!Builtin.List.listFitsIndex x) = true) (c1 : ¬its.size * x.toNat > (2 ^ 63 - 1) / 8) (c2 : ¬Builtin.List.listTooLong (its.size * x.toNat) = true) :
    Meets (Builtin.«list.__mul__» ⟨[.ref l, .int x u], []⟩) (fun _ R s => s.heap.get? l = some { cls := .type "list", dict := dd, data := .seq its n, slots := sl } ∧
      R (.ok (.ret (Value.ref s.heap.objs.size))) { s with heap := s.heap.push { cls := Value.type "list", data := Data.seq (List.foldl (fun x1 x2 => x1 ++ x2) #[] (List.replicate (if its.isEmpty = true then 0 else x.toNat) its)) } }) :=
  .of_wp fun prog w A R s z => by
    obtain ⟨hp, g, d, tk, os⟩ := s
    obtain ⟨hl, z⟩ := z
    have hsz := AutoListH.joined_fits c2
    wp_walk using wpAny_loadPart' hl
    refine wpAny_ite_false (decide_eq_false (Nat.not_lt.mpr hsz)) ?_
    wp_walk
    exact ⟨_, rfl, z⟩
end LM
theorem ix_list_K (K : PySem.W.Frag) (hK : X.K = K) : IxR X (rIxL K) := by
  subst hK
  exact ix_list
theorem op_repI : OpR X (binaryOp .Mult) (fun x y H Q => ∃ (l : Addr) (k : Int) (xs : List V), x = .ref l ∧ y = .int k ∧ SqL X.K H l xs ∧ (-(2 ^ 63) ≤ k ∧ k < 2 ^ 63 ∧ xs.length * k.toNat ≤ sizeLine) ∧ ∀ p, H p = none → Q (.ref p) (upd H p (.lst (List.replicate k.toNat xs).flatten))) := by
  intro pins s σ H x y v u Q I rx ry h
  obtain ⟨l, k, xs, rfl, rfl, hH, ⟨h1, h2, hz⟩, q⟩ := h
  cases rx
  obtain ⟨t, rfl⟩ := ry
  obtain ⟨its, r, ⟨⟨cls, dd, data, sl⟩, n, e, hc, hdd, hd⟩, z⟩ := I.list hH
  simp only at hc hd
  subst hc hd
  have hl := r.length
  have hlen : its.toArray.size * k.toNat ≤ sizeLine := by rw [List.size_toArray, ← hl]; exact hz
  have hcap : ¬ its.toArray.size * k.toNat > (2 ^ 63 - 1) / 8 := by
    have : (sizeLine : Nat) ≤ (2 ^ 63 - 1) / 8 := by decide
    omega
  have hfit : ¬ (!Builtin.List.listFitsIndex k) = true := by
    rw [fitsIndex_both h1 h2]
    exact Bool.false_ne_true
  have hlong : ¬ Builtin.List.listTooLong (its.toArray.size * k.toNat) = true := by
    rw [notLongL hlen]
    exact Bool.false_ne_true
  have hnew : List.foldl (fun x1 x2 => x1 ++ x2) #[] (List.replicate (if its.toArray.isEmpty = true then 0 else k.toNat) its.toArray) = (List.replicate k.toNat its).flatten.toArray := by
    have f0 : ∀ m : Nat, List.foldl (fun x1 x2 => x1 ++ x2) #[] (List.replicate m its.toArray) = (List.replicate m its).flatten.toArray := fun m => by
      have := foldl_rep its m []
      rw [List.nil_append] at this
      exact this
    rw [f0]
    cases its with
    | nil => simp
    | cons a r' => rw [if_neg (by simp)]
  refine wpAny_binaryOp_repeat_ref (T := "list") (U := "int") (by decide) ⟨_, e, rfl⟩ (fun s' => typeIs_int s' k t) noFill_list_mul F.fills_int_mul F.slot_int_rmul repeat_list F.slot_int_index.lookup
    (call_meets F.slot_int_rmul (typeIs_int s k t) F.entry_int_rmul (F.args_int_rmul_2 _ _) (LM.rmul k t l its.toArray n dd sl)
      ⟨e, rfl, ⟨_, e, rfl⟩, call_meets F.slot_list_mul ⟨_, e, rfl⟩ F.entry_list_mul (F.args_list_mul_2 _ _) (LM.mul l its.toArray n dd sl k t hfit hcap hlong) ⟨e, ?_⟩⟩)
  rw [hnew]
  exact ⟨.ref _, _, I.lnew (t' := s.toks) (r.rep k.toNat) (by rw [len_rep, Nat.mul_comm]; exact hz), rfl, q _ I.fresh⟩
theorem op_repL : OpR X (binaryOp .Mult) (fun x y H Q => ∃ (l : Addr) (k : Nat) (xs : List V), x = .ref l ∧ y = .int k ∧ SqL X.K H l xs ∧ (k ≤ sizeLine ∧ xs.length * k ≤ sizeLine) ∧ ∀ p, H p = none → Q (.ref p) (upd H p (.lst (List.replicate k xs).flatten))) := by
  intro pins s σ H x y v u Q I rx ry h
  obtain ⟨l, k, xs, e1, e2, hH, ⟨hk, hz⟩, q⟩ := h
  have hs : sizeLine = 16777216 := sizeLine_eq
  refine op_repI pins s σ H x y v u Q I rx ry ⟨l, (k : Int), xs, e1, e2, hH, ⟨by omega, by omega, ?_⟩, ?_⟩
  · rw [Int.toNat_natCast]
    exact hz
  · rw [Int.toNat_natCast]
    exact q
end
end L2

set_option Elab.async false
set_option linter.all false
set_option maxRecDepth 100000
set_option maxHeartbeats 4000000

/-! Texts walked sign by sign, a sign within a text, LETTERS.index, ''.join(reversed(list)), list(range(n)), range downward. -/
namespace L2
open PySem PySem.Spec PyProof.Rows

/-! ### for c in text -/
noncomputable def Itx (l : List Nat) : It := ⟨fun i _ => i < l.length, fun i H x H' => H' = H ∧ ∃ c, l[i]? = some c ∧ x = T [c], fun i _ => l.length ≤ i⟩
theorem turn_text {P : Program} {w : World} {K : PySem.W.Frag} {tg : Expr} {it : Addr} {ty : String} {l : List Nat} {t : Tok} (hty : ty = "str_ascii_iterator" ∨ ty = "str_iterator")
    (W : ∀ A : Around, A.handled = none → Walks P w A it [it] [it] (tx l).cps.size (SignAt (tx l)) (fun i h => h.IsStrIter it ty (tx l) t i)) : Turn P w K tg (Itx l) [it] it (fun i h => h.IsStrIter it ty (tx l) t i) where
  mem := by simp
  obj := fun i h st b hb => by
    have e : b = it := by simpa using hb
    subst e
    obtain ⟨o, e, c, d⟩ := st
    exact ⟨o, e, fun v z => by rw [d] at z; cases z⟩
  keep := fun i h h' st k => by
    obtain ⟨o, e, r⟩ := st
    exact ⟨o, k it (by simp) o e, r⟩
  item := by
    intro X hP hw hK hc i pins s σ H E I hf st hg
    subst hP hw hK
    obtain ⟨f0, f1, f2, f3, f4, f5⟩ := hf it (by simp)
    refine (W X.A (I.ok.hd hc)).item i s _ _ (by have : i < l.length := hg; simpa [tx] using this) st fun v h' tk hv st' kk => ?_
    obtain ⟨c, u, hcu, rfl⟩ := hv
    have I1 : Inv X pins σ H { s with heap := h', toks := tk } := I.turned (fun b o hb e => kk b o (by simpa using hb) e) f0 f1 f3 f4 f5
    obtain ⟨o, e, cl, d⟩ := id st'
    refine ⟨_, rfl, go_of (s := { s with heap := h', toks := tk }) (n := ty) e cl d (by rcases hty with rfl | rfl <;> decide) ⟨T [c], H, I1, ⟨u, rfl⟩, ⟨rfl, c, ?_, rfl⟩, st', fun b hb => (hf b hb).1⟩⟩
    simpa [tx] using hcu
  done := by
    intro X hP hw hK hc i pins s σ H E I hf st hg
    subst hP hw hK
    obtain ⟨f0, f1, f2, f3, f4, f5⟩ := hf it (by simp)
    have hn : l.length ≤ i := hg
    obtain ⟨o, e, cl, d⟩ := id st
    rcases hty with rfl | rfl
    · exact wpAny_pyNext_ascii_end (I.ok.hd hc) st (by simpa [tx] using hn) fun h' eb => ⟨rfl, I.turned (t' := s.toks) (fun b o hb e => eb b o hb e) f0 f1 f3 f4 f5⟩
    · exact wpAny_pyNext_wide_end (I.ok.hd hc) st (by simpa [tx] using hn) fun h' eb => ⟨rfl, I.turned (t' := s.toks) (fun b o hb e => eb b o hb e) f0 f1 f3 f4 f5⟩
  self := fun A i s Q E st h => by
    rcases hty with rfl | rfl
    · exact wpAny_pyIter_striter_ascii st h
    · exact wpAny_pyIter_striter_wide st h
noncomputable def iStr (tl : TE) : TI := fun σ H R => tl σ H fun x H1 => ∃ l, x = T l ∧ R (Itx l) H1
section
variable {X : Cx} {tg : Expr}
theorem pi_str {e : Expr} {tl : TE} (hl : PE X e tl) : PI X tg e (iStr tl) := by
  intro pins s σ H R I h
  refine thn (hl pins s σ H _ I h) fun v s1 ⟨x, H1, I1, r1, q1⟩ => ?_
  obtain ⟨l, rfl, q⟩ := q1
  obtain ⟨t, rfl⟩ := r1
  have fin : ∀ (ty : String) (o : Obj), (ty = "str_ascii_iterator" ∨ ty = "str_iterator") → (∀ A : Around, A.handled = none → Walks X.prog X.w A s1.heap.objs.size [s1.heap.objs.size] [s1.heap.objs.size] (tx l).cps.size (SignAt (tx l)) (fun i h => h.IsStrIter s1.heap.objs.size ty (tx l) t i)) →
      (s1.heap.push o).IsStrIter s1.heap.objs.size ty (tx l) t 0 → PIE X pins σ tg R (.ref s1.heap.objs.size) { s1 with heap := s1.heap.push o } := fun ty o hty W st => by
    refine ⟨s1.heap.objs.size, [s1.heap.objs.size], _, _, H1, rfl, I1.kept (t' := s1.toks) fun b o e => Heap.get?_push_of_some _ e, turn_text hty W, st, fun b hb => ?_, q⟩
    have e : b = s1.heap.objs.size := by simpa using hb
    subst e
    exact I1.fpOk (Nat.le_refl _) (I1.hok.fresh (Nat.le_refl _))
  cases ha : (tx l).cps.all (· < 128)
  · exact wpAny_pyIter_wide ha (fin "str_iterator" _ (.inr rfl) (fun A hA => Walks.strWide hA _ (tx l) t) ⟨_, Heap.get?_push_size _ rfl, rfl, rfl⟩)
  · exact wpAny_pyIter_ascii ha (fin "str_ascii_iterator" _ (.inl rfl) (fun A hA => Walks.strAscii hA _ (tx l) t) ⟨_, Heap.get?_push_size _ rfl, rfl, rfl⟩)
end
theorem for_text {l : List Nat} {g : TG} {tb : TS} {D : Ends} {σ : St} {H : Hp} (Pv : Nat → St → Hp → Prop) (h0 : Pv 0 σ H)
    (hs : ∀ i c σ H, l[i]? = some c → Pv i σ H → g (T [c]) σ H fun σ2 H2 => tb { D with nx := Pv (i + 1), ct := Pv (i + 1), bk := D.nx } σ2 H2) (hd : ∀ σ H, Pv l.length σ H → D.nx σ H) :
    ∃ W : Nat → Nat → St → Hp → Prop, (∃ m, W 0 m σ H) ∧ ∀ i m σ H, W i m σ H →
      ((Itx l).stop i H ∧ D.nx σ H) ∨ ((Itx l).go i H ∧ ∃ N : St → Hp → Prop, (∀ σ' H', N σ' H' → ∃ m', m' < m ∧ W (i + 1) m' σ' H') ∧ ∀ x H', (Itx l).yld i H x H' → g x σ H' fun σ2 H2 => tb { D with nx := N, ct := N, bk := D.nx } σ2 H2) := by
  refine ⟨fun i m σ H => m = l.length - i ∧ i ≤ l.length ∧ Pv i σ H, ⟨l.length, by simp, Nat.zero_le _, h0⟩, ?_⟩
  rintro i m σ H ⟨rfl, hi, p⟩
  by_cases hlt : i < l.length
  · refine .inr ⟨hlt, Pv (i + 1), fun σ' H' p' => ⟨l.length - (i + 1), by omega, rfl, hlt, p'⟩, fun x H' y => ?_⟩
    obtain ⟨rfl, c, hc, rfl⟩ := y
    exact hs i c σ _ hc p
  · obtain rfl : i = l.length := by omega
    exact .inl ⟨Nat.le_refl _, hd σ H p⟩

section
variable {X : Cx}
theorem op_notin_sT : OpR X (compareOp .NotIn) (fun x y H Q => ∃ c, x = T [c] ∧ ∃ l, y = T l ∧ Q (.bl (!decide (c ∈ l))) H) := by
  intro pins s σ H x y v u Q I rx ry h
  obtain ⟨c, e1, l, e2, q⟩ := h
  exact op_notin_str pins s σ H x y v u Q I rx ry ⟨tx [c], tx l, e1, e2, by rw [show tx [c] = ⟨#[c]⟩ from rfl, StrLaws.found_one, tx_cps]; exact q⟩
/-! ### 'abcdef'.index(letter) -/
theorem mt_index6 : MtR X "str.index" (fun x xs H Q => x = T [97, 98, 99, 100, 101, 102] ∧ ∃ c : Nat, xs = [T [c]] ∧ (97 ≤ c ∧ c ≤ 102) ∧ Q (.int ((c - 97 : Nat) : Int)) H) := by
  intro pins s σ H x xs v us Q I rx rs h
  obtain ⟨rfl, c, rfl, hc, q⟩ := h
  obtain ⟨t, rfl⟩ := rx
  obtain ⟨u, rfl, ru⟩ := vals1 rs
  obtain ⟨t', rfl⟩ := ru
  have key : ∀ d : Nat, d < 6 → Builtin.Str.occurrences (tx [97, 98, 99, 100, 101, 102]) (tx [97 + d]) 0 (tx [97, 98, 99, 100, 101, 102]).length 1 = [d] := by decide +kernel
  have e := key (c - 97) (by omega)
  rw [show 97 + (c - 97) = c by omega] at e
  exact SC.index e ⟨.int ((c - 97 : Nat) : Int), H, I.tok _, ⟨_, rfl⟩, q⟩

/-! ### ''.join(reversed(list)) -/
namespace RV
variable {prog : Program} {w : World} {A : Around} {E : Value → Shared → Prop} {s : Shared}
end RV
noncomputable def tJR (K : PySem.W.Frag) (t : TE) : TE := fun σ H Q => t σ H fun x H1 => ∃ (p : Addr) (ls : List (List Nat)), x = .ref p ∧ SqL K H1 p (ls.map T) ∧ ls.flatten.length ≤ sizeLine ∧ Q (T ls.reverse.flatten) H1
end
end L2

set_option Elab.async false
set_option linter.all false
set_option maxRecDepth 100000
set_option maxHeartbeats 4000000

/-! Defs that raise nothing among those that do; isinstance of a caught exception. -/
namespace L2
open PySem PySem.Spec PyProof.Rows

section
variable {P : Program} {w : World} {K : PySem.W.Frag} {mg : Str → Option Value} {base : Heap}
/-- a def that raises nothing -/
theorem Fun.okN {x qual : Str} {st : Stmt} {f : Addr} {fd : FuncData} {N ps : List Str} {k : Nat} {sp : Sp} (F : Fun K x qual st f fd) (S : FnScope N ps (defScope st)) (len : ∀ vs H Q E, sp vs H Q E → vs.length = ps.length)
    (hbody : ∀ (cdv : Value) (A : Around) (outer : List Env) (s : Shared) (H : Hp) (vs : List V) (Q : VK) (E : XK), Room k (A.deeper (envOfC qual (defScope st) s.heap.objs.size f cdv)) → sp vs H Q E →
      ∃ t, PSs (cxOf (CX1 P w) P w K mg base N qual (defScope st) f cdv A outer s H E).nox (defBody st) t ∧ t { nx := fun _ H' => Q .non H', rt := Q } (start N vs) H) : FnOk P w K mg base (CX1 P w) (k + 1) f fd ps sp := by
  obtain ⟨oc, od, kV, doc, pm, an, cdv, ct, osl, rfl, lk, hcd⟩ := F.ex
  refine fn_of lk hcd S len fun A outer s H vs Q E hr hsp => ?_
  obtain ⟨t, h, q⟩ := hbody cdv A outer s H vs Q E hr hsp
  exact ⟨t, h.nox, q⟩
end

/-! ### isinstance(e, C), e an exception of an own class -/
open PySem.W in
/-- what is asked of its class -/
structure Knd (K : PySem.W.Frag) (C : Addr) : Prop where
  ga : findIn K (.ref C) "__getattribute__" = some (some (.builtin "BaseException.__getattribute__"))
  hk : findIn K (.ref C) "__getattr__" = some none
  ha : findIn K (.ref C) "__class__" = some (some (.builtin "object.__class__"))
  hn : specialIn K (.builtin "object.__class__") "__get__" = some (some (.builtin "getset_descriptor.__get__"))
  htk : takesIn K (.builtin "object.__class__") = some true
  hm : mroIn K C (.type "object") = some true
  hb : mroIn K C (.type "BaseException") = some true
  cl : (clsIn K C).isSome = true
namespace EX
open PySem.W PySem.Calls PySem.Builtin PySem.Builtin.ObjectAttr PySem.Builtin.Getset_descriptor
variable {prog : Program} {w : World} {A : Around} {E : Value → Shared → Prop} {s : Shared} {K : PySem.W.Frag} {a C : Addr}
theorem ty {M : Model} {h : Heap} (p : ∃ o, h.get? a = some o ∧ o.cls = .ref C) : Looks M h (typeOf (.ref a)) (.ref C) := by
  obtain ⟨o, h1, h2⟩ := p
  exact h2 ▸ (Looks.ld h1).andThen .now
theorem found {M : Model} {h : Heap} (X : K.In h) (k : Knd K C) : Looks M h (find (.ref a) (.ref C) "__class__") (.bind (.builtin "getset_descriptor.__get__") (.builtin "object.__class__")) := by
  have L1 := looks_findIn (M := M) X k.ha
  have L2 : Looks M h (getOf (some (.builtin "object.__class__"))) (some (.builtin "getset_descriptor.__get__")) := looks_specialIn X k.hn
  have L3 := looks_takesIn (M := M) X k.htk
  refine L1.andThen (L2.andThen ?_)
  exact (show Looks M h (dataDescriptor? (some (.builtin "object.__class__")) (some (.builtin "getset_descriptor.__get__"))) (some (.builtin "getset_descriptor.__get__", .builtin "object.__class__")) from L3.andThen .now).andThen (Looks.tag .now)
theorem get {tp : Value} {R : Result → Shared → Prop} (X : K.In s.heap) (k : Knd K C) (p : ∃ o, s.heap.get? a = some o ∧ o.cls = .ref C) (h : R (.ok (.ret (.ref C))) s) :
    codeAny (model prog w) A (.call (.builtin "getset_descriptor.__get__") ⟨[.builtin "object.__class__", .ref a, tp], []⟩) R s := by
  obtain ⟨hh, g, dr, t, os⟩ := s
  have L0 := ty (M := model prog w) p
  have L1 := looks_mroIn (M := model prog w) X k.hm
  refine codeAny_call_builtin KF.slot_gs.plain KF.entry_gs (KF.slot_gs.check _ _ _ _ _ _ _ _ KF.type_class (KF.args_gs _ _ _) ?_)
  unfold Builtin.«getset_descriptor.__get__» descrGet
  rw [dga_obj]
  refine wpAny_bind (wpAny_pure ?_)
  unfold descrGetter descrCheckInstance descrNameAndClass isInstance
  simp only [KF.owner_class]
  repeat lk
  refine ⟨Code.quiet_builtin _ (by decide +kernel), codeAny_builtin KF.entry_class ?_⟩
  unfold Builtin.«object.__class__» shownTypeOf
  repeat lk
  exact h
theorem attr {Q : Option Value → Shared → Prop} (X : K.In s.heap) (k : Knd K C) (p : ∃ o, s.heap.get? a = some o ∧ o.cls = .ref C) (h : Q (some (.ref C)) { s with toks := s.toks + 1 }) :
    wpAny (model prog w) A (getAttr? (.ref a) "__class__") Q E s := by
  obtain ⟨hh, g, d, t, os⟩ := s
  have L0 := ty (M := model prog w) p
  have L1 := looks_findIn (M := model prog w) X k.ga
  have L2 := looks_findIn (M := model prog w) X k.hk
  have L3 := found (M := model prog w) (a := a) X k
  have L4 := looks_mroIn (M := model prog w) X k.hb
  unfold getAttr? getAttrBy? getAttrBy
  refine wpAny_bind (wpAny_mkText (wpAny_bind (wpAny_attempt (wpAny_holding (wpAny_bind (L0.at (wpAny_bind (L1.at ?_))))))))
  dsimp only
  have hx : (Value.builtin "BaseException.__getattribute__" == Value.builtin "object.__getattribute__") = false := by decide +kernel
  rw [if_neg (by rw [hx, Bool.and_false]; exact Bool.false_ne_true)]
  unfold getAttrByItsOwn hookBefore
  refine wpAny_bind (L2.at (wpAny_bind (wpAny_attempt (wpAny_holding ?_))))
  unfold callGetattribute boundAndCalled
  rw [if_neg (show ¬ (false && onTheHeap (Value.builtin "BaseException.__getattribute__")) = true by decide)]
  refine wpAny_bind (wpAny_of_eq (F.attr_ValueError.ga.bind (.ref a)) ?_)
  have hk0 : builtinKind "BaseException.__getattribute__" = some .slot := by decide +kernel
  have hs0 : splitId "BaseException.__getattribute__" = some ("BaseException", "__getattribute__") := by decide +kernel
  have ha0 := F.args_bexc_ga (.ref a) (.str "__class__" t)
  refine wpAny_call (codeAny_call_builtin F.attr_ValueError.ga.plain F.entry_bexc_ga ?_)
  simp only [checkBuiltinCall, hk0, hs0]
  unfold isInstance
  refine wpAny_bind (wpAny_bind (L0.at (L4.at ?_)))
  rw [if_neg (by decide)]
  refine wpAny_of_eq ha0 ?_
  show wpAny _ A.in1 («object.__getattribute__» ⟨[.ref a, .str "__class__" t], []⟩) _ _ _
  unfold «object.__getattribute__» slotArgs attrName
  iterate 8 lk
  refine wpAny_bind (wpAny_pure (wpAny_bind (L0.at (wpAny_bind (L3.at ?_)))))
  dsimp only
  unfold bindTo
  refine wpAny_bind (wpAny_holding (wpAny_call (get (a := a) (C := C) X k p (show wpAny _ _ (ret (Value.ref C)) _ _ _ from wpAny_pure (handed_on rfl (wpAny_pure h))))))
theorem kit (k : Knd K C) : KitX K (.ref a) (.ref C) (fun h => ∃ o, h.get? a = some o ∧ o.cls = .ref C) where
  ty := fun _ _ _ p => ty p
  it := fun _ _ X _ => by
    obtain ⟨cd, hc⟩ := Option.isSome_iff_exists.mp k.cl
    unfold clsIn at hc
    split at hc
    · rename_i ho
      intro A' Q' E' s' kp q
      unfold isType loadHead
      exact wpAny_bind (wpAny_loadPart (kp _ _ (X _ _ ho)) (wpAny_pure q))
    · cases hc
  ne := fun h tp dd its n sl X htp => by
    obtain ⟨cd, hc⟩ := Option.isSome_iff_exists.mp k.cl
    refine Bool.eq_false_iff.mpr fun q => ?_
    obtain rfl : C = tp := Value.ref.inj (beq_iff_eq.mp q)
    unfold clsIn at hc
    split at hc
    · rename_i ho
      have z := (X _ _ ho).symm.trans htp
      cases z
    · cases hc
  ca := fun X p h => attr X k p h
end EX
section
variable {X : Cx}
/-- the class as a value -/
noncomputable def clsV : Value → Option V
  | .ref c => some (.ref c)
  | .type n => some (.ty n)
  | _ => none
theorem clsV_rel {c : Value} {v : V} {u : Value} (h : clsV c = some v) (r : RelV v u) : u = c := by
  cases c <;> first
    | (cases h; exact r)
    | cases h
/-- isinstance(e, C), e a caught exception -/
theorem call_isinstE : CallR X (.builtin "isinstance") (fun xs H Q => ∃ (a C : Addr) (c : Value) (v : V) (b : Bool), xs = [.ref a, v] ∧ clsV c = some v ∧ H a = some (ExcAt a (.ref C)) ∧ Knd X.K C ∧ PySem.W.kitOne X.K (.ref C) c = some b ∧ Q (.bl b) H) := by
  intro pins s σ H xs us Q I r h
  obtain ⟨a, C, c, v, b, rfl, hv, ha, k, e, q⟩ := h
  obtain ⟨u, w', rfl, ru, rw'⟩ := vals2 r
  cases ru
  obtain rfl := clsV_rel hv rw'
  obtain ⟨p, _⟩ := (show ObjOk X.prog X.w H s.heap a (ExcAt a (.ref C)) from I.hok a _ ha)
  exact PySem.W.kia_one (EX.kit k) I.kIn p e (fun z => nomatch z) fun tk => ⟨.bl b, H, I.tok tk, rfl, q⟩
/-! ### list(range(n)) -/
noncomputable def tLRg (ta : TE) : TE := fun σ H Q => ta σ H fun x H1 => ∃ n : Nat, x = .int (n : Nat) ∧ n ≤ 100000 ∧ ∀ D, H1 D = none → Q (.ref D) (upd H1 D (.lst ((List.range n).map fun i => .int ((i : Nat) : Int))))
end
end L2

set_option Elab.async false
set_option linter.all false
set_option maxRecDepth 100000
set_option maxHeartbeats 4000000

/-! Argument lists and displays, with less to reckon: what an item's form says is said once. -/
namespace L2
open PySem PySem.Spec PyProof.Rows
section
variable {X : Cx} {es : List Expr} {te : TE} {t : TA}
/-- ints written out -/
noncomputable def cInts : List (Int × Nat × Pos) → List Expr
  | [] => []
  | (i, j, p) :: r => .Constant (.int i) j p :: cInts r
noncomputable def tInts (is : List Int) : TA := fun _ H Q => Q (is.map V.int) H
/-- pairs of ints written out -/
noncomputable def cPairs : List ((Int × Nat × Pos) × (Int × Nat × Pos) × Nat × Pos) → List Expr
  | [] => []
  | ((i, j, p), (i', j', p'), k, q) :: r => .Tuple [.Constant (.int i) j p, .Constant (.int i') j' p'] k q :: cPairs r
noncomputable def tPairs : List (Int × Int) → TA
  | [] => fun _ H Q => Q [] H
  | (a, b) :: r => fun σ H Q => ∀ t, H t = none → tPairs r σ (upd H t (.tup [.int a, .int b])) fun vs H1 => Q (.ref t :: vs) H1
end
end L2

set_option Elab.async false
set_option linter.all false
set_option maxRecDepth 100000
set_option maxHeartbeats 4000000

/-! range(a, b, -1) walked; two lists of bools that are alike compared -/
namespace L2
open PySem PySem.Spec PyProof.Rows
noncomputable def Itd (lo : Int) (n : Nat) : It where
  go := fun i _ => i < n
  stop := fun i _ => n ≤ i
  yld := fun i H x H' => x = .int (lo - i) ∧ H' = H
section
variable {X : Cx} {tg : Expr}
noncomputable def iRng3 (ta : TA) : TI := fun σ H R => ta σ H fun vs H1 => ∃ i j : Int, vs = [.int i, .int j, .int (-1)] ∧ (-(2 ^ 62) ≤ i ∧ i < 2 ^ 62 ∧ -(2 ^ 62) ≤ j ∧ j < 2 ^ 62) ∧ R (Itd i (i - j).toNat) H1
end
end L2

set_option Elab.async false
set_option linter.all false
set_option maxRecDepth 100000
/-! Lists made of what passes a test. -/
namespace L2
open PySem
theorem codeAny_compLoop_if {prog : Program} {w : World} {A : Around} {R : Result → Shared → Prop} {s : Shared} {elt target iter cd : Expr} {scope : Scope} {pos : Pos} {it acc : Value} {env : Env} (I : Nat → Shared → Prop)
    (turn : ∀ n s, I n s → wpAny (model prog w) A (pyNext it) (fun r s₁ => match r with
      | none => R (.ok .next) s₁
      | some v => wpAny (model prog w) A (letOwnedTupleGo target it v) (fun _ s₁' => wpAny (model prog w) A (assign target env v) (fun _ s₂ => wpAny (model prog w) A (isTrue cd env (eval cd env)) (fun ok s₂' =>
          if ok = true then wpAny (model prog w) A (eval elt env) (fun x s₃ =>
            wpAny (model prog w) A (call (.builtin "list.append") [acc, x]) (fun _ s₄ => ∃ m, m < n ∧ I m s₄) (fun _ _ => False) s₃) (fun _ _ => False) s₂'
          else ∃ m, m < n ∧ I m s₂') (fun _ _ => False) s₂) (fun _ _ => False) s₁') (fun _ _ => False) s₁) (fun _ _ => False) s)
    (n : Nat) (h : I n s) :
    codeAny (model prog w) A (.compLoop (.ListComp elt [⟨target, iter, [cd], 0⟩] scope pos) 0 it acc env) R s := by
  refine codeAny_loop rfl I (fun n s hI => ?_) n h
  show wpAny _ A ((compTurn (.ListComp elt [⟨target, iter, [cd], 0⟩] scope pos) 0 it acc env).onRaise (fun x => do noteFrame x env; theTreesLotGoes x)) _ _ s
  refine wpAny_noted ?_
  rw [compTurn_list]
  refine wpAny_bind (wpAny_standAt (wpAny_bind (wpAny_mono (turn n s hI) (fun r s₁ h₁ => ?_) fun _ _ h' => h'.elim)))
  cases r with
  | none => exact wpAny_pure h₁
  | some v =>
    refine wpAny_bind (wpAny_mono h₁ (fun _ s₀ h₀ => ?_) fun _ _ h' => h'.elim)
    refine wpAny_bind (wpAny_mono h₀ (fun _ s₂ h₂ => ?_) fun _ _ h' => h'.elim)
    refine wpAny_bind (wpAny_tests_one (wpAny_mono h₂ (fun ok s₃ h₃ => ?_) fun _ _ h' => h'.elim))
    cases ok with
    | false => exact wpAny_pure ⟨rfl, by simpa using h₃⟩
    | true =>
      have h₃' := h₃
      simp only [if_true] at h₃'
      exact wpAny_bind (wpAny_bind (wpAny_mono h₃' (fun x s₄ h₄ => wpAny_bind (wpAny_mono h₄ (fun _ s₅ h₅ => wpAny_pure (wpAny_pure ⟨rfl, h₅⟩)) fun _ _ h' => h'.elim)) fun _ _ h' => h'.elim))
noncomputable def compAtF (tc : TT) (te : TE) (σ : St) (Q : VK) (J : It) (H1 : Hp) : Prop := ∀ D, H1 D = none → ∃ W : Nat → Nat → List V → Hp → Prop, (∃ m, W 0 m [] (upd H1 D (.lst []))) ∧ ∀ i m ys H2, W i m ys H2 →
  (J.stop i H2 ∧ Q (.ref D) H2) ∨ (J.go i H2 ∧ ys.length < sizeLine ∧ ∃ N : V → Hp → Prop, (∀ v H', N v H' → H' D = some (.lst ys) ∧ ∃ m', m' < m ∧ W (i + 1) m' (ys ++ [v]) (upd H' D (.lst (ys ++ [v])))) ∧
    ∃ Nn : Hp → Prop, (∀ H', Nn H' → ∃ m', m' < m ∧ W (i + 1) m' ys H') ∧
    ∀ y H', J.yld i H2 y H' → tc (some y :: σ) H' fun b H'' => if b = true then te (some y :: σ) H'' N else Nn H'')
noncomputable def tCompF (wi : TI) (tc : TT) (te : TE) : TE := fun σ H Q => wi σ H (compAtF tc te σ Q)

section
variable {X : Cx} {N' : List Str} {scope : Scope} {x : Str} {px : Pos} {elt iter cd : Expr} {pos : Pos} {te : TE} {tc : TT} {wi : TI}

theorem compf_core (S : CompSc X.N N' X.env.scope scope x) (hc : X.calm = true) (ht : ∀ cl C s H fp, PT (cxComp X N' scope cl C s H fp) cd tc) (he : ∀ cl C s H fp, PE (cxComp X N' scope cl C s H fp) elt te)
    {pins : List (Addr × Obj)} {σ : St} {H : Hp} {s : Shared} {Q : VK} {E : Value → Shared → Prop} {RR : Value → Addr → Result → Shared → Prop} {it : Addr} {fp : List Addr} {tn : Nat → Heap → Prop} {J : It}
    (I : Inv X pins σ H s) (T : Turn X.prog X.w X.K (.Name x px) J fp it tn) (st : tn 0 s.heap) (f2 : ∀ b ∈ fp, FpOk X pins H b)
    (hw : compAtF tc te σ Q J H)
    (hRR : ∀ D C s' H', Inv X pins σ H' s' → (∃ m, s'.heap.Ns C m) → C ≠ X.env.locals → (∀ y c, X.env.cells.lookup y = some c → c ≠ C) → H' C = none → X.s₀.heap.objs.size ≤ C → (∀ p ∈ X.pn ++ pins, p.1 ≠ C) → Q (.ref D) H' → RR (.ref D) C (.ok .next) s') :
    ∃ cl, closureFor scope X.env = pure cl ∧ wpAny (model X.prog X.w) X.A (newList []) (fun acc s₃ => wpAny (model X.prog X.w) X.A (newFunctionEnv scope X.env.globals cl [] X.env.qual none .none (some X.env)) (fun cenv s₄ =>
      codeAny (model X.prog X.w) X.A (.compStart (.ListComp elt [⟨.Name x px, iter, [cd], 0⟩] scope pos) 0 (.ref it) acc { cenv with scope := relabel scope X.env }) (RR acc cenv.locals) s₄) E s₃) E s := by
  have hfree : ∀ z ∈ scope.names, z.2 = .free → ∃ c, X.env.cells.lookup z.1 = some c := fun z hz hk => by
    rcases S.ok z hz hk with q | q
    · exact I.ok.has z.1 (.inl q)
    · exact I.ok.has z.1 (.inr q)
  refine ⟨_, clos_eq hfree, ?_⟩
  have clS : ∀ y c, (closOf X.env.cells scope.names []).lookup y = some c → X.env.cells.lookup y = some c := fun y c => clos_sound scope.names [] hfree fun q => by cases q
  generalize hcl : closOf X.env.cells scope.names [] = cl at clS
  have clH : ∀ y, scope.names.lookup y = some .free → ∃ c, cl.lookup y = some c := fun y hy => by
    rw [← hcl]
    exact clos_has scope.names [] (lookup_mem hy)
  refine wpAny_newObj_type (wpAny_newFunctionEnv S.cell (by intro y hy; simp at hy) (fun h₁ hns₁ hsb₁ => ?_) S.kind)
  have I3 : Inv X pins σ (upd H s.heap.objs.size (.lst [])) { s with heap := s.heap.push { cls := .type "list", data := .seq ([] : List Value).toArray } } := I.lnew (t' := s.toks) .nil (Nat.zero_le _)
  obtain ⟨W, ⟨m0, w0⟩, turn⟩ := hw s.heap.objs.size I.fresh
  dsimp only at hns₁ hsb₁ ⊢
  generalize hs3 : ({ s with heap := s.heap.push { cls := .type "list", data := .seq ([] : List Value).toArray } } : Shared) = s3 at I3
  have hh3 : s3.heap = s.heap.push { cls := .type "list", data := .seq ([] : List Value).toArray } := by rw [← hs3]
  have hsz3 : s3.heap.objs.size = s.heap.objs.size + 1 := by rw [hh3, Heap.size_push]
  rw [← hh3] at hns₁ hsb₁ ⊢
  have old : ∀ b o, s3.heap.get? b = some o → h₁.get? b = some o := fun b o e => hsb₁.extBut b o (by have := Heap.lt_size e; exact Nat.ne_of_lt this) (Heap.get?_push_of_some _ e)
  have old0 : ∀ b o, s.heap.get? b = some o → h₁.get? b = some o := fun b o e => old b o (by rw [hh3]; exact Heap.get?_push_of_some _ e)
  have CneL : s3.heap.objs.size ≠ X.env.locals := Nat.ne_of_gt I3.lt
  have CneC : ∀ y c, X.env.cells.lookup y = some c → c ≠ s3.heap.objs.size := fun y c e z => by
    obtain ⟨v, q⟩ := I3.cell y c e
    have := q.lt
    rw [z] at this
    exact absurd this (Nat.lt_irrefl _)
  have CneP : ∀ p ∈ X.pn ++ pins, p.1 ≠ s3.heap.objs.size := fun p hp z => by
    have := Heap.lt_size (I3.pin p hp).1
    rw [z] at this
    exact absurd this (Nat.lt_irrefl _)
  have CfreeH : ∀ b o, s3.heap.get? b = some o → b < s3.heap.objs.size := fun b o e => by have := Heap.lt_size e; exact this
  have fpLt : ∀ b ∈ fp, b < s3.heap.objs.size := fun b hb => by
    obtain ⟨o, e, _⟩ := T.obj 0 s.heap st b hb
    rw [hsz3]
    exact Nat.lt_succ_of_lt (Heap.lt_size e)
  have fpD : ∀ b ∈ fp, b ≠ s.heap.objs.size := fun b hb => by
    obtain ⟨o, e, _⟩ := T.obj 0 s.heap st b hb
    exact Nat.ne_of_lt (Heap.lt_size e)
  -- the block's context
  have ok' : (cxComp X N' scope cl s3.heap.objs.size s3 (upd H s.heap.objs.size (.lst [])) fp).Ok := by
    refine ⟨I3.ok.mod, ?_, I3.ok.glob, I3.ok.blt, Nat.le_refl _, fun y z c h1 h2 => I3.ok.inj y z c (clS y c h1) (clS z c h2), fun y hy => ?_, fun y c hf => (by cases hf), I3.ok.hd, I3.ok.frames, .inl rfl, fun b hb => ⟨Nat.ne_of_lt (fpLt b hb), fun y c e => (f2 b hb).2.2.2.2.1 y c (clS y c e)⟩,
      fun b o e => I3.bs b o e, Nat.le_trans I3.ok.bsz I3.sz, fun b o e hb => ?_, fun b hb z => ?_, I3.stack, I3.stkFree⟩
    · show (relabel scope X.env).kind = .function
      exact S.kind
    · have hy' : (relabel scope X.env).names.lookup y = some .cell ∨ (relabel scope X.env).names.lookup y = some .free := hy
      rw [relabel_lookup] at hy'
      cases q : scope.names.lookup y with
      | none => rw [q] at hy'; rcases hy' with z | z <;> cases z
      | some k =>
        have hm := lookup_mem q
        cases k with
        | free => exact clH y q
        | cell => exact absurd rfl (S.cell _ hm)
        | «local» => rw [q] at hy'; rcases hy' with z | z <;> simp at z
        | globalExplicit => rw [q] at hy'; rcases hy' with z | z <;> simp at z
        | globalImplicit => rw [q] at hy'; rcases hy' with z | z <;> simp at z
    · rcases (f2 b hb).2.2.2.1 with z | z
      · exact I.ok.noex b o e z
      · exact absurd (Nat.lt_of_lt_of_le (Heap.lt_size e) (Nat.le_trans I.ok.bsz z)) (Nat.lt_irrefl _)
    · rcases List.mem_cons.mp (I3.stkSub b z) with q | q
      · exact (f2 b hb).2.1 q
      · exact (f2 b hb).2.2.1 q
  have fpOk' : ∀ {H' : Hp}, (∀ b ∈ fp, H' b = none) → ∀ b ∈ fp, FpOk (cxComp X N' scope cl s3.heap.objs.size s3 (upd H s.heap.objs.size (.lst [])) fp) pins H' b := fun hn b hb =>
    ⟨hn b hb, Nat.ne_of_lt (fpLt b hb), fun z => by
      rcases List.mem_cons.mp (I3.stkSub b z) with q | q
      · exact (f2 b hb).2.1 q
      · exact (f2 b hb).2.2.1 q, .inl hb, fun y c e => (f2 b hb).2.2.2.2.1 y c (clS y c e), (f2 b hb).2.2.2.2.2⟩
  have I4 : Inv (cxComp X N' scope cl s3.heap.objs.size s3 (upd H s.heap.objs.size (.lst [])) fp) pins (none :: σ) (upd H s.heap.objs.size (.lst [])) { s3 with heap := h₁, toks := s3.toks + ([] : List (Str × Value)).length } := by
    refine ⟨ok', rfl, I3.bare, Un.kept old, ⟨_, hns₁, fun i y v e1 e2 vis => ?_⟩, fun y c e => ?_, ?_, fun y c e => I3.freeC y c (clS y c e), fun p hp => ?_, I3.hok.kept old, ?_⟩
    · cases i with
      | zero => cases e2
      | succ i =>
        have e2' : σ[i]? = some (some v) := by simpa using e2
        have hi : i < X.N.length := by rw [← I3.len]; exact (List.getElem?_eq_some_iff.mp e2').1
        have vis' : (relabel scope X.env).names.lookup y = some .local ∨ (relabel scope X.env).names.lookup y = some .cell ∨ (relabel scope X.env).names.lookup y = some .free := vis
        have e1' : N'[i + 1]? = some y := e1
        rcases S.sub i hi with q | q
        · rw [e1'] at q
          have hy : X.N[i]? = some y := q.symm
          have hmem : y ∈ N'.tail := by
            rw [List.mem_iff_getElem?]
            exact ⟨i, by rw [List.getElem?_tail]; exact e1'⟩
          have hfr : scope.names.lookup y = some .free := by
            rw [relabel_lookup] at vis'
            cases q2 : scope.names.lookup y with
            | none => rw [q2] at vis'; rcases vis' with z | z | z <;> cases z
            | some k =>
              cases k with
              | free => rfl
              | cell => exact absurd rfl (S.cell _ (lookup_mem q2))
              | «local» => exact absurd q2 (S.nol y hmem)
              | globalExplicit => rw [q2] at vis'; rcases vis' with z | z | z <;> simp at z
              | globalImplicit => rw [q2] at vis'; rcases vis' with z | z | z <;> simp at z
          have hok := S.ok (y, .free) (lookup_mem hfr) rfl
          obtain ⟨m, hn, hl⟩ := I3.loc
          have visX : Vis X.env.scope y := by
            rcases hok with z | z
            · exact .inr (.inl z)
            · exact .inr (.inr z)
          obtain ⟨u, r, l⟩ := hl i y v hy e2' visX
          refine ⟨u, r, .inr ⟨?_, ?_⟩⟩
          · show (relabel scope X.env).names.lookup y = some .cell ∨ (relabel scope X.env).names.lookup y = some .free
            rw [relabel_lookup, hfr, Option.map_some]
            by_cases hcnd : (NameKind.free == NameKind.free && X.env.scope.kind == .function && X.env.kindOf y == some .cell) = true
            · left
              rw [if_pos hcnd]
            · right
              rw [if_neg hcnd]
          · rcases l with ⟨k, _⟩ | ⟨k, c, e, z⟩
            · have k' : X.env.scope.names.lookup y = some .local := k
              have hok' : X.env.scope.names.lookup y = some .cell ∨ X.env.scope.names.lookup y = some .free := hok
              rw [k'] at hok'
              rcases hok' with z | z <;> cases z
            · obtain ⟨c', e'⟩ := clH y hfr
              have e3 := clS y c' e'
              rw [e] at e3
              cases e3
              obtain ⟨o, ho, hd⟩ := z
              exact ⟨c, e', o, old c o ho, hd⟩
        · rw [e1'] at q
          cases q
          rw [relabel_lookup, S.noe] at vis'
          rcases vis' with z | z | z <;> cases z
    · obtain ⟨v, o, ho, hd⟩ := I3.cell y c (clS y c e)
      exact ⟨v, o, old c o ho, hd⟩
    · show upd H s.heap.objs.size (.lst []) s3.heap.objs.size = none
      exact I3.hok.fresh (Nat.le_refl _)
    · obtain ⟨e, n, ne, nf, d⟩ := I3.pin p hp
      refine ⟨old _ _ e, n, CneP p hp, fun z => ?_, d⟩
      rcases List.mem_cons.mp (I3.stkSub p.1 z) with q | q
      · exact ne q
      · exact nf q
    · show (none :: σ).length = N'.length
      rw [S.len, List.length_cons, I3.len]
  have st4 : tn 0 h₁ := T.keep 0 s.heap h₁ st fun b _ o e => old0 b o e
  -- the loop
  have loop : ∀ s₄ : Shared, s₄ = { s3 with heap := h₁, toks := s3.toks + ([] : List (Str × Value)).length } →
      codeAny (model X.prog X.w) X.A (.compLoop (.ListComp elt [⟨.Name x px, iter, [cd], 0⟩] scope pos) 0 (.ref it) (.ref s.heap.objs.size) (compEnvC scope cl s3.heap.objs.size X.env)) (RR (.ref s.heap.objs.size) s3.heap.objs.size) s₄ := by
    rintro s₄ rfl
    refine codeAny_compLoop_if (fun n s' => ∃ i v0 ys H', Inv (cxComp X N' scope cl s3.heap.objs.size s3 (upd H s.heap.objs.size (.lst [])) fp) pins (v0 :: σ) H' s' ∧ tn i s'.heap ∧ (∀ b ∈ fp, H' b = none) ∧ W i n ys H') ?_ m0
      ⟨0, none, [], _, I4, st4, fun b hb => by rw [upd_ne (fpD b hb)]; exact (f2 b hb).1, w0⟩
    rintro n s5 ⟨i, v0, ys, H5, I5, st5, fr5, w5⟩
    rcases turn i n ys H5 w5 with ⟨stop, qn⟩ | ⟨go, hz, N, hN, Nn, hNn, step⟩
    · refine thn (T.done (cxComp X N' scope cl s3.heap.objs.size s3 (upd H s.heap.objs.size (.lst [])) fp) rfl rfl rfl hc i pins s5 (v0 :: σ) H5 (fun _ _ => False) I5 (fpOk' fr5) st5 stop) fun r s6 ⟨hr, I6⟩ => ?_
      subst hr
      have hch : ∀ b ∈ fp, (b ∈ X.ex ∨ X.s₀.heap.objs.size ≤ b) ∧ b ≠ X.env.locals ∧ (∀ x c, X.env.cells.lookup x = some c → c ≠ b) ∧ ∀ p ∈ X.pn ++ pins, p.1 ≠ b := fun b hb =>
        ⟨(f2 b hb).2.2.2.1, (f2 b hb).2.1, (f2 b hb).2.2.2.2.1, (f2 b hb).2.2.2.2.2⟩
      have I7 : Inv X pins σ H5 s6 := I3.call' (ch := fp) I6.os I6.base I6.hok I6.bare hch
      obtain ⟨m, hm, _⟩ := I6.loc
      exact hRR s.heap.objs.size s3.heap.objs.size s6 H5 I7 ⟨m, hm⟩ CneL CneC I6.free (Nat.le_trans I3.sz (Nat.le_refl _)) CneP qn
    · refine thn (T.item (cxComp X N' scope cl s3.heap.objs.size s3 (upd H s.heap.objs.size (.lst [])) fp) rfl rfl rfl hc i pins s5 (v0 :: σ) H5 (fun _ _ => False) I5 (fpOk' fr5) st5 go) fun r s6 ⟨u, hr, h6⟩ => ?_
      subst hr
      refine thn h6 fun _ s7 ⟨y, H7, I7, r7, y7, st7, fr7⟩ => ?_
      have I7' := I7.pinned (fpOk' fr7) (T.obj _ _ st7)
      refine wpAny_assign_Name (store_ok (i := 0) (v := y) I7' S.nd S.hd (.inl (lookup_relabel_local S.var)) r7 (fun s8 I8 => ?_) (.inr (lookup_relabel_local S.var)))
      have I8' : Inv (cxComp X N' scope cl s3.heap.objs.size s3 (upd H s.heap.objs.size (.lst [])) fp) (pins ++ pinsAt fp s7.heap) (some y :: σ) H7 s8 := I8
      refine thn (ht cl s3.heap.objs.size s3 (upd H s.heap.objs.size (.lst [])) fp _ s8 (some y :: σ) H7 (fun b H'' => if b = true then te (some y :: σ) H'' N else Nn H'') I8' (step y H7 y7)) fun okb s8 ⟨H8, I8, q8⟩ => ?_
      cases okb with
      | false =>
        have q8' : Nn H8 := by simpa using q8
        obtain ⟨m', hm, w9⟩ := hNn H8 q8'
        refine ⟨m', hm, i + 1, some y, ys, _, I8.unpinned, T.keep _ _ _ st7 fun b hb o e => (I8.pin (b, o) (List.mem_append_right _ (List.mem_append_right _ (mem_pinsAt hb e)))).1, fun b hb => ?_, w9⟩
        obtain ⟨o, e, d⟩ := T.obj _ _ st7 b hb
        exact (I8.pin (b, o) (List.mem_append_right _ (List.mem_append_right _ (mem_pinsAt hb e)))).2.1
      | true =>
        refine thn (he cl s3.heap.objs.size s3 (upd H s.heap.objs.size (.lst [])) fp _ s8 (some y :: σ) H8 N I8 (by simpa using q8)) fun w s9 ⟨v, H9, I9, r9, q9⟩ => ?_
        obtain ⟨hD9, m', hm, w9⟩ := hN v H9 q9
        refine thn (mt_append _ s9 (some y :: σ) H9 (.ref s.heap.objs.size) [v] (.ref s.heap.objs.size) [w] (fun z H10 => z = .non ∧ H10 = upd H9 s.heap.objs.size (.lst (ys ++ [v]))) I9 rfl (.cons r9 .nil) ⟨s.heap.objs.size, ys, v, rfl, rfl, hD9, hz, rfl, rfl⟩) fun _ s10 ⟨z, H10, I10, _, ez, e10⟩ => ?_
        subst e10
        refine ⟨m', hm, i + 1, some y, ys ++ [v], _, I10.unpinned, T.keep _ _ _ st7 fun b hb o e => (I10.pin (b, o) (List.mem_append_right _ (List.mem_append_right _ (mem_pinsAt hb e)))).1, fun b hb => ?_, w9⟩
        obtain ⟨o, e, d⟩ := T.obj _ _ st7 b hb
        exact (I10.pin (b, o) (List.mem_append_right _ (List.mem_append_right _ (mem_pinsAt hb e)))).2.1
  exact codeAny_compStart_list (loop _ (by rw [← hs3])) (T.self X.A 0 _ _ _ st4 (loop _ (by rw [← hs3])))

/-- [elt for x in iter] -/
theorem pe_compf (S : CompSc X.N N' X.env.scope scope x) (hc : X.calm = true) (hi : PI X (.Name x px) iter wi) (ht : ∀ cl C s H fp, PT (cxComp X N' scope cl C s H fp) cd tc) (he : ∀ cl C s H fp, PE (cxComp X N' scope cl C s H fp) elt te)
    (hs : ∀ x, foldedSetIterable iter X.env x = pure x := by intro _; rfl) : PE X (.ListComp elt [⟨.Name x px, iter, [cd], 0⟩] scope pos) (tCompF wi tc te) := by
  intro pins s σ H Q I h
  rw [eval_ListComp]
  have hfree : ∀ z ∈ scope.names, z.2 = .free → ∃ c, X.env.cells.lookup z.1 = some c := fun z hz hk => by
    rcases S.ok z hz hk with q | q
    · exact I.ok.has z.1 (.inl q)
    · exact I.ok.has z.1 (.inr q)
  refine wpAny_comprehension_free (use := none) rfl hs (clos_eq hfree) S.kind S.names (thn (hi pins s σ H _ I h) fun xv s1 h1 => thn h1 fun itv s2 h2 => ?_)
  obtain ⟨it, fp, tn, J, H2, e, I2, T, st2, f2, hw⟩ := h2
  subst e
  obtain ⟨cl, hcl, hrun⟩ := compf_core (tc := tc) (elt := elt) (iter := iter) (pos := pos) (px := px) (E := X.xe) (RR := fun acc C => compPost (model X.prog X.w) X.A X.xe none (EP X pins σ Q) acc C) S hc ht he I2 T st2 f2 hw (fun D C s' H' I' ⟨m, hm⟩ n1 n2 n3 n4 n5 q =>
    ⟨m, hm, fun h' hsb => ⟨.ref D, H', I'.turned (it := C) (t' := s'.toks) (fun b o hb e => (hsb.2 b hb).trans e) n3 n1 (.inr n4) n2 n5, rfl, q⟩⟩)
  have ecl : (pure (closOf X.env.cells scope.names []) : Sem (List (Str × Addr))) = pure cl := (clos_eq hfree).symm.trans hcl
  have ecl' : closOf X.env.cells scope.names [] = cl := by
    injection ecl
  rw [ecl']
  exact hrun
/-- name = [elt for x in iter] where the store comes ahead of the block's end -/
theorem ps_setCompf {i : Nat} {y : Str} {py spos : Pos} (S : CompSc X.N N' X.env.scope scope x) (hc : X.calm = true) (hi : PI X (.Name x px) iter wi) (ht : ∀ cl C s H fp, PT (cxComp X N' scope cl C s H fp) cd tc) (he : ∀ cl C s H fp, PE (cxComp X N' scope cl C s H fp) elt te)
    (hN : X.N.Nodup) (hy : X.N[i]? = some y) (hyl : X.env.scope.names.lookup y = some .local)
    (hsw : swapsWith (.ListComp elt [⟨.Name x px, iter, [cd], 0⟩] scope pos) (some (.Name y py)) spos.line X.env = pure true := by rfl)
    (hs : ∀ x, foldedSetIterable iter X.env x = pure x := by intro _; rfl) : PS X (.Assign [.Name y py] (.ListComp elt [⟨.Name x px, iter, [cd], 0⟩] scope pos) spos) (tAsg (tCompF wi tc te) (gName i)) := by
  intro pins s σ H D0 I h
  have hfree : ∀ z ∈ scope.names, z.2 = .free → ∃ c, X.env.cells.lookup z.1 = some c := fun z hz hk => by
    rcases S.ok z hz hk with q | q
    · exact I.ok.has z.1 (.inl q)
    · exact I.ok.has z.1 (.inr q)
  rw [exec_Assign_Name_used _ _ _ _ hsw]
  refine wpAny_bind (wpAny_standAt (wpAny_bind ?_))
  show wpAny _ X.A (do let _ ← comprehension (.ListComp elt [⟨.Name x px, iter, [cd], 0⟩] scope pos) scope X.env _ (newList []) false (eval iter X.env) (some (assign (.Name y py) X.env))) _ _ s
  refine wpAny_bind (wpAny_mono (wpAny_comprehension_free (use := some (assign (.Name y py) X.env)) (Q := fun _ s' => SP X pins D0 .next s') rfl hs (clos_eq hfree) S.kind S.names
    (thn (hi pins s σ H _ I h) fun xv s1 h1 => thn h1 fun itv s2 h2 => ?_)) (fun _ s' hq => wpAny_pure (wpAny_pure hq)) fun _ _ e => e)
  obtain ⟨it, fp, tn, J, H2, e, I2, T, st2, f2, hw⟩ := h2
  subst e
  obtain ⟨cl, hcl, hrun⟩ := compf_core (tc := tc) (elt := elt) (iter := iter) (pos := pos) (px := px) (E := X.xe) (Q := fun x H1 => gName i x σ H1 D0.nx) (RR := fun acc C => compPost (model X.prog X.w) X.A X.xe (some (assign (.Name y py) X.env)) (fun _ s' => SP X pins D0 .next s') acc C) S hc ht he I2 T st2 f2 hw (fun D C s' H' I' ⟨m, hm⟩ n1 n2 n3 n4 n5 q => by
    show wpAny _ X.A (assign (.Name y py) X.env (.ref D)) _ _ _
    refine wpAny_assign_Name (store_ok2 (i := i) (v := .ref D) I' hN hy (.inl hyl) rfl (fun s'' I'' ⟨a, hsa, hwa⟩ => ?_) (.inr hyl))
    have haC : C ≠ a := by
      rcases hwa with z | z
      · rw [z]; exact n1
      · intro z2
        exact n2 y a z z2.symm
    refine ⟨m, hm.sameBut hsa haC, fun h' hsb => ?_⟩
    exact ⟨_, H', I''.turned (it := C) (t' := s''.toks) (fun b o hb e => (hsb.2 b hb).trans e) n3 n1 (.inr n4) n2 n5, q⟩)
  have ecl : (pure (closOf X.env.cells scope.names []) : Sem (List (Str × Addr))) = pure cl := (clos_eq hfree).symm.trans hcl
  have ecl' : closOf X.env.cells scope.names [] = cl := by
    injection ecl
  rw [ecl']
  exact hrun
end

section
variable {X : Cx}
end
theorem take_filter {α : Type} (p : α → Bool) (l : List α) (i : Nat) (v : α) (h : l[i]? = some v) : (l.take (i + 1)).filter p = (l.take i).filter p ++ (if p v then [v] else []) := by
  rw [List.take_add_one, h, List.filter_append]
  cases hp : p v <;> simp [hp]
theorem filter_take_len {α : Type} (p : α → Bool) (l : List α) (i : Nat) : ((l.take i).filter p).length ≤ i := by
  have h1 := List.length_filter_le p (l.take i)
  rw [List.length_take] at h1
  omega
theorem cutL_take (w : List Nat) (k : Nat) : cutL w none (some (k : Int)) = w.take k := by
  unfold cutL
  rw [HT.sIx_nat, HT.sIx_none, List.drop_zero, Nat.sub_zero]
  by_cases h : k ≤ w.length
  · rw [Nat.min_eq_left h]
  · rw [Nat.min_eq_right (by omega), List.take_length, List.take_of_length_le (by omega)]
end L2

set_option autoImplicit false
set_option linter.all false
set_option maxRecDepth 100000
/-! The sort of any number of items: runs and insertions from any place on. -/
namespace SR
open PySem PyProof.Rows
/-- what every step keeps -/
structure SB (z : Array Keyed) (st : SortSt) : Prop where
  prm : (arrOf st).Perm z
  knd : kindOf st = oneType'
  ffl : failedOf st = none
noncomputable def Up (κ : KeyKind) (xs : Array Keyed) (l r : Nat) : Prop := ∀ i j, l ≤ i → i ≤ j → j < r → κ.kle (KK κ xs i) (KK κ xs j)
noncomputable def Dn (κ : KeyKind) (xs : Array Keyed) (l r : Nat) : Prop := ∀ i j, l ≤ i → i ≤ j → j < r → κ.kle (KK κ xs j) (KK κ xs i)
/-- nothing below lo changes, nor what is pending -/
structure Kp (lo : Nat) (st st' : SortSt) : Prop where
  low : ∀ k, k < lo → (arrOf st')[k]? = (arrOf st)[k]?
  pen : pendingOf st' = pendingOf st
section
variable {prog : Program} {w : World} {A : Around} {E : Value → Shared → Prop} {s : Shared} {z : Array Keyed} {κ : KeyKind}
/-- the run goes up -/
noncomputable def upL (lo a m : Nat) : StateT SortSt Sem AscSt :=
  forIn [a:m] ((none, a) : AscSt) fun _ c => do
    let o ← ltAt' (lo + c.snd) (lo + c.snd - 1)
    match o with
    | some t => if t = true then pure (ForInStep.done (none, c.snd)) else pure (ForInStep.yield (none, c.snd + 1))
    | _ => pure (ForInStep.done (some none, c.snd))
noncomputable def endL (lo n m : Nat) : StateT SortSt Sem (Option Nat) := do
  reverseSlice' lo (lo + n)
  let c ← upL lo n m
  match c.fst with
  | some r => pure r
  | none => pure (some c.snd)
noncomputable def dnL (lo n m : Nat) : StateT SortSt Sem DescSt :=
  forIn [n:m] ((none, n, 0) : DescSt) fun _ c => do
    let o ← ltAt' (lo + c.snd.fst) (lo + c.snd.fst - 1)
    match o with
    | some t =>
      if t = true then
        if c.snd.snd > 0 then do
          reverseSlice' (lo + c.snd.fst - (c.snd.snd + 1)) (lo + c.snd.fst)
          pure (ForInStep.yield (none, c.snd.fst + 1, 0))
        else pure (ForInStep.yield (none, c.snd.fst + 1, 0))
      else do
        let o ← ltAt' (lo + c.snd.fst - 1) (lo + c.snd.fst)
        match o with
        | some t => if t = true then pure (ForInStep.done (none, c.snd.fst, c.snd.snd)) else pure (ForInStep.yield (none, c.snd.fst + 1, c.snd.snd + 1))
        | _ => pure (ForInStep.done (some none, c.snd.fst, c.snd.snd))
    | _ => pure (ForInStep.done (some none, c.snd.fst, c.snd.snd))
noncomputable def dnP (lo n m : Nat) : StateT SortSt Sem (Option Nat) := do
  liftM (rule "list.sort.descending-run")
  let c ← dnL lo (n + 1) m
  match c.fst with
  | some r => pure r
  | none =>
    if c.snd.snd > 0 then do
      reverseSlice' (lo + c.snd.fst - (c.snd.snd + 1)) (lo + c.snd.fst)
      endL lo c.snd.fst m
    else endL lo c.snd.fst m
end
end SR

set_option autoImplicit false
set_option linter.all false
set_option maxRecDepth 100000
namespace SR
open PySem PyProof.Rows
noncomputable def gal' : Bool → Keyed → Array Keyed → Nat → Nat → Nat → StateT SortSt Sem (Option Nat) := sortPriv% PySem.Builtin.gallop
noncomputable def bq (left : Bool) (key : Keyed) (arr : Array Keyed) (base : Nat) (i : Nat) : StateT SortSt Sem (Option Bool) := do
  let x ← elem' arr (base + i)
  if left then lt' x key else return (← lt' key x).map (!·)
section
variable {prog : Program} {w : World} {A : Around} {E : Value → Shared → Prop} {s : Shared} {z : Array Keyed} {κ : KeyKind}
noncomputable def srch (left : Bool) (key : Keyed) (arr : Array Keyed) (base n l h : Nat) : StateT SortSt Sem (Option Nat) := do
  let c ← forIn [0:n] ((none, l, h) : Option (Option Nat) × Nat × Nat) fun _ c =>
    if c.snd.fst ≥ c.snd.snd then pure (ForInStep.done (none, c.snd.fst, c.snd.snd))
    else do
      let o ← bq left key arr base (c.snd.fst + (c.snd.snd - c.snd.fst) / 2)
      match o with
      | some mo => if mo = true then pure (ForInStep.yield (none, c.snd.fst + (c.snd.snd - c.snd.fst) / 2 + 1, c.snd.snd)) else pure (ForInStep.yield (none, c.snd.fst, c.snd.fst + (c.snd.snd - c.snd.fst) / 2))
      | _ => pure (ForInStep.done (some none, c.snd.fst, c.snd.snd))
  match c.fst with
  | some r => pure r
  | none => pure (some c.snd.snd)
end
end SR

set_option autoImplicit false
set_option linter.all false
set_option maxRecDepth 100000
namespace SR
open PySem PyProof.Rows
/-- what is told so far, and the two rests -/
structure MI (R : Keyed → Keyed → Prop) (Z o ra rb : List Keyed) : Prop where
  so : o.Pairwise R
  be : ∀ x ∈ o, ∀ y, y ∈ ra ∨ y ∈ rb → R x y
  pm : (o ++ (ra ++ rb)).Perm Z
  sa : ra.Pairwise R
  sb : rb.Pairwise R
noncomputable def Fi (R : Keyed → Keyed → Prop) (Z : List Keyed) (r : Array Keyed) : Prop := r.toList.Perm Z ∧ r.toList.Pairwise R
noncomputable def setG (g : Nat) : StateT SortSt Sem Unit := modify fun s => SortSt.mk' (kindOf s) (arrOf s) (pendingOf s) g (failedOf s)
noncomputable def mLo' : Array Keyed → Array Keyed → StateT SortSt Sem (Array Keyed) := sortPriv% PySem.Builtin.mergeLo
noncomputable def mLoT (a b o : Array Keyed) (i j : Nat) : StateT SortSt Sem (Array Keyed) := do
  let tot := a.size + b.size
  let dn (o : Array Keyed) (i j : Nat) := o ++ a.extract i a.size ++ b.extract j b.size
  let la (o : Array Keyed) (i j : Nat) := o ++ b.extract j b.size ++ a.extract i a.size
  let mut o := o
  let mut i := i
  let mut j := j
  let mut g := gallopOf (← get)
  for _ in [0:tot] do
    let mut p := 0
    let mut q := 0
    for _ in [0:tot] do
      let some t ← lt' (← elem' b j) (← elem' a i) | return dn o i j
      if t then
        o := o.push (← elem' b j); j := j + 1; q := q + 1; p := 0
        if j == b.size then return dn o i j
        if q ≥ g then break
      else
        o := o.push (← elem' a i); i := i + 1; p := p + 1; q := 0
        if i + 1 == a.size then return la o i j
        if p ≥ g then break
    rule "list.sort.gallop"
    g := g + 1
    for _ in [0:tot] do
      if g > 1 then g := g - 1
      setG g
      let some k ← gal' false (← elem' b j) a i (a.size - i) 0 | return dn o i j
      p := k
      if k > 0 then
        o := o ++ a.extract i (i + k); i := i + k
        if i + 1 == a.size then return la o i j
        if i == a.size then return dn o i j
      o := o.push (← elem' b j); j := j + 1
      if j == b.size then return dn o i j
      let some k ← gal' true (← elem' a i) b j (b.size - j) 0 | return dn o i j
      q := k
      if k > 0 then
        o := o ++ b.extract j (j + k); j := j + k
        if j == b.size then return dn o i j
      o := o.push (← elem' a i); i := i + 1
      if i + 1 == a.size then return la o i j
      if p < 7 && q < 7 then break
    g := g + 1
    setG g
  unsupported "internal:list.sort.merge-bound"
/-- the key -/
noncomputable def kf (κ : KeyKind) (p : Keyed) : κ.α := (κ.keyOf p.1).getD κ.dflt
noncomputable def Le (κ : KeyKind) (x y : Keyed) : Prop := κ.kle (kf κ x) (kf κ y)
noncomputable def Hk (κ : KeyKind) (x : Keyed) : Prop := ∃ c, κ.keyOf x.1 = some c
structure Ev (st st' : SortSt) : Prop where
  knd : kindOf st' = kindOf st
  arr : arrOf st' = arrOf st
  pen : pendingOf st' = pendingOf st
  ffl : failedOf st' = failedOf st
section
variable {prog : Program} {w : World} {A : Around} {E : Value → Shared → Prop} {s : Shared} {z : Array Keyed} {κ : KeyKind}
end
end SR

set_option autoImplicit false
set_option linter.all false
set_option maxRecDepth 100000
namespace SR
open PySem PyProof.Rows
section
variable {prog : Program} {w : World} {A : Around} {E : Value → Shared → Prop} {s : Shared} {κ : KeyKind}
structure GL (κ : KeyKind) (a b o : Array Keyed) (i j : Nat) : Prop where
  mi : MI (Le κ) (a.toList ++ b.toList) o.toList (a.toList.drop i) (b.toList.drop j)
  hi : i + 1 < a.size
  hj : j < b.size
end
end SR

set_option autoImplicit false
set_option linter.all false
set_option maxRecDepth 100000
namespace SR
open PySem PyProof.Rows
/-- the other way about -/
noncomputable def Ge (κ : KeyKind) (x y : Keyed) : Prop := Le κ y x
noncomputable def rt (a : Array Keyed) (n : Nat) : List Keyed := (a.toList.take n).reverse
noncomputable def mHi' : Array Keyed → Array Keyed → StateT SortSt Sem (Array Keyed) := sortPriv% PySem.Builtin.mergeHi
noncomputable def mHiT (a b o : Array Keyed) (i j : Nat) : StateT SortSt Sem (Array Keyed) := do
  let tot := a.size + b.size
  let dn (o : Array Keyed) (i j : Nat) := a.extract 0 i ++ b.extract 0 j ++ o.reverse
  let fb (o : Array Keyed) (i j : Nat) := b.extract 0 j ++ a.extract 0 i ++ o.reverse
  let mut i := i
  let mut j := j
  let mut o := o
  let mut g := gallopOf (← get)
  for _ in [0:tot] do
    let mut p := 0
    let mut q := 0
    for _ in [0:tot] do
      let some t ← lt' (← elem' b (j - 1)) (← elem' a (i - 1)) | return dn o i j
      if t then
        i := i - 1; o := o.push (← elem' a i); p := p + 1; q := 0
        if i == 0 then return dn o i j
        if p ≥ g then break
      else
        j := j - 1; o := o.push (← elem' b j); q := q + 1; p := 0
        if j == 1 then return fb o i j
        if q ≥ g then break
    rule "list.sort.gallop"
    g := g + 1
    for _ in [0:tot] do
      if g > 1 then g := g - 1
      setG g
      let some y ← gal' false (← elem' b (j - 1)) a 0 i (i - 1) | return dn o i j
      let k := i - y
      p := k
      if k > 0 then
        o := o ++ (a.extract y i).reverse; i := y
        if i == 0 then return dn o i j
      j := j - 1; o := o.push (← elem' b j)
      if j == 1 then return fb o i j
      let some y ← gal' true (← elem' a (i - 1)) b 0 j (j - 1) | return dn o i j
      let k := j - y
      q := k
      if k > 0 then
        o := o ++ (b.extract y j).reverse; j := y
        if j == 1 then return fb o i j
        if j == 0 then return dn o i j
      i := i - 1; o := o.push (← elem' a i)
      if i == 0 then return dn o i j
      if p < 7 && q < 7 then break
    g := g + 1
    setG g
  unsupported "internal:list.sort.merge-bound"
section
variable {prog : Program} {w : World} {A : Around} {E : Value → Shared → Prop} {s : Shared} {κ : KeyKind}
structure GH (κ : KeyKind) (a b o : Array Keyed) (i j : Nat) : Prop where
  mi : MI (Ge κ) (a.toList ++ b.toList) o.toList (rt a i) (rt b j)
  hi : 1 ≤ i ∧ i ≤ a.size
  hj : 2 ≤ j ∧ j ≤ b.size
end
end SR

set_option autoImplicit false
set_option linter.all false
set_option maxRecDepth 100000
namespace SR
open PySem PyProof.Rows
/-- a stretch -/
noncomputable def sg (xs : Array Keyed) (l n : Nat) : List Keyed := (xs.toList.drop l).take n
section
variable {κ : KeyKind}
end
end SR

set_option autoImplicit false
set_option linter.all false
set_option maxRecDepth 100000
namespace SR
open PySem PyProof.Rows
section
variable {prog : Program} {w : World} {A : Around} {E : Value → Shared → Prop} {s : Shared} {z : Array Keyed} {κ : KeyKind}
end
end SR

set_option autoImplicit false
set_option linter.all false
set_option maxRecDepth 100000
namespace SR
open PySem PyProof.Rows
/-- the stretches that are pending, side by side from s to e -/
noncomputable def Stk (κ : KeyKind) (xs : Array Keyed) : Nat → List (Nat × Nat × Nat) → Nat → Prop
  | s, [], e => s = e
  | s, t :: r, e => t.1 = s ∧ 1 ≤ t.2.1 ∧ Up κ xs s (s + t.2.1) ∧ Stk κ xs (s + t.2.1) r e
section
variable {κ : KeyKind}
end
section
variable {prog : Program} {w : World} {A : Around} {E : Value → Shared → Prop} {s : Shared} {z : Array Keyed} {κ : KeyKind}
end
end SR

set_option autoImplicit false
set_option linter.all false
set_option maxRecDepth 100000
set_option maxHeartbeats 200000
namespace SR
open PySem PyProof.Rows PySem.Spec
section
variable {prog : Program} {w : World} {A : Around} {E : Value → Shared → Prop} {s : Shared}
end
end SR

set_option Elab.async false
set_option linter.all false
set_option maxRecDepth 100000
/-! sorted(texts), however many -/
namespace L2
open PySem PyProof.Rows PySem.Spec
section
variable {X : Cx}
end
end L2

set_option Elab.async false
set_option linter.all false
set_option maxRecDepth 100000
/-! xs.count(x), xs.index(x) of flat items -/
namespace L2
open PySem PyProof.Rows PySem.Spec
section
variable {X : Cx}
theorem call_sumX (hc : X.calm = true) : CallR X (.builtin "sum") (fun xs H Q => ∃ (p : Addr) (ns : List Int), xs = [.ref p] ∧ SqL X.K H p (ns.map V.int) ∧ Q (.int ns.sum) H) := by
  intro pins s σ H xs us Q I r h
  obtain ⟨p, ns, rfl, hq, q⟩ := h
  obtain ⟨u, rfl, ru⟩ := vals1 r
  cases ru
  obtain ⟨its, rv, pl, _⟩ := I.list hq
  have hia := intsAre_of rv
  have hnum := hia.numsOf
  obtain ⟨ys, hx⟩ := hia.allInts.items
  have hl := pl.isList
  rw [hx] at hl
  have e : preSum (numAt ys) ys.size = ns.sum := by
    rw [preSum_eq, List.take_of_length_le (by simp)]
    rw [← hnum, show its = its.toArray.toList from by simp, hx, nums_intItems]
  exact sum_intListG (I.ok.hd hc) hl fun h' tk t' hk => ⟨.int ns.sum, H, I.kept hk, ⟨t', by rw [e]⟩, q⟩
end
end L2

namespace L2
open PySem PyProof.Rows PySem.Spec
section
variable {X : Cx}
end
end L2

set_option Elab.async false
set_option linter.all false
set_option maxRecDepth 100000
set_option Elab.async false
set_option linter.all false
set_option maxRecDepth 100000
namespace L2
open PySem PySem.Spec PyProof.Rows

end L2

namespace L2
open PySem PySem.Spec PyProof.Rows

section
variable (P : Program) (w : World)
end

section
variable {P : Program} {w : World} {H H' : Hp} {h h' : Heap} {a : Addr} {o : HO}
end

section
variable {P : Program} {w : World} {H : Hp} {h h' : Heap} {x e : Addr} {o' : HO}
end

section
variable {fs fs' ex ex' : List Addr} {H H1 H2 : Hp} {h h1 h2 h' : Heap} {a x e : Addr} {o : HO}
end

end L2

namespace L2
open PySem PySem.Spec PyProof.Rows

section
variable {X : Cx} {pins : List (Addr × Obj)} {σ : List (Option V)} {H H' : Hp} {s : Shared} {h' : Heap}

end

end L2

namespace L2
open PySem PySem.Spec PyProof.Rows
section
variable {X : Cx}

variable {a b : Expr} {ta tb : TE} {pos : Pos}
variable {tA tB' : TT} {rest : List Expr}
end
end L2

namespace L2
open PySem PySem.Spec PyProof.Rows

section
variable {X : Cx} {pins : List (Addr × Obj)} {σ : St} {H : Hp} {s : Shared} {a : Addr} {xs ys : List V}
end

section
variable {X : Cx} {pins : List (Addr × Obj)} {σ : St} {H : Hp} {s : Shared} {E : Value → Shared → Prop}
end

section
variable {X : Cx} {st : Stmt} {rest : List Stmt} {t u : TS} {e : Expr} {te : TE} {pos : Pos}
end

section
variable {X : Cx} {pos : Pos}
end

section
variable {X : Cx} {pos : Pos}
end

end L2

namespace L2
open PySem PySem.Spec PyProof.Rows
section
variable {X : Cx} {tg : Expr}
end

end L2

namespace L2
open PySem PySem.Spec PyProof.Rows

section
variable {X : Cx} {a b c : Expr} {ta tb tc : TE} {pos : Pos}

end

section
variable {X : Cx} {a b c : Expr} {ta tb tc : TE} {pos : Pos}
end
end L2

namespace L2
open PySem PySem.Spec PyProof.Rows

section
variable {prog : Program} {w : World} {A : Around} {E : Value → Shared → Prop} {s : Shared} {K : PySem.W.Frag} {x dx C f : Addr} {mA : Str → Option Value} {name : Str} {v : Value}

end

section
variable {P : Program} {w : World} {H H' : Hp} {h h' : Heap} {a C dx : Addr} {fs fs' : List (Str × V)}
end

section
variable {X : Cx} {pins : List (Addr × Obj)} {σ : St} {H : Hp} {s : Shared} {a C dx : Addr} {fs : List (Str × V)} {f : Str} {v : V} {A : Around} {E : Value → Shared → Prop}

end

section
variable {X : Cx} {o e value : Expr} {f : Str} {pos pos' tpos : Pos} {ta tv : TE}
end

section
variable {X : Cx} {pins : List (Addr × Obj)} {σ : St} {H : Hp} {s : Shared} {A : Around} {E : Value → Shared → Prop} {Q : Value → Shared → Prop} {c : Value} {b : Bool}
end
end L2

namespace L2
open PySem PySem.Spec PyProof.Rows

section
variable {X : Cx} {e : Expr} {es : List Expr} {te : TE} {t : TA} {pos : Pos}
end

section
variable {X : Cx} {pins : List (Addr × Obj)} {σ : St} {H : Hp} {s s' : Shared}
end

section
variable {X : Cx} {CX : CXT} {k : Nat} {f C : Addr} {fd : FuncData} {ps : List Str} {sp : Sp} {dvs : List V} {ds : List Value} {E : XK} {x m : Str} {p pos apos : Pos} {e o : Expr} {es : List Expr} {ta : TE} {t : TA}

end

section
variable {X : Cx} {CX : CXT} {k : Nat} {f C : Addr} {fd : FuncData} {ps ks : List Str} {sp : Sp} {E : XK} {x m : Str} {p pos apos kpos : Pos} {e o : Expr} {es : List Expr} {kws : List Keyword} {te ta : TE} {t tk : TA} {nm : Option Str}
variable {g : List Value → List Value → List Value} {gV : List V → List V → List V}
end

end L2

namespace L2
open PySem PySem.Spec PyProof.Rows
section
variable {X : Cx} {x : Str} {p pos : Pos} {e : Expr} {es : List Expr} {t : TA} {id T : String} {r : List V → Hp → VK → Prop}

end
end L2

namespace L2
open PySem PySem.Spec PyProof.Rows

section
variable {κ : Type} [DecidableEq κ]
noncomputable def valV (kvs : List (κ × V)) (k : κ) : Option V := (kvs.find? fun kv => decide (kv.1 = k)).map (·.2)
noncomputable def putK (kvs : List (κ × V)) (k : κ) (v : V) : List (κ × V) :=
  if (kvs.any fun kv => decide (kv.1 = k)) = true then kvs.map (fun kv => if kv.1 = k then (kv.1, v) else kv) else kvs ++ [(k, v)]
noncomputable def dropK (kvs : List (κ × V)) (k : κ) : List (κ × V) := kvs.filter fun kv => decide (kv.1 ≠ k)

end


noncomputable abbrev KT (H : Hp) : List (List Key × V) → List (List Key × Addr × Value) → Prop := Paired fun p q => p.1 = q.1 ∧ H q.2.1 = some (.tup (p.1.map kV)) ∧ RelV p.2 q.2.2
section
variable {P : Program} {w : World} {H : Hp} {h : Heap} {a : Addr}
end

noncomputable def DGet (H : Hp) (a : Addr) (y : V) (r : Option V) : Prop :=
  (∃ kvs k, Rd H a (.dK kvs) ∧ y = kV k ∧ r = valV kvs k) ∨ ∃ kvs k b, Rd H a (.dT kvs) ∧ y = .ref b ∧ H b = some (.tup (k.map kV)) ∧ r = valV kvs k
noncomputable def DPut (H : Hp) (a : Addr) (y v : V) (H' : Hp) : Prop :=
  (∃ kvs k, H a = some (.dK kvs) ∧ y = kV k ∧ kvs.length < sizeLine ∧ H' = upd H a (.dK (putK kvs k v))) ∨
  ∃ kvs k b, H a = some (.dT kvs) ∧ y = .ref b ∧ H b = some (.tup (k.map kV)) ∧ kvs.length < sizeLine ∧ H' = upd H a (.dT (putK kvs k v))
section
variable {X : Cx} {pins : List (Addr × Obj)} {σ : St} {H : Hp} {s : Shared} {a : Addr} {y v : V} {u r : Value} {o : Option V} {A : Around} {E : Value → Shared → Prop}

end

section
variable {X : Cx} {pins : List (Addr × Obj)} {σ : St} {H : Hp} {s : Shared} {a : Addr} {kvs : List (Key × V)} {k : Key} {u : Value} {A : Around} {E : Value → Shared → Prop}
end


noncomputable def NoSl (i : Expr) : Prop := ∀ ov iv, subscripted i false ov iv = operate [ov, iv] (getItem ov iv)
noncomputable def tDGet (td ty : TE) : TE := fun σ H Q => td σ H fun x H1 => ty σ H1 fun y H2 => ∃ a v, x = .ref a ∧ DGet H2 a y (some v) ∧ Q v H2
noncomputable def tDIn (ty td : TE) : TE := fun σ H Q => ty σ H fun y H1 => td σ H1 fun x H2 => ∃ a o, x = .ref a ∧ DGet H2 a y o ∧ Q (.bl o.isSome) H2
noncomputable def tDNotIn (ty td : TE) : TE := fun σ H Q => ty σ H fun y H1 => td σ H1 fun x H2 => ∃ a o, x = .ref a ∧ DGet H2 a y o ∧ Q (.bl (!o.isSome)) H2
noncomputable def sDPut (td ty tv : TE) : TS := fun D σ H => tv σ H fun v H1 => td σ H1 fun x H2 => ty σ H2 fun y H3 => ∃ a H4, x = .ref a ∧ DPut H3 a y v H4 ∧ D.nx σ H4
noncomputable def sDAug (td ty tv : TE) (rd : V → V → Hp → VK → Prop) : TS := fun D σ H => td σ H fun x H1 => ty σ H1 fun y H2 => ∃ a v, x = .ref a ∧ DGet H2 a y (some v) ∧
  tv σ H2 fun y2 H3 => rd v y2 H3 fun z H4 => ∃ H5, DPut H4 a y z H5 ∧ D.nx σ H5
noncomputable def sDDel (td ty : TE) : TS := fun D σ H => td σ H fun x H1 => ty σ H1 fun y H2 => ∃ a kvs k, x = .ref a ∧ H2 a = some (.dK kvs) ∧ y = kV k ∧ (valV kvs k).isSome = true ∧ D.nx σ (upd H2 a (.dK (dropK kvs k)))

section
variable {X : Cx} {o i e value : Expr} {pos pos' tpos : Pos} {td ty tv : TE}
end


noncomputable def tDNewK : TE := fun _ H Q => ∀ p, H p = none → Q (.ref p) (upd H p (.dK []))
noncomputable def tDNewT : TE := fun _ H Q => ∀ p, H p = none → Q (.ref p) (upd H p (.dT []))
section
variable {X : Cx} {pos : Pos}
end

noncomputable def tPairsD : List (TE × TE) → St → Hp → (List (V × V) → Hp → Prop) → Prop
  | [], _, H, Q => Q [] H
  | (tk, tv) :: r, σ, H, Q => tk σ H fun x H1 => tv σ H1 fun y H2 => tPairsD r σ H2 fun ps H3 => Q ((x, y) :: ps) H3
noncomputable abbrev VV : List (V × V) → List (Value × Value) → Prop := Paired fun p q => RelV p.1 q.1 ∧ RelV p.2 q.2
noncomputable def PPs (X : Cx) (pos : Pos) (keys : List (Option Expr)) (values : List Expr) (trs : List (TE × TE)) : Prop :=
  ∀ (pins : List (Addr × Obj)) (s : Shared) (σ : St) (H : Hp) (Q : List (V × V) → Hp → Prop), Inv X pins σ H s → tPairsD trs σ H Q →
    wpAny (model X.prog X.w) X.A (evalPairs (pairTrees keys values X.env pos)) (fun vs s' => ∃ ps H', Inv X pins σ H' s' ∧ VV ps vs ∧ Q ps H') X.xe s
noncomputable def mergeK (kvs more : List (Key × V)) : List (Key × V) := more.foldl (fun acc kv => putK acc kv.1 kv.2) kvs
noncomputable def tDisp (trs : List (TE × TE)) : TE := fun σ H Q => ∀ p, H p = none → tPairsD trs σ (upd H p (.dK [])) fun ps H2 => H2 p = some (.dK []) ∧ ∃ kvs : List (Key × V), ps = kvs.map (fun kv => (kV kv.1, kv.2)) ∧ kvs.length ≤ 15 ∧ Q (.ref p) (upd H2 p (.dK (mergeK [] kvs)))
structure M1 (X : Cx) (o : Expr) (m : Str) (apos : Pos) (e : Expr) (cpos : Pos) : Prop where
  base : attributeBase o m X.env (eval o X.env) = eval o X.env
  few : ((backTo cpos (starEach [e] X.env)).all (fun x => !x.1) && (backToKw cpos (keywordEach [] X.env)).all (fun x => x.1.isSome)
    && decide (([e] : List Expr).length + ([] : List Keyword).length + (if ([] : List Keyword).isEmpty then 0 else 1) < 30)) = true
  line : (apos.endLine == cpos.line) = true
  trees : backTo cpos (starEach [e] X.env) = [(false, eval e X.env)]
structure M2 (X : Cx) (o : Expr) (m : Str) (apos : Pos) (e f : Expr) (cpos : Pos) : Prop where
  base : attributeBase o m X.env (eval o X.env) = eval o X.env
  few : ((backTo cpos (starEach [e, f] X.env)).all (fun x => !x.1) && (backToKw cpos (keywordEach [] X.env)).all (fun x => x.1.isSome)
    && decide (([e, f] : List Expr).length + ([] : List Keyword).length + (if ([] : List Keyword).isEmpty then 0 else 1) < 30)) = true
  line : (apos.endLine == cpos.line) = true
  trees : backTo cpos (starEach [e, f] X.env) = [(false, eval e X.env), (false, eval f X.env)]

noncomputable def IsD (H : Hp) (a : Addr) : Prop := (∃ kvs, Rd H a (.dK kvs)) ∨ ∃ kvs, Rd H a (.dT kvs)
section
variable {X : Cx} {pins : List (Addr × Obj)} {σ : St} {H : Hp} {s : Shared} {a : Addr} {y d : V} {u r : Value} {o : Option V} {A : Around} {E : Value → Shared → Prop}
end

noncomputable def tDGet1 (td ty : TE) : TE := fun σ H Q => td σ H fun x H1 => ∃ a, x = .ref a ∧ IsD H1 a ∧ ty σ H1 fun y H2 => ∃ o, DGet H2 a y o ∧ Q (o.getD .non) H2
noncomputable def tDGet2 (td ty tx : TE) : TE := fun σ H Q => td σ H fun x H1 => ∃ a, x = .ref a ∧ IsD H1 a ∧ ty σ H1 fun y H2 => tx σ H2 fun z H3 => ∃ o, DGet H3 a y o ∧ Q (o.getD z) H3
noncomputable def tDPop1 (td ty : TE) : TE := fun σ H Q => td σ H fun x H1 => ∃ a, x = .ref a ∧ IsD H1 a ∧ ty σ H1 fun y H2 => ∃ kvs k v, H2 a = some (.dK kvs) ∧ y = kV k ∧ valV kvs k = some v ∧ Q v (upd H2 a (.dK (dropK kvs k)))
noncomputable def tDPop2 (td ty tx : TE) : TE := fun σ H Q => td σ H fun x H1 => ∃ a, x = .ref a ∧ IsD H1 a ∧ ty σ H1 fun y H2 => tx σ H2 fun z H3 => ∃ kvs k, H3 a = some (.dK kvs) ∧ y = kV k ∧
  (∀ v, valV kvs k = some v → Q v (upd H3 a (.dK (dropK kvs k)))) ∧ (valV kvs k = none → Q z H3)
section
variable {X : Cx} {o e f : Expr} {apos cpos : Pos} {td ty tx : TE}
end

section
variable {X : Cx} {pins : List (Addr × Obj)} {σ : St} {H : Hp} {s : Shared} {a : Addr} {kvs : List (Key × V)} {A : Around} {E : Value → Shared → Prop}
end


section
variable {X : Cx} {pins : List (Addr × Obj)} {σ : St} {H : Hp} {s : Shared} {a : Addr} {y : V} {u : Value} {A : Around} {E : Value → Shared → Prop}
end
end L2

namespace Att
open PySem PySem.W PySem.Calls PyProof.Rows

section
variable {prog : Program} {w : World} {A : Around} {E : Value → Shared → Prop} {s : Shared} {K : Frag}

end
end Att

namespace L2
open PySem PySem.Spec PyProof.Rows

end L2

namespace L2
open PySem PySem.Spec PyProof.Rows

end L2

namespace L2
open PySem PySem.Spec PyProof.Rows

section
variable {P : Program} {w : World} {K : PySem.W.Frag} {mg : Str → Option Value} {base : Heap}
end
section
variable {X : Cx}
end

section
variable {κ : Type} [DecidableEq κ]
end
end L2


set_option Elab.async false
set_option linter.all false
set_option maxRecDepth 100000
set_option maxHeartbeats 400000
/-! ''.join(reversed(text)) -/
namespace L2
open PySem PySem.Spec PyProof.Rows
namespace RT
noncomputable def obj (x : Str) (t : Tok) (i : Int) : Obj := { cls := .type "reversed", data := .fields #[.str x t, rawInt i] }
noncomputable def Is (h : Heap) (a : Addr) (x : Str) (t : Tok) (i : Int) : Prop := ∃ o, h.get? a = some o ∧ o.cls = .type "reversed" ∧ o.data = .fields #[.str x t, rawInt i]
section
variable {prog : Program} {w : World} {A : Around} {E : Value → Shared → Prop} {s : Shared}
end
section
variable {prog : Program} {w : World} {A : Around} {E : Value → Shared → Prop} {s : Shared}
end
end RT
section
variable {X : Cx}
noncomputable def tJT (t : TE) : TE := fun σ H Q => t σ H fun x H1 => ∃ a : List Nat, x = T a ∧ a.length ≤ sizeLine ∧ Q (T a.reverse) H1
end
end L2

set_option Elab.async false
set_option linter.all false
set_option maxRecDepth 100000
/-! text[::-1] -/
namespace L2
open PySem PySem.Spec PyProof.Rows
section
variable {X : Cx}
noncomputable def tRevT (te ts : TE) : TE := fun σ H Q => te σ H fun x H1 => ts σ H1 fun y H2 => ∃ a : List Nat, x = T a ∧ y = .int (-1) ∧ a.length ≤ sizeLine ∧ Q (T a.reverse) H2
end
end L2
namespace L2
open PySem PySem.Spec PyProof.Rows
/-- C(..) by the promise of its __init__ -/
structure Cam (P : Program) (w : World) (K : PySem.W.Frag) (mg : Str → Option Value) (base : Heap) (CX : CXT) (x : Str) (C : Addr) (k : Nat) (ps : List Str) (sp : Sp) : Prop where
  ex : ∃ (f : Addr) (fd : FuncData), FnOk P w K mg base CX k f fd ps sp ∧ Mk K C f ∧ mg x = some (.ref C) ∧ Binds K fd ps []
section
variable {X : Cx}
theorem pe_mak {CX : CXT} {x : Str} {C : Addr} {j k : Nat} {ps : List Str} {sp : Sp} {E : XK} {e : Expr} {es : List Expr} {t : TA} {p pos : Pos} (c : Cam X.prog X.w X.K X.mg X.base CX x C j ps sp) (hr : Room k X.A) (hx : Passes CX X E) (ha : PA X (e :: es) t)
    (hjk : j + 1 ≤ k := by decide) (hg : Gl X x := by rfl) (b1 : (x == ("__debug__" : Str)) = false := by decide) (b2 : starEach (e :: es) X.env = (false, eval e X.env) :: starEach es X.env := by rfl) (b3 : (backTo pos (starEach es X.env)).any (·.1) = false := by rfl) :
    PE X (.Call (.Name x p) (e :: es) [] pos) (tMake C sp [] E t) := by
  obtain ⟨f, fd, F, M, hm, hb⟩ := c.ex
  exact pe_make M F (hr.mono hjk) hg hm hb .nil hx ha b1 b2 b3
end
end L2

set_option Elab.async false
set_option linter.all false
set_option maxRecDepth 100000
set_option maxHeartbeats 4000000
/-! tuples of texts handed in; what raises inside a try and is kept; list(text) -/
namespace L2
open PySem PySem.Spec PyProof.Rows
section
variable {X : Cx}
/-! ### x = e inside try, where e may raise -/
noncomputable def XPs (X : Cx) (pins : List (Addr × Obj)) (σ : St) (R : Value → Hp → Prop) (e : Value) (s' : Shared) : Prop :=
  ∃ a cls H s1 H', e = .ref a ∧ Inv X pins σ H s1 ∧ Fly X.prog X.w X.stack H s1 a cls H' s' ∧ R cls H'
noncomputable abbrev TEx := St → Hp → VK → (Value → Hp → Prop) → Prop
noncomputable def PEx (X : Cx) (e : Expr) (t : TEx) : Prop :=
  ∀ (pins : List (Addr × Obj)) (s : Shared) (σ : St) (H : Hp) (Q : VK) (R : Value → Hp → Prop), Inv X pins σ H s → t σ H Q R → wpAny (model X.prog X.w) X.A (eval e X.env) (EP X pins σ Q) (XPs X pins σ R) s
/-- C(e, ..) -/
noncomputable def txMake (C : Addr) (sp : Sp) (t : TA) : TEx := fun σ H Q R => t σ H fun vs H1 => ∀ x dx, H1 x = none → H1 dx = none → dx ≠ x →
  sp (.ref x :: (vs ++ [])) (upd (upd H1 dx (.own x)) x (.ins C dx [])) (fun v H2 => v = .non ∧ Q (.ref x) H2) fun cls _ H2 => R cls H2
/-- f(e, ..) -/
noncomputable def txCal (sp : Sp) (t : TA) : TEx := fun σ H Q R => t σ H fun vs H1 => sp vs H1 Q fun cls _ H2 => R cls H2
/-- (e, ..): e may raise, the others don't -/
noncomputable def txTup (t1 : TEx) (t : TA) : TEx := fun σ H Q R => t1 σ H (fun v H1 => t σ H1 fun vs H2 => vs.length + 1 ≤ sizeLine ∧ ∀ p, H2 p = none → Q (.ref p) (upd H2 p (.tup (v :: vs)))) R
/-- x = e -/
noncomputable def tySet (i : Nat) (t : TEx) : TTy := fun D R σ H => t σ H (fun v H1 => D.nx (σ.set i (some v)) H1) fun cls H1 => R σ cls H1
/-! ### set(tuple of texts) -/
end
namespace SE
section
variable {prog : Program} {w : World} {A : Around} {E : Value → Shared → Prop} {s : Shared}
end
end SE
section
variable {X : Cx}
/-! ### list(text) -/
theorem signs_vals {a : List Nat} {acc : Array Value} (h : ItemsOf (SignAt (tx a)) acc a.length) : Vals ((a.map fun c => [c]).map T) acc.toList := by
  have key : ∀ (l : List Nat) (us : List Value), us.length = l.length → (∀ (j : Nat) (v : Value), us[j]? = some v → ∃ (c : Nat) (u : Tok), l[j]? = some c ∧ v = Value.str (tx [c]) u) → Vals ((l.map fun c => [c]).map T) us := by
    intro l
    induction l with
    | nil =>
      intro us hl _
      obtain rfl : us = [] := List.length_eq_zero_iff.mp hl
      exact .nil
    | cons c l ih =>
      intro us hl hv
      cases us with
      | nil => cases hl
      | cons u us =>
        obtain ⟨c', u', h1, rfl⟩ := hv 0 u rfl
        rw [List.getElem?_cons_zero] at h1
        cases h1
        exact .cons ⟨_, rfl⟩ (ih us (by simpa using hl) fun j v e => hv (j + 1) v (by rw [List.getElem?_cons_succ]; exact e))
  refine key a acc.toList (by rw [Array.length_toList]; exact h.1) fun j v e => ?_
  obtain ⟨c, u, h1, h2⟩ := h.2 j v (by rw [← Array.getElem?_toList]; exact e)
  refine ⟨c, u, ?_, h2⟩
  rw [← Array.getElem?_toList] at h1
  exact h1
theorem call_listT (hc : X.calm = true) : CallR X (.type "list") (fun xs H Q => ∃ a : List Nat, xs = [T a] ∧ a.length ≤ sizeLine ∧ ∀ D, H D = none → Q (.ref D) (upd H D (.lst ((a.map fun c => [c]).map T)))) := by
  intro pins s σ H xs us Q I r h
  obtain ⟨a, rfl, hz, q⟩ := h
  obtain ⟨u, rfl, ru⟩ := vals1 r
  obtain ⟨t, rfl⟩ := ru
  refine call_list_str (I.ok.hd hc) (tx a) t (fun h' tk acc c' kp e hacc => ?_) (by show a.length ≤ sizeLine; exact hz)
  have hv := signs_vals hacc
  refine ⟨.ref s.heap.objs.size, _, I.laid (t' := tk) kp (Nat.le_refl _) (o := .lst ((a.map fun c => [c]).map T)) ⟨by rw [List.length_map, List.length_map]; exact hz, acc.toList, c', hv, by simpa using e⟩, rfl, q _ (I.hok.fresh (Nat.le_refl _))⟩

end
end L2

set_option Elab.async false
set_option linter.all false
set_option maxRecDepth 100000
/-! The model's set table: laid anew, it finds a place for each element. -/
namespace ST
open PySem PySem.SetTable

/-! ### 5 i + 1 goes through all places -/
noncomputable def it (M : Nat) : Nat → Nat → Nat
  | 0, i => i
  | s + 1, i => it M s ((i * 5 + 1) % M)
noncomputable def orbit (M : Nat) : Nat → Nat → List Nat
  | 0, _ => []
  | s + 1, i => i :: orbit M s ((i * 5 + 1) % M)
noncomputable def full (M : Nat) : Bool := it M M 0 == 0 && (List.range M).all fun j => (orbit M M 0).contains j
noncomputable def Size (M : Nat) : Prop := M = 8 ∨ M = 16 ∨ M = 32 ∨ M = 64 ∨ M = 128 ∨ M = 256 ∨ M = 512
/-! ### the walk of a search -/
noncomputable def lp (mask : Nat) : Nat → Nat → Nat → Nat × Nat
  | 0, i, p => (i, p)
  | s + 1, i, p => lp mask s (leap mask i p).1 (leap mask i p).2
noncomputable def vals (N : Nat) (f : Nat → Option Nat) : List Nat := (List.range N).filterMap f
noncomputable def Good (mask : Nat) (owner : Array (Option Nat)) (k : Nat) : Prop := owner.size = mask + 1 ∧ (vals (mask + 1) fun j => owner.getD j none).Perm (List.range k)
end ST

set_option Elab.async false
set_option linter.all false
set_option maxRecDepth 100000
set_option maxHeartbeats 4000000
/-! Sets of texts that may be walked: what is kept of the table. -/
namespace SS
open PySem PyProof.Rows
noncomputable def byT (w : World) : Bool := w.params.followText "set-order"
noncomputable def keyV : Value → Str
  | .str x _ => x
  | _ => Str.empty
/-- an element: its hash, a text -/
noncomputable def El (w : World) (e : Int × Value) : Prop := e.1 = hashStr w (keyV e.2) ∧ ∃ t, e.2 = .str (keyV e.2) t
noncomputable def Els (w : World) (es : List (Int × Value)) (ms : List Str) : Prop := (∀ e ∈ es, El w e) ∧ (es.map fun e => keyV e.2).Perm ms
/-- a set of just these texts -/
noncomputable def Is (w : World) (h : Heap) (a : Addr) (ms : List Str) : Prop :=
  ∃ o es ep t, h.get? a = some o ∧ o.ExactSet ∧ o.data = .set es ep t ∧ Els w es.toList ms ∧ ms.Nodup ∧ es.size < scanBound ∧ t.fits es.size = true ∧ (byT w = true ∨ t.led = true) ∧ (es.size = 0 ∨ t.plain = false)
section
variable {prog : Program} {w : World} {A : Around} {E : Value → Shared → Prop} {s : Shared}
end
end SS

set_option Elab.async false
set_option linter.all false
set_option maxRecDepth 100000
set_option maxHeartbeats 4000000
/-! One set of texts put into another. -/
namespace SS
open PySem PyProof.Rows

section
variable {prog : Program} {w : World} {A : Around} {E : Value → Shared → Prop} {s : Shared}
end
end SS

set_option Elab.async false
set_option linter.all false
set_option maxRecDepth 100000
set_option maxHeartbeats 4000000
/-! A set of texts copied; two put together. -/
namespace SS
open PySem PyProof.Rows
section
variable {prog : Program} {w : World} {A : Around} {E : Value → Shared → Prop} {s : Shared}
noncomputable def freshO (w : World) : Obj := { cls := .type "set", dict := none, data := .set #[] 0 (.fresh 0 0 (!byT w)) }
end
end SS

set_option Elab.async false
set_option linter.all false
set_option maxRecDepth 100000
set_option maxHeartbeats 4000000
/-! A set of texts walked: in some order each of its texts once. -/
namespace SS
open PySem PyProof.Rows
/-- the walker of the set at a -/
noncomputable def It (h : Heap) (I a : Addr) (first : Value) (i n ep : Nat) : Prop := ∃ o, h.get? I = some o ∧ o.cls = .type "set_iterator" ∧ o.data = .fields #[first, rawInt (i : Int), .ref a, rawInt (n : Int), rawInt (ep : Int)]
section
variable {prog : Program} {w : World} {A : Around} {E : Value → Shared → Prop} {s : Shared}
end
end SS

set_option Elab.async false
set_option linter.all false
set_option maxRecDepth 100000
set_option maxHeartbeats 4000000
namespace SS
open PySem PyProof.Rows
section
variable {prog : Program} {w : World} {A : Around} {E : Value → Shared → Prop} {s : Shared}
end
end SS

set_option Elab.async false
set_option linter.all false
set_option maxRecDepth 100000
set_option maxHeartbeats 4000000
namespace SS
open PySem PyProof.Rows
section
variable {prog : Program} {w : World} {A : Around} {E : Value → Shared → Prop} {s : Shared}
end
end SS

set_option Elab.async false
set_option linter.all false
set_option maxRecDepth 100000
set_option maxHeartbeats 4000000
/-! The texts of a set collected; set(list). -/
namespace SS
open PySem PyProof.Rows
section
variable {prog : Program} {w : World} {A : Around} {E : Value → Shared → Prop} {s : Shared}
end
end SS

set_option Elab.async false
set_option linter.all false
set_option maxRecDepth 100000
set_option maxHeartbeats 4000000
/-! set(list), a | b, sorted(set) of texts -/
namespace L2
open PySem PySem.Spec PyProof.Rows
namespace SE
/-- the set of the first i texts -/
noncomputable def Of (w : World) (h : Heap) (D : Addr) (ls : List (List Nat)) (i : Nat) : Prop := ∃ ms, SS.Is w h D ms ∧ (∀ x, x ∈ ms ↔ x ∈ (ls.take i).map tx) ∧ ms.length ≤ i
section
variable {prog : Program} {w : World} {A : Around} {R : Result → Shared → Prop} {J : Addr} {fp wr : List Addr} {G : Array GenState → Array GenState → Prop} {n : Nat} {P : Nat → Value → Prop} {St : Nat → Shared → Prop}
variable {E : Value → Shared → Prop} {s : Shared}
end
end SE
/-- a set of just these texts, that may be walked -/
noncomputable def SetI (w : World) (D : Addr) (ms : List (List Nat)) : HO := .ext fun h => SS.Is w h D (ms.map tx)
section
variable {X : Cx}
end
end L2

set_option Elab.async false
set_option linter.all false
set_option maxRecDepth 100000
/-! comprehensions over lists, tuples and texts, with any element; 'in' with K given -/
namespace L2
open PySem PySem.Spec PyProof.Rows
/-- a walk that tells these values and leaves all as it is -/
structure Reads (J : It) (H : Hp) (vs : List V) : Prop where
  go : ∀ i H', Same H H' → i < vs.length → J.go i H'
  yl : ∀ i H' y H2, Same H H' → J.yld i H' y H2 → H2 = H' ∧ vs[i]? = some y
  st : ∀ H', Same H H' → J.stop vs.length H'
theorem reads_text {l : List Nat} {H : Hp} : Reads (Itx l) H ((l.map fun c => [c]).map T) :=
  ⟨fun i H' _ hi => by (show i < l.length; simpa using hi), fun i H' y H2 _ ⟨e1, c, hc, e2⟩ => ⟨e1, by rw [List.getElem?_map, List.getElem?_map, hc, e2]; rfl⟩, fun H' _ => by show l.length ≤ _; simp⟩
/-- [e for x in .. if c] -/
theorem compFG {J : It} {vs : List V} {tc : TT} {te : TE} {σ : St} {H : Hp} {Q : VK} (p : V → Bool) (f : V → V) (rd : Reads J H vs) (hn : vs.length ≤ sizeLine)
    (ht : ∀ x H', x ∈ vs → Same H H' → ∀ N : Bool → Hp → Prop, (∀ H'', Same H' H'' → N (p x) H'') → tc (some x :: σ) H' N)
    (he : ∀ x H', x ∈ vs → p x = true → Same H H' → ∀ N : V → Hp → Prop, (∀ H'', Same H' H'' → N (f x) H'') → te (some x :: σ) H' N)
    (hq : ∀ D H', H D = none → Same H H' → H' D = some (.lst ((vs.filter p).map f)) → Q (.ref D) H') : compAtF tc te σ Q J H := by
  intro D hD
  refine ⟨fun i m ys H2 => m = vs.length - i ∧ i ≤ vs.length ∧ ys = ((vs.take i).filter p).map f ∧ Same H H2 ∧ H2 D = some (.lst ys), ⟨vs.length, rfl, Nat.zero_le _, rfl, fun b o e => ?_, upd_same⟩, ?_⟩
  · rw [upd_ne (ne_of_none e hD)]
    exact e
  · rintro i m ys H2 ⟨rfl, hi, rfl, hs, hd⟩
    by_cases hlt : i < vs.length
    · have hx : vs[i]? = some vs[i] := List.getElem?_eq_getElem hlt
      refine .inr ⟨rd.go i H2 hs hlt, by have := filter_take_len p vs i; rw [List.length_map]; omega, fun v H' => v = f vs[i] ∧ p vs[i] = true ∧ Same H2 H', fun v H' ⟨ev, hp, hs'⟩ => ⟨hs' D _ hd, vs.length - (i + 1), by omega, rfl, hlt, ?app, fun b o e => ?kp, upd_same⟩,
        fun H' => p vs[i] = false ∧ Same H2 H', fun H' ⟨hp, hs'⟩ => ⟨vs.length - (i + 1), by omega, rfl, hlt, ?skp, fun b o e => hs' b o (hs b o e), hs' D _ hd⟩, fun y H' hy => ?stp⟩
      case app =>
        rw [ev, take_filter p vs i _ hx, hp, List.map_append]
        rfl
      case kp =>
        rw [upd_ne (ne_of_none e hD)]
        exact hs' b o (hs b o e)
      case skp =>
        rw [take_filter p vs i _ hx, hp]
        simp
      case stp =>
        obtain ⟨rfl, e2⟩ := rd.yl i H2 y H' hs hy
        have e4 : y = vs[i] := by rw [hx] at e2; exact (Option.some.inj e2).symm
        subst e4
        refine ht _ _ (List.getElem_mem hlt) hs _ fun H'' h'' => ?_
        by_cases hp : p vs[i] = true
        · rw [if_pos hp]
          exact he _ _ (List.getElem_mem hlt) hp (hs.trans h'') _ fun H3 h3 => ⟨rfl, hp, h''.trans h3⟩
        · rw [if_neg hp]
          exact ⟨by simpa using hp, h''⟩
    · have e : i = vs.length := by omega
      subst e
      rw [List.take_length] at hd
      exact .inl ⟨rd.st H2 hs, hq D H2 hD hs hd⟩
/-- the text of a value -/
noncomputable def unT : V → List Nat
  | .str x => x.cps.toList
  | _ => []
theorem unT_T (l : List Nat) : unT (T l) = l := tx_cps l
section
variable {X : Cx}
end
end L2

set_option Elab.async false
set_option linter.all false
set_option maxRecDepth 100000
set_option maxHeartbeats 4000000
/-! The keys of a dict collected; sorted(dict) where its keys are texts. -/
namespace SS
open PySem PyProof.Rows L2
section
variable {prog : Program} {w : World} {A : Around} {E : Value → Shared → Prop} {s : Shared}
/-- what is collected of a dict's keys -/
noncomputable def KeyAt (vs : List (Key × Value)) (i : Nat) (v : Value) : Prop := ∃ k x, vs[i]? = some (k, x) ∧ keyIs k v = true
end
end SS
namespace L2
open PySem PyProof.Rows
/-- texts as a dict's keys -/
noncomputable def tKs (ls : List (List Nat)) (v : V) : List (Key × V) := ls.map fun t => (Sum.inr (tx t), v)
section
variable {X : Cx}
end
end L2

set_option Elab.async false
set_option linter.all false
set_option maxRecDepth 100000
set_option maxHeartbeats 4000000
/-! set(tuple of texts) that is walked. -/
namespace L2
open PySem PyProof.Rows PySem.Spec
namespace SE
section
variable {prog : Program} {w : World} {A : Around} {E : Value → Shared → Prop} {s : Shared}
end
end SE
section
variable {X : Cx}
end
end L2

set_option Elab.async false
set_option linter.all false
set_option maxRecDepth 100000
set_option maxHeartbeats 4000000
/-! lists of bools that are alike. -/
namespace L2
open PySem PyProof.Rows PySem.Spec
section
variable {X : Cx}
end
end L2

set_option Elab.async false
set_option linter.all false
set_option maxRecDepth 100000
set_option maxHeartbeats 4000000
/-! papers that are alike: None, or a text and a tuple of texts. -/
namespace L2
open PySem PyProof.Rows PySem.Spec
section
variable {X : Cx}
end
end L2

set_option Elab.async false
set_option linter.all false
set_option maxRecDepth 100000
set_option maxHeartbeats 4000000
/-! for a, b in zip(list, list). -/
namespace L2
open PySem PyProof.Rows PySem.Spec
section
variable {X : Cx} {pins : List (Addr × Obj)} {σ : List (Option V)} {H H' : Hp} {s : Shared} {h' : Heap}
theorem Inv.turnedL {t' : Nat} {ch : List Addr} (I : Inv X pins σ H s) (k : ∀ b o, b ∉ ch → s.heap.get? b = some o → h'.get? b = some o) (hf : ∀ b ∈ ch, FpOk X pins H b) : Inv X pins σ H { s with heap := h', toks := t' } := by
  have nit : ∀ b u, H b = some u → b ∉ ch := fun b u e z => by rw [(hf b z).1] at e; cases e
  refine I.step (g' := s.gens) (d' := s.drawn) (ch := ch) (fun b hb => ?_) (fun b o _ _ hc e _ => k b o hc e) (fun b o _ _ hc e _ => ⟨o.slots, k b o hc e⟩) (fun _ _ _ _ n => n)
    (fun b o hc e => ⟨o, k b o hc e⟩) (fun _ _ e => e) (fun _ _ _ e => e) (fun b ps e => ⟨#[], by rw [e]; simp⟩) (fun m hm => ?_) (fun b u e => ?_) I.bare
  · obtain ⟨f0, f1, f2, f3, f4, f5⟩ := hf b hb
    exact ⟨f3, f1, f4, f5⟩
  · obtain ⟨o, es, ep, ho, r⟩ := hm
    exact ⟨o, es, ep, k _ o (fun z => (hf _ z).2.1 rfl) ho, r⟩
  · refine (I.hok b u e).stay (fun c v hc q => k c v ?_ q) (fun _ q => q) fun _ _ q => q
    rcases hc with z | z
    · rw [z]; exact nit b u e
    · exact nit c _ z
end
/-- the pairs of the lists at a and b: each a new tuple -/
noncomputable def Itz (K : PySem.W.Frag) (a b : Addr) : It :=
  ⟨fun i H => ∃ xs ys x y, SqL K H a xs ∧ SqL K H b ys ∧ xs[i]? = some x ∧ ys[i]? = some y,
   fun i H x H' => ∃ (T : Addr) (u v : V), x = .ref T ∧ H T = none ∧ H' = upd H T (.tup [u, v]) ∧ (∀ xs, SqL K H a xs → xs[i]? = some u) ∧ ∀ ys, SqL K H b ys → ys[i]? = some v,
   fun i H => ∃ xs ys, SqL K H a xs ∧ SqL K H b ys ∧ (xs.length ≤ i ∨ ys.length ≤ i)⟩
theorem turn_zip {P : Program} {w : World} {K : PySem.W.Frag} {elts : List Expr} {x1} {pos : Pos} {a b z TI TO i1 i2 : Addr} (D : ZipApart z TI TO i1 i2 a b) :
    Turn P w K (.Tuple elts x1 pos) (Itz K a b) [z, TI, TO, i1, i2] z (fun i h => IsZip h z TI TO .none ∧ IsPair h TI (.ref i1) (.ref i2) ∧ (∃ u v, IsPair h TO u v) ∧ h.IsListIter i1 a i ∧ h.IsListIter i2 b i) where
  mem := by simp
  obj := fun i h st c hc => by
    obtain ⟨h1, h2, ⟨u, v, h3⟩, ⟨o4, e4, c4, d4⟩, ⟨o5, e5, c5, d5⟩⟩ := st
    simp only [List.mem_cons, List.not_mem_nil, or_false] at hc
    rcases hc with rfl | rfl | rfl | rfl | rfl
    · exact ⟨_, h1, fun v z => by cases z⟩
    · exact ⟨_, h2, fun v z => by cases z⟩
    · exact ⟨_, h3, fun v z => by cases z⟩
    · exact ⟨_, e4, fun v z => by rw [d4] at z; cases z⟩
    · exact ⟨_, e5, fun v z => by rw [d5] at z; cases z⟩
  keep := fun i h h' st k => by
    obtain ⟨h1, h2, ⟨u, v, h3⟩, h4, h5⟩ := st
    exact ⟨k z (by simp) _ h1, k TI (by simp) _ h2, ⟨u, v, k TO (by simp) _ h3⟩, h4.at fun o e => k i1 (by simp) o e, h5.at fun o e => k i2 (by simp) o e⟩
  item := by
    intro X hP hw hK hc i pins s σ H E I hf st hg
    subst hP hw hK
    obtain ⟨xs, ys, x, y, hq1, hq2, hx, hy⟩ := hg
    obtain ⟨its, rv, p, hz⟩ := I.list hq1
    obtain ⟨its2, rv2, p2, hz2⟩ := I.list hq2
    obtain ⟨u, hu, ru⟩ := rv.get hx
    obtain ⟨v, hv, rv'⟩ := rv2.get hy
    obtain ⟨h1, h2, ⟨c1, c2, h3⟩, h4, h5⟩ := st
    refine wpAny_pyNext_zip_item D h1 h2 h3 h4 h5 p.isList p2.isList (x := u) (y := v) (by simpa using hu) (by simpa using hv) fun h' z1 z2 z3 z4 z5 z6 z7 => ?_
    refine ⟨_, rfl, wpAny_letOwnedTupleGo_zip (s := { s with heap := h' }) z1 fun h'' y1 y2 => ?_⟩
    have hT : H s.heap.objs.size = none := I.hok.fresh (Nat.le_refl _)
    have I1 : Inv X pins σ (upd H s.heap.objs.size (.tup [x, y])) { s with heap := s.heap.push { cls := .type "tuple", data := .seq #[u, v] }, toks := s.toks } :=
      I.laid (t' := s.toks) (fun b u e => Heap.get?_push_of_some _ e) (Nat.le_refl _) ⟨(by show 2 ≤ sizeLine; rw [sizeLine_eq]; decide), [u, v], .cons ru (.cons rv' .nil), ⟨_, Heap.get?_push_size _ rfl, rfl, _, rfl⟩⟩
    have nf : ∀ c ∈ [z, TI, TO, i1, i2], c ≠ s.heap.objs.size := fun c hc e => by
      have lt : ∃ o, s.heap.get? c = some o := by
        obtain ⟨o4, e4, _⟩ := id h4
        obtain ⟨o5, e5, _⟩ := id h5
        simp only [List.mem_cons, List.not_mem_nil, or_false] at hc
        rcases hc with rfl | rfl | rfl | rfl | rfl
        · exact ⟨_, h1⟩
        · exact ⟨_, h2⟩
        · exact ⟨_, h3⟩
        · exact ⟨_, e4⟩
        · exact ⟨_, e5⟩
      obtain ⟨o, ho⟩ := lt
      have := Heap.lt_size ho
      rw [e] at this
      exact Nat.lt_irrefl _ this
    have hf1 : ∀ c ∈ [z, TI, TO, i1, i2], FpOk X pins (upd H s.heap.objs.size (.tup [x, y])) c := fun c hc => by
      obtain ⟨f0, f⟩ := hf c hc
      exact ⟨by rw [upd_ne (nf c hc)]; exact f0, f⟩
    have I2 : Inv X pins σ (upd H s.heap.objs.size (.tup [x, y])) { s with heap := h'', toks := s.toks } :=
      Inv.turnedL (s := { s with heap := s.heap.push { cls := .type "tuple", data := .seq #[u, v] }, toks := s.toks }) (t' := s.toks) (ch := [z, TI, TO, i1, i2]) I1 (fun b o hb e => by
        simp only [List.mem_cons, List.not_mem_nil, or_false, not_or] at hb
        obtain ⟨b1, b2, b3, b4, b5⟩ := hb
        refine (y2.2 b b1).trans ?_
        rcases Heap.get?_push_cases e with ⟨rfl, rfl⟩ | e
        · exact z5
        · exact z7 b o b1 b3 b4 b5 e) hf1
    refine ⟨.ref s.heap.objs.size, _, I2, rfl, ⟨s.heap.objs.size, x, y, rfl, hT, rfl, fun zs hzs => by rw [I.list_inj hzs hq1]; exact hx, fun zs hzs => by rw [I.list_inj hzs hq2]; exact hy⟩, ⟨y1, ?_, ⟨u, v, ?_⟩, ?_, ?_⟩, fun c hc => (hf1 c hc).1⟩
    · exact (y2.2 TI D.TIz).trans (z7 TI _ D.TIz D.TITO D.TIi1 D.TIi2 h2)
    · exact (y2.2 TO D.TOz).trans z2
    · exact z3.at fun o e => (y2.2 i1 D.i1z).trans e
    · exact z4.at fun o e => (y2.2 i2 D.i2z).trans e
  done := by
    intro X hP hw hK hc i pins s σ H E I hf st hg
    subst hP hw hK
    obtain ⟨xs, ys, hq1, hq2, hl⟩ := hg
    obtain ⟨its, rv, p, hz⟩ := I.list hq1
    obtain ⟨its2, rv2, p2, hz2⟩ := I.list hq2
    obtain ⟨h1, h2, ⟨c1, c2, h3⟩, h4, h5⟩ := st
    have l1 := rv.length
    have l2 := rv2.length
    refine wpAny_pyNext_zip_end (I.ok.hd hc) D h1 h2 h3 h4 h5 p.isList p2.isList ?_ fun h' kk => ⟨rfl, ?_⟩
    · rcases hl with g | g
      · exact .inl (by simp; omega)
      · exact .inr (by simp; omega)
    · exact I.turnedL (t' := s.toks) (ch := [z, TI, TO, i1, i2]) (fun b o hb e => by
        simp only [List.mem_cons, List.not_mem_nil, or_false, not_or] at hb
        obtain ⟨b1, b2, b3, b4, b5⟩ := hb
        exact kk b o b1 b3 b4 b5 e) hf
  self := fun _ _ _ _ _ st h => wpAny_pyIter_zip st.1 h
section
variable {X : Cx}
noncomputable def iZip (K : PySem.W.Frag) (ta : TA) : TI := fun σ H R => ta σ H fun xs H1 => ∃ a b : Addr, xs = [.ref a, .ref b] ∧ (∃ us, SqL K H1 a us) ∧ (∃ vs, SqL K H1 b vs) ∧ R (Itz K a b) H1
theorem pi_zip {a b : Expr} {ta : TA} {p pos pos' : Pos} {elts : List Expr} {x1} (hg : Gl X "zip") (hm : X.mg "zip" = none) (ha : PA X [a, b] ta) (hs : starEach [a, b] X.env = [(false, eval a X.env), (false, eval b X.env)] := by rfl) (hs2 : starEach [b] X.env = [(false, eval b X.env)] := by rfl) :
    PI X (.Tuple elts x1 pos') (.Call (.Name "zip" p) [a, b] [] pos) (iZip X.K ta) := by
  intro pins s σ H R I h
  refine Call_ (ld_blt I hg hm boot_zip (PyProof.Rows.callWith_type1 (thn (ha pos pins s σ H _ I h) fun us s1 ⟨vs, H1, I1, r1, q1⟩ => ?_) (by rw [hs, hs2]) (by rw [hs2]; rfl)))
  obtain ⟨l1, l2, e, ⟨us1, hq1⟩, ⟨us2, hq2⟩, q⟩ := q1
  subst e
  cases r1 with
  | cons r rr =>
    cases rr with
    | cons r' rr =>
      cases rr
      cases r
      cases r'
      obtain ⟨its, rv, p, hz⟩ := I1.list hq1
      obtain ⟨its2, rv2, p2, hz2⟩ := I1.list hq2
      obtain ⟨o1, ho1, _⟩ := id p.isList
      obtain ⟨o2, ho2, _⟩ := id p2.isList
      refine call_zip_2 p.isList p2.isList fun h' z1 z2 z3 z4 z5 z6 z7 => ?_
      refine wpAny_pyIter_zip (s := { s1 with heap := h' }) z1 ?_
      have fr : ∀ c, s1.heap.objs.size ≤ c → FpOk X pins H1 c := fun c hc => I1.fpOk hc (I1.hok.fresh hc)
      refine ⟨s1.heap.objs.size + 4, [s1.heap.objs.size + 4, s1.heap.objs.size + 2, s1.heap.objs.size + 3, s1.heap.objs.size, s1.heap.objs.size + 1], _, _, H1, rfl, I1.kept (t' := s1.toks) z7, turn_zip (zipApart_new (Heap.lt_size ho1) (Heap.lt_size ho2)), ⟨z1, z2, ⟨_, _, z3⟩, z4, z5⟩, fun c hc => fr c ?_, q⟩
      simp only [List.mem_cons, List.not_mem_nil, or_false] at hc
      rcases hc with rfl | rfl | rfl | rfl | rfl
      · exact Nat.le_add_right _ _
      · exact Nat.le_add_right _ _
      · exact Nat.le_add_right _ _
      · exact Nat.le_refl _
      · exact Nat.le_add_right _ _
theorem for_zip {K : PySem.W.Frag} {a b : Addr} {xs ys : List V} {g : TG} {tb : TS} {D : Ends} {σ : St} {H : Hp} (Pv : Nat → St → Hp → Prop) (h0 : Pv 0 σ H) (he : xs.length = ys.length) (hl : ∀ i σ H, i ≤ xs.length → Pv i σ H → SqL K H a xs ∧ SqL K H b ys)
    (hs : ∀ i x y T σ H, xs[i]? = some x → ys[i]? = some y → H T = none → Pv i σ H → g (.ref T) σ (upd H T (.tup [x, y])) fun σ2 H2 => tb { D with nx := Pv (i + 1), ct := Pv (i + 1), bk := D.nx } σ2 H2) (hd : ∀ σ H, Pv xs.length σ H → D.nx σ H) :
    ∃ W : Nat → Nat → St → Hp → Prop, (∃ m, W 0 m σ H) ∧ ∀ i m σ H, W i m σ H →
      ((Itz K a b).stop i H ∧ D.nx σ H) ∨ ((Itz K a b).go i H ∧ ∃ N : St → Hp → Prop, (∀ σ' H', N σ' H' → ∃ m', m' < m ∧ W (i + 1) m' σ' H') ∧ ∀ x H', (Itz K a b).yld i H x H' → g x σ H' fun σ2 H2 => tb { D with nx := N, ct := N, bk := D.nx } σ2 H2) := by
  refine ⟨fun i m σ H => m = xs.length - i ∧ i ≤ xs.length ∧ Pv i σ H, ⟨xs.length, by simp, Nat.zero_le _, h0⟩, ?_⟩
  rintro i m σ H ⟨rfl, hi, p⟩
  obtain ⟨q1, q2⟩ := hl i σ H hi p
  by_cases hlt : i < xs.length
  · refine .inr ⟨⟨xs, ys, xs[i], ys[i]'(by omega), q1, q2, by simp [hlt], by rw [List.getElem?_eq_getElem]⟩, Pv (i + 1), fun σ' H' p' => ⟨xs.length - (i + 1), by omega, rfl, hlt, p'⟩, fun x H' y => ?_⟩
    obtain ⟨T, u, v, rfl, hT, rfl, y1, y2⟩ := y
    exact hs i u v T σ _ (y1 xs q1) (y2 ys q2) hT p
  · have e : i = xs.length := by omega
    subst e
    exact .inl ⟨⟨xs, ys, q1, q2, .inl (Nat.le_refl _)⟩, hd σ H p⟩
end
/-- as Reads, where more might come behind -/
structure ReadsB (J : It) (H : Hp) (vs : List V) : Prop where
  go : ∀ i H', Same H H' → i < vs.length → J.go i H'
  yl : ∀ i H' y H2, Same H H' → i < vs.length → J.yld i H' y H2 → H2 = H' ∧ vs[i]? = some y
  st : ∀ H', Same H H' → J.stop vs.length H'
theorem readsB_range {n : Nat} {H : Hp} : ReadsB (Itr 0 n) H ((List.range n).map fun (i : Nat) => V.int (i : Int)) :=
  ⟨fun i H' _ hi => by (show i < n; simpa using hi), fun i H' y H2 _ hi ⟨e1, e2⟩ => ⟨e1, by
    have hi' : i < n := by simpa using hi
    rw [e2, Int.zero_add, List.getElem?_map, List.getElem?_range hi']
    rfl⟩, fun H' _ => by show n ≤ _; simp⟩
theorem compB {J : It} {vs : List V} {te : TE} {σ : St} {H : Hp} {Q : VK} (f : V → V) (rd : ReadsB J H vs) (hn : vs.length ≤ sizeLine)
    (he : ∀ x H', x ∈ vs → Same H H' → ∀ N : V → Hp → Prop, (∀ H'', Same H' H'' → N (f x) H'') → te (some x :: σ) H' N)
    (hq : ∀ D H', H D = none → Same H H' → H' D = some (.lst (vs.map f)) → Q (.ref D) H') : compAt te σ Q J H := by
  intro D hD
  refine ⟨fun i m ys H2 => m = vs.length - i ∧ i ≤ vs.length ∧ ys = (vs.take i).map f ∧ Same H H2 ∧ H2 D = some (.lst ys), ⟨vs.length, rfl, Nat.zero_le _, rfl, fun b o e => ?_, upd_same⟩, ?_⟩
  · rw [upd_ne (ne_of_none e hD)]
    exact e
  · rintro i m ys H2 ⟨rfl, hi, rfl, hs, hd⟩
    by_cases hlt : i < vs.length
    · have hx : vs[i]? = some vs[i] := List.getElem?_eq_getElem hlt
      refine .inr ⟨rd.go i H2 hs hlt, by rw [List.length_map, List.length_take]; omega, fun v H' => v = f vs[i] ∧ Same H2 H', fun v H' ⟨ev, hs'⟩ => ⟨hs' D _ hd, vs.length - (i + 1), by omega, rfl, hlt, ?app, fun b o e => ?kp, upd_same⟩, fun y H' hy => ?stp⟩
      case app =>
        rw [ev, List.take_add_one, hx, List.map_append]
        rfl
      case kp =>
        rw [upd_ne (ne_of_none e hD)]
        exact hs' b o (hs b o e)
      case stp =>
        obtain ⟨rfl, e2⟩ := rd.yl i H2 y H' hs hlt hy
        have e4 : y = vs[i] := by rw [hx] at e2; exact (Option.some.inj e2).symm
        subst e4
        exact he _ _ (List.getElem_mem hlt) hs _ fun H'' h'' => ⟨rfl, h''⟩
    · have e : i = vs.length := by omega
      subst e
      rw [List.take_length] at hd
      exact .inl ⟨rd.st H2 hs, hq D H2 hD hs hd⟩

theorem compFB {J : It} {vs : List V} {tc : TT} {te : TE} {σ : St} {H : Hp} {Q : VK} (p : V → Bool) (f : V → V) (rd : ReadsB J H vs) (hn : vs.length ≤ sizeLine)
    (ht : ∀ x H', x ∈ vs → Same H H' → ∀ N : Bool → Hp → Prop, (∀ H'', Same H' H'' → N (p x) H'') → tc (some x :: σ) H' N)
    (he : ∀ x H', x ∈ vs → p x = true → Same H H' → ∀ N : V → Hp → Prop, (∀ H'', Same H' H'' → N (f x) H'') → te (some x :: σ) H' N)
    (hq : ∀ D H', H D = none → Same H H' → H' D = some (.lst ((vs.filter p).map f)) → Q (.ref D) H') : compAtF tc te σ Q J H := by
  intro D hD
  refine ⟨fun i m ys H2 => m = vs.length - i ∧ i ≤ vs.length ∧ ys = ((vs.take i).filter p).map f ∧ Same H H2 ∧ H2 D = some (.lst ys), ⟨vs.length, rfl, Nat.zero_le _, rfl, fun b o e => ?_, upd_same⟩, ?_⟩
  · rw [upd_ne (ne_of_none e hD)]
    exact e
  · rintro i m ys H2 ⟨rfl, hi, rfl, hs, hd⟩
    by_cases hlt : i < vs.length
    · have hx : vs[i]? = some vs[i] := List.getElem?_eq_getElem hlt
      refine .inr ⟨rd.go i H2 hs hlt, by have := filter_take_len p vs i; rw [List.length_map]; omega, fun v H' => v = f vs[i] ∧ p vs[i] = true ∧ Same H2 H', fun v H' ⟨ev, hp, hs'⟩ => ⟨hs' D _ hd, vs.length - (i + 1), by omega, rfl, hlt, ?app, fun b o e => ?kp, upd_same⟩,
        fun H' => p vs[i] = false ∧ Same H2 H', fun H' ⟨hp, hs'⟩ => ⟨vs.length - (i + 1), by omega, rfl, hlt, ?skp, fun b o e => hs' b o (hs b o e), hs' D _ hd⟩, fun y H' hy => ?stp⟩
      case app =>
        rw [ev, take_filter p vs i _ hx, hp, List.map_append]
        rfl
      case kp =>
        rw [upd_ne (ne_of_none e hD)]
        exact hs' b o (hs b o e)
      case skp =>
        rw [take_filter p vs i _ hx, hp]
        simp
      case stp =>
        obtain ⟨rfl, e2⟩ := rd.yl i H2 y H' hs hlt hy
        have e4 : y = vs[i] := by rw [hx] at e2; exact (Option.some.inj e2).symm
        subst e4
        refine ht _ _ (List.getElem_mem hlt) hs _ fun H'' h'' => ?_
        by_cases hp : p vs[i] = true
        · rw [if_pos hp]
          exact he _ _ (List.getElem_mem hlt) hp (hs.trans h'') _ fun H3 h3 => ⟨rfl, hp, h''.trans h3⟩
        · rw [if_neg hp]
          exact ⟨by simpa using hp, h''⟩
    · have e : i = vs.length := by omega
      subst e
      rw [List.take_length] at hd
      exact .inl ⟨rd.st H2 hs, hq D H2 hD hs hd⟩
end L2

set_option Elab.async false
set_option linter.all false
set_option maxRecDepth 100000
set_option maxHeartbeats 4000000
namespace K45
open PySem L2
seal L2.PSs L2.PS L2.PE L2.PA L2.PT L2.PW L2.PI L2.PG L2.PGs L2.PO L2.PTy L2.PH L2.OpR L2.CallR L2.IxR L2.SlR L2.UnR L2.PSet
noncomputable def top (i : Nat) : Stmt := PySem.Challenge.pw_onceround_k45_words_behind.main.body.getD i (.Pass ⟨0, 0, 0, 0⟩)
noncomputable abbrev s_looked_kinds : Stmt := top 10
noncomputable abbrev s_looked_length : Stmt := top 11
noncomputable abbrev s_letters : Stmt := top 12
noncomputable abbrev s_looked : Stmt := top 13
noncomputable abbrev s_number_of : Stmt := top 14
noncomputable abbrev s_word_total : Stmt := top 15
noncomputable abbrev s_looked_size : Stmt := top 19
noncomputable abbrev s_looked_told : Stmt := top 20
noncomputable abbrev s_Rule_init : Stmt := inClass (top 21) 0
noncomputable abbrev s_looked_word : Stmt := top 22
noncomputable abbrev s_next_word : Stmt := top 23
noncomputable abbrev s_partners : Stmt := top 24
noncomputable abbrev s_exchanged : Stmt := top 25
noncomputable abbrev s__law_stir : Stmt := top 27
noncomputable abbrev s__law_folded : Stmt := top 28
noncomputable abbrev s__law_size : Stmt := top 29
noncomputable abbrev s__law_words : Stmt := top 30
noncomputable abbrev s__law_texts : Stmt := top 31
noncomputable abbrev s__law_refused : Stmt := top 32
noncomputable abbrev s__law_exchanged_right : Stmt := top 33
noncomputable abbrev s_law : Stmt := top 34
theorem sc_looked_kinds : FnScope ["kinds"] ["kinds"] (defScope s_looked_kinds) := ⟨rfl, rfl, rfl, by decide +kernel, rfl, by decide +kernel, by decide +kernel⟩
theorem sc_looked_length : FnScope ["length", "kinds"] ["length", "kinds"] (defScope s_looked_length) := ⟨rfl, rfl, rfl, by decide +kernel, rfl, by decide +kernel, by decide +kernel⟩
theorem sc_letters : FnScope ["kinds"] ["kinds"] (defScope s_letters) := ⟨rfl, rfl, rfl, by decide +kernel, rfl, by decide +kernel, by decide +kernel⟩
theorem sc_looked : FnScope ["word", "kinds", "known", "sign"] ["word", "kinds"] (defScope s_looked) := ⟨rfl, rfl, rfl, by decide +kernel, rfl, by decide +kernel, by decide +kernel⟩
theorem sc_number_of : FnScope ["word", "kinds", "number", "letter"] ["word", "kinds"] (defScope s_number_of) := ⟨rfl, rfl, rfl, by decide +kernel, rfl, by decide +kernel, by decide +kernel⟩
theorem sc_word_total : FnScope ["length", "kinds", "total", "step"] ["length", "kinds"] (defScope s_word_total) := ⟨rfl, rfl, rfl, by decide +kernel, rfl, by decide +kernel, by decide +kernel⟩
theorem sc_looked_size : FnScope ["length", "kinds"] ["length", "kinds"] (defScope s_looked_size) := ⟨rfl, rfl, rfl, by decide +kernel, rfl, by decide +kernel, by decide +kernel⟩
theorem sc_looked_told : FnScope ["length", "kinds", "told", "known", "sign"] ["length", "kinds", "told"] (defScope s_looked_told) := ⟨rfl, rfl, rfl, by decide +kernel, rfl, by decide +kernel, by decide +kernel⟩
theorem sc_Rule_init : FnScope ["self", "length", "kinds", "told"] ["self", "length", "kinds", "told"] (defScope s_Rule_init) := ⟨rfl, rfl, rfl, by decide +kernel, rfl, by decide +kernel, by decide +kernel⟩
theorem sc_looked_word : FnScope ["rule", "word"] ["rule", "word"] (defScope s_looked_word) := ⟨rfl, rfl, rfl, by decide +kernel, rfl, by decide +kernel, by decide +kernel⟩
theorem sc_next_word : FnScope ["rule", "word"] ["rule", "word"] (defScope s_next_word) := ⟨rfl, rfl, rfl, by decide +kernel, rfl, by decide +kernel, by decide +kernel⟩
theorem sc_partners : FnScope ["rule", "word"] ["rule", "word"] (defScope s_partners) := ⟨rfl, rfl, rfl, by decide +kernel, rfl, by decide +kernel, by decide +kernel⟩
noncomputable def csc_partners_0 : Scope := { kind := PySem.ScopeKind.function, names := [ (PySem.Str.ofString ".0", PySem.NameKind.local), (PySem.Str.ofString "letter", PySem.NameKind.local), (PySem.Str.ofString "word", PySem.NameKind.free)], isGenerator := false, isCoroutine := false, more := [] : PySem.Scope }
theorem cs_partners_0 : CompSc ["rule", "word"] ["letter", "rule", "word"] (defScope s_partners) csc_partners_0 "letter" := ⟨rfl, by decide +kernel, by decide +kernel, rfl, by decide +kernel, rfl, rfl, by decide +kernel, rfl, by decide +kernel, by decide +kernel⟩
theorem sc_exchanged : FnScope ["rule", "one", "two", "told"] ["rule", "one", "two"] (defScope s_exchanged) := ⟨rfl, rfl, rfl, by decide +kernel, rfl, by decide +kernel, by decide +kernel⟩
theorem sc__law_stir : FnScope ["cell", "k", "m"] ["cell", "k"] (defScope s__law_stir) := ⟨rfl, rfl, rfl, by decide +kernel, rfl, by decide +kernel, by decide +kernel⟩
theorem sc__law_folded : FnScope ["script", "many", "found", "k", "cell"] ["script", "many"] (defScope s__law_folded) := ⟨rfl, rfl, rfl, by decide +kernel, rfl, by decide +kernel, by decide +kernel⟩
theorem sc__law_size : FnScope ["cell", "sizes"] ["cell"] (defScope s__law_size) := ⟨rfl, rfl, rfl, by decide +kernel, rfl, by decide +kernel, by decide +kernel⟩
theorem sc__law_words : FnScope ["length", "kinds", "words", "k", "longer", "word", "letter"] ["length", "kinds"] (defScope s__law_words) := ⟨rfl, rfl, rfl, by decide +kernel, rfl, by decide +kernel, by decide +kernel⟩
theorem sc__law_texts : FnScope ["found", "due", "one", "text"] ["found", "due"] (defScope s__law_texts) := ⟨rfl, rfl, rfl, by decide +kernel, rfl, by decide +kernel, by decide +kernel⟩
theorem sc__law_refused : FnScope ["way", "rule", "word", "other", "caught", "e"] ["way", "rule", "word", "other"] (defScope s__law_refused) := ⟨rfl, rfl, rfl, by decide +kernel, rfl, by decide +kernel, by decide +kernel⟩
theorem sc__law_exchanged_right : FnScope ["rule", "words", "told", "n", "i", "partner_places", "j", "made", "other"] ["rule", "words", "told", "n"] (defScope s__law_exchanged_right) := ⟨rfl, rfl, rfl, by decide +kernel, rfl, by decide +kernel, by decide +kernel⟩
noncomputable def csc__law_exchanged_right_0 : Scope := { kind := PySem.ScopeKind.function, names := [ (PySem.Str.ofString ".0", PySem.NameKind.local), (PySem.Str.ofString "k", PySem.NameKind.local), (PySem.Str.ofString "i", PySem.NameKind.free), (PySem.Str.ofString "words", PySem.NameKind.free)], isGenerator := false, isCoroutine := false, more := [] : PySem.Scope }
theorem cs__law_exchanged_right_0 : CompSc ["rule", "words", "told", "n", "i", "partner_places", "j", "made", "other"] ["k", "rule", "words", "told", "n", "i", "partner_places", "j", "made", "other"] (defScope s__law_exchanged_right) csc__law_exchanged_right_0 "k" := ⟨rfl, by decide +kernel, by decide +kernel, rfl, by decide +kernel, rfl, rfl, by decide +kernel, rfl, by decide +kernel, by decide +kernel⟩
theorem sc_law : FnScope ["script", "n", "length", "kinds", "words", "cells", "letters_told", "digits", "k", "rule", "found", "due", "told", "one", "at", "strange", "word", "way"] ["script"] (defScope s_law) := ⟨rfl, rfl, rfl, by decide +kernel, rfl, by decide +kernel, by decide +kernel⟩
noncomputable def csc_law_0 : Scope := { kind := PySem.ScopeKind.function, names := [ (PySem.Str.ofString ".0", PySem.NameKind.local), (PySem.Str.ofString "k", PySem.NameKind.local), (PySem.Str.ofString "_law_stir", PySem.NameKind.globalImplicit), (PySem.Str.ofString "cells", PySem.NameKind.free), (PySem.Str.ofString "kinds", PySem.NameKind.free)], isGenerator := false, isCoroutine := false, more := [] : PySem.Scope }
theorem cs_law_0 : CompSc ["script", "n", "length", "kinds", "words", "cells", "letters_told", "digits", "k", "rule", "found", "due", "told", "one", "at", "strange", "word", "way"] ["k", "script", "n", "length", "kinds", "words", "cells", "letters_told", "digits", "", "rule", "found", "due", "told", "one", "at", "strange", "word", "way"] (defScope s_law) csc_law_0 "k" := ⟨rfl, by decide +kernel, by decide +kernel, rfl, by decide +kernel, rfl, rfl, by decide +kernel, rfl, by decide +kernel, by decide +kernel⟩
noncomputable def csc_law_1 : Scope := { kind := PySem.ScopeKind.function, names := [ (PySem.Str.ofString ".0", PySem.NameKind.local), (PySem.Str.ofString "letter", PySem.NameKind.local), (PySem.Str.ofString "k", PySem.NameKind.free), (PySem.Str.ofString "words", PySem.NameKind.free)], isGenerator := false, isCoroutine := false, more := [] : PySem.Scope }
theorem cs_law_1 : CompSc ["script", "n", "length", "kinds", "words", "cells", "letters_told", "digits", "k", "rule", "found", "due", "told", "one", "at", "strange", "word", "way"] ["letter", "script", "n", "length", "kinds", "words", "cells", "letters_told", "digits", "k", "rule", "found", "due", "told", "one", "at", "strange", "word", "way"] (defScope s_law) csc_law_1 "letter" := ⟨rfl, by decide +kernel, by decide +kernel, rfl, by decide +kernel, rfl, rfl, by decide +kernel, rfl, by decide +kernel, by decide +kernel⟩
structure Adr where
  OnceError : Addr
  BadKinds : Addr
  BadWord : Addr
  TooMany : Addr
  BadRule : Addr
  BadDeed : Addr
  Rule : Addr
  u_LETTERS : Value
  u_LONGEST : Value
  u_MOST_OF_A_RULE : Value
  u_LONGEST_OF_A_RULE : Value

structure Txt (K : PySem.W.Frag) (mg : Str → Option Value) (ad : Adr) : Prop where
  b_isinstance : mg "isinstance" = none
  b_len : mg "len" = none
  b_list : mg "list" = none
  b_range : mg "range" = none
  b_str : mg "str" = none
  b_sum : mg "sum" = none
  b_zip : mg "zip" = none
  m_OnceError : mg "OnceError" = some (.ref ad.OnceError)
  m_BadKinds : mg "BadKinds" = some (.ref ad.BadKinds)
  m_BadWord : mg "BadWord" = some (.ref ad.BadWord)
  m_TooMany : mg "TooMany" = some (.ref ad.TooMany)
  m_BadRule : mg "BadRule" = some (.ref ad.BadRule)
  m_BadDeed : mg "BadDeed" = some (.ref ad.BadDeed)
  m_Rule : mg "Rule" = some (.ref ad.Rule)
  x_BadKinds : Exc K mg "BadKinds" ad.BadKinds
  x_BadWord : Exc K mg "BadWord" ad.BadWord
  x_TooMany : Exc K mg "TooMany" ad.TooMany
  x_BadRule : Exc K mg "BadRule" ad.BadRule
  x_BadDeed : Exc K mg "BadDeed" ad.BadDeed
  n_BadWord : Knd K ad.BadWord
  g_LETTERS : mg "LETTERS" = some ad.u_LETTERS
  r_LETTERS : RelV (T [97, 98, 99, 100, 101, 102]) ad.u_LETTERS
  g_LONGEST : mg "LONGEST" = some ad.u_LONGEST
  r_LONGEST : RelV (.int 24) ad.u_LONGEST
  g_MOST_OF_A_RULE : mg "MOST_OF_A_RULE" = some ad.u_MOST_OF_A_RULE
  r_MOST_OF_A_RULE : RelV (.int 64) ad.u_MOST_OF_A_RULE
  g_LONGEST_OF_A_RULE : mg "LONGEST_OF_A_RULE" = some ad.u_LONGEST_OF_A_RULE
  r_LONGEST_OF_A_RULE : RelV (.int 8) ad.u_LONGEST_OF_A_RULE
  q_BadWord : PySem.W.exmOne K (.ref ad.BadWord) (.ref ad.OnceError) = some true
  k_BadWord_BadWord : PySem.W.kitOne K (.ref ad.BadWord) (.ref ad.BadWord) = some true
  k_BadWord_BadDeed : PySem.W.kitOne K (.ref ad.BadWord) (.ref ad.BadDeed) = some false
  cl_Rule : Cls K ad.Rule
  na_Rule_length : NoAttr K ad.Rule "length"
  na_Rule_kinds : NoAttr K ad.Rule "kinds"
  na_Rule_told : NoAttr K ad.Rule "told"
section
variable {P : Program} {w : World} {K : PySem.W.Frag} {mg : Str → Option Value} {base : Heap} {ad : Adr}

theorem abc6 {m : Nat} (h : m < 6) : ([97, 98, 99, 100, 101, 102] : List Nat)[m]? = some (97 + m) := by
  have key : ∀ m : Nat, m < 6 → ([97, 98, 99, 100, 101, 102] : List Nat)[m]? = some (97 + m) := by decide
  exact key m h
theorem abc_mem {k c : Nat} (hk : k ≤ 6) : c ∈ ([97, 98, 99, 100, 101, 102] : List Nat).take k ↔ 97 ≤ c ∧ c < 97 + k := by
  rw [List.mem_iff_getElem?]
  constructor
  · rintro ⟨i, hi⟩
    have h1 := (List.getElem?_eq_some_iff.mp hi).1
    rw [List.length_take] at h1
    rw [List.getElem?_take_of_lt (by omega), abc6 (by omega)] at hi
    have := Option.some.inj hi
    omega
  · rintro ⟨h1, h2⟩
    refine ⟨c - 97, ?_⟩
    rw [List.getElem?_take_of_lt (by omega), abc6 (by omega), show 97 + (c - 97) = c by omega]
noncomputable def spKindsX (ad : Adr) : Sp := fun vs H Q E => ∃ k : Int, vs = [.int k] ∧ ((1 ≤ k ∧ k ≤ 6) → Q .non H) ∧ (¬ (1 ≤ k ∧ k ≤ 6) → E (.ref ad.BadKinds) none H)
theorem ok_looked_kinds {f : Addr} {fd : FuncData} (F : Fun K "looked_kinds" "looked_kinds" s_looked_kinds f fd) (tt : Txt K mg ad) : FnOk P w K mg base (CX1 P w) 1 f fd ["kinds"] (spKindsX ad) := by
  refine F.okX sc_looked_kinds (fun vs H Q E h => ?_) (fun cdv A outer s H vs Q E hr h => ?_)
  · obtain ⟨k, rfl, _⟩ := h
    rfl
  · obtain ⟨k, rfl, q, x⟩ := h
    have hs : sizeLine = 16777216 := sizeLine_eq
    refine ⟨_, (pss_one (ps_if (PW.pt (pw_or (pt_cmpR op_lt (pv 0) pe_int (nomark _)) (pw_or1 (pt_cmpR op_gt (pv 0) (pe_callB call_len_T (by rfl) tt.b_len PySem.boot_len (pa_cons (pe_glob (by rfl) tt.g_LETTERS tt.r_LETTERS) pa_nil)) (nomark _))))) (pss_one (ps_raise (E := fun cls H' => E cls none H') tt.x_BadKinds rfl (fun _ _ _ _ _ _ _ I hx q => raiseX I hx q) (pa_cons (pe_strT [107, 105, 110, 100, 115, 32, 97, 114, 101, 32, 97, 32, 119, 104, 111, 108, 101, 32, 110, 117, 109, 98, 101, 114, 32, 102, 114, 111, 109, 32, 49, 32, 116, 111, 32, 54] (by decide +kernel)) pa_nil))) pss_nil)), ?_⟩
    refine ⟨_, rfl, _, _, rfl, rfl, _, rfl, ?_⟩  -- kinds < 1
    refine ite2 (fun h0 => iteT ?_) (fun h0 => ?_)
    · have h1 : k < 1 := of_decide_eq_true h0
      exact ⟨(by show 1 ≤ sizeLine; omega), x fun z => by omega⟩
    · have h1 : ¬ k < 1 := fun z => h0 (decide_eq_true z)
      refine ⟨_, rfl, _, rfl, (by show 6 ≤ sizeLine; omega), _, _, rfl, rfl, _, rfl, ?_⟩  -- kinds > len(LETTERS)
      refine ite2 (fun h2 => ?_) (fun h2 => ?_)
      · have h3 : (6 : Int) < k := of_decide_eq_true h2
        exact ⟨(by show 1 ≤ sizeLine; omega), x fun z => by omega⟩
      · have h3 : ¬ (6 : Int) < k := fun z => h2 (decide_eq_true z)
        exact q ⟨by omega, by omega⟩

noncomputable def spLenX (ad : Adr) : Sp := fun vs H Q E => ∃ n k : Int, vs = [.int n, .int k] ∧ ((1 ≤ k ∧ k ≤ 6) → (1 ≤ n ∧ n ≤ 24) → Q .non H) ∧ (¬ (1 ≤ k ∧ k ≤ 6) → E (.ref ad.BadKinds) none H) ∧ ((1 ≤ k ∧ k ≤ 6) → ¬ (1 ≤ n ∧ n ≤ 24) → E (.ref ad.BadWord) none H)
theorem ok_looked_length {f : Addr} {fd : FuncData} (F : Fun K "looked_length" "looked_length" s_looked_length f fd) (tt : Txt K mg ad) (C_looked_kinds : Cal P w K mg base (CX1 P w) "looked_kinds" 1 ["kinds"] (spKindsX ad)) :
    FnOk P w K mg base (CX1 P w) 2 f fd ["length", "kinds"] (spLenX ad) := by
  refine F.okX sc_looked_length (fun vs H Q E h => ?_) (fun cdv A outer s H vs Q E hr h => ?_)
  · obtain ⟨n, k, rfl, _⟩ := h
    rfl
  · obtain ⟨n, k, rfl, q, x1, x2⟩ := h
    have hs : sizeLine = 16777216 := sizeLine_eq
    refine ⟨_, (pss_cons (ps_expr (pe_cal C_looked_kinds hr passX (pa_cons (pv 1) pa_nil)))
      (pss_one (ps_if (PW.pt (pw_or (pt_cmpR op_lt (pv 0) pe_int (nomark _)) (pw_or1 (pt_cmpR op_gt (pv 0) (pe_glob (by rfl) tt.g_LONGEST tt.r_LONGEST) (nomark _))))) (pss_one (ps_raise (E := fun cls H' => E cls none H') tt.x_BadWord rfl (fun _ _ _ _ _ _ _ I hx q => raiseX I hx q) (pa_cons (pe_strT [97, 32, 119, 111, 114, 100, 32, 104, 97, 115, 32, 49, 32, 116, 111, 32, 50, 52, 32, 108, 101, 116, 116, 101, 114, 115] (by decide +kernel)) pa_nil))) pss_nil))), ?_⟩
    refine ⟨_, rfl, k, rfl, fun hk => ?_, x1⟩  -- looked_kinds(kinds)
    refine ⟨_, rfl, _, _, rfl, rfl, _, rfl, ?_⟩  -- length < 1
    refine ite2 (fun h0 => iteT ?_) (fun h0 => ?_)
    · have h1 : n < 1 := of_decide_eq_true h0
      exact ⟨(by show 1 ≤ sizeLine; omega), x2 hk fun z => by omega⟩
    · have h1 : ¬ n < 1 := fun z => h0 (decide_eq_true z)
      refine ⟨_, rfl, _, _, rfl, rfl, _, rfl, ?_⟩  -- length > LONGEST
      refine ite2 (fun h2 => ?_) (fun h2 => ?_)
      · have h3 : (24 : Int) < n := of_decide_eq_true h2
        exact ⟨(by show 1 ≤ sizeLine; omega), x2 hk fun z => by omega⟩
      · have h3 : ¬ (24 : Int) < n := fun z => h2 (decide_eq_true z)
        exact q hk ⟨by omega, by omega⟩

noncomputable def spTotal : Sp := fun vs H Q _ => ∃ n k : Nat, vs = [.int (n : Nat), .int (k : Nat)] ∧ (n ≤ 1000 ∧ k ≤ 1000) ∧ Q (.int ((k ^ n : Nat) : Int)) H

theorem ok_word_total {f : Addr} {fd : FuncData} (F : Fun K "word_total" "word_total" s_word_total f fd) (tt : Txt K mg ad) : FnOk P w K mg base (CX1 P w) 1 f fd ["length", "kinds"] spTotal := by
  refine F.okN sc_word_total (fun vs H Q E h => ?_) (fun cdv A outer s H vs Q E hr h => ?_)
  · obtain ⟨n, k, rfl, _⟩ := h
    rfl
  · obtain ⟨n, k, rfl, hn, q⟩ := h
    refine ⟨_, (pss_cons (ps_set (i := 2) sc_word_total.nd rfl (Or.inl rfl) pe_int)
      (pss_cons (ps_for PassesOwn.never rfl (pi_range1 (by rfl) tt.b_range (pa_cons (pv 0) pa_nil)) (pg_name (i := 3) sc_word_total.nd rfl (Or.inl rfl)) (pss_one (ps_set (i := 2) sc_word_total.nd rfl (Or.inl rfl) (pe_op op_mul (pv 2) (pv 1)))))
      (pss_one (ps_ret (pv 2))))), ?_⟩
    refine ⟨_, rfl, _, rfl, by omega, by omega, ?_⟩  -- for range(length)
    rw [Int.toNat_natCast]
    refine for_range (fun i σ H2 => H2 = H ∧ ∃ v, σ = [some (.int (n : Nat)), some (.int (k : Nat)), some (.int ((k ^ i : Nat) : Int)), v]) ⟨rfl, none, rfl⟩ ?_ ?_
    · rintro i σ H2 hi ⟨rfl, v, rfl⟩
      refine ⟨_, rfl, _, rfl, _, _, rfl, rfl, .inr ⟨by omega, by omega⟩, ?_⟩  -- total = total * kinds
      refine ⟨rfl, some (.int (0 + (i : Int))), ?_⟩
      rw [Nat.pow_succ, Int.natCast_mul]
      rfl
    · rintro σ H2 ⟨rfl, v, rfl⟩
      exact ⟨_, rfl, q⟩  -- return total

noncomputable def spLettersX (ad : Adr) : Sp := fun vs H Q E => ∃ k : Int, vs = [.int k] ∧ (∀ kn : Nat, k = (kn : Nat) → (1 ≤ kn ∧ kn ≤ 6) → Q (T (([97, 98, 99, 100, 101, 102] : List Nat).take kn)) H) ∧ (¬ (1 ≤ k ∧ k ≤ 6) → E (.ref ad.BadKinds) none H)
theorem ok_letters {f : Addr} {fd : FuncData} (F : Fun K "letters" "letters" s_letters f fd) (tt : Txt K mg ad) (C_looked_kinds : Cal P w K mg base (CX1 P w) "looked_kinds" 1 ["kinds"] (spKindsX ad)) : FnOk P w K mg base (CX1 P w) 2 f fd ["kinds"] (spLettersX ad) := by
  refine F.okX sc_letters (fun vs H Q E h => ?_) (fun cdv A outer s H vs Q E hr h => ?_)
  · obtain ⟨k, rfl, _⟩ := h
    rfl
  · obtain ⟨k, rfl, q, x⟩ := h
    have hs : sizeLine = 16777216 := sizeLine_eq
    refine ⟨_, (pss_cons (ps_expr (pe_cal C_looked_kinds hr passX (pa_cons (pv 0) pa_nil)))
      (pss_one (ps_ret (pe_slice sl_T (pe_glob (by rfl) tt.g_LETTERS tt.r_LETTERS) po_none (po_some (pv 0)))))), ?_⟩
    refine ⟨_, rfl, k, rfl, fun hk => ?_, x⟩  -- looked_kinds(kinds)
    obtain ⟨kn, rfl⟩ : ∃ kn : Nat, k = (kn : Nat) := ⟨k.toNat, by omega⟩
    refine ⟨_, rfl, _, rfl, _, rfl, (by show 6 ≤ sizeLine; omega), ?_⟩  -- return LETTERS[:kinds]
    rw [cutL_to (by show kn ≤ 6; omega)]
    exact q kn rfl ⟨by omega, by omega⟩

/-- a word over kn kinds -/
noncomputable def Good (w : List Nat) (kn : Nat) : Prop := (1 ≤ w.length ∧ w.length ≤ 24) ∧ ∀ c ∈ w, 97 ≤ c ∧ c < 97 + kn
noncomputable def spLookedX (ad : Adr) : Sp := fun vs H Q E => ∃ (w : List Nat) (k : Int), vs = [T w, .int k] ∧ w.length ≤ 100000 ∧ (¬ (1 ≤ k ∧ k ≤ 6) → E (.ref ad.BadKinds) none H) ∧
  ∀ kn : Nat, k = (kn : Nat) → (1 ≤ kn ∧ kn ≤ 6) → (Good w kn → Q .non H) ∧ (¬ Good w kn → E (.ref ad.BadWord) none H)
theorem ok_looked {f : Addr} {fd : FuncData} (F : Fun K "looked" "looked" s_looked f fd) (tt : Txt K mg ad) (C_looked_length : Cal P w K mg base (CX1 P w) "looked_length" 2 ["length", "kinds"] (spLenX ad))
    (C_letters : Cal P w K mg base (CX1 P w) "letters" 2 ["kinds"] (spLettersX ad)) : FnOk P w K mg base (CX1 P w) 3 f fd ["word", "kinds"] (spLookedX ad) := by
  refine F.okX sc_looked (fun vs H Q E h => ?_) (fun cdv A outer s H vs Q E hr h => ?_)
  · obtain ⟨w, k, rfl, _⟩ := h
    rfl
  · obtain ⟨w, k, rfl, hw, x1, q⟩ := h
    have hs : sizeLine = 16777216 := sizeLine_eq
    refine ⟨_, (pss_cons (ps_expr (pe_cal C_looked_length hr passX (pa_cons (pe_callB call_len_T (by rfl) tt.b_len PySem.boot_len (pa_cons (pv 0) pa_nil)) (pa_cons (pv 1) pa_nil))))
      (pss_cons (ps_set (i := 2) sc_looked.nd rfl (Or.inl rfl) (pe_cal C_letters hr passX (pa_cons (pv 1) pa_nil)))
      (pss_one (ps_for PassesOwn.leaving rfl (pi_str (pv 0)) (pg_name (i := 3) sc_looked.nd rfl (Or.inl rfl)) (pss_one (ps_if (pt_cmpR op_notin_sT (pv 3) (pv 2) (by with_unfolding_all rfl)) (pss_one (ps_raise (E := fun cls H' => E cls none H') tt.x_BadWord rfl (fun _ _ _ _ _ _ _ I hx q => raiseX I hx q) (pa_cons (pe_strT [97, 32, 119, 111, 114, 100, 32, 104, 97, 115, 32, 108, 101, 116, 116, 101, 114, 115, 32, 111, 102, 32, 105, 116, 115, 32, 107, 105, 110, 100, 115, 32, 97, 108, 111, 110, 101] (by decide +kernel)) pa_nil))) pss_nil)))))), ?_⟩
    refine ⟨_, rfl, _, rfl, (by omega), _, rfl, _, k, rfl, fun hk hn => ?_, x1, fun hk hn => ?_⟩  -- looked_length(len(word), kinds)
    rotate_left
    · obtain ⟨kn, rfl⟩ : ∃ kn : Nat, k = (kn : Nat) := ⟨k.toNat, by omega⟩
      exact (q kn rfl ⟨by omega, by omega⟩).2 fun z => hn ⟨by have := z.1; omega, by have := z.1; omega⟩
    obtain ⟨kn, rfl⟩ : ∃ kn : Nat, k = (kn : Nat) := ⟨k.toNat, by omega⟩
    obtain ⟨q1, q2⟩ := q kn rfl ⟨by omega, by omega⟩
    refine ⟨_, rfl, _, rfl, fun kn' ek hk' => ?_, fun z => absurd hk z⟩  -- known = letters(kinds)
    obtain rfl : kn = kn' := by omega
    refine ⟨_, rfl, _, rfl, ?_⟩  -- for word
    refine for_text (l := w) (fun i σ H2 => H = H2 ∧ (∀ c ∈ w.take i, 97 ≤ c ∧ c < 97 + kn) ∧ ∃ v, σ = [some (T w), some (.int (kn : Nat)), some (T (([97, 98, 99, 100, 101, 102] : List Nat).take kn)), v]) ⟨rfl, fun c hc => (by simp at hc), none, rfl⟩ ?_ ?_
    · rintro i c σ H2 hi ⟨rfl, hall, v, rfl⟩
      refine ⟨_, rfl, _, rfl, _, rfl, _, rfl, _, rfl, ?_⟩  -- sign not in known
      refine ite2 (fun h0 => ?_) (fun h0 => ?_)
      · have h1 : ¬ c ∈ ([97, 98, 99, 100, 101, 102] : List Nat).take kn := fun z => by
          rw [decide_eq_true z] at h0
          cases h0
        refine ⟨(by show 1 ≤ sizeLine; omega), q2 fun z => h1 ?_⟩
        exact (abc_mem (by omega)).mpr (z.2 c (List.mem_of_getElem? hi))
      · have h1 : c ∈ ([97, 98, 99, 100, 101, 102] : List Nat).take kn := by
          apply Classical.byContradiction
          intro z
          rw [decide_eq_false z] at h0
          exact h0 rfl
        refine ⟨rfl, fun d hd => ?_, _, rfl⟩
        have hil := (List.getElem?_eq_some_iff.mp hi).1
        rw [List.take_add_one, hi] at hd
        rcases List.mem_append.mp hd with z | z
        · exact hall d z
        · have : d = c := by simpa using z
          subst this
          exact (abc_mem (by omega)).mp h1
    · rintro σ H2 ⟨rfl, hall, v, rfl⟩
      rw [List.take_length] at hall
      exact q1 ⟨⟨by omega, by omega⟩, hall⟩

noncomputable def spNumX (ad : Adr) : Sp := fun vs H Q E => ∃ (w : List Nat) (k : Int), vs = [T w, .int k] ∧ w.length ≤ 100000 ∧ (¬ (1 ≤ k ∧ k ≤ 6) → E (.ref ad.BadKinds) none H) ∧
  ∀ kn : Nat, k = (kn : Nat) → (1 ≤ kn ∧ kn ≤ 6) → (Good w kn → Q (.int ((Wd.num kn w : Nat) : Int)) H) ∧ (¬ Good w kn → E (.ref ad.BadWord) none H)
theorem ok_number_of {f : Addr} {fd : FuncData} (F : Fun K "number_of" "number_of" s_number_of f fd) (tt : Txt K mg ad) (C_looked : Cal P w K mg base (CX1 P w) "looked" 3 ["word", "kinds"] (spLookedX ad)) : FnOk P w K mg base (CX1 P w) 4 f fd ["word", "kinds"] (spNumX ad) := by
  refine F.okX sc_number_of (fun vs H Q E h => ?_) (fun cdv A outer s H vs Q E hr h => ?_)
  · obtain ⟨w, k, rfl, _⟩ := h
    rfl
  · obtain ⟨w, k, rfl, hw, x1, q⟩ := h
    have hs : sizeLine = 16777216 := sizeLine_eq
    refine ⟨_, (pss_cons (ps_expr (pe_cal C_looked hr passX (pa_cons (pv 0) (pa_cons (pv 1) pa_nil))))
      (pss_cons (ps_set (i := 2) sc_number_of.nd rfl (Or.inl rfl) pe_int)
      (pss_cons (ps_for PassesOwn.leaving rfl (pi_str (pv 0)) (pg_name (i := 3) sc_number_of.nd rfl (Or.inl rfl)) (pss_one (ps_set (i := 2) sc_number_of.nd rfl (Or.inl rfl) (pe_op op_add (pe_op op_mul (pv 2) (pv 1)) (pe_bm PySem.F.plainAttrs_str PySem.F.slot_str_index PySem.F.type_str_index mt_index6 (pe_glob (by rfl) tt.g_LETTERS tt.r_LETTERS) (pa_cons (pv 3) pa_nil))))))
      (pss_one (ps_ret (pv 2)))))), ?_⟩
    refine ⟨_, rfl, _, rfl, w, k, rfl, hw, x1, fun kn ek hk => ?_⟩  -- looked(word, kinds)
    subst ek
    obtain ⟨q1, q2⟩ := q kn rfl hk
    refine ⟨fun hg => ?_, q2⟩
    refine ⟨_, rfl, _, rfl, ?_⟩  -- for word
    refine for_text (l := w) (fun i σ H2 => H = H2 ∧ ∃ v, σ = [some (T w), some (.int (kn : Nat)), some (.int ((Wd.num kn (w.take i) : Nat) : Int)), v]) ⟨rfl, none, rfl⟩ ?_ ?_
    · rintro i c σ H2 hi ⟨rfl, v, rfl⟩
      have hc := hg.2 c (List.mem_of_getElem? hi)
      refine ⟨_, rfl, _, rfl, _, _, rfl, rfl, .inr ⟨by omega, by omega⟩, rfl, _, rfl, rfl, c, rfl, ⟨by omega, by omega⟩, _, _, rfl, rfl, ?_⟩  -- number = number * kinds + LETTERS.index(letter)
      refine ⟨rfl, some (T [c]), ?_⟩
      rw [List.take_add_one, hi]
      show _ = [_, _, some (V.int ((Wd.num kn (w.take i ++ [c]) : Nat) : Int)), _]
      rw [Wd.num_snoc, Int.natCast_add, Int.natCast_mul]
      rfl
    · rintro σ H2 ⟨rfl, v, rfl⟩
      rw [List.take_length]
      exact ⟨_, rfl, q1 hg⟩  -- return number

theorem same_upd {H : Hp} {D : Addr} {o : HO} (h : H D = none) : Same H (upd H D o) := fun b u e => by rw [upd_ne (ne_of_none e h)]; exact e
theorem namedD {H G : Hp} {D : Addr} {o : HO} (s : Same H (upd G D o)) : ∃ H', H' = upd G D o ∧ Same H H' ∧ H' D = some o := ⟨_, rfl, s, upd_same⟩
noncomputable def Sq (K : PySem.W.Frag) (H : Hp) (p : Addr) (xs : List V) : Prop := SqL K H p xs ∨ SqT K H p xs
/-- a word's begin -/
noncomputable def beg (l : List Nat) : List Nat := l.take (l.length - 1)
noncomputable def Abc (x : List Nat) : Prop := ∀ c ∈ x, 97 ≤ c ∧ c < 103
theorem inV_T {t : List Nat} : ∀ {ls : List (List Nat)}, inV (T t) (ls.map T) = decide (t ∈ ls)
  | [] => by simp [inV]
  | l :: ls => by
    have ih := @inV_T t ls
    have e : inV (T t) ((l :: ls).map T) = (eqV (T l) (T t) || inV (T t) (ls.map T)) := rfl
    have e2 : eqV (T l) (T t) = decide (t = l) := by
      show (tx l == tx t) = decide (t = l)
      rw [Bool.eq_iff_iff, beq_iff_eq, decide_eq_true_iff]
      exact ⟨fun h => (tx_inj h).symm, fun h => by rw [h]⟩
    rw [e, ih, e2, Bool.eq_iff_iff, Bool.or_eq_true, decide_eq_true_iff, decide_eq_true_iff, decide_eq_true_iff, List.mem_cons]
theorem itP {c A B : Prop} [Decidable c] (hc : c) (h : A) : if c then A else B := by rw [if_pos hc]; exact h
theorem itN {c A B : Prop} [Decidable c] (hc : ¬ c) (h : B) : if c then A else B := by rw [if_neg hc]; exact h

theorem signs_flat (t : List Nat) : (t.map fun c => [c]).flatten = t := by
  induction t with
  | nil => rfl
  | cons a t ih => rw [List.map_cons, List.flatten_cons, ih]; rfl
theorem set_map {α β : Type} (f : α → β) : ∀ (l : List α) (i : Nat) (a : α), (l.map f).set i (f a) = (l.set i a).map f
  | [], _, _ => rfl
  | _ :: _, 0, _ => rfl
  | _ :: l, i + 1, a => by
    rw [List.map_cons, List.set_cons_succ, set_map f l i a, List.set_cons_succ, List.map_cons]
theorem ixN_nat {n i : Nat} (h : i < n) : ixN n (i : Int) = some i := by
  unfold ixN
  rw [if_pos (by omega), if_pos (by omega), Int.toNat_natCast]
noncomputable def spSizeX (ad : Adr) : Sp := fun vs H Q E => ∃ n k : Int, vs = [.int n, .int k] ∧ (¬ (1 ≤ k ∧ k ≤ 6) → E (.ref ad.BadKinds) none H) ∧ ((1 ≤ k ∧ k ≤ 6) → ¬ (1 ≤ n ∧ n ≤ 8) → E (.ref ad.BadWord) none H) ∧
  ∀ kn nn : Nat, k = (kn : Nat) → n = (nn : Nat) → (1 ≤ kn ∧ kn ≤ 6) → (1 ≤ nn ∧ nn ≤ 8) → (64 < kn ^ nn → E (.ref ad.TooMany) none H) ∧ (kn ^ nn ≤ 64 → Q .non H)
theorem ok_looked_size {f : Addr} {fd : FuncData} (F : Fun K "looked_size" "looked_size" s_looked_size f fd) (tt : Txt K mg ad) (C_looked_kinds : Cal P w K mg base (CX1 P w) "looked_kinds" 1 ["kinds"] (spKindsX ad)) (C_word_total : Cal P w K mg base (CX1 P w) "word_total" 1 ["length", "kinds"] spTotal) :
    FnOk P w K mg base (CX1 P w) 2 f fd ["length", "kinds"] (spSizeX ad) := by
  refine F.okX sc_looked_size (fun vs H Q E h => ?_) (fun cdv A outer s H vs Q E hr h => ?_)
  · obtain ⟨n, k, rfl, _⟩ := h
    rfl
  · obtain ⟨n, k, rfl, x1, x2, q⟩ := h
    have hs : sizeLine = 16777216 := sizeLine_eq
    refine ⟨_, (pss_cons (ps_expr (pe_cal C_looked_kinds hr passX (pa_cons (pv 1) pa_nil)))
      (pss_cons (ps_if (PW.pt (pw_or (pt_cmpR op_lt (pv 0) pe_int (nomark _)) (pw_or1 (pt_cmpR op_gt (pv 0) (pe_glob (by rfl) tt.g_LONGEST_OF_A_RULE tt.r_LONGEST_OF_A_RULE) (nomark _))))) (pss_one (ps_raise (E := fun cls H' => E cls none H') tt.x_BadWord rfl (fun _ _ _ _ _ _ _ I hx q => raiseX I hx q) (pa_cons (pe_strT [97, 32, 119, 111, 114, 100, 32, 111, 102, 32, 97, 32, 114, 117, 108, 101, 32, 104, 97, 115, 32, 49, 32, 116, 111, 32, 56, 32, 108, 101, 116, 116, 101, 114, 115] (by decide +kernel)) pa_nil))) pss_nil)
      (pss_one (ps_if (pt_cmpR op_gt (pe_cal C_word_total hr pass1 (pa_cons (pv 0) (pa_cons (pv 1) pa_nil))) (pe_glob (by rfl) tt.g_MOST_OF_A_RULE tt.r_MOST_OF_A_RULE) (nomark _)) (pss_one (ps_raise (E := fun cls H' => E cls none H') tt.x_TooMany rfl (fun _ _ _ _ _ _ _ I hx q => raiseX I hx q) (pa_cons (pe_strT [97, 32, 114, 117, 108, 101, 32, 104, 97, 115, 32, 97, 116, 32, 109, 111, 115, 116, 32, 54, 52, 32, 119, 111, 114, 100, 115] (by decide +kernel)) pa_nil))) pss_nil)))), ?_⟩
    refine ⟨_, rfl, k, rfl, fun hk => ?_, x1⟩  -- looked_kinds(kinds)
    refine ⟨_, rfl, _, _, rfl, rfl, _, rfl, ?_⟩  -- length < 1
    refine ite2 (fun h0 => iteT ?_) (fun h0 => ?_)
    · have h1 : n < 1 := of_decide_eq_true h0
      exact ⟨(by show 1 ≤ sizeLine; omega), x2 hk fun z => by omega⟩
    have h1 : ¬ n < 1 := fun z => h0 (decide_eq_true z)
    refine ⟨_, rfl, _, _, rfl, rfl, _, rfl, ?_⟩  -- length > LONGEST_OF_A_RULE
    refine ite2 (fun h2 => ?_) (fun h2 => ?_)
    · have h3 : (8 : Int) < n := of_decide_eq_true h2
      exact ⟨(by show 1 ≤ sizeLine; omega), x2 hk fun z => by omega⟩
    have h3 : ¬ (8 : Int) < n := fun z => h2 (decide_eq_true z)
    obtain ⟨kn, rfl⟩ : ∃ kn : Nat, k = (kn : Nat) := ⟨k.toNat, by omega⟩
    obtain ⟨nn, rfl⟩ : ∃ nn : Nat, n = (nn : Nat) := ⟨n.toNat, by omega⟩
    obtain ⟨q1, q2⟩ := q kn nn rfl rfl ⟨by omega, by omega⟩ ⟨by omega, by omega⟩
    refine ⟨_, rfl, _, rfl, nn, kn, rfl, ⟨by omega, by omega⟩, _, _, rfl, rfl, _, rfl, ?_⟩  -- word_total(length, kinds) > MOST_OF_A_RULE
    refine ite2 (fun h4 => ?_) (fun h4 => ?_)
    · have h5 : (64 : Int) < ((kn ^ nn : Nat) : Int) := of_decide_eq_true h4
      exact ⟨(by show 1 ≤ sizeLine; omega), q1 (by omega)⟩
    · have h5 : ¬ (64 : Int) < ((kn ^ nn : Nat) : Int) := fun z => h4 (decide_eq_true z)
      exact q2 (by omega)

/-- what a rule tells -/
noncomputable def TellOk (t : List Nat) (nn kn : Nat) : Prop := t.length = kn ^ nn ∧ ∀ c ∈ t, 97 ≤ c ∧ c < 97 + kn
noncomputable def spToldX (ad : Adr) : Sp := fun vs H Q E => ∃ (nn kn : Nat) (t : List Nat), vs = [.int (nn : Nat), .int (kn : Nat), T t] ∧ ((1 ≤ kn ∧ kn ≤ 6) ∧ (1 ≤ nn ∧ nn ≤ 8) ∧ t.length ≤ 100000) ∧ (TellOk t nn kn → Q .non H) ∧ (¬ TellOk t nn kn → E (.ref ad.BadRule) none H)
theorem ok_looked_told {f : Addr} {fd : FuncData} (F : Fun K "looked_told" "looked_told" s_looked_told f fd) (tt : Txt K mg ad) (C_word_total : Cal P w K mg base (CX1 P w) "word_total" 1 ["length", "kinds"] spTotal) (C_letters : Cal P w K mg base (CX1 P w) "letters" 2 ["kinds"] (spLettersX ad)) :
    FnOk P w K mg base (CX1 P w) 3 f fd ["length", "kinds", "told"] (spToldX ad) := by
  refine F.okX sc_looked_told (fun vs H Q E h => ?_) (fun cdv A outer s H vs Q E hr h => ?_)
  · obtain ⟨nn, kn, t, rfl, _⟩ := h
    rfl
  · obtain ⟨nn, kn, t, rfl, ⟨hk, hn, ht⟩, q1, q2⟩ := h
    have hs : sizeLine = 16777216 := sizeLine_eq
    refine ⟨_, (pss_cons (ps_if (pt_cmpR op_ne_I (pe_callB call_len_T (by rfl) tt.b_len PySem.boot_len (pa_cons (pv 2) pa_nil)) (pe_cal C_word_total hr pass1 (pa_cons (pv 0) (pa_cons (pv 1) pa_nil))) (nomark _)) (pss_one (ps_raise (E := fun cls H' => E cls none H') tt.x_BadRule rfl (fun _ _ _ _ _ _ _ I hx q => raiseX I hx q) (pa_cons (pe_strT [97, 32, 114, 117, 108, 101, 32, 116, 101, 108, 108, 115, 32, 111, 110, 101, 32, 108, 101, 116, 116, 101, 114, 32, 102, 111, 114, 32, 101, 97, 99, 104, 32, 119, 111, 114, 100] (by decide +kernel)) pa_nil))) pss_nil)
      (pss_cons (ps_set (i := 3) sc_looked_told.nd rfl (Or.inl rfl) (pe_cal C_letters hr passX (pa_cons (pv 1) pa_nil)))
      (pss_one (ps_for PassesOwn.leaving rfl (pi_str (pv 2)) (pg_name (i := 4) sc_looked_told.nd rfl (Or.inl rfl)) (pss_one (ps_if (pt_cmpR op_notin_sT (pv 4) (pv 3) (by with_unfolding_all rfl)) (pss_one (ps_raise (E := fun cls H' => E cls none H') tt.x_BadRule rfl (fun _ _ _ _ _ _ _ I hx q => raiseX I hx q) (pa_cons (pe_strT [97, 32, 114, 117, 108, 101, 32, 116, 101, 108, 108, 115, 32, 108, 101, 116, 116, 101, 114, 115, 32, 111, 102, 32, 105, 116, 115, 32, 107, 105, 110, 100, 115, 32, 97, 108, 111, 110, 101] (by decide +kernel)) pa_nil))) pss_nil)))))), ?_⟩
    refine ⟨_, rfl, _, rfl, (by omega), _, rfl, _, rfl, nn, kn, rfl, ⟨by omega, by omega⟩, _, rfl, _, rfl, _, rfl, ?_⟩  -- len(told) != word_total(length, kinds)
    by_cases hl : t.length = kn ^ nn
    case neg =>
      refine itP (by rw [decide_eq_false (by omega)]; rfl) ?_
      exact ⟨(by show 1 ≤ sizeLine; omega), q2 fun z => hl z.1⟩
    refine itN (by rw [decide_eq_true (by rw [hl])]; exact Bool.false_ne_true) ?_
    refine ⟨_, rfl, _, rfl, fun kn' ek hk' => ?_, fun z => absurd (by omega) z⟩  -- known = letters(kinds)
    obtain rfl : kn = kn' := by omega
    refine ⟨_, rfl, _, rfl, ?_⟩  -- for told
    refine for_text (l := t) (fun i σ H2 => H = H2 ∧ (∀ c ∈ t.take i, 97 ≤ c ∧ c < 97 + kn) ∧ ∃ v, σ = [some (.int (nn : Nat)), some (.int (kn : Nat)), some (T t), some (T (([97, 98, 99, 100, 101, 102] : List Nat).take kn)), v]) ⟨rfl, fun c hc => (by simp at hc), none, rfl⟩ ?_ ?_
    · rintro i c σ H2 hi ⟨rfl, hall, v, rfl⟩
      refine ⟨_, rfl, _, rfl, _, rfl, _, rfl, _, rfl, ?_⟩  -- sign not in known
      refine ite2 (fun h0 => ?_) (fun h0 => ?_)
      · have h1 : ¬ c ∈ ([97, 98, 99, 100, 101, 102] : List Nat).take kn := fun z => by
          rw [decide_eq_true z] at h0
          cases h0
        refine ⟨(by show 1 ≤ sizeLine; omega), q2 fun z => h1 ?_⟩
        exact (abc_mem (by omega)).mpr (z.2 c (List.mem_of_getElem? hi))
      · have h1 : c ∈ ([97, 98, 99, 100, 101, 102] : List Nat).take kn := by
          apply Classical.byContradiction
          intro z
          rw [decide_eq_false z] at h0
          exact h0 rfl
        refine ⟨rfl, fun d hd => ?_, _, rfl⟩
        rw [List.take_add_one, hi] at hd
        rcases List.mem_append.mp hd with z | z
        · exact hall d z
        · have : d = c := by simpa using z
          subst this
          exact (abc_mem (by omega)).mp h1
    · rintro σ H2 ⟨rfl, hall, v, rfl⟩
      rw [List.take_length] at hall
      exact q1 ⟨hl, hall⟩

noncomputable def rflds (n k : Int) (t : List Nat) : List (Str × V) := putF "told" (T t) (putF "kinds" (.int k) (putF "length" (.int n) []))
theorem rflds_t (n k : Int) (t : List Nat) : (rflds n k t).lookup ("told" : Str) = some (T t) := by
  unfold rflds
  rw [lookup_putF, if_pos rfl]
theorem rflds_k (n k : Int) (t : List Nat) : (rflds n k t).lookup ("kinds" : Str) = some (.int k) := by
  unfold rflds
  rw [lookup_putF, if_neg (by decide +kernel), lookup_putF, if_pos rfl]
theorem rflds_l (n k : Int) (t : List Nat) : (rflds n k t).lookup ("length" : Str) = some (.int n) := by
  unfold rflds
  rw [lookup_putF, if_neg (by decide +kernel), lookup_putF, if_neg (by decide +kernel), lookup_putF, if_pos rfl]
/-- a length and kinds that a rule may have -/
noncomputable def SizeOk (nn kn : Nat) : Prop := (1 ≤ kn ∧ kn ≤ 6) ∧ (1 ≤ nn ∧ nn ≤ 8) ∧ kn ^ nn ≤ 64
noncomputable def spRuleI (C : Addr) (ad : Adr) : Sp := fun vs H Q E => ∃ (x dx : Addr) (n k : Int) (t : List Nat), vs = [.ref x, .int n, .int k, T t] ∧ H x = some (.ins C dx []) ∧ t.length ≤ 100000 ∧ (¬ (1 ≤ k ∧ k ≤ 6) → E (.ref ad.BadKinds) none H) ∧ ((1 ≤ k ∧ k ≤ 6) → ¬ (1 ≤ n ∧ n ≤ 8) → E (.ref ad.BadWord) none H) ∧
  ∀ kn nn : Nat, k = (kn : Nat) → n = (nn : Nat) → (1 ≤ kn ∧ kn ≤ 6) → (1 ≤ nn ∧ nn ≤ 8) → (64 < kn ^ nn → E (.ref ad.TooMany) none H) ∧ (kn ^ nn ≤ 64 → ¬ TellOk t nn kn → E (.ref ad.BadRule) none H) ∧
    (kn ^ nn ≤ 64 → TellOk t nn kn → ∀ H', (∀ b o, H b = some o → b ≠ x → H' b = some o) → H' x = some (.ins C dx (rflds (nn : Nat) (kn : Nat) t)) → Q .non H')
theorem ok_Rule_init {f : Addr} {fd : FuncData} (F : Fun K "__init__" "Rule.__init__" s_Rule_init f fd) (tt : Txt K mg ad) (C_looked_size : Cal P w K mg base (CX1 P w) "looked_size" 2 ["length", "kinds"] (spSizeX ad)) (C_looked_told : Cal P w K mg base (CX1 P w) "looked_told" 3 ["length", "kinds", "told"] (spToldX ad)) :
    FnOk P w K mg base (CX1 P w) 4 f fd ["self", "length", "kinds", "told"] (spRuleI ad.Rule ad) := by
  refine F.okX sc_Rule_init (fun vs H Q E h => ?_) (fun cdv A outer s H vs Q E hr h => ?_)
  · obtain ⟨x, dx, n, k, t, rfl, _⟩ := h
    rfl
  · obtain ⟨x, dx, n, k, t, rfl, hx, ht, x1, x2, q⟩ := h
    have hs : sizeLine = 16777216 := sizeLine_eq
    refine ⟨_, (pss_cons (ps_expr (pe_cal C_looked_size hr passX (pa_cons (pv 1) (pa_cons (pv 2) pa_nil))))
      (pss_cons (ps_expr (pe_cal C_looked_told hr passX (pa_cons (pv 1) (pa_cons (pv 2) (pa_cons (pv 3) pa_nil)))))
      (pss_cons (ps_fld (pv 0) (pv 1) rfl)
      (pss_cons (ps_fld (pv 0) (pv 2) rfl)
      (pss_one (ps_fld (pv 0) (pv 3) rfl)))))), ?_⟩
    refine ⟨_, rfl, _, rfl, n, k, rfl, x1, x2, fun kn nn ek en hk hn => ?_⟩  -- looked_size(length, kinds)
    subst ek en
    obtain ⟨q1, q2, q3⟩ := q kn nn rfl rfl hk hn
    refine ⟨q1, fun h64 => ?_⟩
    refine ⟨_, rfl, _, rfl, _, rfl, nn, kn, t, rfl, ⟨hk, hn, ht⟩, fun hto => ?_, q2 h64⟩  -- looked_told(length, kinds, told)
    refine ⟨_, rfl, _, rfl, x, ad.Rule, dx, [], rfl, hx, tt.cl_Rule, tt.na_Rule_length, (by show 0 < 1000; decide), ?_⟩  -- self.length = length
    refine ⟨_, rfl, _, rfl, x, ad.Rule, dx, _, rfl, upd_same, tt.cl_Rule, tt.na_Rule_kinds, (by show 1 < 1000; decide), ?_⟩  -- self.kinds = kinds
    refine ⟨_, rfl, _, rfl, x, ad.Rule, dx, _, rfl, upd_same, tt.cl_Rule, tt.na_Rule_told, (by show 2 < 1000; decide), ?_⟩  -- self.told = told
    refine q3 h64 hto _ (fun b o e hb => ?_) upd_same
    rw [upd_ne hb, upd_ne hb, upd_ne hb]
    exact e
noncomputable def RuleAt (C : Addr) (H : Hp) (x : Addr) (nn kn : Nat) (t : List Nat) : Prop := ∃ dx, H x = some (.ins C dx (rflds (nn : Nat) (kn : Nat) t))
theorem RuleAt.on {C : Addr} {H G : Hp} {x : Addr} {nn kn : Nat} {t : List Nat} (h : RuleAt C H x nn kn t) (s : Same H G) : RuleAt C G x nn kn t := h.elim fun dx e => ⟨dx, s _ _ e⟩
/-- a word of the rule -/
noncomputable def RW (w : List Nat) (nn kn : Nat) : Prop := w.length = nn ∧ ∀ c ∈ w, 97 ≤ c ∧ c < 97 + kn
theorem RW.good {w : List Nat} {nn kn : Nat} (h : RW w nn kn) (hn : 1 ≤ nn ∧ nn ≤ 8) : Good w kn := ⟨⟨by have := h.1; omega, by have := h.1; omega⟩, h.2⟩
noncomputable def spLWX (C : Addr) (ad : Adr) : Sp := fun vs H Q E => ∃ (x : Addr) (nn kn : Nat) (t w : List Nat), vs = [.ref x, T w] ∧ RuleAt C H x nn kn t ∧ SizeOk nn kn ∧ w.length ≤ 100000 ∧ (RW w nn kn → Q .non H) ∧ (¬ RW w nn kn → E (.ref ad.BadWord) none H)
theorem ok_looked_word {f : Addr} {fd : FuncData} (F : Fun K "looked_word" "looked_word" s_looked_word f fd) (tt : Txt K mg ad) (C_looked : Cal P w K mg base (CX1 P w) "looked" 3 ["word", "kinds"] (spLookedX ad)) :
    FnOk P w K mg base (CX1 P w) 4 f fd ["rule", "word"] (spLWX ad.Rule ad) := by
  refine F.okX sc_looked_word (fun vs H Q E h => ?_) (fun cdv A outer s H vs Q E hr h => ?_)
  · obtain ⟨x, nn, kn, t, wd, rfl, _⟩ := h
    rfl
  · obtain ⟨x, nn, kn, t, wd, rfl, ⟨dx, hx⟩, ⟨hk, hn, h64⟩, hw, q1, q2⟩ := h
    have hs : sizeLine = 16777216 := sizeLine_eq
    refine ⟨_, (pss_cons (ps_expr (pe_cal C_looked hr passX (pa_cons (pv 1) (pa_cons (pe_fld (pv 0) rfl) pa_nil))))
      (pss_one (ps_if (pt_cmpR op_ne_I (pe_callB call_len_T (by rfl) tt.b_len PySem.boot_len (pa_cons (pv 1) pa_nil)) (pe_fld (pv 0) rfl) (nomark _)) (pss_one (ps_raise (E := fun cls H' => E cls none H') tt.x_BadWord rfl (fun _ _ _ _ _ _ _ I hx q => raiseX I hx q) (pa_cons (pe_strT [116, 104, 101, 32, 119, 111, 114, 100, 32, 104, 97, 115, 32, 97, 110, 111, 116, 104, 101, 114, 32, 108, 101, 110, 103, 116, 104, 32, 116, 104, 97, 110, 32, 116, 104, 101, 32, 114, 117, 108, 101, 39, 115, 32, 119, 111, 114, 100, 115] (by decide +kernel)) pa_nil))) pss_nil))), ?_⟩
    refine ⟨_, rfl, _, rfl, x, ad.Rule, dx, _, _, rfl, hx, tt.cl_Rule, tt.na_Rule_kinds, rflds_k _ _ _, wd, _, rfl, hw, fun z => absurd (by omega) z, fun kn' ek hk' => ?_⟩  -- looked(word, rule.kinds)
    obtain rfl : kn = kn' := by omega
    refine ⟨fun hg => ?_, fun hg => q2 fun z => hg (z.good hn)⟩
    refine ⟨_, rfl, _, rfl, (by omega), _, rfl, x, ad.Rule, dx, _, _, rfl, hx, tt.cl_Rule, tt.na_Rule_length, rflds_l _ _ _, _, rfl, _, rfl, _, rfl, ?_⟩  -- len(word) != rule.length
    by_cases hl : wd.length = nn
    · refine itN (by rw [decide_eq_true (by rw [hl])]; exact Bool.false_ne_true) ?_
      exact q1 ⟨hl, hg.2⟩
    · refine itP (by rw [decide_eq_false (by omega)]; rfl) ?_
      exact ⟨(by show 1 ≤ sizeLine; omega), q2 fun z => hl z.1⟩

noncomputable def spNextW (C : Addr) (ad : Adr) : Sp := fun vs H Q E => ∃ (x : Addr) (nn kn : Nat) (t w : List Nat), vs = [.ref x, T w] ∧ RuleAt C H x nn kn t ∧ SizeOk nn kn ∧ TellOk t nn kn ∧ w.length ≤ 100000 ∧ (RW w nn kn → ∀ c, t[Wd.num kn w]? = some c → Q (T (w.drop 1 ++ [c])) H) ∧ (¬ RW w nn kn → E (.ref ad.BadWord) none H)
theorem rw_num {w : List Nat} {nn kn : Nat} (h : RW w nn kn) : Wd.num kn w < kn ^ nn := (Wd.spell_num nn w h.1 h.2).2
theorem ok_next_word {f : Addr} {fd : FuncData} (F : Fun K "next_word" "next_word" s_next_word f fd) (tt : Txt K mg ad) (C_looked_word : Cal P w K mg base (CX1 P w) "looked_word" 4 ["rule", "word"] (spLWX ad.Rule ad)) (C_number_of : Cal P w K mg base (CX1 P w) "number_of" 4 ["word", "kinds"] (spNumX ad)) :
    FnOk P w K mg base (CX1 P w) 5 f fd ["rule", "word"] (spNextW ad.Rule ad) := by
  refine F.okX sc_next_word (fun vs H Q E h => ?_) (fun cdv A outer s H vs Q E hr h => ?_)
  · obtain ⟨x, nn, kn, t, wd, rfl, _⟩ := h
    rfl
  · obtain ⟨x, nn, kn, t, wd, rfl, hR, hz, hto, hw, q1, q2⟩ := h
    have hs : sizeLine = 16777216 := sizeLine_eq
    obtain ⟨hk, hn, h64⟩ := id hz
    refine ⟨_, (pss_cons (ps_expr (pe_cal C_looked_word hr passX (pa_cons (pv 0) (pa_cons (pv 1) pa_nil))))
      (pss_one (ps_ret (pe_op op_add_T (pe_slice sl_T (pv 1) (po_some pe_int) po_none) (pe_ix ix_T (pe_fld (pv 0) rfl) (pe_cal C_number_of hr passX (pa_cons (pv 1) (pa_cons (pe_fld (pv 0) rfl) pa_nil))) (fun _ _ => rfl)))))), ?_⟩
    refine ⟨_, rfl, _, rfl, x, nn, kn, t, wd, rfl, hR, hz, hw, fun hg => ?_, q2⟩  -- looked_word(rule, word)
    obtain ⟨dx, hx⟩ := id hR
    have hnum := rw_num hg
    obtain ⟨c, hc⟩ : ∃ c, t[Wd.num kn wd]? = some c := ⟨_, List.getElem?_eq_getElem (by rw [hto.1]; exact hnum)⟩
    have ed : cutL wd (some 1) none = wd.drop 1 := cutL_from (k := 1) (by have := hg.1; omega)
    have hg1 := hg.1
    refine ⟨_, rfl, _, rfl, _, rfl, (by omega), _, rfl, x, ad.Rule, dx, _, _, rfl, hx, tt.cl_Rule, tt.na_Rule_told, rflds_t _ _ _, _, rfl, _, rfl, x, ad.Rule, dx, _, _, rfl, hx, tt.cl_Rule, tt.na_Rule_kinds, rflds_k _ _ _, wd, _, rfl, hw, fun z => absurd (by omega) z, fun kn' ek hk' => ?_⟩
    obtain rfl : kn = kn' := by omega
    refine ⟨fun _ => ?_, fun z => absurd (hg.good hn) z⟩
    rw [ed]
    have hdl : (wd.drop 1).length ≤ 8 := by rw [List.length_drop]; omega
    exact ⟨_, rfl, _, rfl, (by rw [hto.1]; omega), c, atI_nat hc, _, rfl, _, rfl, (by show (wd.drop 1).length + 1 ≤ sizeLine; omega), q1 hg c hc⟩

/-- the partners of a word -/
noncomputable def parts (kn : Nat) (w : List Nat) : List (List Nat) := ((([97, 98, 99, 100, 101, 102] : List Nat).take kn).filter fun c => !decide ([c] = w.take 1)).map fun c => c :: w.drop 1
noncomputable def spPartn (C : Addr) (ad : Adr) : Sp := fun vs H Q E => ∃ (x : Addr) (nn kn : Nat) (t w : List Nat), vs = [.ref x, T w] ∧ RuleAt C H x nn kn t ∧ SizeOk nn kn ∧ w.length ≤ 100000 ∧ (RW w nn kn → ∀ D H', H D = none → Same H H' → H' D = some (.lst ((parts kn w).map T)) → Q (.ref D) H') ∧ (¬ RW w nn kn → E (.ref ad.BadWord) none H)
theorem parts_of_comp (wd : List Nat) (sg : List Nat) : (((sg.map fun c => [c]).map T).filter (fun v => !decide (unT v = wd.take 1))).map (fun v => T (unT v ++ wd.drop 1)) = ((sg.filter fun c => !decide ([c] = wd.take 1)).map fun c => c :: wd.drop 1).map T := by
  induction sg with
  | nil => rfl
  | cons c sg ih =>
    rw [List.map_cons, List.map_cons, List.filter_cons, List.filter_cons, unT_T]
    split
    · rw [List.map_cons, List.map_cons, List.map_cons, ih, unT_T]
      rfl
    · exact ih
theorem ok_partners {f : Addr} {fd : FuncData} (F : Fun K "partners" "partners" s_partners f fd) (tt : Txt K mg ad) (C_looked_word : Cal P w K mg base (CX1 P w) "looked_word" 4 ["rule", "word"] (spLWX ad.Rule ad)) (C_letters : Cal P w K mg base (CX1 P w) "letters" 2 ["kinds"] (spLettersX ad)) :
    FnOk P w K mg base (CX1 P w) 5 f fd ["rule", "word"] (spPartn ad.Rule ad) := by
  refine F.okX sc_partners (fun vs H Q E h => ?_) (fun cdv A outer s H vs Q E hr h => ?_)
  · obtain ⟨x, nn, kn, t, wd, rfl, _⟩ := h
    rfl
  · obtain ⟨x, nn, kn, t, wd, rfl, hR, hz, hw, q1, q2⟩ := h
    have hs : sizeLine = 16777216 := sizeLine_eq
    obtain ⟨hk, hn, h64⟩ := id hz
    refine ⟨_, (pss_cons (ps_expr (pe_cal C_looked_word hr passX (pa_cons (pv 0) (pa_cons (pv 1) pa_nil))))
      (pss_one (ps_ret (pe_compf cs_partners_0 rfl (pi_str (pe_cal C_letters hr passX (pa_cons (pe_fld (pv 0) rfl) pa_nil))) (fun cl C s' H' fp => (pt_cmpR op_ne_T (pv 0) (pe_ix ix_T (pv 2) pe_int (fun _ _ => rfl)) (nomark _))) (fun cl C s' H' fp => (pe_op op_add_T (pv 0) (pe_slice sl_T (pv 2) (po_some pe_int) po_none))))))), ?_⟩
    refine ⟨_, rfl, _, rfl, x, nn, kn, t, wd, rfl, hR, hz, hw, fun hg => ?_, q2⟩  -- looked_word(rule, word)
    obtain ⟨dx, hx⟩ := id hR
    have hg1 := hg.1
    have ed : cutL wd (some 1) none = wd.drop 1 := cutL_from (k := 1) (by omega)
    obtain ⟨c0, hc0⟩ : ∃ c, wd[0]? = some c := ⟨_, List.getElem?_eq_getElem (by omega)⟩
    have ht1 : wd.take 1 = [c0] := by
      cases wd with
      | nil => simp at hc0
      | cons a l => simp at hc0; subst hc0; rfl
    refine ⟨_, rfl, x, ad.Rule, dx, _, _, rfl, hx, tt.cl_Rule, tt.na_Rule_kinds, rflds_k _ _ _, _, rfl, fun kn' ek hk' => ?_, fun z => absurd (by omega) z⟩  -- letters(rule.kinds)
    obtain rfl : kn = kn' := by omega
    refine ⟨_, rfl, ?_⟩
    refine compFG (vs := ((([97, 98, 99, 100, 101, 102] : List Nat).take kn).map fun c => [c]).map T) (fun v => !decide (unT v = wd.take 1)) (fun v => T (unT v ++ wd.drop 1)) reads_text (by rw [List.length_map, List.length_map, List.length_take]; omega) (fun v H3 hv s3 N hN => ?_) (fun v H3 hv hp s3 N hN => ?_) fun D1 H3 hD1 s3 hd3 => ?_
    · obtain ⟨l, hl', rfl⟩ := List.mem_map.mp hv
      obtain ⟨ch, hch, rfl⟩ := List.mem_map.mp hl'
      have g := hN H3 (Same.refl _)
      rw [unT_T, ht1] at g
      exact ⟨_, rfl, _, rfl, _, rfl, _, rfl, (by omega), c0, atI_nat (j := 0) hc0, _, rfl, _, rfl, _, rfl, g⟩
    · obtain ⟨l, hl', rfl⟩ := List.mem_map.mp hv
      obtain ⟨ch, hch, rfl⟩ := List.mem_map.mp hl'
      have g := hN H3 (Same.refl _)
      rw [unT_T, ← ed] at g
      have hdl : (cutL wd (some 1) none).length ≤ 8 := by rw [ed, List.length_drop]; omega
      exact ⟨_, rfl, _, rfl, _, rfl, _, rfl, (by omega), _, rfl, _, rfl, (by show 1 + (cutL wd (some 1) none).length ≤ sizeLine; omega), g⟩
    rw [parts_of_comp] at hd3
    exact q1 hg D1 H3 hD1 s3 hd3

theorem last_snoc (l : List Nat) (c : Nat) : atI (l ++ [c]) (-1) = some c := by
  show (ixN (l ++ [c]).length (-1)).bind _ = _
  unfold ixN
  rw [List.length_append, List.length_singleton, if_neg (by decide), if_pos (by omega), show ((-1 : Int) + ((l.length + 1 : Nat) : Int)).toNat = l.length by omega]
  show (l ++ [c])[l.length]? = _
  rw [List.getElem?_append_right (Nat.le_refl _), Nat.sub_self]
  rfl
/-- letters exchanged at two places -/
noncomputable def swt (t : List Nat) (i j a b : Nat) : List Nat := (t.set i b).set j a
theorem swt_tell {t : List Nat} {nn kn i j a b : Nat} (h : TellOk t nn kn) (ha : t[i]? = some a) (hb : t[j]? = some b) : TellOk (swt t i j a b) nn kn := by
  refine ⟨by unfold swt; rw [List.length_set, List.length_set]; exact h.1, fun c hc => ?_⟩
  unfold swt at hc
  rcases List.mem_or_eq_of_mem_set hc with g | rfl
  · rcases List.mem_or_eq_of_mem_set g with g | rfl
    · exact h.2 c g
    · exact h.2 c (List.mem_of_getElem? hb)
  · exact h.2 c (List.mem_of_getElem? ha)
noncomputable def spExch (C : Addr) (ad : Adr) : Sp := fun vs H Q E => ∃ (x : Addr) (nn kn : Nat) (t one two : List Nat), vs = [.ref x, T one, T two] ∧ RuleAt C H x nn kn t ∧ SizeOk nn kn ∧ TellOk t nn kn ∧ one.length ≤ 100000 ∧ two.length ≤ 100000 ∧ (¬ RW one nn kn → E (.ref ad.BadWord) none H) ∧ (RW one nn kn → ¬ RW two nn kn → E (.ref ad.BadWord) none H) ∧
  (RW one nn kn → RW two nn kn → ¬ two ∈ parts kn one → ∀ H', Same H H' → E (.ref ad.BadDeed) none H') ∧
  (RW one nn kn → RW two nn kn → two ∈ parts kn one → ∀ (y : Addr) (a b : Nat) (H' : Hp), t[Wd.num kn one]? = some a → t[Wd.num kn two]? = some b → Same H H' → RuleAt C H' y nn kn (swt t (Wd.num kn one) (Wd.num kn two) a b) → Q (.ref y) H')
theorem ok_exchanged {f : Addr} {fd : FuncData} (F : Fun K "exchanged" "exchanged" s_exchanged f fd) (tt : Txt K mg ad) (C_looked_word : Cal P w K mg base (CX1 P w) "looked_word" 4 ["rule", "word"] (spLWX ad.Rule ad)) (C_partners : Cal P w K mg base (CX1 P w) "partners" 5 ["rule", "word"] (spPartn ad.Rule ad)) (C_number_of : Cal P w K mg base (CX1 P w) "number_of" 4 ["word", "kinds"] (spNumX ad))
    (C_next_word : Cal P w K mg base (CX1 P w) "next_word" 5 ["rule", "word"] (spNextW ad.Rule ad)) (C_Rule_init : Cam P w K mg base (CX1 P w) "Rule" ad.Rule 4 ["self", "length", "kinds", "told"] (spRuleI ad.Rule ad)) :
    FnOk P w K mg base (CX1 P w) 6 f fd ["rule", "one", "two"] (spExch ad.Rule ad) := by
  refine F.okX sc_exchanged (fun vs H Q E h => ?_) (fun cdv A outer s H vs Q E hr h => ?_)
  · obtain ⟨x, nn, kn, t, one, two, rfl, _⟩ := h
    rfl
  · obtain ⟨x, nn, kn, t, one, two, rfl, hR, hz, hto, hl1, hl2, x1, x2, x3, q⟩ := h
    have hs : sizeLine = 16777216 := sizeLine_eq
    obtain ⟨hk, hn, h64⟩ := id hz
    refine ⟨_, (pss_cons (ps_expr (pe_cal C_looked_word hr passX (pa_cons (pv 0) (pa_cons (pv 1) pa_nil))))
      (pss_cons (ps_expr (pe_cal C_looked_word hr passX (pa_cons (pv 0) (pa_cons (pv 2) pa_nil))))
      (pss_cons (ps_if (pt_cmpR op_notIn_seq (pv 2) (pe_cal C_partners hr passX (pa_cons (pv 0) (pa_cons (pv 1) pa_nil))) (by with_unfolding_all rfl)) (pss_one (ps_raise (E := fun cls H' => E cls none H') tt.x_BadDeed rfl (fun _ _ _ _ _ _ _ I hx q => raiseX I hx q) (pa_cons (pe_strT [116, 104, 101, 32, 116, 119, 111, 32, 119, 111, 114, 100, 115, 32, 97, 114, 101, 32, 110, 111, 32, 112, 97, 114, 116, 110, 101, 114, 115] (by decide +kernel)) pa_nil))) pss_nil)
      (pss_cons (ps_set (i := 3) sc_exchanged.nd rfl (Or.inl rfl) (pe_callTy (call_listT rfl) (by rfl) tt.b_list (by decide +kernel) (pa_cons (pe_fld (pv 0) rfl) pa_nil)))
      (pss_cons (ps_asg (pe_ix ix_T (pe_cal C_next_word hr passX (pa_cons (pv 0) (pa_cons (pv 2) pa_nil))) (pe_un un_neg pe_int) (fun _ _ => rfl)) (pg_sub (pv 3) (pe_cal C_number_of hr passX (pa_cons (pv 1) (pa_cons (pe_fld (pv 0) rfl) pa_nil))) set_list))
      (pss_cons (ps_asg (pe_ix ix_T (pe_cal C_next_word hr passX (pa_cons (pv 0) (pa_cons (pv 1) pa_nil))) (pe_un un_neg pe_int) (fun _ _ => rfl)) (pg_sub (pv 3) (pe_cal C_number_of hr passX (pa_cons (pv 2) (pa_cons (pe_fld (pv 0) rfl) pa_nil))) set_list))
      (pss_one (ps_ret (pe_mak C_Rule_init hr passX (pa_cons (pe_fld (pv 0) rfl) (pa_cons (pe_fld (pv 0) rfl) (pa_cons (pe_bm PySem.F.plainAttrs_str PySem.F.slot_str_join PySem.F.type_str_join mt_join (pe_strT [] (by decide +kernel)) (pa_cons (pv 3) pa_nil)) pa_nil)))))))))))), ?_⟩
    refine ⟨_, rfl, _, rfl, x, nn, kn, t, one, rfl, hR, hz, hl1, fun h1 => ?_, x1⟩  -- looked_word(rule, one)
    refine ⟨_, rfl, _, rfl, x, nn, kn, t, two, rfl, hR, hz, hl2, fun h2 => ?_, x2 h1⟩  -- looked_word(rule, two)
    refine ⟨_, rfl, _, rfl, _, rfl, x, nn, kn, t, one, rfl, hR, hz, hl1, fun _ D1 H1 hD1 s1 hd1 => ?_, fun z => absurd h1 z⟩  -- partners(rule, one)
    refine ⟨D1, _, rfl, .inl (SqL.of hd1), rfl, all_flat _, _, rfl, ?_⟩
    by_cases hp : two ∈ parts kn one
    case neg =>
      refine itP (by rw [inV_T, decide_eq_false hp]; rfl) ?_
      exact ⟨(by show 1 ≤ sizeLine; omega), x3 h1 h2 hp H1 s1⟩
    refine itN (by rw [inV_T, decide_eq_true hp]; exact Bool.false_ne_true) ?_
    have n1 := rw_num h1
    have n2 := rw_num h2
    obtain ⟨a, ha⟩ : ∃ c, t[Wd.num kn one]? = some c := ⟨_, List.getElem?_eq_getElem (by rw [hto.1]; exact n1)⟩
    obtain ⟨b, hb⟩ : ∃ c, t[Wd.num kn two]? = some c := ⟨_, List.getElem?_eq_getElem (by rw [hto.1]; exact n2)⟩
    have q := q h1 h2 hp
    have hR1 := hR.on s1
    obtain ⟨dx, hx⟩ := id hR1
    have htl := hto.1
    refine ⟨_, rfl, x, ad.Rule, dx, _, _, rfl, hx, tt.cl_Rule, tt.na_Rule_told, rflds_t _ _ _, t, rfl, (by omega), fun D hD => ?_⟩  -- told = list(rule.told)
    have t2 := same_upd (o := .lst ((t.map fun c => [c]).map T)) hD
    obtain ⟨H2, hH2, s2, hd2⟩ := namedD t2
    rw [← hH2]
    have hR2 := hR1.on s2
    have hx2 := s2 x _ hx
    have d1 : (two.drop 1).length ≤ 8 := by rw [List.length_drop, h2.1]; omega
    have d2 : (one.drop 1).length ≤ 8 := by rw [List.length_drop, h1.1]; omega
    refine ⟨_, rfl, _, rfl, x, nn, kn, t, two, rfl, hR2, hz, hto, hl2, fun _ c hc => ?_, fun z => absurd h2 z⟩  -- next_word(rule, two)
    obtain rfl : b = c := Option.some.inj (hb.symm.trans hc)
    refine ⟨_, rfl, _, rfl, _, rfl, (by rw [List.length_append, List.length_singleton]; omega), b, last_snoc _ _, ?_⟩
    refine ⟨_, rfl, _, rfl, _, rfl, x, ad.Rule, dx, _, _, rfl, hx2, tt.cl_Rule, tt.na_Rule_kinds, rflds_k _ _ _, one, _, rfl, hl1, fun z => absurd (by omega) z, fun kn' ek hk' => ?_⟩  -- number_of(one, rule.kinds)
    obtain rfl : kn = kn' := by omega
    refine ⟨fun _ => ?_, fun z => absurd (h1.good hn) z⟩
    refine ⟨D, _, _, Wd.num kn one, rfl, rfl, hd2, ixN_nat (by rw [List.length_map, List.length_map]; omega), ?_⟩
    rw [show ((t.map fun c => [c]).map T).set (Wd.num kn one) (T [b]) = ((t.set (Wd.num kn one) b).map fun c => [c]).map T by rw [set_map T, set_map fun c => [c]]]
    have s3 : Same H1 (upd H2 D (.lst (((t.set (Wd.num kn one) b).map fun c => [c]).map T))) := fun c o e => by rw [upd_ne (ne_of_none e hD)]; exact s2 c o e
    generalize hH3 : upd H2 D (.lst (((t.set (Wd.num kn one) b).map fun c => [c]).map T)) = H3 at s3 ⊢
    have hd3 : H3 D = some (.lst (((t.set (Wd.num kn one) b).map fun c => [c]).map T)) := by rw [← hH3]; exact upd_same
    have hR3 := hR1.on s3
    refine ⟨_, rfl, _, rfl, x, nn, kn, t, one, rfl, hR3, hz, hto, hl1, fun _ c hc => ?_, fun z => absurd h1 z⟩  -- next_word(rule, one)
    obtain rfl : a = c := Option.some.inj (ha.symm.trans hc)
    refine ⟨_, rfl, _, rfl, _, rfl, (by rw [List.length_append, List.length_singleton]; omega), a, last_snoc _ _, ?_⟩
    refine ⟨_, rfl, _, rfl, _, rfl, x, ad.Rule, dx, _, _, rfl, s3 x _ hx, tt.cl_Rule, tt.na_Rule_kinds, rflds_k _ _ _, two, _, rfl, hl2, fun z => absurd (by omega) z, fun kn' ek hk' => ?_⟩  -- number_of(two, rule.kinds)
    obtain rfl : kn = kn' := by omega
    refine ⟨fun _ => ?_, fun z => absurd (h2.good hn) z⟩
    refine ⟨D, _, _, Wd.num kn two, rfl, rfl, hd3, ixN_nat (by rw [List.length_map, List.length_map, List.length_set]; omega), ?_⟩
    rw [show (((t.set (Wd.num kn one) b).map fun c => [c]).map T).set (Wd.num kn two) (T [a]) = ((swt t (Wd.num kn one) (Wd.num kn two) a b).map fun c => [c]).map T by rw [set_map T, set_map fun c => [c]]; rfl]
    have htell := swt_tell hto ha hb
    have q := fun (y : Addr) (H' : Hp) => q y a b H' ha hb
    generalize swt t (Wd.num kn one) (Wd.num kn two) a b = t' at htell q ⊢
    have s4 : Same H1 (upd H3 D (.lst ((t'.map fun c => [c]).map T))) := fun c o e => by rw [upd_ne (ne_of_none e hD)]; exact s3 c o e
    generalize hH4 : upd H3 D (.lst ((t'.map fun c => [c]).map T)) = H4 at s4 ⊢
    have hd4 : H4 D = some (.lst ((t'.map fun c => [c]).map T)) := by rw [← hH4]; exact upd_same
    have hx4 := s4 x _ hx
    have htl' := htell.1
    refine ⟨_, rfl, x, ad.Rule, dx, _, _, rfl, hx4, tt.cl_Rule, tt.na_Rule_length, rflds_l _ _ _, _, rfl, x, ad.Rule, dx, _, _, rfl, hx4, tt.cl_Rule, tt.na_Rule_kinds, rflds_k _ _ _, rfl, _, rfl, rfl, D, _, rfl, SqL.of hd4, (by rw [signs_flat]; omega), ?_⟩
    rw [signs_flat]
    intro y dy ny ndy ney  -- Rule(..)
    refine ⟨y, dy, _, _, t', rfl, upd_same, (by omega), fun z => absurd (by omega) z, fun _ z => absurd (by omega) z, fun kn' nn' ek en _ _ => ?_⟩
    obtain rfl : kn = kn' := by omega
    obtain rfl : nn = nn' := by omega
    refine ⟨fun z => absurd z (by omega), fun _ z => absurd htell z, fun _ _ H' keep hy => ⟨rfl, ?_⟩⟩
    refine q y H' (fun c o e => keep c o ?_ ?_) ⟨dy, hy⟩
    · have := (s1.trans s4) c o e
      rw [upd_ne (ne_of_none this ny), upd_ne (ne_of_none this ndy)]
      exact this
    · exact ne_of_none ((s1.trans s4) c o e) ny

noncomputable def stirZ (c k : Int) : Int := (c % 1000000007 * 48271 + (k + 1) * (k + 1) * 69621) % 2147483647 * ((c % 1000000007 * 48271 + (k + 1) * (k + 1) * 69621) % 2147483647) % 2147483629
noncomputable def spStir : Sp := fun vs H Q _ => ∃ (c k : Int), vs = [.int c, .int k] ∧ (0 ≤ k ∧ k ≤ 1000) ∧ Q (.int (stirZ c k)) H
theorem ok__law_stir {f : Addr} {fd : FuncData} (F : Fun K "_law_stir" "_law_stir" s__law_stir f fd) (tt : Txt K mg ad) : FnOk P w K mg base (CX1 P w) 1 f fd ["cell", "k"] spStir := by
  refine F.okN sc__law_stir (fun vs H Q E h => ?_) (fun cdv A outer s H vs Q E hr h => ?_)
  · obtain ⟨c, k, rfl, _⟩ := h
    rfl
  · obtain ⟨c, k, rfl, hk, q⟩ := h
    refine ⟨_, (pss_cons (ps_set (i := 2) sc__law_stir.nd rfl (Or.inl rfl) (pe_op op_mod (pe_op op_add (pe_op op_mul (pe_op op_mod (pv 0) pe_int) pe_int) (pe_op op_mul (pe_op op_mul (pe_op op_add (pv 1) pe_int) (pe_op op_add (pv 1) pe_int)) pe_int)) pe_int))
      (pss_one (ps_ret (pe_op op_mod (pe_op op_mul (pv 2) (pv 2)) pe_int)))), ?_⟩
    refine ⟨_, rfl, _, _, rfl, rfl, (by show (0 : Int) < 1000000007; decide), _, _, rfl, rfl, .inr ⟨by decide, by decide⟩, _, rfl, _, _, rfl, rfl, _, rfl, _, _, rfl, rfl, _, _, rfl, rfl, .inl ⟨by omega, by omega⟩, _, _, rfl, rfl, .inr ⟨by decide, by decide⟩, _, _, rfl, rfl, _, _, rfl, rfl, (by show (0 : Int) < 2147483647; decide), ?_⟩
    dsimp only
    have h1 := Int.emod_nonneg (c % 1000000007 * 48271 + (k + 1) * (k + 1) * 69621) (show (2147483647 : Int) ≠ 0 by decide)
    have h2 := Int.emod_lt_of_pos (c % 1000000007 * 48271 + (k + 1) * (k + 1) * 69621) (show (0 : Int) < 2147483647 by decide)
    unfold stirZ at q
    exact ⟨_, rfl, _, rfl, _, _, rfl, rfl, .inl ⟨by omega, by omega⟩, _, _, rfl, rfl, (by show (0 : Int) < 2147483629; decide), q⟩
theorem abc_range {k : Nat} (h : k ≤ 6) : ([97, 98, 99, 100, 101, 102] : List Nat).take k = (List.range k).map (97 + ·) := by
  have key : ∀ k : Nat, k < 7 → ([97, 98, 99, 100, 101, 102] : List Nat).take k = (List.range k).map (97 + ·) := by decide
  exact key k (by omega)
theorem fm_len {k : Nat} (l : List (List Nat)) : (l.flatMap fun w => (List.range k).map fun c => w ++ [97 + c]).length = l.length * k := by
  induction l with
  | nil => simp
  | cons a l ih => rw [List.flatMap_cons, List.length_append, ih, List.length_map, List.length_range, List.length_cons, Nat.add_mul]; omega

noncomputable def spWordsL : Sp := fun vs H Q _ => ∃ nn kn : Nat, vs = [.int (nn : Nat), .int (kn : Nat)] ∧ ((1 ≤ kn ∧ kn ≤ 6) ∧ nn ≤ 24 ∧ kn ^ nn ≤ 4096) ∧ ∀ D H', H D = none → Same H H' → H' D = some (.lst ((Wd.allW kn nn).map T)) → Q (.ref D) H'
theorem ok__law_words {f : Addr} {fd : FuncData} (F : Fun K "_law_words" "_law_words" s__law_words f fd) (tt : Txt K mg ad) : FnOk P w K mg base (CX1 P w) 1 f fd ["length", "kinds"] spWordsL := by
  refine F.okN sc__law_words (fun vs H Q E h => ?_) (fun cdv A outer s H vs Q E hr h => ?_)
  · obtain ⟨nn, kn, rfl, _⟩ := h
    rfl
  · obtain ⟨n, k, rfl, ⟨hk, hn, hpw⟩, q⟩ := h
    have hs : sizeLine = 16777216 := sizeLine_eq
    refine ⟨_, (pss_cons (ps_set (i := 2) sc__law_words.nd rfl (Or.inl rfl) (pe_lst (pa_cons (pe_strT [] (by decide +kernel)) pa_nil)))
      (pss_cons (ps_for PassesOwn.never rfl (pi_range1 (by rfl) tt.b_range (pa_cons (pv 0) pa_nil)) (pg_name (i := 3) sc__law_words.nd rfl (Or.inl rfl)) (pss_cons (ps_set (i := 4) sc__law_words.nd rfl (Or.inl rfl) (pe_lst pa_nil))
      (pss_cons (ps_for PassesOwn.never rfl (pi_list (pv 2)) (pg_name (i := 5) sc__law_words.nd rfl (Or.inl rfl)) (pss_one (ps_for PassesOwn.never rfl (pi_str (pe_slice sl_T (pe_strT [97, 98, 99, 100, 101, 102] (by decide +kernel)) po_none (po_some (pv 1)))) (pg_name (i := 6) sc__law_words.nd rfl (Or.inl rfl)) (pss_one (ps_expr (pe_bm PySem.F.plainAttrs_list PySem.F.slot_list_append PySem.F.type_list_append mt_append (pv 4) (pa_cons (pe_op op_add_T (pv 5) (pv 6)) pa_nil)))))))
      (pss_one (ps_set (i := 2) sc__law_words.nd rfl (Or.inl rfl) (pv 4))))))
      (pss_one (ps_ret (pv 2))))), ?_⟩
    refine ⟨(by show 1 ≤ sizeLine; omega), fun p hp => ?_⟩  -- words = ['']
    refine ⟨_, rfl, _, rfl, by omega, by omega, ?_⟩  -- for range(length)
    rw [Int.toNat_natCast]
    refine for_range (fun i σ H2 => Same H H2 ∧ ∃ (D : Addr) (v1 v2 v3 v4 : Option V), H D = none ∧ H2 D = some (.lst ((Wd.allW k i).map T)) ∧ σ = [some (.int (n : Nat)), some (.int (k : Nat)), some (.ref D), v1, v2, v3, v4])
      ⟨(fun b o e => by rw [upd_ne (ne_of_none e hp)]; exact e), p, none, none, none, none, hp, upd_same, rfl⟩ ?_ ?_
    · rintro i σ H2 hi ⟨s2, D, v1, v2, v3, v4, hD, hd, rfl⟩
      have hpi : k ^ i * k ≤ 4096 := by
        rw [← Nat.pow_succ]
        exact Nat.le_trans (Nat.pow_le_pow_right (by omega) (by omega)) hpw
      refine ⟨(by show 0 ≤ sizeLine; omega), fun L hL => ?_⟩  -- longer = []
      have sA : Same H2 (upd H2 L (.lst [])) := same_upd hL
      refine ⟨_, rfl, D, rfl, ⟨_, SqL.of (sA D _ hd)⟩, ?_⟩  -- for words
      refine for_list (K := K) (a := D) (xs := (Wd.allW k i).map T) (fun j σ H3 => Same H2 H3 ∧ ∃ (v3 v4 : Option V), H3 L = some (.lst ((((Wd.allW k i).take j).flatMap fun w => (List.range k).map fun c => w ++ [97 + c]).map T)) ∧ σ = [some (.int (n : Nat)), some (.int (k : Nat)), some (.ref D), some (.int (0 + (i : Int))), some (.ref L), v3, v4])
        ⟨sA, _, _, upd_same, rfl⟩ (fun j σ H3 _ h => SqL.of (h.1 D _ hd)) ?_ ?_
      · rintro j y σ H3 hj ⟨s3, v3, v4, hLd, rfl⟩
        have hjl : j < (Wd.allW k i).length := by
          have := (List.getElem?_eq_some_iff.mp hj).1
          rw [List.length_map] at this
          exact this
        have hjx : (Wd.allW k i)[j]? = some (Wd.allW k i)[j] := List.getElem?_eq_getElem hjl
        obtain rfl : y = T (Wd.allW k i)[j] := by
          rw [List.getElem?_map, hjx] at hj
          exact (Option.some.inj hj).symm
        have hwl : ((Wd.allW k i)[j]).length = i := ((Wd.mem_allW (by omega)).mp (List.getElem_mem hjl)).1
        generalize (Wd.allW k i)[j] = wd at hjx hwl hj
        rw [Wd.allW_len] at hjl
        refine ⟨_, rfl, _, rfl, _, rfl, (by show 6 ≤ sizeLine; omega), ?_⟩  -- 'abcdef'[:kinds]
        rw [cutL_take, abc_range hk.2]
        refine ⟨_, rfl, ?_⟩
        refine for_text (l := (List.range k).map (97 + ·)) (fun m σ H4 => Same H2 H4 ∧ ∃ (v4 : Option V), H4 L = some (.lst (((((Wd.allW k i).take j).flatMap fun w => (List.range k).map fun c => w ++ [97 + c]) ++ ((((List.range k).map (97 + ·)).take m).map fun c => wd ++ [c])).map T)) ∧ σ = [some (.int (n : Nat)), some (.int (k : Nat)), some (.ref D), some (.int (0 + (i : Int))), some (.ref L), some (T wd), v4])
          ⟨s3, v4, by rw [List.take_zero, List.map_nil, List.append_nil]; exact hLd, rfl⟩ ?_ ?_
        · rintro m c σ H4 hm ⟨s4, v4, hL4, rfl⟩
          have hml : m < k := by
            have := (List.getElem?_eq_some_iff.mp hm).1
            rw [List.length_map, List.length_range] at this
            exact this
          refine ⟨_, rfl, .inl ⟨rfl, _, SqL.of hL4⟩, _, rfl, _, rfl, _, rfl, _, rfl, (by show wd.length + 1 ≤ sizeLine; omega), L, _, _, rfl, rfl, hL4, ?_, ?_⟩  -- longer.append(word + letter)
          · rw [List.length_map, List.length_append, fm_len, List.length_map, List.length_take, List.length_take, Wd.allW_len, List.length_map, List.length_range]
            have : min j (k ^ i) * k ≤ k ^ i * k := Nat.mul_le_mul_right _ (Nat.min_le_right _ _)
            omega
          · refine ⟨fun b o e => by rw [upd_ne (ne_of_none e hL)]; exact s4 b o e, some (T [c]), ?_, rfl⟩
            rw [List.take_add_one, hm]
            refine upd_same.trans ?_
            simp
        · rintro σ H4 ⟨s4, v4, hL4, rfl⟩
          refine ⟨s4, _, _, ?_, rfl⟩
          rw [hL4, List.take_length, List.take_add_one, hjx, List.flatMap_append, List.map_map]
          simp
      · rintro σ H3 ⟨s3, v3, v4, hLd, rfl⟩
        rw [List.length_map, List.take_length, ← Wd.allW_succ k i (by omega)] at hLd
        refine ⟨_, rfl, s2.trans s3, L, _, _, _, _, ?_, hLd, rfl⟩  -- words = longer
        cases hq : H L with
        | none => rfl
        | some o => have := s2 _ _ hq; rw [hL] at this; cases this
    · rintro σ H2 ⟨s2, D, v1, v2, v3, v4, hD, hd, rfl⟩
      exact ⟨_, rfl, q D H2 hD s2 hd⟩  -- return words

noncomputable def spTexts (K : PySem.W.Frag) : Sp := fun vs H Q _ => ∃ (a b : Addr) (ls : List (List Nat)), vs = [.ref a, .ref b] ∧ H a = some (.lst (ls.map T)) ∧ SqL K H b (ls.map T) ∧ ls.length ≤ 1000 ∧ ∀ H', Same H H' → Q (.bl true) H'
theorem ok__law_texts {f : Addr} {fd : FuncData} (F : Fun K "_law_texts" "_law_texts" s__law_texts f fd) (tt : Txt K mg ad) : FnOk P w K mg base (CX1 P w) 1 f fd ["found", "due"] (spTexts K) := by
  refine F.okN sc__law_texts (fun vs H Q E h => ?_) (fun cdv A outer s H vs Q E hr h => ?_)
  · obtain ⟨a, b, ls, rfl, _⟩ := h
    rfl
  · obtain ⟨a, b, ls, rfl, ha, hb, hl, q⟩ := h
    have hs : sizeLine = 16777216 := sizeLine_eq
    refine ⟨_, (pss_cons (ps_if (PW.pt (pw_or (pt_not (pt_val (pe_callB call_isinst (by rfl) tt.b_isinstance PyProof.Rows.boot_isinstance (pa_cons (pv 0) (pa_cons (pe_bltn (v := .ty "list") (u := .type "list") (by rfl) tt.b_list (by decide +kernel) rfl) pa_nil))))) (pw_or1 (pt_cmpR op_ne_I (pe_callB call_len_seq (by rfl) tt.b_len PySem.boot_len (pa_cons (pv 0) pa_nil)) (pe_callB call_len_seq (by rfl) tt.b_len PySem.boot_len (pa_cons (pv 1) pa_nil)) (nomark _))))) (pss_one (ps_ret pe_bl)) pss_nil)
      (pss_cons (ps_for PassesOwn.never rfl (pi_zip (by rfl) tt.b_zip (pa_cons (pv 0) (pa_cons (pv 1) pa_nil))) (pg_tup rfl (pgs_cons (pg_name (i := 2) sc__law_texts.nd rfl (Or.inl rfl)) (pgs_cons (pg_name (i := 3) sc__law_texts.nd rfl (Or.inl rfl)) pgs_nil))) (pss_one (ps_if (PW.pt (pw_or (pt_not (pt_val (pe_callB call_isinst (by rfl) tt.b_isinstance PyProof.Rows.boot_isinstance (pa_cons (pv 2) (pa_cons (pe_bltn (v := .ty "str") (u := .type "str") (by rfl) tt.b_str (by decide +kernel) rfl) pa_nil))))) (pw_or1 (pt_cmpR op_ne_T (pv 2) (pv 3) (nomark _))))) (pss_one (ps_ret pe_bl)) pss_nil)))
      (pss_one (ps_ret pe_bl)))), ?_⟩
    refine ⟨_, rfl, _, _, _, _, rfl, .lst ha, kit_same _, _, rfl, iteF ?_⟩  -- isinstance(found, list)
    refine ⟨_, rfl, a, _, rfl, .inl (SqL.of ha), _, rfl, b, _, rfl, .inl hb, _, rfl, _, rfl, _, rfl, iteNS rfl ?_⟩  -- len(found) != len(due)
    refine ⟨_, rfl, _, rfl, a, b, rfl, ⟨_, SqL.of ha⟩, ⟨_, hb⟩, ?_⟩  -- for one, text in zip(found, due)
    refine for_zip (K := K) (a := a) (b := b) (xs := ls.map T) (ys := ls.map T) (fun i σ H2 => Same H H2 ∧ ∃ v2 v3 : Option V, σ = [some (.ref a), some (.ref b), v2, v3]) ⟨Same.refl _, none, none, rfl⟩ rfl (fun i σ H2 _ h => ⟨SqL.of (h.1 a _ ha), h.1.seq hb⟩) ?_ ?_
    · rintro i x y p σ H2 hx hy hp ⟨s2, v2, v3, rfl⟩
      obtain rfl : x = y := Option.some.inj (hx.symm.trans hy)
      obtain ⟨l, hl', rfl⟩ : ∃ l, ls[i]? = some l ∧ T l = x := by rw [List.getElem?_map] at hx; exact Option.map_eq_some_iff.mp hx
      have t2 := same_upd (o := .tup [T l, T l]) hp
      refine ⟨p, _, rfl, SqT.of upd_same, rfl, _, _, rfl, _, _, rfl, rfl, ?_⟩
      refine ⟨_, rfl, _, _, _, _, rfl, .str _, kit_same _, _, rfl, iteF ?_⟩  -- isinstance(one, str)
      refine ⟨_, rfl, _, rfl, _, rfl, _, rfl, _, rfl, itN (by rw [decide_eq_true rfl]; exact Bool.false_ne_true) ?_⟩  -- one != text
      exact ⟨s2.trans t2, _, _, rfl⟩
    · rintro σ H2 ⟨s2, v2, v3, rfl⟩
      exact q H2 s2

noncomputable def szs : List (Nat × Nat) := [(6, 2), (5, 2), (3, 4), (3, 3), (2, 6), (2, 5), (4, 2), (2, 4), (2, 3), (3, 2), (2, 2), (1, 6), (1, 5), (1, 4), (1, 3), (1, 2), (1, 1), (5, 1), (8, 1)]
noncomputable def PairAt (H : Hp) : List V → List (Nat × Nat) → Prop
  | [], [] => True
  | v :: vs, z :: zs => (∃ p : Addr, v = .ref p ∧ H p = some (.tup [.int (z.1 : Nat), .int (z.2 : Nat)])) ∧ PairAt H vs zs
  | _, _ => False
theorem PairAt.on {H G : Hp} (s : Same H G) : ∀ {vs : List V} {zs : List (Nat × Nat)}, PairAt H vs zs → PairAt G vs zs
  | [], [], _ => trivial
  | _ :: _, _ :: _, ⟨⟨p, e, h⟩, r⟩ => ⟨⟨p, e, s p _ h⟩, r.on s⟩
theorem PairAt.app {H : Hp} : ∀ {vs us : List V} {zs ys : List (Nat × Nat)}, PairAt H vs zs → PairAt H us ys → PairAt H (vs ++ us) (zs ++ ys)
  | [], _, [], _, _, h => h
  | _ :: _, _, _ :: _, _, ⟨a, b⟩, h => ⟨a, b.app h⟩
theorem PairAt.get {H : Hp} : ∀ {vs : List V} {zs : List (Nat × Nat)} {i : Nat}, PairAt H vs zs → i < vs.length → ∃ (p : Addr) (z : Nat × Nat), vs[i]? = some (.ref p) ∧ z ∈ zs ∧ H p = some (.tup [.int (z.1 : Nat), .int (z.2 : Nat)])
  | v :: vs, z :: zs, 0, ⟨⟨p, e, h⟩, _⟩, _ => ⟨p, z, by rw [e]; rfl, List.mem_cons_self .., h⟩
  | v :: vs, z :: zs, i + 1, ⟨_, r⟩, hi => by
    obtain ⟨p, y, e, m, h⟩ := r.get (i := i) (by simpa using hi)
    exact ⟨p, y, by simpa using e, List.mem_cons_of_mem _ m, h⟩
noncomputable def spSizeL : Sp := fun vs H Q _ => ∃ c : Int, vs = [.int c] ∧ ∀ (tp : Addr) (nn kn : Nat) (H' : Hp), Same H H' → H' tp = some (.tup [.int (nn : Nat), .int (kn : Nat)]) → SizeOk nn kn → Q (.ref tp) H'
theorem ok__law_size {f : Addr} {fd : FuncData} (F : Fun K "_law_size" "_law_size" s__law_size f fd) (tt : Txt K mg ad) : FnOk P w K mg base (CX1 P w) 1 f fd ["cell"] spSizeL := by
  refine F.okN sc__law_size (fun vs H Q E h => ?_) (fun cdv A outer s H vs Q E hr h => ?_)
  · obtain ⟨c, rfl, _⟩ := h
    rfl
  · obtain ⟨c, rfl, q⟩ := h
    have hs : sizeLine = 16777216 := sizeLine_eq
    refine ⟨_, (pss_cons (ps_set (i := 1) sc__law_size.nd rfl (Or.inl rfl) (pe_lst (pa_cons (pe_tup (pa_cons pe_int (pa_cons pe_int pa_nil))) (pa_cons (pe_tup (pa_cons pe_int (pa_cons pe_int pa_nil))) (pa_cons (pe_tup (pa_cons pe_int (pa_cons pe_int pa_nil))) (pa_cons (pe_tup (pa_cons pe_int (pa_cons pe_int pa_nil))) (pa_cons (pe_tup (pa_cons pe_int (pa_cons pe_int pa_nil))) (pa_cons (pe_tup (pa_cons pe_int (pa_cons pe_int pa_nil))) (pa_cons (pe_tup (pa_cons pe_int (pa_cons pe_int pa_nil))) (pa_cons (pe_tup (pa_cons pe_int (pa_cons pe_int pa_nil))) (pa_cons (pe_tup (pa_cons pe_int (pa_cons pe_int pa_nil))) (pa_cons (pe_tup (pa_cons pe_int (pa_cons pe_int pa_nil))) (pa_cons (pe_tup (pa_cons pe_int (pa_cons pe_int pa_nil))) pa_nil)))))))))))))
      (pss_cons (ps_set (i := 1) sc__law_size.nd rfl (Or.inl rfl) (pe_op op_catL (pv 1) (pe_lst (pa_cons (pe_tup (pa_cons pe_int (pa_cons pe_int pa_nil))) (pa_cons (pe_tup (pa_cons pe_int (pa_cons pe_int pa_nil))) (pa_cons (pe_tup (pa_cons pe_int (pa_cons pe_int pa_nil))) (pa_cons (pe_tup (pa_cons pe_int (pa_cons pe_int pa_nil))) (pa_cons (pe_tup (pa_cons pe_int (pa_cons pe_int pa_nil))) (pa_cons (pe_tup (pa_cons pe_int (pa_cons pe_int pa_nil))) (pa_cons (pe_tup (pa_cons pe_int (pa_cons pe_int pa_nil))) (pa_cons (pe_tup (pa_cons pe_int (pa_cons pe_int pa_nil))) pa_nil)))))))))))
      (pss_one (ps_ret (pe_ix ix_list (pv 1) (pe_op op_mod (pv 0) (pe_callB call_len_seq (by rfl) tt.b_len PySem.boot_len (pa_cons (pv 1) pa_nil))) (fun _ _ => rfl)))))), ?_⟩
    refine ⟨(by show 2 ≤ sizeLine; omega), fun pa0 hpa0 => ?_⟩
    obtain ⟨Ga0, hGa0, ta0, da0⟩ := namedD (same_upd (o := .tup [.int 6, .int 2]) hpa0)
    rw [← hGa0]
    have ga0 := (show PairAt Ga0 [.ref pa0] [(6, 2)] from ⟨⟨pa0, rfl, da0⟩, trivial⟩)
    have sa0 := ta0
    refine ⟨(by show 2 ≤ sizeLine; omega), fun pa1 hpa1 => ?_⟩
    obtain ⟨Ga1, hGa1, ta1, da1⟩ := namedD (same_upd (o := .tup [.int 5, .int 2]) hpa1)
    rw [← hGa1]
    have ga1 := PairAt.app (PairAt.on ta1 ga0) (show PairAt Ga1 [.ref pa1] [(5, 2)] from ⟨⟨pa1, rfl, da1⟩, trivial⟩)
    have sa1 := sa0.trans ta1
    refine ⟨(by show 2 ≤ sizeLine; omega), fun pa2 hpa2 => ?_⟩
    obtain ⟨Ga2, hGa2, ta2, da2⟩ := namedD (same_upd (o := .tup [.int 3, .int 4]) hpa2)
    rw [← hGa2]
    have ga2 := PairAt.app (PairAt.on ta2 ga1) (show PairAt Ga2 [.ref pa2] [(3, 4)] from ⟨⟨pa2, rfl, da2⟩, trivial⟩)
    have sa2 := sa1.trans ta2
    refine ⟨(by show 2 ≤ sizeLine; omega), fun pa3 hpa3 => ?_⟩
    obtain ⟨Ga3, hGa3, ta3, da3⟩ := namedD (same_upd (o := .tup [.int 3, .int 3]) hpa3)
    rw [← hGa3]
    have ga3 := PairAt.app (PairAt.on ta3 ga2) (show PairAt Ga3 [.ref pa3] [(3, 3)] from ⟨⟨pa3, rfl, da3⟩, trivial⟩)
    have sa3 := sa2.trans ta3
    refine ⟨(by show 2 ≤ sizeLine; omega), fun pa4 hpa4 => ?_⟩
    obtain ⟨Ga4, hGa4, ta4, da4⟩ := namedD (same_upd (o := .tup [.int 2, .int 6]) hpa4)
    rw [← hGa4]
    have ga4 := PairAt.app (PairAt.on ta4 ga3) (show PairAt Ga4 [.ref pa4] [(2, 6)] from ⟨⟨pa4, rfl, da4⟩, trivial⟩)
    have sa4 := sa3.trans ta4
    refine ⟨(by show 2 ≤ sizeLine; omega), fun pa5 hpa5 => ?_⟩
    obtain ⟨Ga5, hGa5, ta5, da5⟩ := namedD (same_upd (o := .tup [.int 2, .int 5]) hpa5)
    rw [← hGa5]
    have ga5 := PairAt.app (PairAt.on ta5 ga4) (show PairAt Ga5 [.ref pa5] [(2, 5)] from ⟨⟨pa5, rfl, da5⟩, trivial⟩)
    have sa5 := sa4.trans ta5
    refine ⟨(by show 2 ≤ sizeLine; omega), fun pa6 hpa6 => ?_⟩
    obtain ⟨Ga6, hGa6, ta6, da6⟩ := namedD (same_upd (o := .tup [.int 4, .int 2]) hpa6)
    rw [← hGa6]
    have ga6 := PairAt.app (PairAt.on ta6 ga5) (show PairAt Ga6 [.ref pa6] [(4, 2)] from ⟨⟨pa6, rfl, da6⟩, trivial⟩)
    have sa6 := sa5.trans ta6
    refine ⟨(by show 2 ≤ sizeLine; omega), fun pa7 hpa7 => ?_⟩
    obtain ⟨Ga7, hGa7, ta7, da7⟩ := namedD (same_upd (o := .tup [.int 2, .int 4]) hpa7)
    rw [← hGa7]
    have ga7 := PairAt.app (PairAt.on ta7 ga6) (show PairAt Ga7 [.ref pa7] [(2, 4)] from ⟨⟨pa7, rfl, da7⟩, trivial⟩)
    have sa7 := sa6.trans ta7
    refine ⟨(by show 2 ≤ sizeLine; omega), fun pa8 hpa8 => ?_⟩
    obtain ⟨Ga8, hGa8, ta8, da8⟩ := namedD (same_upd (o := .tup [.int 2, .int 3]) hpa8)
    rw [← hGa8]
    have ga8 := PairAt.app (PairAt.on ta8 ga7) (show PairAt Ga8 [.ref pa8] [(2, 3)] from ⟨⟨pa8, rfl, da8⟩, trivial⟩)
    have sa8 := sa7.trans ta8
    refine ⟨(by show 2 ≤ sizeLine; omega), fun pa9 hpa9 => ?_⟩
    obtain ⟨Ga9, hGa9, ta9, da9⟩ := namedD (same_upd (o := .tup [.int 3, .int 2]) hpa9)
    rw [← hGa9]
    have ga9 := PairAt.app (PairAt.on ta9 ga8) (show PairAt Ga9 [.ref pa9] [(3, 2)] from ⟨⟨pa9, rfl, da9⟩, trivial⟩)
    have sa9 := sa8.trans ta9
    refine ⟨(by show 2 ≤ sizeLine; omega), fun pa10 hpa10 => ?_⟩
    obtain ⟨Ga10, hGa10, ta10, da10⟩ := namedD (same_upd (o := .tup [.int 2, .int 2]) hpa10)
    rw [← hGa10]
    have ga10 := PairAt.app (PairAt.on ta10 ga9) (show PairAt Ga10 [.ref pa10] [(2, 2)] from ⟨⟨pa10, rfl, da10⟩, trivial⟩)
    have sa10 := sa9.trans ta10
    refine ⟨(by show 11 ≤ sizeLine; omega), fun l1 hl1 => ?_⟩  -- sizes = [..]
    obtain ⟨L1, hL1, w1, e1⟩ := namedD (same_upd (o := .lst [.ref pa0, .ref pa1, .ref pa2, .ref pa3, .ref pa4, .ref pa5, .ref pa6, .ref pa7, .ref pa8, .ref pa9, .ref pa10]) hl1)
    rw [← hL1]
    have k1 : PairAt L1 [.ref pa0, .ref pa1, .ref pa2, .ref pa3, .ref pa4, .ref pa5, .ref pa6, .ref pa7, .ref pa8, .ref pa9, .ref pa10] [(6, 2), (5, 2), (3, 4), (3, 3), (2, 6), (2, 5), (4, 2), (2, 4), (2, 3), (3, 2), (2, 2)] := PairAt.on w1 ga10
    have c1 := sa10.trans w1
    refine ⟨_, rfl, ?_⟩
    refine ⟨(by show 2 ≤ sizeLine; omega), fun pb0 hpb0 => ?_⟩
    obtain ⟨Gb0, hGb0, tb0, db0⟩ := namedD (same_upd (o := .tup [.int 1, .int 6]) hpb0)
    rw [← hGb0]
    have gb0 := (show PairAt Gb0 [.ref pb0] [(1, 6)] from ⟨⟨pb0, rfl, db0⟩, trivial⟩)
    have sb0 := tb0
    refine ⟨(by show 2 ≤ sizeLine; omega), fun pb1 hpb1 => ?_⟩
    obtain ⟨Gb1, hGb1, tb1, db1⟩ := namedD (same_upd (o := .tup [.int 1, .int 5]) hpb1)
    rw [← hGb1]
    have gb1 := PairAt.app (PairAt.on tb1 gb0) (show PairAt Gb1 [.ref pb1] [(1, 5)] from ⟨⟨pb1, rfl, db1⟩, trivial⟩)
    have sb1 := sb0.trans tb1
    refine ⟨(by show 2 ≤ sizeLine; omega), fun pb2 hpb2 => ?_⟩
    obtain ⟨Gb2, hGb2, tb2, db2⟩ := namedD (same_upd (o := .tup [.int 1, .int 4]) hpb2)
    rw [← hGb2]
    have gb2 := PairAt.app (PairAt.on tb2 gb1) (show PairAt Gb2 [.ref pb2] [(1, 4)] from ⟨⟨pb2, rfl, db2⟩, trivial⟩)
    have sb2 := sb1.trans tb2
    refine ⟨(by show 2 ≤ sizeLine; omega), fun pb3 hpb3 => ?_⟩
    obtain ⟨Gb3, hGb3, tb3, db3⟩ := namedD (same_upd (o := .tup [.int 1, .int 3]) hpb3)
    rw [← hGb3]
    have gb3 := PairAt.app (PairAt.on tb3 gb2) (show PairAt Gb3 [.ref pb3] [(1, 3)] from ⟨⟨pb3, rfl, db3⟩, trivial⟩)
    have sb3 := sb2.trans tb3
    refine ⟨(by show 2 ≤ sizeLine; omega), fun pb4 hpb4 => ?_⟩
    obtain ⟨Gb4, hGb4, tb4, db4⟩ := namedD (same_upd (o := .tup [.int 1, .int 2]) hpb4)
    rw [← hGb4]
    have gb4 := PairAt.app (PairAt.on tb4 gb3) (show PairAt Gb4 [.ref pb4] [(1, 2)] from ⟨⟨pb4, rfl, db4⟩, trivial⟩)
    have sb4 := sb3.trans tb4
    refine ⟨(by show 2 ≤ sizeLine; omega), fun pb5 hpb5 => ?_⟩
    obtain ⟨Gb5, hGb5, tb5, db5⟩ := namedD (same_upd (o := .tup [.int 1, .int 1]) hpb5)
    rw [← hGb5]
    have gb5 := PairAt.app (PairAt.on tb5 gb4) (show PairAt Gb5 [.ref pb5] [(1, 1)] from ⟨⟨pb5, rfl, db5⟩, trivial⟩)
    have sb5 := sb4.trans tb5
    refine ⟨(by show 2 ≤ sizeLine; omega), fun pb6 hpb6 => ?_⟩
    obtain ⟨Gb6, hGb6, tb6, db6⟩ := namedD (same_upd (o := .tup [.int 5, .int 1]) hpb6)
    rw [← hGb6]
    have gb6 := PairAt.app (PairAt.on tb6 gb5) (show PairAt Gb6 [.ref pb6] [(5, 1)] from ⟨⟨pb6, rfl, db6⟩, trivial⟩)
    have sb6 := sb5.trans tb6
    refine ⟨(by show 2 ≤ sizeLine; omega), fun pb7 hpb7 => ?_⟩
    obtain ⟨Gb7, hGb7, tb7, db7⟩ := namedD (same_upd (o := .tup [.int 8, .int 1]) hpb7)
    rw [← hGb7]
    have gb7 := PairAt.app (PairAt.on tb7 gb6) (show PairAt Gb7 [.ref pb7] [(8, 1)] from ⟨⟨pb7, rfl, db7⟩, trivial⟩)
    have sb7 := sb6.trans tb7
    refine ⟨(by show 8 ≤ sizeLine; omega), fun l2 hl2 => ?_⟩
    obtain ⟨Lw2, hL2, w2, e2⟩ := namedD (same_upd (o := .lst [.ref pb0, .ref pb1, .ref pb2, .ref pb3, .ref pb4, .ref pb5, .ref pb6, .ref pb7]) hl2)
    rw [← hL2]
    have k2 : PairAt Lw2 [.ref pb0, .ref pb1, .ref pb2, .ref pb3, .ref pb4, .ref pb5, .ref pb6, .ref pb7] [(1, 6), (1, 5), (1, 4), (1, 3), (1, 2), (1, 1), (5, 1), (8, 1)] := PairAt.on w2 gb7
    have c2 := sb7.trans w2
    refine ⟨l1, l2, _, _, rfl, rfl, SqL.of (c2 l1 _ e1), SqL.of e2, (by show 19 ≤ sizeLine; omega), fun l3 hl3 => ?_⟩  -- sizes = sizes + [..]
    obtain ⟨L3, hL3, w3, e3⟩ := namedD (same_upd (o := .lst ([.ref pa0, .ref pa1, .ref pa2, .ref pa3, .ref pa4, .ref pa5, .ref pa6, .ref pa7, .ref pa8, .ref pa9, .ref pa10] ++ [.ref pb0, .ref pb1, .ref pb2, .ref pb3, .ref pb4, .ref pb5, .ref pb6, .ref pb7])) hl3)
    rw [← hL3]
    have k3 : PairAt L3 ([.ref pa0, .ref pa1, .ref pa2, .ref pa3, .ref pa4, .ref pa5, .ref pa6, .ref pa7, .ref pa8, .ref pa9, .ref pa10] ++ [.ref pb0, .ref pb1, .ref pb2, .ref pb3, .ref pb4, .ref pb5, .ref pb6, .ref pb7]) szs := PairAt.on w3 (PairAt.app (PairAt.on c2 k1) k2)
    have z0 := Int.emod_nonneg c (show (19 : Int) ≠ 0 by decide)
    have z1 := Int.emod_lt_of_pos c (show (0 : Int) < 19 by decide)
    obtain ⟨m, hm⟩ : ∃ m : Nat, c % 19 = (m : Int) := ⟨(c % 19).toNat, by omega⟩
    obtain ⟨tp, z, hat, hz, htp⟩ := PairAt.get (i := m) k3 (by show m < 19; omega)
    refine ⟨_, rfl, _, rfl, _, rfl, l3, _, rfl, .inl (SqL.of e3), _, _, rfl, rfl, (by show (0 : Int) < 19; decide), l3, _, _, _, rfl, rfl, SqL.of e3, (show atI _ (c % 19) = _ by rw [hm]; exact atI_nat hat), ?_⟩
    have hall : ∀ z ∈ szs, SizeOk z.1 z.2 := by unfold SizeOk szs; decide
    exact q tp z.1 z.2 L3 (c1.trans (c2.trans w3)) htp (hall z hz)

noncomputable def spFolded (K : PySem.W.Frag) : Sp := fun vs H Q _ => ∃ (a : Addr) (ns : List Int) (m : Nat), vs = [.ref a, .int (m : Nat)] ∧ SqL K H a (ns.map V.int) ∧ (ns.length ≤ 63 ∧ 1 ≤ m ∧ m ≤ 1000) ∧ ∀ (D : Addr) (zs : List Int) (H' : Hp), Same H H' → H' D = some (.lst (zs.map V.int)) → zs.length = m → Q (.ref D) H'
theorem ok__law_folded {f : Addr} {fd : FuncData} (F : Fun K "_law_folded" "_law_folded" s__law_folded f fd) (tt : Txt K mg ad) : FnOk P w K mg base (CX1 P w) 1 f fd ["script", "many"] (spFolded K) := by
  refine F.okN sc__law_folded (fun vs H Q E h => ?_) (fun cdv A outer s H vs Q E hr h => ?_)
  · obtain ⟨a, ns, m, rfl, _⟩ := h
    rfl
  · obtain ⟨a, ns, m, rfl, hS, ⟨h63, hm1, hm2⟩, q⟩ := h
    have hs : sizeLine = 16777216 := sizeLine_eq
    refine ⟨_, (pss_cons (ps_set (i := 2) sc__law_folded.nd rfl (Or.inl rfl) (pe_op op_repL (pe_lst (pa_cons pe_int pa_nil)) (pv 1)))
      (pss_cons (ps_for PassesOwn.never rfl (pi_range1 (by rfl) tt.b_range (pa_cons (pe_callB call_len_seq (by rfl) tt.b_len PySem.boot_len (pa_cons (pv 0) pa_nil)) pa_nil)) (pg_name (i := 3) sc__law_folded.nd rfl (Or.inl rfl)) (pss_cons (ps_set (i := 4) sc__law_folded.nd rfl (Or.inl rfl) (pe_op op_mod (pe_ix ix_list (pv 0) (pv 3) (fun _ _ => rfl)) pe_int))
      (pss_one (ps_asg (pe_op op_mod (pe_op op_add (pe_op op_add (pe_op op_mul (pe_ix ix_list (pv 2) (pe_op op_mod (pv 3) (pv 1)) (fun _ _ => rfl)) pe_int) (pv 4)) pe_int) pe_int) (pg_sub (pv 2) (pe_op op_mod (pv 3) (pv 1)) set_list)))))
      (pss_one (ps_ret (pv 2))))), ?_⟩
    refine ⟨(by show 1 ≤ sizeLine; omega), fun p1 hp1 => ?_⟩
    have t1 := same_upd (o := .lst [.int 0]) hp1
    refine ⟨_, rfl, p1, m, _, rfl, rfl, SqL.of upd_same, ⟨by omega, by show 1 * m ≤ sizeLine; omega⟩, fun D hD => ?_⟩  -- found = [0] * many
    have t2 := t1.trans (same_upd (o := .lst (List.replicate m [V.int 0]).flatten) hD)
    have hrep : ∀ m : Nat, (List.replicate m [V.int 0]).flatten = (List.replicate m (0 : Int)).map V.int := fun m => by
      induction m with
      | zero => rfl
      | succ m ih => rw [List.replicate_succ, List.flatten_cons, ih, List.replicate_succ, List.map_cons]; rfl
    rw [hrep] at t2 ⊢
    obtain ⟨H2, hH2, s2, hd2⟩ := namedD t2
    rw [← hH2]
    refine ⟨_, rfl, a, _, rfl, .inl (s2.seq hS), _, rfl, by omega, (by rw [List.length_map]; omega), ?_⟩  -- for k in range(len(script))
    rw [List.length_map, Int.toNat_natCast]
    refine for_range (fun i σ H3 => Same H H3 ∧ ∃ (zs : List Int) (v3 v4 : Option V), H3 D = some (.lst (zs.map V.int)) ∧ zs.length = m ∧ σ = [some (.ref a), some (.int (m : Nat)), some (.ref D), v3, v4]) ⟨s2, _, none, none, hd2, List.length_replicate .., rfl⟩ ?_ ?_
    · rintro i σ H3 hi ⟨s3, zs, v3, v4, hd3, hzl, rfl⟩
      obtain ⟨w1, hw1⟩ : ∃ w1, ns[i]? = some w1 := ⟨_, List.getElem?_eq_getElem hi⟩
      have z0 := Int.emod_nonneg ((i : Nat) : Int) (show ((m : Nat) : Int) ≠ 0 by omega)
      have z1 := Int.emod_lt_of_pos ((i : Nat) : Int) (show (0 : Int) < ((m : Nat) : Int) by omega)
      obtain ⟨j, hj⟩ : ∃ j : Nat, (0 + ((i : Nat) : Int)) % ((m : Nat) : Int) = (j : Int) := ⟨((0 + ((i : Nat) : Int)) % ((m : Nat) : Int)).toNat, by rw [Int.zero_add]; omega⟩
      have hjm : j < m := by rw [Int.zero_add] at hj; omega
      obtain ⟨w2, hw2⟩ : ∃ w2, zs[j]? = some w2 := ⟨_, List.getElem?_eq_getElem (by omega)⟩
      have hDn : H D = none := by
        cases e : H D with
        | none => rfl
        | some o => exact absurd ((t1 D o e).symm.trans hD) (fun z => nomatch z)
      have hm0 : (0 : Int) < ((m : Nat) : Int) := by omega
      refine ⟨_, rfl, _, rfl, a, _, _, _, rfl, rfl, s3.seq hS, (by rw [Int.zero_add]; exact atI_nat (by rw [List.getElem?_map, hw1]; rfl)), _, _, rfl, rfl, (by show (0 : Int) < 1000000007; decide), ?_⟩  -- cell = script[k] % 1000000007
      refine ⟨_, rfl, _, rfl, _, rfl, _, _, rfl, rfl, hm0, D, _, _, _, rfl, rfl, SqL.of hd3, (show atI _ ((0 + ((i : Nat) : Int)) % ((m : Nat) : Int)) = _ by rw [hj]; exact atI_nat (by rw [List.getElem?_map, hw2]; rfl)), _, _, rfl, rfl, .inr ⟨by decide, by decide⟩, _, rfl, _, _, rfl, rfl, _, _, rfl, rfl, _, _, rfl, rfl, (by show (0 : Int) < 1000000007; decide), ?_⟩
      refine ⟨_, rfl, _, rfl, _, rfl, _, _, rfl, rfl, hm0, D, _, _, j, rfl, rfl, hd3, (show ixN _ ((0 + ((i : Nat) : Int)) % ((m : Nat) : Int)) = _ by rw [hj]; exact ixN_nat (by rw [List.length_map]; omega)), ?_⟩
      rw [set_map V.int]
      exact ⟨fun b o e => by rw [upd_ne (ne_of_none e hDn)]; exact s3 b o e, _, _, _, upd_same, by rw [List.length_set]; exact hzl, rfl⟩
    · rintro σ H3 ⟨s3, zs, v3, v4, hd3, hzl, rfl⟩
      exact ⟨_, rfl, q D zs H3 s3 hd3 hzl⟩

noncomputable def spRef45 (C : Addr) : Sp := fun vs H Q _ => ∃ (y : Int) (x : Addr) (nn kn : Nat) (t wd ot : List Nat), vs = [.int y, .ref x, T wd, T ot] ∧ RuleAt C H x nn kn t ∧ SizeOk nn kn ∧ TellOk t nn kn ∧ wd.length ≤ 100000 ∧ ot.length ≤ 100000 ∧ ¬ RW wd nn kn ∧ RW ot nn kn ∧ ∀ H', Same H H' → Q (.bl true) H'
theorem ok__law_refused {f : Addr} {fd : FuncData} (F : Fun K "_law_refused" "_law_refused" s__law_refused f fd) (tt : Txt K mg ad) (C_next_word : Cal P w K mg base (CX1 P w) "next_word" 5 ["rule", "word"] (spNextW ad.Rule ad)) (C_partners : Cal P w K mg base (CX1 P w) "partners" 5 ["rule", "word"] (spPartn ad.Rule ad)) (C_exchanged : Cal P w K mg base (CX1 P w) "exchanged" 6 ["rule", "one", "two"] (spExch ad.Rule ad)) :
    FnOk P w K mg base (CX1 P w) 7 f fd ["way", "rule", "word", "other"] (spRef45 ad.Rule) := by
  refine F.okX sc__law_refused (fun vs H Q E h => ?_) (fun cdv A outer s H vs Q E hr h => ?_)
  · obtain ⟨y, x, nn, kn, t, wd, ot, rfl, _⟩ := h
    rfl
  · obtain ⟨y, x, nn, kn, t, wd, ot, rfl, hR, hz, hto, hl1, hl2, hno, hyes, q⟩ := h
    have hs : sizeLine = 16777216 := sizeLine_eq
    refine ⟨_, (pss_cons (ps_set (i := 4) sc__law_refused.nd rfl (Or.inl rfl) pe_non)
      (pss_cons (ps_try ownX (py_if (pt_cmpR op_eq_I (pv 0) pe_int (nomark _)) (py_call C_next_word hr (pa_cons (pv 1) (pa_cons (pv 2) pa_nil))) (py_if (pt_cmpR op_eq_I (pv 0) pe_int (nomark _)) (py_call C_partners hr (pa_cons (pv 1) (pa_cons (pv 2) pa_nil))) (py_if (pt_cmpR op_eq_I (pv 0) pe_int (nomark _)) (py_call C_exchanged hr (pa_cons (pv 1) (pa_cons (pv 2) (pa_cons (pv 3) pa_nil)))) (py_call C_exchanged hr (pa_cons (pv 1) (pa_cons (pv 3) (pa_cons (pv 2) pa_nil))))))) (ph_as (i := 5) tt.m_OnceError sc__law_refused.nd rfl rfl (fun a => (pss_one (ps_set (i := 4) sc__law_refused.nd rfl (Or.inl rfl) (pv 5)))) ph_nil))
      (pss_one (ps_ret (pe_and (pe_callB call_isinstE (by rfl) tt.b_isinstance PyProof.Rows.boot_isinstance (pa_cons (pv 4) (pa_cons (pe_glob (v := .ref ad.BadWord) (by rfl) tt.m_BadWord rfl) pa_nil))) (pe_one (pe_not (pe_callB call_isinstE (by rfl) tt.b_isinstance PyProof.Rows.boot_isinstance (pa_cons (pv 4) (pa_cons (pe_glob (v := .ref ad.BadDeed) (by rfl) tt.m_BadDeed rfl) pa_nil)))))))))), ?_⟩
    refine ⟨_, rfl, _, rfl, _, rfl, _, rfl, ?_⟩  -- way == 0
    refine ite2 (fun h0 => ?_) (fun h0 => ?_)
    · refine ⟨_, rfl, _, rfl, x, nn, kn, t, wd, rfl, hR, hz, hto, hl1, fun z => absurd z hno, fun _ => ?_⟩  -- next_word(rule, word)
      refine .inl ⟨tt.q_BadWord, fun a ha => ?_⟩
      exact ⟨_, rfl, _, rfl, a, ad.BadWord, .ref ad.BadWord, _, true, rfl, rfl, upd_same, tt.n_BadWord, tt.k_BadWord_BadWord, _, rfl, itP rfl ⟨_, rfl, a, ad.BadWord, .ref ad.BadDeed, _, false, rfl, rfl, upd_same, tt.n_BadWord, tt.k_BadWord_BadDeed, _, rfl, q _ (same_upd ha)⟩⟩
    refine ⟨_, rfl, _, rfl, _, rfl, _, rfl, ?_⟩  -- way == 1
    refine ite2 (fun h1 => ?_) (fun h1 => ?_)
    · refine ⟨_, rfl, _, rfl, x, nn, kn, t, wd, rfl, hR, hz, hl1, fun z => absurd z hno, fun _ => ?_⟩  -- partners(rule, word)
      refine .inl ⟨tt.q_BadWord, fun a ha => ?_⟩
      exact ⟨_, rfl, _, rfl, a, ad.BadWord, .ref ad.BadWord, _, true, rfl, rfl, upd_same, tt.n_BadWord, tt.k_BadWord_BadWord, _, rfl, itP rfl ⟨_, rfl, a, ad.BadWord, .ref ad.BadDeed, _, false, rfl, rfl, upd_same, tt.n_BadWord, tt.k_BadWord_BadDeed, _, rfl, q _ (same_upd ha)⟩⟩
    refine ⟨_, rfl, _, rfl, _, rfl, _, rfl, ?_⟩  -- way == 2
    refine ite2 (fun h2 => ?_) (fun h2 => ?_)
    · refine ⟨_, rfl, _, rfl, _, rfl, x, nn, kn, t, wd, ot, rfl, hR, hz, hto, hl1, hl2, fun _ => ?_, fun z => absurd z hno, fun z => absurd z hno, fun z => absurd z hno⟩  -- exchanged(rule, word, other)
      refine .inl ⟨tt.q_BadWord, fun a ha => ?_⟩
      exact ⟨_, rfl, _, rfl, a, ad.BadWord, .ref ad.BadWord, _, true, rfl, rfl, upd_same, tt.n_BadWord, tt.k_BadWord_BadWord, _, rfl, itP rfl ⟨_, rfl, a, ad.BadWord, .ref ad.BadDeed, _, false, rfl, rfl, upd_same, tt.n_BadWord, tt.k_BadWord_BadDeed, _, rfl, q _ (same_upd ha)⟩⟩
    · refine ⟨_, rfl, _, rfl, _, rfl, x, nn, kn, t, ot, wd, rfl, hR, hz, hto, hl2, hl1, fun z => absurd hyes z, fun _ _ => ?_, fun _ z => absurd z hno, fun _ z => absurd z hno⟩  -- exchanged(rule, other, word)
      refine .inl ⟨tt.q_BadWord, fun a ha => ?_⟩
      exact ⟨_, rfl, _, rfl, a, ad.BadWord, .ref ad.BadWord, _, true, rfl, rfl, upd_same, tt.n_BadWord, tt.k_BadWord_BadWord, _, rfl, itP rfl ⟨_, rfl, a, ad.BadWord, .ref ad.BadDeed, _, false, rfl, rfl, upd_same, tt.n_BadWord, tt.k_BadWord_BadDeed, _, rfl, q _ (same_upd ha)⟩⟩

theorem allW_at {k n i : Nat} (h : i < k ^ n) : ((Wd.allW k n).map T)[i]? = some (T (Wd.spell k n i)) := by rw [List.getElem?_map, Wd.allW_get h]; rfl
theorem spell_rw {k n i : Nat} (hk : 1 ≤ k) (h : i < k ^ n) : RW (Wd.spell k n i) n k := by
  have := (Wd.mem_allW (by omega)).mp (List.mem_of_getElem? (Wd.allW_get h))
  exact ⟨this.1, this.2⟩
theorem other_place {k n i : Nat} (hk : 1 ≤ k ∧ k ≤ 6) (hn : 1 ≤ n ∧ n ≤ 8) (hi : i < k ^ n) (h1 : 1 < k) : ∃ m, m < k ^ n ∧ m ≠ i ∧ (Wd.spell k n m).drop 1 = (Wd.spell k n i).drop 1 := by
  have hr := spell_rw hk.1 hi
  cases e : Wd.spell k n i with
  | nil => rw [e] at hr; have := hr.1; simp at this; omega
  | cons c r =>
    rw [e] at hr
    have hc := hr.2 c (List.mem_cons_self ..)
    have ho : RW ((if c = 97 then 98 else 97) :: r) n k := by
      refine ⟨by have := hr.1; simpa using this, fun d hd => ?_⟩
      rcases List.mem_cons.mp hd with rfl | hd
      · split <;> omega
      · exact hr.2 d (List.mem_cons_of_mem _ hd)
    obtain ⟨g1, g2⟩ := Wd.spell_num n _ ho.1 ho.2
    refine ⟨_, g2, fun z => ?_, by rw [g1]; rfl⟩
    rw [z, e] at g1
    have := (List.cons.inj g1).1
    split at this <;> omega
theorem mem_parts {k n : Nat} {u v : List Nat} (hn : 1 ≤ n ∧ n ≤ 8) (hk : k ≤ 6) (hu : RW u n k) (hv : RW v n k) (hd : v.drop 1 = u.drop 1) (hne : v ≠ u) : v ∈ parts k u := by
  cases u with
  | nil => have := hu.1; simp at this; omega
  | cons c r =>
    cases v with
    | nil => have := hv.1; simp at this; omega
    | cons d q =>
      have e : q = r := hd
      subst e
      unfold parts
      refine List.mem_map.mpr ⟨d, List.mem_filter.mpr ⟨(abc_mem hk).mpr (hv.2 d (List.mem_cons_self ..)), ?_⟩, rfl⟩
      rw [decide_eq_false (fun z => hne (congrArg (· :: q) (show d = c by simpa using z)))]
      rfl
noncomputable def unI : V → Nat
  | .int z => z.toNat
  | _ => 0
/-- what is told, as single signs -/
noncomputable def spExR (K : PySem.W.Frag) (C : Addr) : Sp := fun vs H Q _ => ∃ (x W L : Addr) (nn kn : Nat) (t : List Nat) (z : Int), vs = [.ref x, .ref W, .ref L, .int z] ∧ RuleAt C H x nn kn t ∧ SizeOk nn kn ∧ TellOk t nn kn ∧ 1 < kn ∧ SqL K H W ((Wd.allW kn nn).map T) ∧ SqL K H L ((t.map fun c => [c]).map T) ∧ ∀ H', Same H H' → Q (.bl true) H'
theorem ok__law_exchanged_right {f : Addr} {fd : FuncData} (F : Fun K "_law_exchanged_right" "_law_exchanged_right" s__law_exchanged_right f fd) (tt : Txt K mg ad) (C_exchanged : Cal P w K mg base (CX1 P w) "exchanged" 6 ["rule", "one", "two"] (spExch ad.Rule ad)) :
    FnOk P w K mg base (CX1 P w) 7 f fd ["rule", "words", "told", "n"] (spExR K ad.Rule) := by
  refine F.okN sc__law_exchanged_right (fun vs H Q E h => ?_) (fun cdv A outer s H vs Q E hr h => ?_)
  · obtain ⟨x, W, L, nn, kn, t, z, rfl, _⟩ := h
    rfl
  · obtain ⟨x, W, L, nn, kn, t, z, rfl, hR, hz, hto, hk1, hW, hL, q⟩ := h
    have hs : sizeLine = 16777216 := sizeLine_eq
    obtain ⟨hk, hn, h64⟩ := id hz
    have hwl : ((Wd.allW kn nn).map T).length = kn ^ nn := by rw [List.length_map, Wd.allW_len]
    have hp0 : 0 < kn ^ nn := Nat.pow_pos (by omega)
    refine ⟨_, (pss_cons (ps_set (i := 4) sc__law_exchanged_right.nd rfl (Or.inr rfl) (pe_op op_mod (pe_op op_fdiv (pv 3) pe_int) (pe_callB call_len_seq (by rfl) tt.b_len PySem.boot_len (pa_cons (pv 1) pa_nil))))
      (pss_cons (ps_setCompf (i := 5) cs__law_exchanged_right_0 rfl (pi_range1 (by rfl) tt.b_range (pa_cons (pe_callB call_len_seq (by rfl) tt.b_len PySem.boot_len (pa_cons (pv 1) pa_nil)) pa_nil)) (fun cl C s' H' fp => (PW.pt (pw_and (pt_cmpR op_ne_I (pv 0) (pv 5) (nomark _)) (pw_and1 (pt_cmpR op_eq_T (pe_slice sl_T (pe_ix (ix_list_K K rfl) (pv 2) (pv 0) (fun _ _ => rfl)) (po_some pe_int) po_none) (pe_slice sl_T (pe_ix (ix_list_K K rfl) (pv 2) (pv 5) (fun _ _ => rfl)) (po_some pe_int) po_none) (nomark _)))))) (fun cl C s' H' fp => (pv 0)) sc__law_exchanged_right.nd rfl rfl)
      (pss_cons (ps_set (i := 6) sc__law_exchanged_right.nd rfl (Or.inl rfl) (pe_ix ix_list (pv 5) (pe_op op_mod (pe_op op_fdiv (pv 3) pe_int) (pe_callB call_len_seq (by rfl) tt.b_len PySem.boot_len (pa_cons (pv 5) pa_nil))) (fun _ _ => rfl)))
      (pss_cons (ps_set (i := 7) sc__law_exchanged_right.nd rfl (Or.inl rfl) (pe_callTy call_list_of (by rfl) tt.b_list (by decide +kernel) (pa_cons (pv 2) pa_nil)))
      (pss_cons (ps_asg (pe_ix ix_list (pv 2) (pv 6) (fun _ _ => rfl)) (pg_sub (pv 7) (pv 4) set_list))
      (pss_cons (ps_asg (pe_ix ix_list (pv 2) (pv 4) (fun _ _ => rfl)) (pg_sub (pv 7) (pv 6) set_list))
      (pss_cons (ps_set (i := 8) sc__law_exchanged_right.nd rfl (Or.inl rfl) (pe_cal C_exchanged hr pass1 (pa_cons (pv 0) (pa_cons (pe_ix ix_list (pv 1) (pv 4) (fun _ _ => rfl)) (pa_cons (pe_ix ix_list (pv 1) (pv 6) (fun _ _ => rfl)) pa_nil)))))
      (pss_one (ps_ret (pe_and (pe_cmpR op_eq_T (pe_fld (pv 8) rfl) (pe_bm PySem.F.plainAttrs_str PySem.F.slot_str_join PySem.F.type_str_join mt_join (pe_strT [] (by decide +kernel)) (pa_cons (pv 7) pa_nil)) (nomark _)) (pe_one (pe_cmpR op_eq_T (pe_fld (pv 0) rfl) (pe_bm PySem.F.plainAttrs_str PySem.F.slot_str_join PySem.F.type_str_join mt_join (pe_strT [] (by decide +kernel)) (pa_cons (pv 2) pa_nil)) (nomark _))))))))))))), ?_⟩
    obtain ⟨i, hi, hil⟩ : ∃ i : Nat, z / 40 % ((kn ^ nn : Nat) : Int) = (i : Int) ∧ i < kn ^ nn := ⟨(z / 40 % ((kn ^ nn : Nat) : Int)).toNat, by have := Int.emod_nonneg (z / 40) (show ((kn ^ nn : Nat) : Int) ≠ 0 by omega); omega, by have := Int.emod_nonneg (z / 40) (show ((kn ^ nn : Nat) : Int) ≠ 0 by omega); have := Int.emod_lt_of_pos (z / 40) (show (0 : Int) < ((kn ^ nn : Nat) : Int) by omega); omega⟩
    refine ⟨_, rfl, _, _, rfl, rfl, ⟨by decide, by decide⟩, _, rfl, W, _, rfl, .inl hW, _, _, rfl, rfl, (by rw [hwl]; omega), ?_⟩  -- i = n // 40 % len(words)
    dsimp only
    rw [show z / 40 % ((((Wd.allW kn nn).map T).length : Nat) : Int) = ((i : Nat) : Int) by rw [hwl]; exact hi]
    refine ⟨_, rfl, W, _, rfl, .inl hW, _, rfl, by omega, (by rw [hwl]; omega), ?_⟩
    rw [show (((((Wd.allW kn nn).map T).length : Nat) : Int)).toNat = kn ^ nn by rw [hwl, Int.toNat_natCast]]
    have atW : ∀ m : Nat, m < kn ^ nn → atI ((Wd.allW kn nn).map T) ((m : Nat) : Int) = some (T (Wd.spell kn nn m)) := fun m hm => atI_nat (allW_at hm)
    have spl : ∀ m : Nat, m < kn ^ nn → (Wd.spell kn nn m).length = nn := fun m hm => (spell_rw (by omega) hm).1
    have ed : ∀ m : Nat, m < kn ^ nn → cutL (Wd.spell kn nn m) (some 1) none = (Wd.spell kn nn m).drop 1 := fun m hm => cutL_from (k := 1) (by rw [spl m hm]; omega)
    refine compFB (vs := (List.range (kn ^ nn)).map fun (m : Nat) => V.int (m : Int)) (fun v => !decide (unI v = i) && decide ((Wd.spell kn nn (unI v)).drop 1 = (Wd.spell kn nn i).drop 1)) (fun v => v) readsB_range (by rw [List.length_map, List.length_range]; omega) (fun v H3 hv s3 N hN => ?_) (fun v H3 hv hp s3 N hN => ?_) fun D1 H3 hD1 s3 hd3 => ?_
    · obtain ⟨m, hm, rfl⟩ := List.mem_map.mp hv
      rw [List.mem_range] at hm
      have g := hN H3 (Same.refl _)
      have eu : unI (V.int (m : Int)) = m := Int.toNat_natCast m
      rw [eu] at g
      refine ⟨_, rfl, _, rfl, _, rfl, _, rfl, _, rfl, ?_⟩
      by_cases hmi : m = i
      · refine itN (by rw [decide_eq_true (by rw [hmi])]; exact Bool.false_ne_true) ?_
        rw [decide_eq_true hmi] at g
        exact g
      · refine itP (by rw [decide_eq_false (by omega)]; rfl) ?_
        rw [decide_eq_false hmi] at g
        have l1 := spl m hm
        have l2 := spl i hil
        refine ⟨_, rfl, _, rfl, W, _, _, _, rfl, rfl, s3.seq hW, atW m hm, _, rfl, _, rfl, (by omega), _, rfl, _, rfl, W, _, _, _, rfl, rfl, s3.seq hW, atW i hil, _, rfl, _, rfl, (by omega), _, rfl, _, rfl, _, rfl, ?_⟩
        rw [ed m hm, ed i hil]
        exact g
    · exact ⟨_, rfl, hN H3 (Same.refl _)⟩
    have hpl : ∃ pl : List Nat, ((List.range (kn ^ nn)).map fun (m : Nat) => V.int (m : Int)).filter (fun v => !decide (unI v = i) && decide ((Wd.spell kn nn (unI v)).drop 1 = (Wd.spell kn nn i).drop 1)) = pl.map (fun (m : Nat) => V.int (m : Int)) ∧ ∀ m, m ∈ pl ↔ m < kn ^ nn ∧ m ≠ i ∧ (Wd.spell kn nn m).drop 1 = (Wd.spell kn nn i).drop 1 := by
      refine ⟨(List.range (kn ^ nn)).filter fun m => !decide (m = i) && decide ((Wd.spell kn nn m).drop 1 = (Wd.spell kn nn i).drop 1), ?_, fun m => ?_⟩
      · rw [List.filter_map]
        rfl
      · rw [List.mem_filter, List.mem_range]
        simp
    obtain ⟨pl, epl, hpl⟩ := hpl
    rw [epl, List.map_id'] at hd3
    obtain ⟨m0, hm0⟩ := other_place hk hn hil hk1
    have hpl0 : 0 < pl.length := List.length_pos_of_mem ((hpl m0).mpr hm0)
    have hplm : (pl.map fun (m : Nat) => V.int (m : Int)).length = pl.length := List.length_map ..
    obtain ⟨jj, hjj, hjl⟩ : ∃ jj : Nat, z / 3000 % ((pl.length : Nat) : Int) = (jj : Int) ∧ jj < pl.length := ⟨(z / 3000 % ((pl.length : Nat) : Int)).toNat, by have := Int.emod_nonneg (z / 3000) (show ((pl.length : Nat) : Int) ≠ 0 by omega); omega, by have := Int.emod_nonneg (z / 3000) (show ((pl.length : Nat) : Int) ≠ 0 by omega); have := Int.emod_lt_of_pos (z / 3000) (show (0 : Int) < ((pl.length : Nat) : Int) by omega); omega⟩
    obtain ⟨j, hj⟩ : ∃ j, pl[jj]? = some j := ⟨_, List.getElem?_eq_getElem hjl⟩
    obtain ⟨hjk, hji, hjd⟩ := (hpl j).mp (List.mem_of_getElem? hj)
    refine ⟨_, rfl, _, rfl, _, _, rfl, rfl, ⟨by decide, by decide⟩, _, rfl, D1, _, rfl, .inl (SqL.of hd3), _, _, rfl, rfl, (by rw [hplm]; omega), D1, _, _, _, rfl, rfl, SqL.of hd3, (show atI _ (z / 3000 % ((((pl.map fun (m : Nat) => V.int (m : Int))).length : Nat) : Int)) = some (V.int ((j : Nat) : Int)) by rw [hplm, hjj]; exact atI_nat (by rw [List.getElem?_map, hj]; rfl)), ?_⟩  -- j
    have n1 := Wd.num_spell (k := kn) (by omega) nn i hil
    have n2 := Wd.num_spell (k := kn) (by omega) nn j hjk
    have r1 := spell_rw (k := kn) (n := nn) (by omega) hil
    have r2 := spell_rw (k := kn) (n := nn) (by omega) hjk
    have hpt : Wd.spell kn nn j ∈ parts kn (Wd.spell kn nn i) := mem_parts hn hk.2 r1 r2 hjd fun z => hji (by rw [← n2, z, n1])
    obtain ⟨a, ha⟩ : ∃ c, t[i]? = some c := ⟨_, List.getElem?_eq_getElem (by rw [hto.1]; exact hil)⟩
    obtain ⟨b, hb⟩ : ∃ c, t[j]? = some c := ⟨_, List.getElem?_eq_getElem (by rw [hto.1]; exact hjk)⟩
    have htl := hto.1
    refine ⟨_, rfl, L, _, rfl, .inl (s3.seq hL), fun Dm hDm => ?_⟩  -- made = list(told)
    obtain ⟨H4, hH4, s4, hd4⟩ := namedD (same_upd (o := .lst ((t.map fun c => [c]).map T)) hDm)
    rw [← hH4]
    have tat : ∀ {m c : Nat}, t[m]? = some c → atI ((t.map fun c => [c]).map T) ((m : Nat) : Int) = some (T [c]) := fun h => atI_nat (by rw [List.getElem?_map, List.getElem?_map, h]; rfl)
    refine ⟨_, rfl, _, rfl, L, _, _, _, rfl, rfl, (s3.trans s4).seq hL, tat hb, _, rfl, _, rfl, Dm, _, _, i, rfl, rfl, hd4, ixN_nat (by rw [List.length_map, List.length_map]; omega), ?_⟩  -- made[i] = told[j]
    rw [show ((t.map fun c => [c]).map T).set i (T [b]) = ((t.set i b).map fun c => [c]).map T by rw [set_map T, set_map fun c => [c]]]
    have s5 : Same H3 (upd H4 Dm (.lst (((t.set i b).map fun c => [c]).map T))) := fun c o e => by rw [upd_ne (ne_of_none e hDm)]; exact s4 c o e
    generalize hH5 : upd H4 Dm (.lst (((t.set i b).map fun c => [c]).map T)) = H5 at s5 ⊢
    have hd5 : H5 Dm = some (.lst (((t.set i b).map fun c => [c]).map T)) := by rw [← hH5]; exact upd_same
    refine ⟨_, rfl, _, rfl, L, _, _, _, rfl, rfl, (s3.trans s5).seq hL, tat ha, _, rfl, _, rfl, Dm, _, _, j, rfl, rfl, hd5, ixN_nat (by rw [List.length_map, List.length_map, List.length_set]; omega), ?_⟩  -- made[j] = told[i]
    rw [show (((t.set i b).map fun c => [c]).map T).set j (T [a]) = ((swt t i j a b).map fun c => [c]).map T by rw [set_map T, set_map fun c => [c]]; rfl]
    have s6 : Same H3 (upd H5 Dm (.lst (((swt t i j a b).map fun c => [c]).map T))) := fun c o e => by rw [upd_ne (ne_of_none e hDm)]; exact s5 c o e
    generalize hH6 : upd H5 Dm (.lst (((swt t i j a b).map fun c => [c]).map T)) = H6 at s6 ⊢
    have hd6 : H6 Dm = some (.lst (((swt t i j a b).map fun c => [c]).map T)) := by rw [← hH6]; exact upd_same
    have s36 := s3.trans s6
    have l1 := spl i hil
    have l2 := spl j hjk
    refine ⟨_, rfl, _, rfl, _, rfl, W, _, _, _, rfl, rfl, s36.seq hW, atW i hil, _, rfl, _, rfl, W, _, _, _, rfl, rfl, s36.seq hW, atW j hjk, x, nn, kn, t, _, _, rfl, hR.on s36, hz, hto, (by omega), (by omega), fun z => absurd r1 z, fun _ z => absurd r2 z, fun _ _ z => absurd hpt z, fun _ _ _ y a' b' H7 ha' hb' s7 hy => ?_⟩  -- other = exchanged(rule, words[i], words[j])
    rw [n1] at ha' hy
    rw [n2] at hb' hy
    obtain rfl : a = a' := Option.some.inj (ha.symm.trans ha')
    obtain rfl : b = b' := Option.some.inj (hb.symm.trans hb')
    obtain ⟨dy, hy⟩ := hy
    obtain ⟨dx, hx⟩ := hR.on (s36.trans s7)
    have hsw : (swt t i j a b).length = kn ^ nn := by unfold swt; rw [List.length_set, List.length_set]; exact htl
    refine ⟨_, rfl, y, ad.Rule, dy, _, _, rfl, hy, tt.cl_Rule, tt.na_Rule_told, rflds_t _ _ _, rfl, _, rfl, rfl, Dm, _, rfl, SqL.of (s7 Dm _ hd6), (by rw [signs_flat]; omega), _, rfl, _, rfl, _, rfl, itP (decide_eq_true (signs_flat _).symm) ?_⟩
    refine ⟨_, rfl, x, ad.Rule, dx, _, _, rfl, hx, tt.cl_Rule, tt.na_Rule_told, rflds_t _ _ _, rfl, _, rfl, rfl, L, _, rfl, (s36.trans s7).seq hL, (by rw [signs_flat]; omega), _, rfl, _, rfl, ?_⟩
    rw [decide_eq_true (signs_flat t).symm]
    exact q _ (s36.trans s7)

/-- the letter drawn for a word -/
noncomputable def ltr (zs : List Int) (kn m : Nat) : Nat := 97 + (stirZ (zs.getD m 0) (m : Int) / 7 % ((kn : Nat) : Int)).toNat
theorem abcAt {s : Int} {k : Nat} (h0 : 0 ≤ s) (h1 : s < ((k : Nat) : Int)) (hk : k ≤ 6) : atI [97, 98, 99, 100, 101, 102] s = some (97 + s.toNat) ∧ 97 ≤ 97 + s.toNat ∧ 97 + s.toNat < 97 + k := by
  obtain ⟨m, hm⟩ : ∃ m : Nat, s = (m : Int) := ⟨s.toNat, by omega⟩
  subst hm
  rw [Int.toNat_natCast]
  exact ⟨atI_nat (abc6 (by omega)), by omega, by omega⟩
theorem map_set_same {t : List Nat} {nn kn m c : Nat} (h : TellOk t nn kn) (hc : 97 ≤ c ∧ c < 97 + kn) : TellOk (t.set m c) nn kn := by
  refine ⟨by rw [List.length_set]; exact h.1, fun d hd => ?_⟩
  rcases List.mem_or_eq_of_mem_set hd with g | rfl
  · exact h.2 d g
  · exact hc
theorem put_bad {w : List Nat} {nn kn p s : Nat} (hp : p < nn) (hw : w.length = nn) (hs : ¬ (97 ≤ s ∧ s < 97 + kn)) : ¬ RW (w.take p ++ [s] ++ w.drop (p + 1)) nn kn := fun z => hs (z.2 s (by simp))
noncomputable def spLaw (K : PySem.W.Frag) : Sp := fun vs H Q _ => ∃ (a : Addr) (ns : List Int), vs = [.ref a] ∧ SqL K H a (ns.map V.int) ∧ ns.length ≤ 63 ∧ ∀ H', Q (.bl true) H'
theorem ok_law {f : Addr} {fd : FuncData} (F : Fun K "law" "law" s_law f fd) (tt : Txt K mg ad) (C__law_size : Cal P w K mg base (CX1 P w) "_law_size" 1 ["cell"] spSizeL) (C__law_words : Cal P w K mg base (CX1 P w) "_law_words" 1 ["length", "kinds"] spWordsL) (C__law_folded : Cal P w K mg base (CX1 P w) "_law_folded" 1 ["script", "many"] (spFolded K)) (C__law_stir : Cal P w K mg base (CX1 P w) "_law_stir" 1 ["cell", "k"] spStir)
    (C_Rule_init : Cam P w K mg base (CX1 P w) "Rule" ad.Rule 4 ["self", "length", "kinds", "told"] (spRuleI ad.Rule ad)) (C_next_word : Cal P w K mg base (CX1 P w) "next_word" 5 ["rule", "word"] (spNextW ad.Rule ad)) (C_partners : Cal P w K mg base (CX1 P w) "partners" 5 ["rule", "word"] (spPartn ad.Rule ad)) (C__law_texts : Cal P w K mg base (CX1 P w) "_law_texts" 1 ["found", "due"] (spTexts K))
    (C__law_exchanged_right : Cal P w K mg base (CX1 P w) "_law_exchanged_right" 7 ["rule", "words", "told", "n"] (spExR K ad.Rule)) (C__law_refused : Cal P w K mg base (CX1 P w) "_law_refused" 7 ["way", "rule", "word", "other"] (spRef45 ad.Rule)) :
    FnOk P w K mg base (CX1 P w) 8 f fd ["script"] (spLaw K) := by
  refine F.okN sc_law (fun vs H Q E h => ?_) (fun cdv A outer s H vs Q E hr h => ?_)
  · obtain ⟨a, ns, rfl, _⟩ := h
    rfl
  · obtain ⟨a, ns, rfl, hS, hlen, q⟩ := h
    have hs : sizeLine = 16777216 := sizeLine_eq
    have hu := Nat.lt_of_succ_lt (hu_of hr)
    refine ⟨_, (pss_cons (ps_set (i := 1) sc_law.nd rfl (Or.inl rfl) (pe_op op_mod (pe_op op_mul (pe_callB (call_sumX rfl) (by rfl) tt.b_sum PyProof.Rows.boot_sum (pa_cons (pv 0) pa_nil)) pe_int) pe_int))
      (pss_cons (ps_asg (pe_cal C__law_size hr pass1 (pa_cons (pe_op op_fdiv (pv 1) pe_int) pa_nil)) (pg_tup rfl (pgs_cons (pg_name (i := 2) sc_law.nd rfl (Or.inl rfl)) (pgs_cons (pg_name (i := 3) sc_law.nd rfl (Or.inr rfl)) pgs_nil))))
      (pss_cons (ps_set (i := 4) sc_law.nd rfl (Or.inr rfl) (pe_cal C__law_words hr pass1 (pa_cons (pv 2) (pa_cons (pv 3) pa_nil))))
      (pss_cons (ps_set (i := 5) sc_law.nd rfl (Or.inr rfl) (pe_cal C__law_folded hr pass1 (pa_cons (pv 0) (pa_cons (pe_callB call_len_seq (by rfl) tt.b_len PySem.boot_len (pa_cons (pv 4) pa_nil)) pa_nil))))
      (pss_cons (ps_setComp (i := 6) cs_law_0 rfl (pi_range1 (by rfl) tt.b_range (pa_cons (pe_callB call_len_seq (by rfl) tt.b_len PySem.boot_len (pa_cons (pv 4) pa_nil)) pa_nil)) (fun cl C s' H' fp => (pe_ix ix_T (pe_strT [97, 98, 99, 100, 101, 102] (by decide +kernel)) (pe_op op_mod (pe_op op_fdiv (pe_cal C__law_stir hr pass1 (pa_cons (pe_ix (ix_list_K K rfl) (pv 6) (pv 0) (fun _ _ => rfl)) (pa_cons (pv 0) pa_nil))) pe_int) (pv 4)) (fun _ _ => rfl))) sc_law.nd rfl rfl)
      (pss_cons (ps_if (pt_cmpR op_eq_I (pe_op op_mod (pe_ix ix_list (pe_op op_catL (pv 0) (pe_lst (pa_cons pe_int pa_nil))) pe_int (fun _ _ => rfl)) pe_int) pe_int (nomark _)) (pss_cons (ps_set (i := 7) sc_law.nd rfl (Or.inl rfl) (pe_op op_fdiv (pe_ix ix_list (pv 0) pe_int (fun _ _ => rfl)) pe_int))
      (pss_one (ps_for PassesOwn.never rfl (pi_range1 (by rfl) tt.b_range (pa_cons (pe_callB call_len_seq (by rfl) tt.b_len PySem.boot_len (pa_cons (pv 4) pa_nil)) pa_nil)) (pg_name (i := 8) sc_law.nd rfl (Or.inr rfl)) (pss_cons (ps_asg (pe_ix ix_T (pe_strT [97, 98, 99, 100, 101, 102] (by decide +kernel)) (pe_op op_mod (pv 7) (pv 3)) (fun _ _ => rfl)) (pg_sub (pv 6) (pv 8) set_list))
      (pss_one (ps_set (i := 7) sc_law.nd rfl (Or.inl rfl) (pe_op op_fdiv (pv 7) (pv 3)))))))) pss_nil)
      (pss_cons (ps_set (i := 9) sc_law.nd rfl (Or.inl rfl) (pe_mak C_Rule_init hr pass1 (pa_cons (pv 2) (pa_cons (pv 3) (pa_cons (pe_bm PySem.F.plainAttrs_str PySem.F.slot_str_join PySem.F.type_str_join mt_join (pe_strT [] (by decide +kernel)) (pa_cons (pv 6) pa_nil)) pa_nil)))))
      (pss_cons (ps_for PassesOwn.never rfl (pi_range1 (by rfl) tt.b_range (pa_cons (pe_callB call_len_seq (by rfl) tt.b_len PySem.boot_len (pa_cons (pv 4) pa_nil)) pa_nil)) (pg_name (i := 8) sc_law.nd rfl (Or.inr rfl)) (pss_cons (ps_set (i := 10) sc_law.nd rfl (Or.inl rfl) (pe_cal C_next_word hr pass1 (pa_cons (pv 9) (pa_cons (pe_ix ix_list (pv 4) (pv 8) (fun _ _ => rfl)) pa_nil))))
      (pss_cons (ps_if (PW.pt (pw_or (pt_not (pt_val (pe_callB call_isinst (by rfl) tt.b_isinstance PyProof.Rows.boot_isinstance (pa_cons (pv 10) (pa_cons (pe_bltn (v := .ty "str") (u := .type "str") (by rfl) tt.b_str (by decide +kernel) rfl) pa_nil))))) (pw_or1 (pt_cmpR op_ne_T (pv 10) (pe_op op_add_T (pe_slice sl_T (pe_ix ix_list (pv 4) (pv 8) (fun _ _ => rfl)) (po_some pe_int) po_none) (pe_ix ix_list (pv 6) (pv 8) (fun _ _ => rfl))) (nomark _))))) (pss_one (ps_ret pe_bl)) pss_nil)
      (pss_cons (ps_setCompf (i := 11) cs_law_1 rfl (pi_str (pe_slice sl_T (pe_strT [97, 98, 99, 100, 101, 102] (by decide +kernel)) po_none (po_some (pv 3)))) (fun cl C s' H' fp => (pt_cmpR op_ne_T (pv 0) (pe_ix ix_T (pe_ix (ix_list_K K rfl) (pv 5) (pv 9) (fun _ _ => rfl)) pe_int (fun _ _ => rfl)) (nomark _))) (fun cl C s' H' fp => (pe_op op_add_T (pv 0) (pe_slice sl_T (pe_ix (ix_list_K K rfl) (pv 5) (pv 9) (fun _ _ => rfl)) (po_some pe_int) po_none))) sc_law.nd rfl rfl)
      (pss_cons (ps_set (i := 12) sc_law.nd rfl (Or.inl rfl) (pe_cal C_partners hr pass1 (pa_cons (pv 9) (pa_cons (pe_ix ix_list (pv 4) (pv 8) (fun _ _ => rfl)) pa_nil))))
      (pss_cons (ps_if (pt_not (pt_val (pe_cal C__law_texts hr pass1 (pa_cons (pv 12) (pa_cons (pv 11) pa_nil))))) (pss_one (ps_ret pe_bl)) pss_nil)
      (pss_cons (ps_expr (pe_bm PySem.F.plainAttrs_list PySem.F.slot_list_append PySem.F.type_list_append mt_append (pv 12) (pa_cons (pe_strT [120] (by decide +kernel)) pa_nil)))
      (pss_one (ps_if (pt_cmpR (op_ne_LT hu) (pe_cal C_partners hr pass1 (pa_cons (pv 9) (pa_cons (pe_ix ix_list (pv 4) (pv 8) (fun _ _ => rfl)) pa_nil))) (pv 11) (nomark _)) (pss_one (ps_ret pe_bl)) pss_nil)))))))))
      (pss_cons (ps_if (PW.pt (pw_and (pt_cmpR op_gt (pv 3) pe_int (nomark _)) (pw_and1 (pt_not (pt_val (pe_cal C__law_exchanged_right hr pass1 (pa_cons (pv 9) (pa_cons (pv 4) (pa_cons (pv 6) (pa_cons (pv 1) pa_nil)))))))))) (pss_one (ps_ret pe_bl)) pss_nil)
      (pss_cons (ps_set (i := 13) sc_law.nd rfl (Or.inl rfl) (pe_ix ix_list (pv 4) (pe_op op_mod (pe_op op_fdiv (pv 1) pe_int) (pe_callB call_len_seq (by rfl) tt.b_len PySem.boot_len (pa_cons (pv 4) pa_nil))) (fun _ _ => rfl)))
      (pss_cons (ps_set (i := 14) sc_law.nd rfl (Or.inl rfl) (pe_op op_mod (pe_op op_fdiv (pv 1) pe_int) (pv 2)))
      (pss_cons (ps_set (i := 15) sc_law.nd rfl (Or.inl rfl) (pe_lst (pa_cons (pe_op op_add_T (pv 13) (pe_strT [97] (by decide +kernel))) (pa_cons (pe_slice sl_T (pv 13) (po_some pe_int) po_none) (pa_cons (pe_strT [] (by decide +kernel)) (pa_cons (pe_op op_add_T (pe_op op_add_T (pe_slice sl_T (pv 13) po_none (po_some (pv 14))) (pe_strT [103] (by decide +kernel))) (pe_slice sl_T (pv 13) (po_some (pe_op op_add (pv 14) pe_int)) po_none)) (pa_cons (pe_op op_add_T (pe_op op_add_T (pe_slice sl_T (pv 13) po_none (po_some (pv 14))) (pe_strT [65] (by decide +kernel))) (pe_slice sl_T (pv 13) (po_some (pe_op op_add (pv 14) pe_int)) po_none)) (pa_cons (pe_op op_add_T (pv 13) (pe_strT [32] (by decide +kernel))) pa_nil))))))))
      (pss_cons (ps_expr (pe_bm PySem.F.plainAttrs_list PySem.F.slot_list_append PySem.F.type_list_append mt_append (pv 15) (pa_cons (pe_op op_add_T (pe_op op_add_T (pe_slice sl_T (pv 13) po_none (po_some (pv 14))) (pe_ix ix_T (pe_strT [97, 98, 99, 100, 101, 102, 103] (by decide +kernel)) (pv 3) (fun _ _ => rfl))) (pe_slice sl_T (pv 13) (po_some (pe_op op_add (pv 14) pe_int)) po_none)) pa_nil)))
      (pss_cons (ps_for PassesOwn.never rfl (pi_list (pv 15)) (pg_name (i := 16) sc_law.nd rfl (Or.inl rfl)) (pss_one (ps_for PassesOwn.never rfl (pi_range1 (by rfl) tt.b_range (pa_cons pe_int pa_nil)) (pg_name (i := 17) sc_law.nd rfl (Or.inl rfl)) (pss_one (ps_if (pt_not (pt_val (pe_cal C__law_refused hr pass1 (pa_cons (pv 17) (pa_cons (pv 9) (pa_cons (pv 16) (pa_cons (pv 13) pa_nil))))))) (pss_one (ps_ret pe_bl)) pss_nil)))))
      (pss_one (ps_ret pe_bl)))))))))))))))), ?_⟩
    refine ⟨_, rfl, a, ns, rfl, hS, _, _, rfl, rfl, .inr ⟨by decide, by decide⟩, _, _, rfl, rfl, (by show (0 : Int) < 2147483647; decide), ?_⟩  -- n
    dsimp only
    generalize ns.sum * 69621 % 2147483647 = z
    refine ⟨_, rfl, _, _, rfl, rfl, ⟨by decide, by decide⟩, _, rfl, fun tp nn kn H1 s1 htp hz => ?_⟩  -- _law_size(n // 7)
    obtain ⟨hk, hn, h64⟩ := id hz
    refine ⟨tp, _, rfl, SqT.of htp, rfl, _, _, rfl, _, _, rfl, rfl, ?_⟩  -- length, kinds
    refine ⟨_, rfl, _, rfl, nn, kn, rfl, ⟨hk, by omega, by omega⟩, fun W H2 hWn s2 hdW => ?_⟩  -- words
    have hwl : ((Wd.allW kn nn).map T).length = kn ^ nn := by rw [List.length_map, Wd.allW_len]
    have hp0 : 0 < kn ^ nn := Nat.pow_pos (by omega)
    have s02 := s1.trans s2
    refine ⟨_, rfl, _, rfl, W, _, rfl, .inl (SqL.of hdW), a, ns, _, rfl, s02.seq hS, ⟨hlen, by rw [hwl]; omega, by rw [hwl]; omega⟩, fun C zs H3 s3 hdC hzl => ?_⟩  -- cells
    rw [hwl] at hzl
    have hdW3 := s3 W _ hdW
    have atW : ∀ m : Nat, m < kn ^ nn → atI ((Wd.allW kn nn).map T) ((m : Nat) : Int) = some (T (Wd.spell kn nn m)) := fun m hm => atI_nat (allW_at hm)
    have spl : ∀ m : Nat, m < kn ^ nn → (Wd.spell kn nn m).length = nn := fun m hm => (spell_rw (by omega) hm).1
    refine ⟨_, rfl, W, _, rfl, .inl (SqL.of hdW3), _, rfl, by omega, (by rw [hwl]; omega), ?_⟩  -- letters_told = [..]
    rw [show (((((Wd.allW kn nn).map T).length : Nat) : Int)).toNat = kn ^ nn by rw [hwl, Int.toNat_natCast]]
    refine compB (vs := (List.range (kn ^ nn)).map fun (m : Nat) => V.int (m : Int)) (fun v => T [ltr zs kn (unI v)]) readsB_range (by rw [List.length_map, List.length_range]; omega) (fun v H4 hv s4 N hN => ?_) fun D6 H4 hD6 s4 hd4 => ?_
    · obtain ⟨m, hm, rfl⟩ := List.mem_map.mp hv
      rw [List.mem_range] at hm
      have g := hN H4 (Same.refl _)
      rw [show unI (V.int (m : Int)) = m from Int.toNat_natCast m] at g
      have hgd : zs[m]? = some (zs.getD m 0) := by rw [List.getD_eq_getElem?_getD, List.getElem?_eq_getElem (by omega)]; rfl
      exact ⟨_, rfl, _, rfl, C, _, _, _, rfl, rfl, SqL.of (s4 C _ hdC), atI_nat (by rw [List.getElem?_map, hgd]; rfl), _, rfl, _, _, rfl, ⟨by omega, by omega⟩, _, _, rfl, rfl, ⟨by decide, by decide⟩, _, rfl, _, _, rfl, rfl, (by show (0 : Int) < ((kn : Nat) : Int); omega), _, rfl, _, rfl, (by show 6 ≤ sizeLine; omega), _, (abcAt (Int.emod_nonneg _ (show ((kn : Nat) : Int) ≠ 0 by omega)) (Int.emod_lt_of_pos _ (show (0 : Int) < ((kn : Nat) : Int) by omega)) hk.2).1, g⟩
    have hd4 : H4 D6 = some (.lst ((((List.range (kn ^ nn)).map (ltr zs kn)).map fun c => [c]).map T)) := by
      rw [hd4, List.map_map, List.map_map, List.map_map]
      refine congrArg (fun l => some (HO.lst l)) (List.map_congr_left fun m _ => ?_)
      show T [ltr zs kn (unI (V.int (m : Int)))] = T [ltr zs kn m]
      rw [show unI (V.int (m : Int)) = m from Int.toNat_natCast m]
    have hto0 : TellOk ((List.range (kn ^ nn)).map (ltr zs kn)) nn kn := ⟨by rw [List.length_map, List.length_range], fun c hc => by
      obtain ⟨m, _, rfl⟩ := List.mem_map.mp hc
      exact (abcAt (Int.emod_nonneg _ (show ((kn : Nat) : Int) ≠ 0 by omega)) (Int.emod_lt_of_pos _ (show (0 : Int) < ((kn : Nat) : Int) by omega)) hk.2).2⟩
    generalize (List.range (kn ^ nn)).map (ltr zs kn) = t0 at hd4 hto0
    have s04 := s02.trans (s3.trans s4)
    have hdW4 := s4 W _ hdW3
    refine ⟨_, rfl, (by show 1 ≤ sizeLine; omega), fun p4 hp4 => ?_⟩
    have u4 := same_upd (o := .lst [.int 0]) hp4
    refine ⟨a, p4, _, _, rfl, rfl, (s04.trans u4).seq hS, SqL.of upd_same, (by rw [List.length_map]; show _ + 1 ≤ sizeLine; omega), fun p5 hp5 => ?_⟩
    obtain ⟨u0, hu0, hu1⟩ : ∃ u0 : Int, atI (ns.map V.int ++ [V.int 0]) 0 = some (.int u0) ∧ (u0 % 2 = 1 → ∃ v, ns[0]? = some v) := by
      cases ns with
      | nil => exact ⟨0, rfl, fun z => absurd z (by decide)⟩
      | cons v r => exact ⟨v, atI_nat (j := 0) rfl, fun _ => ⟨v, rfl⟩⟩
    have u5 := u4.trans (same_upd (o := .lst (ns.map V.int ++ [V.int 0])) hp5)
    obtain ⟨H5, hH5, s45, hd5⟩ := namedD u5
    rw [← hH5]
    refine ⟨p5, _, _, _, rfl, rfl, SqL.of hd5, hu0, _, _, rfl, rfl, (by show (0 : Int) < 2; decide), _, rfl, _, rfl, _, rfl, ?_⟩  -- (script + [0])[0] % 2 == 1
    have s05 := s04.trans s45
    have hdW5 := s45 W _ hdW4
    have hd65 := s45 D6 _ hd4
    have hWD : W ≠ D6 := ne_of_none hdW3 hD6
    refine ite2 (fun h1 => ?a) (fun h1 => ?b)
    case' a =>
      obtain ⟨v0, hv0⟩ := hu1 (of_decide_eq_true h1)
      refine ⟨_, rfl, a, _, _, _, rfl, rfl, s05.seq hS, atI_nat (j := 0) (by rw [List.getElem?_map, hv0]; rfl), _, _, rfl, rfl, ⟨by decide, by decide⟩, ?_⟩  -- digits = script[0] // 2
      refine ⟨_, rfl, W, _, rfl, .inl (SqL.of hdW5), _, rfl, by omega, (by rw [hwl]; omega), ?_⟩
      rw [show (((((Wd.allW kn nn).map T).length : Nat) : Int)).toNat = kn ^ nn by rw [hwl, Int.toNat_natCast]]
      refine for_range (fun i σ Hd => (∀ b o, H5 b = some o → b ≠ D6 → Hd b = some o) ∧ ∃ (t : List Nat) (d : Int) (v8 : Option V), Hd D6 = some (.lst ((t.map fun c => [c]).map T)) ∧ TellOk t nn kn ∧ σ = [some (.ref a), some (.int z), some (.int (nn : Nat)), some (.int (kn : Nat)), some (.ref W), some (.ref C), some (.ref D6), some (.int d), v8, none, none, none, none, none, none, none, none, none])
        ⟨fun b o e _ => e, t0, _, none, hd65, hto0, rfl⟩ ?_ ?main
      · rintro i σ Hd hi ⟨kd, t, d, v8, hdd, hto, rfl⟩
        have hd0 := abcAt (Int.emod_nonneg d (show ((kn : Nat) : Int) ≠ 0 by omega)) (Int.emod_lt_of_pos d (show (0 : Int) < ((kn : Nat) : Int) by omega)) hk.2
        have htl := hto.1
        refine ⟨_, rfl, _, rfl, _, _, rfl, rfl, (by show (0 : Int) < ((kn : Nat) : Int); omega), _, rfl, _, rfl, (by show 6 ≤ sizeLine; omega), _, hd0.1, _, rfl, _, rfl, D6, _, _, i, rfl, rfl, hdd, (by rw [Int.zero_add]; exact ixN_nat (by rw [List.length_map, List.length_map]; omega)), ?_⟩  -- letters_told[k] = 'abcdef'[digits % kinds]
        rw [set_map T, set_map fun c => [c]]
        refine ⟨_, rfl, _, rfl, _, _, rfl, rfl, ⟨by omega, by omega⟩, ?_⟩  -- digits = digits // kinds
        exact ⟨fun b o e hb => by rw [upd_ne hb]; exact kd b o e hb, t.set i _, _, _, upd_same, map_set_same hto hd0.2, rfl⟩
      case' main =>
        rintro σ H6 ⟨kd, t, d, v8, hd6, hto, rfl⟩
    case' b =>
      obtain ⟨H6, hH6⟩ : ∃ H6, H6 = H5 := ⟨_, rfl⟩
      obtain ⟨kd, t, hd6, hto⟩ : (∀ b o, H5 b = some o → b ≠ D6 → H6 b = some o) ∧ ∃ t : List Nat, H6 D6 = some (.lst ((t.map fun c => [c]).map T)) ∧ TellOk t nn kn := ⟨fun b o e _ => by rw [hH6]; exact e, t0, by rw [hH6]; exact hd65, hto0⟩
      rw [← hH6]
    all_goals
      have hdW6 := kd W _ hdW5 hWD
      have htl := hto.1
      refine ⟨_, rfl, _, rfl, rfl, _, rfl, rfl, D6, _, rfl, SqL.of hd6, (by rw [signs_flat]; omega), ?_⟩
      rw [signs_flat]
      intro x dx nx ndx nex  -- rule = Rule(..)
      refine ⟨x, dx, _, _, t, rfl, upd_same, (by omega), fun z => absurd (by omega) z, fun _ z => absurd (by omega) z, fun kn' nn' ek en _ _ => ?_⟩
      obtain rfl : kn = kn' := by omega
      obtain rfl : nn = nn' := by omega
      refine ⟨fun z => absurd z (by omega), fun _ z => absurd hto z, fun _ _ H7 keep hx => ⟨rfl, ?_⟩⟩
      have s67 : Same H6 H7 := fun c o e => keep c o (by rw [upd_ne (ne_of_none e nx), upd_ne (ne_of_none e ndx)]; exact e) (ne_of_none e nx)
      have hR : RuleAt ad.Rule H7 x nn kn t := ⟨dx, hx⟩
      have hdW7 := s67 W _ hdW6
      have hd67 := s67 D6 _ hd6
      have tat : ∀ {m c : Nat}, t[m]? = some c → atI ((t.map fun c => [c]).map T) ((m : Nat) : Int) = some (T [c]) := fun h => atI_nat (by rw [List.getElem?_map, List.getElem?_map, h]; rfl)
      refine ⟨_, rfl, W, _, rfl, .inl (SqL.of hdW7), _, rfl, by omega, (by rw [hwl]; omega), ?_⟩  -- for k in range(len(words))
      rw [show (((((Wd.allW kn nn).map T).length : Nat) : Int)).toNat = kn ^ nn by rw [hwl, Int.toNat_natCast]]
      refine for_range (fun i σ Hb => Same H7 Hb ∧ ∃ v7 v8 v10 v11 v12 : Option V, σ = [some (.ref a), some (.int z), some (.int (nn : Nat)), some (.int (kn : Nat)), some (.ref W), some (.ref C), some (.ref D6), v7, v8, some (.ref x), v10, v11, v12, none, none, none, none, none]) ⟨Same.refl _, _, _, none, none, none, rfl⟩ ?_ ?_
      · rintro i σ Hb hi ⟨sb, v7, v8, v10, v11, v12, rfl⟩
        have hWb : SqL K Hb W ((Wd.allW kn nn).map T) := SqL.of (sb W _ hdW7)
        have hat : atI ((Wd.allW kn nn).map T) (0 + (i : Int)) = some (T (Wd.spell kn nn i)) := by rw [Int.zero_add]; exact atW i hi
        have rwi := spell_rw (k := kn) (n := nn) (by omega) hi
        have ni := Wd.num_spell (k := kn) (by omega) nn i hi
        obtain ⟨c, hc⟩ : ∃ c, t[i]? = some c := ⟨_, List.getElem?_eq_getElem (by omega)⟩
        generalize Wd.spell kn nn i = wd at hat rwi ni
        have li := rwi.1
        have ed : cutL wd (some 1) none = wd.drop 1 := cutL_from (k := 1) (by omega)
        have hcl : (cutL wd (some 1) none).length ≤ 8 := by rw [ed, List.length_drop]; omega
        obtain ⟨c0, hc0⟩ : ∃ c, wd[0]? = some c := ⟨_, List.getElem?_eq_getElem (by omega)⟩
        have ht1 : wd.take 1 = [c0] := by
          cases wd with
          | nil => simp at hc0
          | cons a l => simp at hc0; subst hc0; rfl
        refine ⟨_, rfl, _, rfl, _, rfl, W, _, _, _, rfl, rfl, hWb, hat, x, nn, kn, t, wd, rfl, hR.on sb, hz, hto, (by omega), fun _ c' hc' => ?_, fun z => absurd rwi z⟩  -- found = next_word(rule, words[k])
        rw [ni] at hc'
        obtain rfl : c = c' := Option.some.inj (hc.symm.trans hc')
        refine ⟨_, rfl, _, _, _, _, rfl, .str _, kit_same _, _, rfl, iteF ?_⟩  -- isinstance(found, str)
        refine ⟨_, rfl, _, rfl, _, rfl, W, _, _, _, rfl, rfl, hWb, hat, _, rfl, _, rfl, (by omega), _, rfl, _, rfl, D6, _, _, _, rfl, rfl, SqL.of (sb D6 _ hd67), (by rw [Int.zero_add]; exact tat hc), _, rfl, _, rfl, (by show _ + 1 ≤ sizeLine; omega), _, rfl, _, rfl, _, rfl, itN (by rw [ed, decide_eq_true rfl]; exact Bool.false_ne_true) ?_⟩  -- found != words[k][1:] + letters_told[k]
        refine ⟨_, rfl, _, rfl, _, rfl, (by show 6 ≤ sizeLine; omega), ?_⟩  -- due = [..]
        rw [cutL_take]
        refine ⟨_, rfl, ?_⟩
        refine compFG (vs := ((([97, 98, 99, 100, 101, 102] : List Nat).take kn).map fun c => [c]).map T) (fun v => !decide (unT v = wd.take 1)) (fun v => T (unT v ++ wd.drop 1)) reads_text (by rw [List.length_map, List.length_map, List.length_take]; omega) (fun v H3 hv s3 N hN => ?_) (fun v H3 hv hp s3 N hN => ?_) fun Dd Hd hDd sd hdd => ?_
        · obtain ⟨l, hl', rfl⟩ := List.mem_map.mp hv
          obtain ⟨ch, hch, rfl⟩ := List.mem_map.mp hl'
          have g := hN H3 (Same.refl _)
          rw [unT_T, ht1] at g
          exact ⟨_, rfl, _, rfl, _, rfl, W, _, _, _, rfl, rfl, s3.seq hWb, hat, _, rfl, _, rfl, (by omega), c0, atI_nat (j := 0) hc0, _, rfl, _, rfl, _, rfl, g⟩
        · obtain ⟨l, hl', rfl⟩ := List.mem_map.mp hv
          obtain ⟨ch, hch, rfl⟩ := List.mem_map.mp hl'
          have g := hN H3 (Same.refl _)
          rw [unT_T, ← ed] at g
          exact ⟨_, rfl, _, rfl, _, rfl, W, _, _, _, rfl, rfl, s3.seq hWb, hat, _, rfl, _, rfl, (by omega), _, rfl, _, rfl, (by show 1 + _ ≤ sizeLine; omega), g⟩
        rw [parts_of_comp] at hdd
        have hdd : Hd Dd = some (.lst ((parts kn wd).map T)) := hdd
        have hpl : (parts kn wd).length ≤ 6 := by
          unfold parts
          rw [List.length_map]
          refine Nat.le_trans (List.length_filter_le ..) ?_
          rw [List.length_take]
          exact Nat.le_trans (Nat.min_le_left ..) hk.2
        refine ⟨_, rfl, _, rfl, _, rfl, W, _, _, _, rfl, rfl, sd.seq hWb, hat, x, nn, kn, t, wd, rfl, hR.on (sb.trans sd), hz, (by omega), fun _ Dp He hDp se hdp => ?_, fun z => absurd rwi z⟩  -- told = partners(rule, words[k])
        refine ⟨_, rfl, _, rfl, Dp, Dd, _, rfl, hdp, SqL.of (se Dd _ hdd), (by omega), fun Hf sf => ⟨_, rfl, iteF ?_⟩⟩  -- _law_texts(told, due)
        refine ⟨_, rfl, .inl ⟨rfl, _, SqL.of (sf Dp _ hdp)⟩, Dp, _, _, rfl, rfl, sf Dp _ hdp, (by rw [List.length_map]; omega), ?_⟩  -- told.append('x')
        have sg : Same Hd (upd Hf Dp (.lst ((parts kn wd).map T ++ [T [120]]))) := fun b o e => by rw [upd_ne (ne_of_none e hDp)]; exact (se.trans sf) b o e
        generalize upd Hf Dp (.lst ((parts kn wd).map T ++ [T [120]])) = Hg at sg ⊢
        refine ⟨_, rfl, _, rfl, _, rfl, W, _, _, _, rfl, rfl, (sd.trans sg).seq hWb, hat, x, nn, kn, t, wd, rfl, hR.on (sb.trans (sd.trans sg)), hz, (by omega), fun _ Dq Hh hDq sh hdq => ?_, fun z => absurd rwi z⟩  -- partners(rule, words[k])
        refine ⟨_, rfl, Dq, Dd, _, _, rfl, rfl, SqL.of hdq, SqL.of ((sg.trans sh) Dd _ hdd), _, rfl, itN (by rw [decide_eq_true rfl]; exact Bool.false_ne_true) ?_⟩  -- .. != due
        exact ⟨sb.trans (sd.trans (sg.trans sh)), _, _, _, _, _, rfl⟩
      · rintro σ Hb ⟨sb, v7, v8, v10, v11, v12, rfl⟩
        refine ⟨_, rfl, _, _, rfl, rfl, _, rfl, ?_⟩  -- kinds > 1
        refine ite2 (fun hc => ?_) (fun hc => ?_)
        have h1k : 1 < kn := by have h1' : (1 : Int) < ((kn : Nat) : Int) := of_decide_eq_true hc; omega
        refine ⟨_, rfl, _, rfl, _, rfl, _, rfl, x, W, D6, nn, kn, t, z, rfl, hR.on sb, hz, hto, h1k, SqL.of (sb W _ hdW7), SqL.of (sb D6 _ hd67), fun G sG => ⟨_, rfl, iteF ?_⟩⟩
        rotate_left
        obtain ⟨G, hG⟩ : ∃ G, G = Hb := ⟨_, rfl⟩
        have sG : Same Hb G := by rw [hG]; exact Same.refl _
        rw [← hG]
        refine itN Bool.false_ne_true ?_
        all_goals
          have sbG := sb.trans sG
          obtain ⟨i1, hi1, hil1⟩ : ∃ i : Nat, z / 40 % ((kn ^ nn : Nat) : Int) = (i : Int) ∧ i < kn ^ nn := ⟨(z / 40 % ((kn ^ nn : Nat) : Int)).toNat, by have := Int.emod_nonneg (z / 40) (show ((kn ^ nn : Nat) : Int) ≠ 0 by omega); omega, by have := Int.emod_nonneg (z / 40) (show ((kn ^ nn : Nat) : Int) ≠ 0 by omega); have := Int.emod_lt_of_pos (z / 40) (show (0 : Int) < ((kn ^ nn : Nat) : Int) by omega); omega⟩
          refine ⟨_, rfl, _, rfl, _, _, rfl, rfl, ⟨by decide, by decide⟩, _, rfl, W, _, rfl, .inl (SqL.of (sbG W _ hdW7)), _, _, rfl, rfl, (by rw [hwl]; omega), W, _, _, _, rfl, rfl, SqL.of (sbG W _ hdW7), (show atI _ (z / 40 % ((((Wd.allW kn nn).map T).length : Nat) : Int)) = some (T (Wd.spell kn nn i1)) by rw [hwl, hi1]; exact atW i1 hil1), ?_⟩  -- one
          have rwo := spell_rw (k := kn) (n := nn) (by omega) hil1
          generalize Wd.spell kn nn i1 = on at rwo ⊢
          have lo := rwo.1
          obtain ⟨p, hp, hpl⟩ : ∃ p : Nat, z / 3000 % ((nn : Nat) : Int) = (p : Int) ∧ p < nn := ⟨(z / 3000 % ((nn : Nat) : Int)).toNat, by have := Int.emod_nonneg (z / 3000) (show ((nn : Nat) : Int) ≠ 0 by omega); omega, by have := Int.emod_nonneg (z / 3000) (show ((nn : Nat) : Int) ≠ 0 by omega); have := Int.emod_lt_of_pos (z / 3000) (show (0 : Int) < ((nn : Nat) : Int) by omega); omega⟩
          refine ⟨_, rfl, _, _, rfl, rfl, ⟨by decide, by decide⟩, _, rfl, _, _, rfl, rfl, (by show (0 : Int) < ((nn : Nat) : Int); omega), ?_⟩  -- at
          dsimp only
          rw [hp]
          have e1 : cutL on none (some ((p : Nat) : Int)) = on.take p := cutL_take _ _
          have e2 : cutL on (some (((p : Nat) : Int) + 1)) none = on.drop (p + 1) := cutL_from (k := p + 1) (by omega)
          have e3 : cutL on (some 1) none = on.drop 1 := cutL_from (k := 1) (by omega)
          have l1 : (cutL on none (some ((p : Nat) : Int))).length ≤ 8 := by rw [e1, List.length_take]; omega
          have l2 : (cutL on (some (((p : Nat) : Int) + 1)) none).length ≤ 8 := by rw [e2, List.length_drop]; omega
          refine ⟨_, rfl, _, rfl, _, rfl, (by show _ + 1 ≤ sizeLine; omega), _, rfl, _, rfl, _, rfl, (by omega), _, rfl, _, rfl, _, rfl, _, rfl, (by omega), _, rfl, _, rfl, (by show _ + 1 ≤ sizeLine; omega), _, rfl, _, rfl, _, _, rfl, rfl, _, rfl, _, rfl, (by omega), _, rfl, _, rfl, (by rw [List.length_append]; show _ + 1 + _ ≤ sizeLine; omega), _, rfl, _, rfl, _, rfl, _, rfl, (by omega), _, rfl, _, rfl, (by show _ + 1 ≤ sizeLine; omega), _, rfl, _, rfl, _, _, rfl, rfl, _, rfl, _, rfl, (by omega), _, rfl, _, rfl, (by rw [List.length_append]; show _ + 1 + _ ≤ sizeLine; omega), _, rfl, _, rfl, _, rfl, (by show _ + 1 ≤ sizeLine; omega), (by show 6 ≤ sizeLine; omega), fun S hSn => ?_⟩  -- strange = [..]
          have tS := same_upd (o := .lst [T (on ++ [97]), T (cutL on (some 1) none), T [], T (cutL on none (some ((p : Nat) : Int)) ++ [103] ++ cutL on (some (((p : Nat) : Int) + 1)) none), T (cutL on none (some ((p : Nat) : Int)) ++ [65] ++ cutL on (some (((p : Nat) : Int) + 1)) none), T (on ++ [32])]) hSn
          obtain ⟨G2, hG2, tS, hdS⟩ := namedD tS
          rw [← hG2]
          have hkc : atI [97, 98, 99, 100, 101, 102, 103] ((kn : Nat) : Int) = some (97 + kn) := by
            have : ∀ k : Nat, k < 7 → ([97, 98, 99, 100, 101, 102, 103] : List Nat)[k]? = some (97 + k) := by decide
            exact atI_nat (this kn (by omega))
          refine ⟨_, rfl, .inl ⟨rfl, _, SqL.of hdS⟩, _, rfl, _, rfl, _, rfl, _, rfl, (by omega), _, rfl, _, rfl, _, rfl, (by show 7 ≤ sizeLine; omega), _, hkc, _, rfl, _, rfl, (by show _ + 1 ≤ sizeLine; omega), _, rfl, _, rfl, _, _, rfl, rfl, _, rfl, _, rfl, (by omega), _, rfl, _, rfl, (by rw [List.length_append]; show _ + 1 + _ ≤ sizeLine; omega), S, _, _, rfl, rfl, hdS, (by show 6 < sizeLine; omega), ?_⟩  -- strange.append(..)
          have sG3 : Same G (upd G2 S (.lst ([T (on ++ [97]), T (cutL on (some 1) none), T [], T (cutL on none (some ((p : Nat) : Int)) ++ [103] ++ cutL on (some (((p : Nat) : Int) + 1)) none), T (cutL on none (some ((p : Nat) : Int)) ++ [65] ++ cutL on (some (((p : Nat) : Int) + 1)) none), T (on ++ [32])] ++ [T (cutL on none (some ((p : Nat) : Int)) ++ [97 + kn] ++ cutL on (some (((p : Nat) : Int) + 1)) none)]))) := fun b o e => by rw [upd_ne (ne_of_none e hSn)]; exact tS b o e
          obtain ⟨xs, hxs, hbad⟩ : ∃ xs : List V, [T (on ++ [97]), T (cutL on (some 1) none), T [], T (cutL on none (some ((p : Nat) : Int)) ++ [103] ++ cutL on (some (((p : Nat) : Int) + 1)) none), T (cutL on none (some ((p : Nat) : Int)) ++ [65] ++ cutL on (some (((p : Nat) : Int) + 1)) none), T (on ++ [32])] ++ [T (cutL on none (some ((p : Nat) : Int)) ++ [97 + kn] ++ cutL on (some (((p : Nat) : Int) + 1)) none)] = xs ∧ ∀ y ∈ xs, ∃ wd, y = T wd ∧ ¬ RW wd nn kn ∧ wd.length ≤ 100 := by
            refine ⟨_, rfl, fun y hy => ?_⟩
            rw [e1, e2, e3] at hy
            have hlt : ∀ s : Nat, (on.take p ++ [s] ++ on.drop (p + 1)).length ≤ 100 := fun s => by rw [List.length_append, List.length_append, List.length_take, List.length_drop, List.length_singleton]; omega
            have hlong : ∀ s : Nat, ¬ RW (on ++ [s]) nn kn := fun s z => by have := z.1; rw [List.length_append, List.length_singleton] at this; omega
            simp only [List.cons_append, List.nil_append, List.mem_cons, List.not_mem_nil, or_false] at hy
            rcases hy with rfl | rfl | rfl | rfl | rfl | rfl | rfl
            · exact ⟨_, rfl, hlong 97, by rw [List.length_append, List.length_singleton]; omega⟩
            · exact ⟨_, rfl, fun z => by have := z.1; rw [List.length_drop] at this; omega, by rw [List.length_drop]; omega⟩
            · exact ⟨_, rfl, fun z => by have := z.1; simp at this; omega, by simp⟩
            · exact ⟨_, rfl, put_bad hpl lo (by omega), hlt _⟩
            · exact ⟨_, rfl, put_bad hpl lo (by omega), hlt _⟩
            · exact ⟨_, rfl, hlong 32, by rw [List.length_append, List.length_singleton]; omega⟩
            · exact ⟨_, rfl, put_bad hpl lo (by omega), hlt _⟩
          rw [hxs] at sG3 ⊢
          generalize hG3 : upd G2 S (.lst xs) = G3 at sG3 ⊢
          have hdS3 : G3 S = some (.lst xs) := by rw [← hG3]; exact upd_same
          refine ⟨_, rfl, S, rfl, ⟨_, SqL.of hdS3⟩, ?_⟩  -- for word in strange
          refine for_list (K := K) (a := S) (xs := xs) (fun j σ Hq => Same G3 Hq ∧ ∃ v7 v8 v10 v11 v12 v14 v16 v17 : Option V, σ = [some (.ref a), some (.int z), some (.int (nn : Nat)), some (.int (kn : Nat)), some (.ref W), some (.ref C), some (.ref D6), v7, v8, some (.ref x), v10, v11, v12, some (T on), v14, some (.ref S), v16, v17]) ⟨Same.refl _, _, _, _, _, _, _, none, none, rfl⟩ (fun j σ Hq _ h => SqL.of (h.1 S _ hdS3)) ?_ ?_
          · rintro j y σ Hq hj ⟨sq, v7, v8, v10, v11, v12, v14, v16, v17, rfl⟩
            obtain ⟨wd, rfl, hno, hwl'⟩ := hbad y (List.mem_of_getElem? hj)
            refine ⟨_, rfl, by omega, by omega, ?_⟩  -- for way in range(4)
            refine for_range (fun m σ Hr => Same Hq Hr ∧ ∃ v17 : Option V, σ = [some (.ref a), some (.int z), some (.int (nn : Nat)), some (.int (kn : Nat)), some (.ref W), some (.ref C), some (.ref D6), v7, v8, some (.ref x), v10, v11, v12, some (T on), v14, some (.ref S), some (T wd), v17]) ⟨Same.refl _, v17, rfl⟩ ?_ ?_
            · rintro m σ Hr hm ⟨sr, v17, rfl⟩
              refine ⟨_, rfl, _, rfl, _, rfl, _, rfl, _, x, nn, kn, t, wd, on, rfl, hR.on (sbG.trans (sG3.trans (sq.trans sr))), hz, hto, (by omega), (by omega), hno, rwo, fun Hz sz => ⟨_, rfl, iteF ?_⟩⟩  -- _law_refused(way, rule, word, one)
              exact ⟨sr.trans sz, _, rfl⟩
            · rintro σ Hr ⟨sr, v17, rfl⟩
              exact ⟨sq.trans sr, _, _, _, _, _, _, _, _, rfl⟩
          · rintro σ Hq ⟨sq, v7, v8, v10, v11, v12, v14, v16, v17, rfl⟩
            exact q _

end
theorem all_mk {l : PySem.W.OpenLaw} {w : World} {K : PySem.W.Frag} {h : Heap} {mg : Str → Option Value} {fa : Addr} (X : K.In h) (G : h.Ns mainGlobals mg) (hfa : mg "law" = some (.ref fa))
    {f_looked_kinds : Addr} {od_looked_kinds an_looked_kinds : Option Addr} {sl_looked_kinds : Array (Option Value)} {oc_looked_kinds kV_looked_kinds dc_looked_kinds pm_looked_kinds cd_looked_kinds ct_looked_kinds : Value}
    {f_looked_length : Addr} {od_looked_length an_looked_length : Option Addr} {sl_looked_length : Array (Option Value)} {oc_looked_length kV_looked_length dc_looked_length pm_looked_length cd_looked_length ct_looked_length : Value}
    {f_letters : Addr} {od_letters an_letters : Option Addr} {sl_letters : Array (Option Value)} {oc_letters kV_letters dc_letters pm_letters cd_letters ct_letters : Value}
    {f_looked : Addr} {od_looked an_looked : Option Addr} {sl_looked : Array (Option Value)} {oc_looked kV_looked dc_looked pm_looked cd_looked ct_looked : Value}
    {f_number_of : Addr} {od_number_of an_number_of : Option Addr} {sl_number_of : Array (Option Value)} {oc_number_of kV_number_of dc_number_of pm_number_of cd_number_of ct_number_of : Value}
    {f_word_total : Addr} {od_word_total an_word_total : Option Addr} {sl_word_total : Array (Option Value)} {oc_word_total kV_word_total dc_word_total pm_word_total cd_word_total ct_word_total : Value}
    {f_looked_size : Addr} {od_looked_size an_looked_size : Option Addr} {sl_looked_size : Array (Option Value)} {oc_looked_size kV_looked_size dc_looked_size pm_looked_size cd_looked_size ct_looked_size : Value}
    {f_looked_told : Addr} {od_looked_told an_looked_told : Option Addr} {sl_looked_told : Array (Option Value)} {oc_looked_told kV_looked_told dc_looked_told pm_looked_told cd_looked_told ct_looked_told : Value}
    {f_Rule_init : Addr} {od_Rule_init an_Rule_init : Option Addr} {sl_Rule_init : Array (Option Value)} {oc_Rule_init kV_Rule_init dc_Rule_init pm_Rule_init cd_Rule_init ct_Rule_init : Value}
    {f_looked_word : Addr} {od_looked_word an_looked_word : Option Addr} {sl_looked_word : Array (Option Value)} {oc_looked_word kV_looked_word dc_looked_word pm_looked_word cd_looked_word ct_looked_word : Value}
    {f_next_word : Addr} {od_next_word an_next_word : Option Addr} {sl_next_word : Array (Option Value)} {oc_next_word kV_next_word dc_next_word pm_next_word cd_next_word ct_next_word : Value}
    {f_partners : Addr} {od_partners an_partners : Option Addr} {sl_partners : Array (Option Value)} {oc_partners kV_partners dc_partners pm_partners cd_partners ct_partners : Value}
    {f_exchanged : Addr} {od_exchanged an_exchanged : Option Addr} {sl_exchanged : Array (Option Value)} {oc_exchanged kV_exchanged dc_exchanged pm_exchanged cd_exchanged ct_exchanged : Value}
    {f__law_stir : Addr} {od__law_stir an__law_stir : Option Addr} {sl__law_stir : Array (Option Value)} {oc__law_stir kV__law_stir dc__law_stir pm__law_stir cd__law_stir ct__law_stir : Value}
    {f__law_folded : Addr} {od__law_folded an__law_folded : Option Addr} {sl__law_folded : Array (Option Value)} {oc__law_folded kV__law_folded dc__law_folded pm__law_folded cd__law_folded ct__law_folded : Value}
    {f__law_size : Addr} {od__law_size an__law_size : Option Addr} {sl__law_size : Array (Option Value)} {oc__law_size kV__law_size dc__law_size pm__law_size cd__law_size ct__law_size : Value}
    {f__law_words : Addr} {od__law_words an__law_words : Option Addr} {sl__law_words : Array (Option Value)} {oc__law_words kV__law_words dc__law_words pm__law_words cd__law_words ct__law_words : Value}
    {f__law_texts : Addr} {od__law_texts an__law_texts : Option Addr} {sl__law_texts : Array (Option Value)} {oc__law_texts kV__law_texts dc__law_texts pm__law_texts cd__law_texts ct__law_texts : Value}
    {f__law_refused : Addr} {od__law_refused an__law_refused : Option Addr} {sl__law_refused : Array (Option Value)} {oc__law_refused kV__law_refused dc__law_refused pm__law_refused cd__law_refused ct__law_refused : Value}
    {f__law_exchanged_right : Addr} {od__law_exchanged_right an__law_exchanged_right : Option Addr} {sl__law_exchanged_right : Array (Option Value)} {oc__law_exchanged_right kV__law_exchanged_right dc__law_exchanged_right pm__law_exchanged_right cd__law_exchanged_right ct__law_exchanged_right : Value}
    {f_law : Addr} {od_law an_law : Option Addr} {sl_law : Array (Option Value)} {oc_law kV_law dc_law pm_law cd_law ct_law : Value}
    {c_OnceError : Addr}
    {c_BadKinds : Addr}
    {c_BadWord : Addr}
    {c_TooMany : Addr}
    {c_BadRule : Addr}
    {c_BadDeed : Addr}
    {c_Rule : Addr}
    {u_LETTERS : Value}
    {u_LONGEST : Value}
    {u_MOST_OF_A_RULE : Value}
    {u_LONGEST_OF_A_RULE : Value}
    (a_looked_kinds : PySem.W.nsIn K mainGlobals "looked_kinds" = some (some (.ref f_looked_kinds))) (l_looked_kinds : K.lookup f_looked_kinds = some ⟨oc_looked_kinds, od_looked_kinds, .func (PySem.W.fnOf "looked_kinds" "looked_kinds" (defArgs s_looked_kinds) (defBody s_looked_kinds) (defScope s_looked_kinds) .none kV_looked_kinds dc_looked_kinds pm_looked_kinds an_looked_kinds cd_looked_kinds ct_looked_kinds), sl_looked_kinds⟩) (c_looked_kinds : PySem.W.codeIn K cd_looked_kinds "looked_kinds" = true) (k_looked_kinds : PySem.W.keepIn K (.ref f_looked_kinds) = true)
    (a_looked_length : PySem.W.nsIn K mainGlobals "looked_length" = some (some (.ref f_looked_length))) (l_looked_length : K.lookup f_looked_length = some ⟨oc_looked_length, od_looked_length, .func (PySem.W.fnOf "looked_length" "looked_length" (defArgs s_looked_length) (defBody s_looked_length) (defScope s_looked_length) .none kV_looked_length dc_looked_length pm_looked_length an_looked_length cd_looked_length ct_looked_length), sl_looked_length⟩) (c_looked_length : PySem.W.codeIn K cd_looked_length "looked_length" = true) (k_looked_length : PySem.W.keepIn K (.ref f_looked_length) = true)
    (a_letters : PySem.W.nsIn K mainGlobals "letters" = some (some (.ref f_letters))) (l_letters : K.lookup f_letters = some ⟨oc_letters, od_letters, .func (PySem.W.fnOf "letters" "letters" (defArgs s_letters) (defBody s_letters) (defScope s_letters) .none kV_letters dc_letters pm_letters an_letters cd_letters ct_letters), sl_letters⟩) (c_letters : PySem.W.codeIn K cd_letters "letters" = true) (k_letters : PySem.W.keepIn K (.ref f_letters) = true)
    (a_looked : PySem.W.nsIn K mainGlobals "looked" = some (some (.ref f_looked))) (l_looked : K.lookup f_looked = some ⟨oc_looked, od_looked, .func (PySem.W.fnOf "looked" "looked" (defArgs s_looked) (defBody s_looked) (defScope s_looked) .none kV_looked dc_looked pm_looked an_looked cd_looked ct_looked), sl_looked⟩) (c_looked : PySem.W.codeIn K cd_looked "looked" = true) (k_looked : PySem.W.keepIn K (.ref f_looked) = true)
    (a_number_of : PySem.W.nsIn K mainGlobals "number_of" = some (some (.ref f_number_of))) (l_number_of : K.lookup f_number_of = some ⟨oc_number_of, od_number_of, .func (PySem.W.fnOf "number_of" "number_of" (defArgs s_number_of) (defBody s_number_of) (defScope s_number_of) .none kV_number_of dc_number_of pm_number_of an_number_of cd_number_of ct_number_of), sl_number_of⟩) (c_number_of : PySem.W.codeIn K cd_number_of "number_of" = true) (k_number_of : PySem.W.keepIn K (.ref f_number_of) = true)
    (a_word_total : PySem.W.nsIn K mainGlobals "word_total" = some (some (.ref f_word_total))) (l_word_total : K.lookup f_word_total = some ⟨oc_word_total, od_word_total, .func (PySem.W.fnOf "word_total" "word_total" (defArgs s_word_total) (defBody s_word_total) (defScope s_word_total) .none kV_word_total dc_word_total pm_word_total an_word_total cd_word_total ct_word_total), sl_word_total⟩) (c_word_total : PySem.W.codeIn K cd_word_total "word_total" = true) (k_word_total : PySem.W.keepIn K (.ref f_word_total) = true)
    (a_looked_size : PySem.W.nsIn K mainGlobals "looked_size" = some (some (.ref f_looked_size))) (l_looked_size : K.lookup f_looked_size = some ⟨oc_looked_size, od_looked_size, .func (PySem.W.fnOf "looked_size" "looked_size" (defArgs s_looked_size) (defBody s_looked_size) (defScope s_looked_size) .none kV_looked_size dc_looked_size pm_looked_size an_looked_size cd_looked_size ct_looked_size), sl_looked_size⟩) (c_looked_size : PySem.W.codeIn K cd_looked_size "looked_size" = true) (k_looked_size : PySem.W.keepIn K (.ref f_looked_size) = true)
    (a_looked_told : PySem.W.nsIn K mainGlobals "looked_told" = some (some (.ref f_looked_told))) (l_looked_told : K.lookup f_looked_told = some ⟨oc_looked_told, od_looked_told, .func (PySem.W.fnOf "looked_told" "looked_told" (defArgs s_looked_told) (defBody s_looked_told) (defScope s_looked_told) .none kV_looked_told dc_looked_told pm_looked_told an_looked_told cd_looked_told ct_looked_told), sl_looked_told⟩) (c_looked_told : PySem.W.codeIn K cd_looked_told "looked_told" = true) (k_looked_told : PySem.W.keepIn K (.ref f_looked_told) = true)
    (a_Rule_init : PySem.W.findIn K (.ref c_Rule) "__init__" = some (some (.ref f_Rule_init))) (l_Rule_init : K.lookup f_Rule_init = some ⟨oc_Rule_init, od_Rule_init, .func (PySem.W.fnOf "__init__" "Rule.__init__" (defArgs s_Rule_init) (defBody s_Rule_init) (defScope s_Rule_init) .none kV_Rule_init dc_Rule_init pm_Rule_init an_Rule_init cd_Rule_init ct_Rule_init), sl_Rule_init⟩) (c_Rule_init : PySem.W.codeIn K cd_Rule_init "Rule.__init__" = true) (k_Rule_init : PySem.W.keepIn K (.ref f_Rule_init) = true) (i_Rule_init : PySem.W.isFn K (.ref f_Rule_init) = true)
    (a_looked_word : PySem.W.nsIn K mainGlobals "looked_word" = some (some (.ref f_looked_word))) (l_looked_word : K.lookup f_looked_word = some ⟨oc_looked_word, od_looked_word, .func (PySem.W.fnOf "looked_word" "looked_word" (defArgs s_looked_word) (defBody s_looked_word) (defScope s_looked_word) .none kV_looked_word dc_looked_word pm_looked_word an_looked_word cd_looked_word ct_looked_word), sl_looked_word⟩) (c_looked_word : PySem.W.codeIn K cd_looked_word "looked_word" = true) (k_looked_word : PySem.W.keepIn K (.ref f_looked_word) = true)
    (a_next_word : PySem.W.nsIn K mainGlobals "next_word" = some (some (.ref f_next_word))) (l_next_word : K.lookup f_next_word = some ⟨oc_next_word, od_next_word, .func (PySem.W.fnOf "next_word" "next_word" (defArgs s_next_word) (defBody s_next_word) (defScope s_next_word) .none kV_next_word dc_next_word pm_next_word an_next_word cd_next_word ct_next_word), sl_next_word⟩) (c_next_word : PySem.W.codeIn K cd_next_word "next_word" = true) (k_next_word : PySem.W.keepIn K (.ref f_next_word) = true)
    (a_partners : PySem.W.nsIn K mainGlobals "partners" = some (some (.ref f_partners))) (l_partners : K.lookup f_partners = some ⟨oc_partners, od_partners, .func (PySem.W.fnOf "partners" "partners" (defArgs s_partners) (defBody s_partners) (defScope s_partners) .none kV_partners dc_partners pm_partners an_partners cd_partners ct_partners), sl_partners⟩) (c_partners : PySem.W.codeIn K cd_partners "partners" = true) (k_partners : PySem.W.keepIn K (.ref f_partners) = true)
    (a_exchanged : PySem.W.nsIn K mainGlobals "exchanged" = some (some (.ref f_exchanged))) (l_exchanged : K.lookup f_exchanged = some ⟨oc_exchanged, od_exchanged, .func (PySem.W.fnOf "exchanged" "exchanged" (defArgs s_exchanged) (defBody s_exchanged) (defScope s_exchanged) .none kV_exchanged dc_exchanged pm_exchanged an_exchanged cd_exchanged ct_exchanged), sl_exchanged⟩) (c_exchanged : PySem.W.codeIn K cd_exchanged "exchanged" = true) (k_exchanged : PySem.W.keepIn K (.ref f_exchanged) = true)
    (a__law_stir : PySem.W.nsIn K mainGlobals "_law_stir" = some (some (.ref f__law_stir))) (l__law_stir : K.lookup f__law_stir = some ⟨oc__law_stir, od__law_stir, .func (PySem.W.fnOf "_law_stir" "_law_stir" (defArgs s__law_stir) (defBody s__law_stir) (defScope s__law_stir) .none kV__law_stir dc__law_stir pm__law_stir an__law_stir cd__law_stir ct__law_stir), sl__law_stir⟩) (c__law_stir : PySem.W.codeIn K cd__law_stir "_law_stir" = true) (k__law_stir : PySem.W.keepIn K (.ref f__law_stir) = true)
    (a__law_folded : PySem.W.nsIn K mainGlobals "_law_folded" = some (some (.ref f__law_folded))) (l__law_folded : K.lookup f__law_folded = some ⟨oc__law_folded, od__law_folded, .func (PySem.W.fnOf "_law_folded" "_law_folded" (defArgs s__law_folded) (defBody s__law_folded) (defScope s__law_folded) .none kV__law_folded dc__law_folded pm__law_folded an__law_folded cd__law_folded ct__law_folded), sl__law_folded⟩) (c__law_folded : PySem.W.codeIn K cd__law_folded "_law_folded" = true) (k__law_folded : PySem.W.keepIn K (.ref f__law_folded) = true)
    (a__law_size : PySem.W.nsIn K mainGlobals "_law_size" = some (some (.ref f__law_size))) (l__law_size : K.lookup f__law_size = some ⟨oc__law_size, od__law_size, .func (PySem.W.fnOf "_law_size" "_law_size" (defArgs s__law_size) (defBody s__law_size) (defScope s__law_size) .none kV__law_size dc__law_size pm__law_size an__law_size cd__law_size ct__law_size), sl__law_size⟩) (c__law_size : PySem.W.codeIn K cd__law_size "_law_size" = true) (k__law_size : PySem.W.keepIn K (.ref f__law_size) = true)
    (a__law_words : PySem.W.nsIn K mainGlobals "_law_words" = some (some (.ref f__law_words))) (l__law_words : K.lookup f__law_words = some ⟨oc__law_words, od__law_words, .func (PySem.W.fnOf "_law_words" "_law_words" (defArgs s__law_words) (defBody s__law_words) (defScope s__law_words) .none kV__law_words dc__law_words pm__law_words an__law_words cd__law_words ct__law_words), sl__law_words⟩) (c__law_words : PySem.W.codeIn K cd__law_words "_law_words" = true) (k__law_words : PySem.W.keepIn K (.ref f__law_words) = true)
    (a__law_texts : PySem.W.nsIn K mainGlobals "_law_texts" = some (some (.ref f__law_texts))) (l__law_texts : K.lookup f__law_texts = some ⟨oc__law_texts, od__law_texts, .func (PySem.W.fnOf "_law_texts" "_law_texts" (defArgs s__law_texts) (defBody s__law_texts) (defScope s__law_texts) .none kV__law_texts dc__law_texts pm__law_texts an__law_texts cd__law_texts ct__law_texts), sl__law_texts⟩) (c__law_texts : PySem.W.codeIn K cd__law_texts "_law_texts" = true) (k__law_texts : PySem.W.keepIn K (.ref f__law_texts) = true)
    (a__law_refused : PySem.W.nsIn K mainGlobals "_law_refused" = some (some (.ref f__law_refused))) (l__law_refused : K.lookup f__law_refused = some ⟨oc__law_refused, od__law_refused, .func (PySem.W.fnOf "_law_refused" "_law_refused" (defArgs s__law_refused) (defBody s__law_refused) (defScope s__law_refused) .none kV__law_refused dc__law_refused pm__law_refused an__law_refused cd__law_refused ct__law_refused), sl__law_refused⟩) (c__law_refused : PySem.W.codeIn K cd__law_refused "_law_refused" = true) (k__law_refused : PySem.W.keepIn K (.ref f__law_refused) = true)
    (a__law_exchanged_right : PySem.W.nsIn K mainGlobals "_law_exchanged_right" = some (some (.ref f__law_exchanged_right))) (l__law_exchanged_right : K.lookup f__law_exchanged_right = some ⟨oc__law_exchanged_right, od__law_exchanged_right, .func (PySem.W.fnOf "_law_exchanged_right" "_law_exchanged_right" (defArgs s__law_exchanged_right) (defBody s__law_exchanged_right) (defScope s__law_exchanged_right) .none kV__law_exchanged_right dc__law_exchanged_right pm__law_exchanged_right an__law_exchanged_right cd__law_exchanged_right ct__law_exchanged_right), sl__law_exchanged_right⟩) (c__law_exchanged_right : PySem.W.codeIn K cd__law_exchanged_right "_law_exchanged_right" = true) (k__law_exchanged_right : PySem.W.keepIn K (.ref f__law_exchanged_right) = true)
    (a_law : PySem.W.nsIn K mainGlobals "law" = some (some (.ref f_law))) (l_law : K.lookup f_law = some ⟨oc_law, od_law, .func (PySem.W.fnOf "law" "law" (defArgs s_law) (defBody s_law) (defScope s_law) .none kV_law dc_law pm_law an_law cd_law ct_law), sl_law⟩) (c_law : PySem.W.codeIn K cd_law "law" = true) (k_law : PySem.W.keepIn K (.ref f_law) = true)
    (z_isinstance : PySem.W.nsIn K mainGlobals "isinstance" = some none)
    (z_len : PySem.W.nsIn K mainGlobals "len" = some none)
    (z_list : PySem.W.nsIn K mainGlobals "list" = some none)
    (z_range : PySem.W.nsIn K mainGlobals "range" = some none)
    (z_str : PySem.W.nsIn K mainGlobals "str" = some none)
    (z_sum : PySem.W.nsIn K mainGlobals "sum" = some none)
    (z_zip : PySem.W.nsIn K mainGlobals "zip" = some none)
    (y_OnceError : PySem.W.nsIn K mainGlobals "OnceError" = some (some (.ref c_OnceError)))
    (y_BadKinds : PySem.W.nsIn K mainGlobals "BadKinds" = some (some (.ref c_BadKinds)))
    (y_BadWord : PySem.W.nsIn K mainGlobals "BadWord" = some (some (.ref c_BadWord)))
    (y_TooMany : PySem.W.nsIn K mainGlobals "TooMany" = some (some (.ref c_TooMany)))
    (y_BadRule : PySem.W.nsIn K mainGlobals "BadRule" = some (some (.ref c_BadRule)))
    (y_BadDeed : PySem.W.nsIn K mainGlobals "BadDeed" = some (some (.ref c_BadDeed)))
    (y_Rule : PySem.W.nsIn K mainGlobals "Rule" = some (some (.ref c_Rule)))
    (e_BadKinds : PySem.W.excIn K c_BadKinds bmVE "ValueError.__new__" = true)
    (e_BadWord : PySem.W.excIn K c_BadWord bmVE "ValueError.__new__" = true)
    (e_TooMany : PySem.W.excIn K c_TooMany bmVE "ValueError.__new__" = true)
    (e_BadRule : PySem.W.excIn K c_BadRule bmVE "ValueError.__new__" = true)
    (e_BadDeed : PySem.W.excIn K c_BadDeed bmVE "ValueError.__new__" = true)
    (n1_BadWord : PySem.W.findIn K (.ref c_BadWord) "__getattribute__" = some (some (.builtin "BaseException.__getattribute__")))
    (n2_BadWord : PySem.W.findIn K (.ref c_BadWord) "__getattr__" = some none)
    (n3_BadWord : PySem.W.findIn K (.ref c_BadWord) "__class__" = some (some (.builtin "object.__class__")))
    (n4_BadWord : PySem.W.specialIn K (.builtin "object.__class__") "__get__" = some (some (.builtin "getset_descriptor.__get__")))
    (n5_BadWord : PySem.W.takesIn K (.builtin "object.__class__") = some true)
    (n6_BadWord : PySem.W.mroIn K c_BadWord (.type "object") = some true)
    (n7_BadWord : PySem.W.mroIn K c_BadWord (.type "BaseException") = some true)
    (n8_BadWord : (PySem.W.clsIn K c_BadWord).isSome = true)
    (g_LETTERS : PySem.W.nsIn K mainGlobals "LETTERS" = some (some u_LETTERS)) (r_LETTERS : RelV (T [97, 98, 99, 100, 101, 102]) u_LETTERS)
    (g_LONGEST : PySem.W.nsIn K mainGlobals "LONGEST" = some (some u_LONGEST)) (r_LONGEST : RelV (.int 24) u_LONGEST)
    (g_MOST_OF_A_RULE : PySem.W.nsIn K mainGlobals "MOST_OF_A_RULE" = some (some u_MOST_OF_A_RULE)) (r_MOST_OF_A_RULE : RelV (.int 64) u_MOST_OF_A_RULE)
    (g_LONGEST_OF_A_RULE : PySem.W.nsIn K mainGlobals "LONGEST_OF_A_RULE" = some (some u_LONGEST_OF_A_RULE)) (r_LONGEST_OF_A_RULE : RelV (.int 8) u_LONGEST_OF_A_RULE)
    (q_BadWord : PySem.W.exmOne K (.ref c_BadWord) (.ref c_OnceError) = some true)
    (k_BadWord_BadWord : PySem.W.kitOne K (.ref c_BadWord) (.ref c_BadWord) = some true)
    (k_BadWord_BadDeed : PySem.W.kitOne K (.ref c_BadWord) (.ref c_BadDeed) = some false)
    (pg_Rule : PySem.W.plainGet K c_Rule Str.empty = true) (hd_Rule : PySem.W.hasDictIn K c_Rule = true) (po_Rule : PySem.W.plainOver K c_Rule = true) (sa_Rule : PySem.W.findIn K (.ref c_Rule) "__setattr__" = some (some (.builtin "object.__setattr__"))) (mk_Rule : PySem.W.makesIn K c_Rule = true) (kc_Rule : PySem.W.keepIn K (.ref c_Rule) = true)
    (na_Rule_length : PySem.W.findIn K (.ref c_Rule) "length" = some none)
    (na_Rule_kinds : PySem.W.findIn K (.ref c_Rule) "kinds" = some none)
    (na_Rule_told : PySem.W.findIn K (.ref c_Rule) "told" = some none) :
    ∃ fd : FuncData, (∀ (s : Shared) (v : Value), BindsTo s fd ⟨[v], []⟩ [("script", v)]) ∧ ∀ base : Heap, K.In base → base.Ns mainGlobals mg → FnOk l.prog w K mg base (CX1 l.prog w) 8 fa fd ["script"] (spLaw K) := by
  have e := hfa.symm.trans (PySem.W.mg_of X G a_law)
  cases e
  have tt : Txt K mg ⟨c_OnceError, c_BadKinds, c_BadWord, c_TooMany, c_BadRule, c_BadDeed, c_Rule, u_LETTERS, u_LONGEST, u_MOST_OF_A_RULE, u_LONGEST_OF_A_RULE⟩ := ⟨PySem.W.mg_none_of X G z_isinstance, PySem.W.mg_none_of X G z_len, PySem.W.mg_none_of X G z_list, PySem.W.mg_none_of X G z_range, PySem.W.mg_none_of X G z_str, PySem.W.mg_none_of X G z_sum, PySem.W.mg_none_of X G z_zip, PySem.W.mg_of X G y_OnceError, PySem.W.mg_of X G y_BadKinds, PySem.W.mg_of X G y_BadWord, PySem.W.mg_of X G y_TooMany, PySem.W.mg_of X G y_BadRule, PySem.W.mg_of X G y_BadDeed, PySem.W.mg_of X G y_Rule, ⟨PySem.W.mg_of X G y_BadKinds, e_BadKinds⟩, ⟨PySem.W.mg_of X G y_BadWord, e_BadWord⟩, ⟨PySem.W.mg_of X G y_TooMany, e_TooMany⟩, ⟨PySem.W.mg_of X G y_BadRule, e_BadRule⟩, ⟨PySem.W.mg_of X G y_BadDeed, e_BadDeed⟩, ⟨n1_BadWord, n2_BadWord, n3_BadWord, n4_BadWord, n5_BadWord, n6_BadWord, n7_BadWord, n8_BadWord⟩, PySem.W.mg_of X G g_LETTERS, r_LETTERS, PySem.W.mg_of X G g_LONGEST, r_LONGEST, PySem.W.mg_of X G g_MOST_OF_A_RULE, r_MOST_OF_A_RULE, PySem.W.mg_of X G g_LONGEST_OF_A_RULE, r_LONGEST_OF_A_RULE, q_BadWord, k_BadWord_BadWord, k_BadWord_BadDeed, ⟨pg_Rule, hd_Rule, po_Rule, sa_Rule⟩, na_Rule_length, na_Rule_kinds, na_Rule_told⟩
  have F_looked_kinds := fun_mk (st := s_looked_kinds) l_looked_kinds c_looked_kinds k_looked_kinds
  have b_looked_kinds := F_looked_kinds.binds (ps := ["kinds"]) fun _ _ _ _ _ _ us hl => match us, hl with | [_], _ => rfl
  have F_looked_length := fun_mk (st := s_looked_length) l_looked_length c_looked_length k_looked_length
  have b_looked_length := F_looked_length.binds (ps := ["length", "kinds"]) fun _ _ _ _ _ _ us hl => match us, hl with | [_, _], _ => rfl
  have F_letters := fun_mk (st := s_letters) l_letters c_letters k_letters
  have b_letters := F_letters.binds (ps := ["kinds"]) fun _ _ _ _ _ _ us hl => match us, hl with | [_], _ => rfl
  have F_looked := fun_mk (st := s_looked) l_looked c_looked k_looked
  have b_looked := F_looked.binds (ps := ["word", "kinds"]) fun _ _ _ _ _ _ us hl => match us, hl with | [_, _], _ => rfl
  have F_number_of := fun_mk (st := s_number_of) l_number_of c_number_of k_number_of
  have b_number_of := F_number_of.binds (ps := ["word", "kinds"]) fun _ _ _ _ _ _ us hl => match us, hl with | [_, _], _ => rfl
  have F_word_total := fun_mk (st := s_word_total) l_word_total c_word_total k_word_total
  have b_word_total := F_word_total.binds (ps := ["length", "kinds"]) fun _ _ _ _ _ _ us hl => match us, hl with | [_, _], _ => rfl
  have F_looked_size := fun_mk (st := s_looked_size) l_looked_size c_looked_size k_looked_size
  have b_looked_size := F_looked_size.binds (ps := ["length", "kinds"]) fun _ _ _ _ _ _ us hl => match us, hl with | [_, _], _ => rfl
  have F_looked_told := fun_mk (st := s_looked_told) l_looked_told c_looked_told k_looked_told
  have b_looked_told := F_looked_told.binds (ps := ["length", "kinds", "told"]) fun _ _ _ _ _ _ us hl => match us, hl with | [_, _, _], _ => rfl
  have F_Rule_init := fun_mk (st := s_Rule_init) l_Rule_init c_Rule_init k_Rule_init
  have b_Rule_init := F_Rule_init.binds (ps := ["self", "length", "kinds", "told"]) fun _ _ _ _ _ _ us hl => match us, hl with | [_, _, _, _], _ => rfl
  have F_looked_word := fun_mk (st := s_looked_word) l_looked_word c_looked_word k_looked_word
  have b_looked_word := F_looked_word.binds (ps := ["rule", "word"]) fun _ _ _ _ _ _ us hl => match us, hl with | [_, _], _ => rfl
  have F_next_word := fun_mk (st := s_next_word) l_next_word c_next_word k_next_word
  have b_next_word := F_next_word.binds (ps := ["rule", "word"]) fun _ _ _ _ _ _ us hl => match us, hl with | [_, _], _ => rfl
  have F_partners := fun_mk (st := s_partners) l_partners c_partners k_partners
  have b_partners := F_partners.binds (ps := ["rule", "word"]) fun _ _ _ _ _ _ us hl => match us, hl with | [_, _], _ => rfl
  have F_exchanged := fun_mk (st := s_exchanged) l_exchanged c_exchanged k_exchanged
  have b_exchanged := F_exchanged.binds (ps := ["rule", "one", "two"]) fun _ _ _ _ _ _ us hl => match us, hl with | [_, _, _], _ => rfl
  have F__law_stir := fun_mk (st := s__law_stir) l__law_stir c__law_stir k__law_stir
  have b__law_stir := F__law_stir.binds (ps := ["cell", "k"]) fun _ _ _ _ _ _ us hl => match us, hl with | [_, _], _ => rfl
  have F__law_folded := fun_mk (st := s__law_folded) l__law_folded c__law_folded k__law_folded
  have b__law_folded := F__law_folded.binds (ps := ["script", "many"]) fun _ _ _ _ _ _ us hl => match us, hl with | [_, _], _ => rfl
  have F__law_size := fun_mk (st := s__law_size) l__law_size c__law_size k__law_size
  have b__law_size := F__law_size.binds (ps := ["cell"]) fun _ _ _ _ _ _ us hl => match us, hl with | [_], _ => rfl
  have F__law_words := fun_mk (st := s__law_words) l__law_words c__law_words k__law_words
  have b__law_words := F__law_words.binds (ps := ["length", "kinds"]) fun _ _ _ _ _ _ us hl => match us, hl with | [_, _], _ => rfl
  have F__law_texts := fun_mk (st := s__law_texts) l__law_texts c__law_texts k__law_texts
  have b__law_texts := F__law_texts.binds (ps := ["found", "due"]) fun _ _ _ _ _ _ us hl => match us, hl with | [_, _], _ => rfl
  have F__law_refused := fun_mk (st := s__law_refused) l__law_refused c__law_refused k__law_refused
  have b__law_refused := F__law_refused.binds (ps := ["way", "rule", "word", "other"]) fun _ _ _ _ _ _ us hl => match us, hl with | [_, _, _, _], _ => rfl
  have F__law_exchanged_right := fun_mk (st := s__law_exchanged_right) l__law_exchanged_right c__law_exchanged_right k__law_exchanged_right
  have b__law_exchanged_right := F__law_exchanged_right.binds (ps := ["rule", "words", "told", "n"]) fun _ _ _ _ _ _ us hl => match us, hl with | [_, _, _, _], _ => rfl
  have F_law := fun_mk (st := s_law) l_law c_law k_law
  refine ⟨PySem.W.fnOf "law" "law" (defArgs s_law) (defBody s_law) (defScope s_law) .none kV_law dc_law pm_law an_law cd_law ct_law, fun s v => .of_eq rfl, fun base _ _ => ?_⟩
  have C_looked_kinds : Cal l.prog w K mg base (CX1 l.prog w) "looked_kinds" 1 ["kinds"] (spKindsX _) := ⟨⟨_, _, ok_looked_kinds F_looked_kinds tt, PySem.W.mg_of X G a_looked_kinds, F_looked_kinds.kp, b_looked_kinds⟩⟩
  have C_looked_length : Cal l.prog w K mg base (CX1 l.prog w) "looked_length" 2 ["length", "kinds"] (spLenX _) := ⟨⟨_, _, ok_looked_length F_looked_length tt C_looked_kinds, PySem.W.mg_of X G a_looked_length, F_looked_length.kp, b_looked_length⟩⟩
  have C_letters : Cal l.prog w K mg base (CX1 l.prog w) "letters" 2 ["kinds"] (spLettersX _) := ⟨⟨_, _, ok_letters F_letters tt C_looked_kinds, PySem.W.mg_of X G a_letters, F_letters.kp, b_letters⟩⟩
  have C_looked : Cal l.prog w K mg base (CX1 l.prog w) "looked" 3 ["word", "kinds"] (spLookedX _) := ⟨⟨_, _, ok_looked F_looked tt C_looked_length C_letters, PySem.W.mg_of X G a_looked, F_looked.kp, b_looked⟩⟩
  have C_number_of : Cal l.prog w K mg base (CX1 l.prog w) "number_of" 4 ["word", "kinds"] (spNumX _) := ⟨⟨_, _, ok_number_of F_number_of tt C_looked, PySem.W.mg_of X G a_number_of, F_number_of.kp, b_number_of⟩⟩
  have C_word_total : Cal l.prog w K mg base (CX1 l.prog w) "word_total" 1 ["length", "kinds"] spTotal := ⟨⟨_, _, ok_word_total F_word_total tt, PySem.W.mg_of X G a_word_total, F_word_total.kp, b_word_total⟩⟩
  have C_looked_size : Cal l.prog w K mg base (CX1 l.prog w) "looked_size" 2 ["length", "kinds"] (spSizeX _) := ⟨⟨_, _, ok_looked_size F_looked_size tt C_looked_kinds C_word_total, PySem.W.mg_of X G a_looked_size, F_looked_size.kp, b_looked_size⟩⟩
  have C_looked_told : Cal l.prog w K mg base (CX1 l.prog w) "looked_told" 3 ["length", "kinds", "told"] (spToldX _) := ⟨⟨_, _, ok_looked_told F_looked_told tt C_word_total C_letters, PySem.W.mg_of X G a_looked_told, F_looked_told.kp, b_looked_told⟩⟩
  have C_Rule_init : Cam l.prog w K mg base (CX1 l.prog w) "Rule" c_Rule 4 ["self", "length", "kinds", "told"] (spRuleI c_Rule _) := ⟨⟨_, _, ok_Rule_init F_Rule_init tt C_looked_size C_looked_told, ⟨mk_Rule, a_Rule_init, i_Rule_init, kc_Rule⟩, PySem.W.mg_of X G y_Rule, b_Rule_init⟩⟩
  have C_looked_word : Cal l.prog w K mg base (CX1 l.prog w) "looked_word" 4 ["rule", "word"] (spLWX c_Rule _) := ⟨⟨_, _, ok_looked_word F_looked_word tt C_looked, PySem.W.mg_of X G a_looked_word, F_looked_word.kp, b_looked_word⟩⟩
  have C_next_word : Cal l.prog w K mg base (CX1 l.prog w) "next_word" 5 ["rule", "word"] (spNextW c_Rule _) := ⟨⟨_, _, ok_next_word F_next_word tt C_looked_word C_number_of, PySem.W.mg_of X G a_next_word, F_next_word.kp, b_next_word⟩⟩
  have C_partners : Cal l.prog w K mg base (CX1 l.prog w) "partners" 5 ["rule", "word"] (spPartn c_Rule _) := ⟨⟨_, _, ok_partners F_partners tt C_looked_word C_letters, PySem.W.mg_of X G a_partners, F_partners.kp, b_partners⟩⟩
  have C_exchanged : Cal l.prog w K mg base (CX1 l.prog w) "exchanged" 6 ["rule", "one", "two"] (spExch c_Rule _) := ⟨⟨_, _, ok_exchanged F_exchanged tt C_looked_word C_partners C_number_of C_next_word C_Rule_init, PySem.W.mg_of X G a_exchanged, F_exchanged.kp, b_exchanged⟩⟩
  have C__law_stir : Cal l.prog w K mg base (CX1 l.prog w) "_law_stir" 1 ["cell", "k"] spStir := ⟨⟨_, _, ok__law_stir F__law_stir tt, PySem.W.mg_of X G a__law_stir, F__law_stir.kp, b__law_stir⟩⟩
  have C__law_folded : Cal l.prog w K mg base (CX1 l.prog w) "_law_folded" 1 ["script", "many"] (spFolded K) := ⟨⟨_, _, ok__law_folded F__law_folded tt, PySem.W.mg_of X G a__law_folded, F__law_folded.kp, b__law_folded⟩⟩
  have C__law_size : Cal l.prog w K mg base (CX1 l.prog w) "_law_size" 1 ["cell"] spSizeL := ⟨⟨_, _, ok__law_size F__law_size tt, PySem.W.mg_of X G a__law_size, F__law_size.kp, b__law_size⟩⟩
  have C__law_words : Cal l.prog w K mg base (CX1 l.prog w) "_law_words" 1 ["length", "kinds"] spWordsL := ⟨⟨_, _, ok__law_words F__law_words tt, PySem.W.mg_of X G a__law_words, F__law_words.kp, b__law_words⟩⟩
  have C__law_texts : Cal l.prog w K mg base (CX1 l.prog w) "_law_texts" 1 ["found", "due"] (spTexts K) := ⟨⟨_, _, ok__law_texts F__law_texts tt, PySem.W.mg_of X G a__law_texts, F__law_texts.kp, b__law_texts⟩⟩
  have C__law_refused : Cal l.prog w K mg base (CX1 l.prog w) "_law_refused" 7 ["way", "rule", "word", "other"] (spRef45 c_Rule) := ⟨⟨_, _, ok__law_refused F__law_refused tt C_next_word C_partners C_exchanged, PySem.W.mg_of X G a__law_refused, F__law_refused.kp, b__law_refused⟩⟩
  have C__law_exchanged_right : Cal l.prog w K mg base (CX1 l.prog w) "_law_exchanged_right" 7 ["rule", "words", "told", "n"] (spExR K c_Rule) := ⟨⟨_, _, ok__law_exchanged_right F__law_exchanged_right tt C_exchanged, PySem.W.mg_of X G a__law_exchanged_right, F__law_exchanged_right.kp, b__law_exchanged_right⟩⟩
  exact ok_law F_law tt C__law_size C__law_words C__law_folded C__law_stir C_Rule_init C_next_word C_partners C__law_texts C__law_exchanged_right C__law_refused
theorem walk {l : PySem.W.OpenLaw} {q : Program} {loose : List Str} {XP : (Str → Option Value) → Heap → Prop} {YP : World → Heap → Prop} {d : DefRec} {K : Params → PySem.W.Frag} (hn : l.most = some 63) (hdf : d.params.defaults = [])
    (hY : ∀ (w : World) (h : Heap), YP w h → (K w.params).In h)
    (F : ∀ (w : World) (mg : Str → Option Value) (fa : Addr) (h : Heap), (K w.params).In h → h.Ns mainGlobals mg → mg d.name = some (.ref fa) →
      ∃ fd : FuncData, (∀ (s : Shared) (u : Value), BindsTo s fd ⟨[u], []⟩ [("script", u)]) ∧ ∀ base : Heap, (K w.params).In base → base.Ns mainGlobals mg → FnOk l.prog w (K w.params) mg base (CX1 l.prog w) 8 fa fd ["script"] (spLaw (K w.params))) :
    PySem.W.WalkO q loose XP YP l.row.toRowW d [] (fun f vs => PySem.call f vs) :=
  L2.walk_of (n := 63) (k := 8) (x := "script") (CX := fun w => CX1 l.prog w) (sp := fun w => spLaw (K w.params)) hn (by decide) hdf ⟨rfl, by decide, by decide⟩ hY F (fun _ _ a ns hl _ hS => ⟨a, ns, rfl, hS, hl, fun _ => rfl⟩) fun _ _ _ _ _ ⟨_, _, _, _, _, z⟩ => z
end K45
open PySem PySem.W PyProof.Rows
set_option maxRecDepth 100000 in
set_option maxHeartbeats 0 in
theorem PySem.Challenge.cw_onceround_k45_words_behind_holds : PySem.Challenge.rw_onceround_k45_words_behind.Holds := by
  w_on; o_law; k_head; (case hw => w_witness2)
  k_fill
  refine K45.walk (l := PySem.Challenge.rw_onceround_k45_words_behind) rfl rfl (fun w h Y => PySem.W.kIn_of Y) ?F
  case F =>
    intro w mg fa h KX G hmg
    refine' K45.all_mk KX G hmg ?a_looked_kinds ?l_looked_kinds ?c_looked_kinds ?k_looked_kinds ?a_looked_length ?l_looked_length ?c_looked_length ?k_looked_length ?a_letters ?l_letters ?c_letters ?k_letters ?a_looked ?l_looked ?c_looked ?k_looked ?a_number_of ?l_number_of ?c_number_of ?k_number_of ?a_word_total ?l_word_total ?c_word_total ?k_word_total ?a_looked_size ?l_looked_size ?c_looked_size ?k_looked_size ?a_looked_told ?l_looked_told ?c_looked_told ?k_looked_told ?a_Rule_init ?l_Rule_init ?c_Rule_init ?k_Rule_init ?i_Rule_init ?a_looked_word ?l_looked_word ?c_looked_word ?k_looked_word ?a_next_word ?l_next_word ?c_next_word ?k_next_word ?a_partners ?l_partners ?c_partners ?k_partners ?a_exchanged ?l_exchanged ?c_exchanged ?k_exchanged ?a__law_stir ?l__law_stir ?c__law_stir ?k__law_stir ?a__law_folded ?l__law_folded ?c__law_folded ?k__law_folded ?a__law_size ?l__law_size ?c__law_size ?k__law_size ?a__law_words ?l__law_words ?c__law_words ?k__law_words ?a__law_texts ?l__law_texts ?c__law_texts ?k__law_texts ?a__law_refused ?l__law_refused ?c__law_refused ?k__law_refused ?a__law_exchanged_right ?l__law_exchanged_right ?c__law_exchanged_right ?k__law_exchanged_right ?a_law ?l_law ?c_law ?k_law ?z_isinstance ?z_len ?z_list ?z_range ?z_str ?z_sum ?z_zip ?y_OnceError ?y_BadKinds ?y_BadWord ?y_TooMany ?y_BadRule ?y_BadDeed ?y_Rule ?e_BadKinds ?e_BadWord ?e_TooMany ?e_BadRule ?e_BadDeed ?n1_BadWord ?n2_BadWord ?n3_BadWord ?n4_BadWord ?n5_BadWord ?n6_BadWord ?n7_BadWord ?n8_BadWord ?g_LETTERS ?r_LETTERS ?g_LONGEST ?r_LONGEST ?g_MOST_OF_A_RULE ?r_MOST_OF_A_RULE ?g_LONGEST_OF_A_RULE ?r_LONGEST_OF_A_RULE ?q_BadWord ?k_BadWord_BadWord ?k_BadWord_BadDeed ?pg_Rule ?hd_Rule ?po_Rule ?sa_Rule ?mk_Rule ?kc_Rule ?na_Rule_length ?na_Rule_kinds ?na_Rule_told
    (case y_Rule => k_is)
    (case a_looked_kinds => k_is)
    (case l_looked_kinds => k_is)
    (case c_looked_kinds => k_is)
    (case k_looked_kinds => k_is)
    (case a_looked_length => k_is)
    (case l_looked_length => k_is)
    (case c_looked_length => k_is)
    (case k_looked_length => k_is)
    (case a_letters => k_is)
    (case l_letters => k_is)
    (case c_letters => k_is)
    (case k_letters => k_is)
    (case a_looked => k_is)
    (case l_looked => k_is)
    (case c_looked => k_is)
    (case k_looked => k_is)
    (case a_number_of => k_is)
    (case l_number_of => k_is)
    (case c_number_of => k_is)
    (case k_number_of => k_is)
    (case a_word_total => k_is)
    (case l_word_total => k_is)
    (case c_word_total => k_is)
    (case k_word_total => k_is)
    (case a_looked_size => k_is)
    (case l_looked_size => k_is)
    (case c_looked_size => k_is)
    (case k_looked_size => k_is)
    (case a_looked_told => k_is)
    (case l_looked_told => k_is)
    (case c_looked_told => k_is)
    (case k_looked_told => k_is)
    (case a_Rule_init => k_is)
    (case l_Rule_init => k_is)
    (case c_Rule_init => k_is)
    (case k_Rule_init => k_is)
    (case a_looked_word => k_is)
    (case l_looked_word => k_is)
    (case c_looked_word => k_is)
    (case k_looked_word => k_is)
    (case a_next_word => k_is)
    (case l_next_word => k_is)
    (case c_next_word => k_is)
    (case k_next_word => k_is)
    (case a_partners => k_is)
    (case l_partners => k_is)
    (case c_partners => k_is)
    (case k_partners => k_is)
    (case a_exchanged => k_is)
    (case l_exchanged => k_is)
    (case c_exchanged => k_is)
    (case k_exchanged => k_is)
    (case a__law_stir => k_is)
    (case l__law_stir => k_is)
    (case c__law_stir => k_is)
    (case k__law_stir => k_is)
    (case a__law_folded => k_is)
    (case l__law_folded => k_is)
    (case c__law_folded => k_is)
    (case k__law_folded => k_is)
    (case a__law_size => k_is)
    (case l__law_size => k_is)
    (case c__law_size => k_is)
    (case k__law_size => k_is)
    (case a__law_words => k_is)
    (case l__law_words => k_is)
    (case c__law_words => k_is)
    (case k__law_words => k_is)
    (case a__law_texts => k_is)
    (case l__law_texts => k_is)
    (case c__law_texts => k_is)
    (case k__law_texts => k_is)
    (case a__law_refused => k_is)
    (case l__law_refused => k_is)
    (case c__law_refused => k_is)
    (case k__law_refused => k_is)
    (case a__law_exchanged_right => k_is)
    (case l__law_exchanged_right => k_is)
    (case c__law_exchanged_right => k_is)
    (case k__law_exchanged_right => k_is)
    (case a_law => k_is)
    (case l_law => k_is)
    (case c_law => k_is)
    (case k_law => k_is)
    (case z_isinstance => k_is)
    (case z_len => k_is)
    (case z_list => k_is)
    (case z_range => k_is)
    (case z_str => k_is)
    (case z_sum => k_is)
    (case z_zip => k_is)
    (case y_OnceError => k_is)
    (case y_BadKinds => k_is)
    (case y_BadWord => k_is)
    (case y_TooMany => k_is)
    (case y_BadRule => k_is)
    (case y_BadDeed => k_is)
    (case e_BadKinds => kernel_rfl)
    (case e_BadWord => kernel_rfl)
    (case e_TooMany => kernel_rfl)
    (case e_BadRule => kernel_rfl)
    (case e_BadDeed => kernel_rfl)
    (case n1_BadWord => k_is)
    (case n2_BadWord => k_is)
    (case n3_BadWord => k_is)
    (case n4_BadWord => k_is)
    (case n5_BadWord => k_is)
    (case n6_BadWord => k_is)
    (case n7_BadWord => k_is)
    (case n8_BadWord => kernel_rfl)
    (case g_LETTERS => k_is)
    (case r_LETTERS => exact ⟨_, rfl⟩)
    (case g_LONGEST => k_is)
    (case r_LONGEST => exact ⟨_, rfl⟩)
    (case g_MOST_OF_A_RULE => k_is)
    (case r_MOST_OF_A_RULE => exact ⟨_, rfl⟩)
    (case g_LONGEST_OF_A_RULE => k_is)
    (case r_LONGEST_OF_A_RULE => exact ⟨_, rfl⟩)
    (case q_BadWord => kts_exm)
    (case k_BadWord_BadWord => kit_is)
    (case k_BadWord_BadDeed => kit_is)
    (case pg_Rule => k_is)
    (case hd_Rule => k_is)
    (case po_Rule => k_is)
    (case sa_Rule => k_is)
    (case mk_Rule => k_is)
    (case kc_Rule => k_is)
    (case na_Rule_length => k_is)
    (case na_Rule_kinds => k_is)
    (case na_Rule_told => k_is)
    (case i_Rule_init => k_is)
#print axioms PySem.Challenge.cw_onceround_k45_words_behind_holds
