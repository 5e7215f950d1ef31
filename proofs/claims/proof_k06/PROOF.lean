import PyProof.Rows.All
import Wide.All
import OpenK.AllK
import Wide.FinOn
import Lean
import PyProof.EqAt
import PyProof.EqKinds
import PyProof.TupleCall
import PySem.Challenge.RW_onceround_k06_whole_turned_and_mirrored
-- CHANGE: your row's module here, as the last of these rows
set_option Elab.async false
set_option linter.all false
set_option maxRecDepth 100000
/-! THE HAND LAYER, for ints, bools, texts, own classes, LISTS and tuples (index, slices, in, append, pop ..), calls, loops. Paste it whole ahead of your own text; what your proof does not reach may be deleted. -/
namespace L2
open PySem PySem.Spec PyProof.Rows

/-- a key: an int or a str -/
abbrev Key := Sum Int Str
def keyIs : Key → Value → Bool
  | .inl k, v => Value.isInt k v
  | .inr x, v => Value.isStrOf x v
def keyH (w : World) : Key → Int
  | .inl k => hashInt k
  | .inr x => hashStr w x
theorem keyIs_shape : ∀ {k : Key} {v : Value}, keyIs k v = true → (∃ i t, k = Sum.inl i ∧ v = Value.int i t) ∨ (∃ x t, k = Sum.inr x ∧ v = Value.str x t)
  | .inl i, v, h => by
    obtain ⟨t, e⟩ := Value.isInt_shape (k := i) (v := v) h
    exact .inl ⟨i, t, rfl, e⟩
  | .inr x, v, h => by
    obtain ⟨t, e⟩ := Value.isStrOf_shape (x := x) (v := v) h
    exact .inr ⟨x, t, rfl, e⟩
theorem key_ll (a b : Int) : decide ((Sum.inl a : Key) = Sum.inl b) = (a == b) := by
  by_cases e : a = b
  · subst e; simp
  · have h : ¬ (Sum.inl a : Key) = Sum.inl b := fun q => e (Sum.inl.inj q)
    rw [decide_eq_false h]
    exact (beq_eq_false_iff_ne.mpr e).symm
theorem key_rr (a b : Str) : decide ((Sum.inr a : Key) = Sum.inr b) = decide (a = b) := by
  by_cases e : a = b
  · subst e; simp
  · have h : ¬ (Sum.inr a : Key) = Sum.inr b := fun q => e (Sum.inr.inj q)
    rw [decide_eq_false h, decide_eq_false e]
theorem key_lr (a : Int) (b : Str) : decide ((Sum.inl a : Key) = Sum.inr b) = false := decide_eq_false (fun q => nomatch q)
theorem key_rl (a : Str) (b : Int) : decide ((Sum.inr a : Key) = Sum.inl b) = false := decide_eq_false (fun q => nomatch q)

def mixKind (prog : Program) (w : World) : PySem.KeyKind prog w Key where
  is := keyIs
  hash := keyH w
  inj := fun v a b ha hb => by
    rcases keyIs_shape ha with ⟨i, t, rfl, rfl⟩ | ⟨x, t, rfl, rfl⟩
    · rcases keyIs_shape hb with ⟨j, u, rfl, e⟩ | ⟨y, u, rfl, e⟩
      · injection e with e1 _; rw [e1]
      · exact nomatch e
    · rcases keyIs_shape hb with ⟨j, u, rfl, e⟩ | ⟨y, u, rfl, e⟩
      · exact nomatch e
      · injection e with e1 _; rw [e1]
  byValue := fun k v h => by
    rcases keyIs_shape h with ⟨i, t, rfl, rfl⟩ | ⟨x, t, rfl, rfl⟩ <;> rfl
  pyHash := fun hv h => by
    rcases keyIs_shape hv with ⟨i, t, rfl, rfl⟩ | ⟨x, t, rfl, rfl⟩
    · exact wpAny_pyHash_int h
    · exact wpAny_pyHash_str h
  eqBool := fun hu hv h => by
    rcases keyIs_shape hu with ⟨i, t, rfl, rfl⟩ | ⟨x, t, rfl, rfl⟩
    · rcases keyIs_shape hv with ⟨j, u, rfl, rfl⟩ | ⟨y, u, rfl, rfl⟩
      · rw [key_ll] at h; exact wpAny_eqBool_int h
      · rw [key_lr] at h; exact SeqAt.EqAt.int_str i t y u _ _ _ _ h
    · rcases keyIs_shape hv with ⟨j, u, rfl, rfl⟩ | ⟨y, u, rfl, rfl⟩
      · rw [key_rl] at h; exact SeqAt.EqAt.str_int x t j u _ _ _ _ h
      · rw [key_rr] at h; exact wpAny_eqBool_str h
  «strs» := fun k x t v h => by
    rcases keyIs_shape h with ⟨i, u, rfl, e⟩ | ⟨y, u, rfl, e⟩
    · exact nomatch e
    · injection e with e1 _
      subst e1
      cases v <;> rfl

end L2

namespace L2
open PySem PySem.Spec PyProof.Rows

/-- a value, without the heap -/
inductive V where
  | non | bl (b : Bool) | int (i : Int) | str (x : Str) | byt (b : Array UInt8) | flt (b : UInt64) | ref (a : Addr) | ty (n : String)
  deriving DecidableEq

def RelV : V → Value → Prop
  | .non, u => u = Value.none
  | .bl b, u => u = Value.bool b
  | .int i, u => ∃ t, u = Value.int i t
  | .str x, u => ∃ t, u = Value.str x t
  | .byt b, u => ∃ t, u = Value.bytes b t
  | .flt b, u => ∃ t, u = Value.float b t
  | .ref a, u => u = Value.ref a
  | .ty n, u => u = Value.type n

abbrev Vals : List V → List Value → Prop := Paired RelV
theorem Vals.length {xs : List V} {us : List Value} (r : Vals xs us) : xs.length = us.length := Paired.length r
theorem Vals.get : ∀ {xs : List V} {us : List Value} {i : Nat} {x : V}, Vals xs us → xs[i]? = some x → ∃ u, us[i]? = some u ∧ RelV x u
  | _, _, _, _, .nil, e => by simp at e
  | _, _, 0, _, .cons r _, e => by simp at e; subst e; exact ⟨_, rfl, r⟩
  | _, _, i + 1, x, .cons _ t, e => by
    obtain ⟨u, h1, h2⟩ := Vals.get (i := i) (x := x) t (by simpa using e)
    exact ⟨u, by simpa using h1, h2⟩
theorem Vals.append : ∀ {xs ys : List V} {us ws : List Value}, Vals xs us → Vals ys ws → Vals (xs ++ ys) (us ++ ws)
  | _, _, _, _, .nil, s => s
  | _, _, _, _, .cons r t, s => .cons r (Vals.append t s)
theorem Vals.take : ∀ {xs : List V} {us : List Value} (n : Nat), Vals xs us → Vals (xs.take n) (us.take n)
  | _, _, 0, _ => .nil
  | _, _, _ + 1, .nil => .nil
  | _, _, n + 1, .cons r t => .cons r (Vals.take n t)
theorem Vals.drop : ∀ {xs : List V} {us : List Value} (n : Nat), Vals xs us → Vals (xs.drop n) (us.drop n)
  | _, _, 0, r => r
  | _, _, _ + 1, .nil => .nil
  | _, _, n + 1, .cons _ t => Vals.drop n t
def RelO : Option V → Option Value → Prop
  | some v, some u => RelV v u
  | none, none => True
  | _, _ => False
def KV {κ : Type} : List (κ × V) → List (κ × Value) → Prop := Paired fun (p : κ × V) (q : κ × Value) => p.1 = q.1 ∧ RelV p.2 q.2

/-- a key of a dict (00_mix): an int or a text -/
def kV : Key → V
  | .inl i => .int i
  | .inr x => .str x

/-- what stands at a tracked address -/
inductive HO where
  /-- a list -/
  | lst (xs : List V)
  /-- a tuple (never changes) -/
  | tup (xs : List V)
  /-- a dict whose keys are ints and texts; one whose keys are tuples of ints and texts (the empty one is both) -/
  | dK (kvs : List (Key × V)) | dT (kvs : List (List Key × V))
  /-- a set of ints: its members, its size -/
  | set (S : Int → Bool) (n : Nat)
  /-- an instance of the class at C, its dict at dx, its attributes -/
  | ins (C dx : Addr) (fs : List (Str × V))
  /-- the dict of the instance at x -/
  | own (x : Addr)
  /-- the dict of an exception -/
  | xd (fs : List (Str × V))
  /-- a bound method, f of x -/
  | met (f x : Addr)
  /-- a range object lo, lo + 1, .. below hi -/
  | rng (lo hi : Int)
  /-- a thing that is known to the object (the script; a dict while a loop walks it): read, never written while it is so -/
  | frz (o : Obj) (u : HO)
  /-- a code object's table -/
  | tbl (ps : Array Value)
  /-- any other thing, by what is true of its one object (a def of one's own: SetO a S n := HO.ext fun h => ..) -/
  | ext (φ : Heap → Prop)

abbrev Hp := Addr → Option HO
def upd (H : Hp) (a : Addr) (o : HO) : Hp := fun b => if b = a then some o else H b
theorem upd_same {H : Hp} {a : Addr} {o : HO} : upd H a o a = some o := by unfold upd; rw [if_pos rfl]
theorem upd_ne {H : Hp} {a b : Addr} {o : HO} (h : b ≠ a) : upd H a o b = H b := by unfold upd; rw [if_neg h]
theorem ne_of_none {H : Hp} {a b : Addr} {o : HO} (h : H a = some o) (h' : H b = none) : a ≠ b := by
  intro e; subst e; rw [h] at h'; cases h'

section
variable (P : Program) (w : World)
def ObjOk (H : Hp) (h : Heap) (a : Addr) : HO → Prop
  | .lst xs => xs.length ≤ sizeLine ∧ ∃ (its : List Value) (n : Nat), Vals xs its ∧ h.get? a = some { cls := .type "list", data := .seq its.toArray n }
  | .tup xs => xs.length ≤ sizeLine ∧ ∃ its : List Value, Vals xs its ∧ IsTup h a its.toArray
  | .dK kvs => kvs.length ≤ sizeLine ∧ (a == sysModules) = false ∧ ∃ vs, KV kvs vs ∧ h.DictOf (mixKind P w) a vs
  | .dT kvs => kvs.length ≤ sizeLine ∧ (a == sysModules) = false ∧ ∃ xs : List (List Key × Addr × Value),
      Paired (fun (p : List Key × V) (q : List Key × Addr × Value) => p.1 = q.1 ∧ H q.2.1 = some (.tup (p.1.map kV)) ∧ RelV p.2 q.2.2) kvs xs ∧
      ∃ o es ep, h.get? a = some o ∧ o.ExactDict ∧ o.data = .dict es ep ∧ es.toList = xs.map (entryOfKey (tupleKind (mixKind P w))) ∧ (xs.map (·.1)).Nodup
  | .set S n => h.SetOf (intKind P w) a S n
  | .ins C dx fs => H dx = some (.own a) ∧ fs.length ≤ 1000 ∧ dx ≠ a ∧ h.get? a = some (PySem.W.instObj C dx) ∧
      ∃ mA, h.Ns1 dx mA ∧ (∀ f, RelO (fs.lookup f) (mA f)) ∧ PySem.Within mA (fs.map (·.1))
  | .own _ => ∃ o, h.get? a = some o
  | .xd fs => ∃ mA, h.Ns1 a mA ∧ ∀ f, RelO (fs.lookup f) (mA f)
  | .rng lo hi => ∃ t u v, h.get? a = some { cls := .type "range", data := .fields #[.int lo t, .int hi u, .int 1 v] }
  | .frz o u => h.get? a = some o ∧ ObjOk H h a u
  | .tbl ps => h.get? a = some { cls := .none, data := .fields ps }
  | .met f x => h.get? a = some (PySem.W.methodObj (.ref f) (.ref x))
  | .ext φ => φ h ∧ (∃ o, h.get? a = some o) ∧ ∀ h1 h2 : Heap, φ h1 → (∀ o, h1.get? a = some o → h2.get? a = some o) → φ h2
/-- the abstract heap is held -/
def HOk (H : Hp) (h : Heap) : Prop := ∀ a o, H a = some o → ObjOk P w H h a o
end

section
variable {P : Program} {w : World} {H H' : Hp} {h h' : Heap} {a : Addr} {o : HO}
theorem ObjOk.lt (x : ObjOk P w H h a o) : a < h.objs.size := by
  cases o with
  | lst xs => obtain ⟨_, _, _, _, e⟩ := x; exact Heap.lt_size e
  | tup xs => obtain ⟨_, _, _, p⟩ := x; exact p.lt
  | dK kvs => obtain ⟨_, _, _, _, o, _, _, e, _⟩ := x; exact Heap.lt_size e
  | dT kvs => obtain ⟨_, _, _, _, o, _, _, e, _⟩ := x; exact Heap.lt_size e
  | set S n => obtain ⟨o, _, _, _, e, _⟩ := x; exact Heap.lt_size e
  | ins C dx fs => obtain ⟨_, _, _, e, _⟩ := x; exact Heap.lt_size e
  | own y => obtain ⟨_, e⟩ := x; exact Heap.lt_size e
  | xd fs => obtain ⟨_, ⟨_, _, _, e, _⟩, _⟩ := x; exact Heap.lt_size e
  | rng lo hi => obtain ⟨_, _, _, e⟩ := x; exact Heap.lt_size e
  | frz ob u => obtain ⟨e, _⟩ := x; exact Heap.lt_size e
  | tbl ps => exact Heap.lt_size (show h.get? a = some _ from x)
  | met f y => exact Heap.lt_size (show h.get? a = some _ from x)
  | ext φ => obtain ⟨_, ⟨_, e⟩, _⟩ := x; exact Heap.lt_size e
theorem Paired.mapP {α β : Type} {F G : α → β → Prop} : ∀ {l₁ : List α} {l₂ : List β}, Paired F l₁ l₂ → (∀ a b, F a b → G a b) → Paired G l₁ l₂
  | _, _, .nil, _ => .nil
  | _, _, .cons r t, f => .cons (f _ _ r) (Paired.mapP t f)
/-- what an object's description leans on: its own object, its own dict, the tuples -/
theorem ObjOk.stay (x : ObjOk P w H h a o) (k : ∀ b u, (b = a ∨ H b = some (.own a)) → h.get? b = some u → h'.get? b = some u)
    (ho : ∀ b, H b = some (.own a) → H' b = some (.own a)) (ht : ∀ b xs, H b = some (.tup xs) → H' b = some (.tup xs)) : ObjOk P w H' h' a o := by
  induction o with
  | lst xs => obtain ⟨z, its, n, r, e⟩ := x; exact ⟨z, its, n, r, k _ _ (.inl rfl) e⟩
  | tup xs => obtain ⟨z, its, r, ob, e, c⟩ := x; exact ⟨z, its, r, ob, k _ _ (.inl rfl) e, c⟩
  | dK kvs => obtain ⟨z, y, vs, r, ob, es, ep, e, c⟩ := x; exact ⟨z, y, vs, r, ob, es, ep, k _ _ (.inl rfl) e, c⟩
  | dT kvs =>
    obtain ⟨z, y, xs, r, ob, es, ep, e, c⟩ := x
    exact ⟨z, y, xs, Paired.mapP r fun p q z => ⟨z.1, ht _ _ z.2.1, z.2.2⟩, ob, es, ep, k _ _ (.inl rfl) e, c⟩
  | set S n => obtain ⟨ob, es, ep, t, e, c⟩ := x; exact ⟨ob, es, ep, t, k _ _ (.inl rfl) e, c⟩
  | ins C dx fs =>
    obtain ⟨d, z, ne, e, mA, ⟨od, es, ep, e2, c⟩, r⟩ := x
    exact ⟨ho _ d, z, ne, k _ _ (.inl rfl) e, mA, ⟨od, es, ep, k _ _ (.inr d) e2, c⟩, r⟩
  | own y => obtain ⟨ob, e⟩ := x; exact ⟨ob, k _ _ (.inl rfl) e⟩
  | xd fs => obtain ⟨mA, ⟨od, es, ep, e, c⟩, r⟩ := x; exact ⟨mA, ⟨od, es, ep, k _ _ (.inl rfl) e, c⟩, r⟩
  | rng lo hi => obtain ⟨t, u, v, e⟩ := x; exact ⟨t, u, v, k _ _ (.inl rfl) e⟩
  | frz ob u ih => obtain ⟨e, q⟩ := x; exact ⟨k _ _ (.inl rfl) e, ih q⟩
  | tbl ps =>
    have e : h.get? a = some { cls := .none, data := .fields ps } := x
    show h'.get? a = some { cls := .none, data := .fields ps }
    exact k a _ (.inl rfl) e
  | met f y =>
    have e : h.get? a = some (PySem.W.methodObj (.ref f) (.ref y)) := x
    show h'.get? a = some (PySem.W.methodObj (.ref f) (.ref y))
    exact k a _ (.inl rfl) e
  | ext φ => obtain ⟨p, ⟨o, e⟩, st⟩ := x; exact ⟨st _ _ p fun o q => k _ _ (.inl rfl) q, ⟨o, k _ _ (.inl rfl) e⟩, st⟩
theorem HOk.lt (x : HOk P w H h) (e : H a = some o) : a < h.objs.size := (x a o e).lt
theorem HOk.fresh (x : HOk P w H h) (e : h.objs.size ≤ a) : H a = none := by
  cases q : H a with
  | none => rfl
  | some u => exact absurd (Nat.lt_of_lt_of_le (x.lt q) e) (Nat.lt_irrefl _)
/-- every object of the heap is kept -/
theorem HOk.kept (x : HOk P w H h) (k : ∀ b u, h.get? b = some u → h'.get? b = some u) : HOk P w H h' := fun a o e =>
  (x a o e).stay (fun b u _ q => k b u q) (fun _ q => q) fun _ _ q => q
/-- a new object is laid and tracked -/
theorem HOk.laid (x : HOk P w H h) (k : ∀ b u, h.get? b = some u → h'.get? b = some u) (hp : h.objs.size ≤ a) (new : ObjOk P w (upd H a o) h' a o) : HOk P w (upd H a o) h' := fun b u e => by
  have hn := x.fresh hp
  by_cases hb : b = a
  · subst hb; rw [upd_same] at e; cases e; exact new
  · rw [upd_ne hb] at e
    exact (x b u e).stay (fun c v _ q => k c v q) (fun c q => by rw [upd_ne (ne_of_none q hn)]; exact q) fun c xs q => by rw [upd_ne (ne_of_none q hn)]; exact q
end

/-- what may be read as u: it is u, or a known u -/
def Rd (H : Hp) (a : Addr) (u : HO) : Prop := H a = some u ∨ ∃ o, H a = some (.frz o u)
theorem Rd.ok {P : Program} {w : World} {H : Hp} {h : Heap} {a : Addr} {u : HO} (r : Rd H a u) (x : HOk P w H h) : ObjOk P w H h a u := by
  rcases r with r | ⟨o, r⟩
  · exact x a u r
  · obtain ⟨_, q⟩ := x a _ r
    exact q
/-- what may be written -/
def Mut : Option HO → Prop
  | some (.lst _) => True
  | some (.dK _) => True
  | some (.dT _) => True
  | some (.set _ _) => True
  | some (.ins _ _ _) => True
  | some (.ext _) => True
  | _ => False
section
variable {P : Program} {w : World} {H : Hp} {h h' : Heap} {x e : Addr} {o' : HO}
/-- the object at e is changed: x itself, or the dict of the instance x -/
theorem HOk.write (ok : HOk P w H h) (mu : Mut (H x)) (he : e = x ∨ H e = some (.own x)) (k : ∀ b u, b ≠ e → h.get? b = some u → h'.get? b = some u) (heo : ∃ u, h'.get? e = some u)
    (new : ObjOk P w (upd H x o') h' x o') : HOk P w (upd H x o') h' := fun b u q => by
  have nown : ∀ c y, H c = some (.own y) → c ≠ x := fun c y r z => by subst z; rw [r] at mu; exact mu
  have ntup : ∀ c xs, H c = some (.tup xs) → c ≠ x := fun c xs r z => by subst z; rw [r] at mu; exact mu
  by_cases hb : b = x
  · subst hb; rw [upd_same] at q; cases q; exact new
  · rw [upd_ne hb] at q
    by_cases hbe : b = e
    · have q' : H b = some (.own x) := by
        rcases he with z | z
        · exact absurd (hbe.trans z) hb
        · rw [hbe]; exact z
      rw [q] at q'; cases q'
      obtain ⟨v, hv⟩ := heo
      exact ⟨v, by rw [hbe]; exact hv⟩
    · refine (ok b u q).stay (fun c v hc r => k c v ?_ r) (fun c r => by rw [upd_ne (nown c b r)]; exact r) fun c xs r => by rw [upd_ne (ntup c xs r)]; exact r
      rcases hc with rfl | hc
      · exact hbe
      · rintro rfl
        rcases he with z | z
        · exact nown c b hc z
        · rw [hc] at z; cases z; exact hb rfl
end

/-! ### kept unless tracked; of the frames at fs (the callers') the slots may change (an exception that passes writes there); of the records at ex (iterators) nothing is said -/
structure Un (fs ex : List Addr) (H H' : Hp) (h h' : Heap) : Prop where
  keep : ∀ b o, h.get? b = some o → H b = none → b ∉ fs → b ∉ ex → h'.get? b = some o
  slot : ∀ b o, h.get? b = some o → H b = none → b ∈ fs → b ∉ ex → ∃ sl, h'.get? b = some { o with slots := sl }
  free : ∀ b o, h.get? b = some o → H b = none → b ∉ ex → H' b = none
  there : ∀ b o, h.get? b = some o → b ∉ ex → ∃ o', h'.get? b = some o'
  tups : ∀ b xs, H b = some (.tup xs) → H' b = some (.tup xs)
  frzs : ∀ b o u, H b = some (.frz o u) → H' b = some (.frz o u)
  tbls : ∀ b ps, H b = some (.tbl ps) → ∃ more, H' b = some (.tbl (ps ++ more))
section
variable {fs fs' ex ex' : List Addr} {H H1 H2 : Hp} {h h1 h2 h' : Heap} {a x e : Addr} {o : HO}
theorem Un.any (u : Un fs ex H H1 h h1) {b : Addr} {ob : Obj} (q : h.get? b = some ob) (n : H b = none) (hx : b ∉ ex) : ∃ sl, h1.get? b = some { ob with slots := sl } := by
  by_cases hb : b ∈ fs
  · exact u.slot b ob q n hb hx
  · exact ⟨ob.slots, u.keep b ob q n hb hx⟩
theorem Un.kept (k : ∀ b u, h.get? b = some u → h'.get? b = some u) : Un fs ex H H h h' :=
  ⟨fun b ob q _ _ _ => k b ob q, fun b ob q _ _ _ => ⟨ob.slots, k b ob q⟩, fun _ _ _ n _ => n, fun b ob q _ => ⟨ob, k b ob q⟩, fun _ _ q => q, fun _ _ _ q => q, fun _ ps q => ⟨#[], by rw [q]; simp⟩⟩
theorem Un.refl : Un fs ex H H h h := Un.kept fun _ _ q => q
theorem Un.laid (k : ∀ b u, h.get? b = some u → h'.get? b = some u) (hp : h.objs.size ≤ a) (hn : H a = none) : Un fs ex H (upd H a o) h h' where
  keep := fun b u q _ _ _ => k b u q
  slot := fun b u q _ _ _ => ⟨u.slots, k b u q⟩
  free := fun b u q n _ => by rw [upd_ne (Nat.ne_of_lt (Nat.lt_of_lt_of_le (Heap.lt_size q) hp))]; exact n
  there := fun b u q _ => ⟨u, k b u q⟩
  tups := fun b xs q => by rw [upd_ne (ne_of_none q hn)]; exact q
  frzs := fun b u xs q => by rw [upd_ne (ne_of_none q hn)]; exact q
  tbls := fun b ps q => ⟨#[], by rw [upd_ne (ne_of_none q hn), q]; simp⟩
theorem Un.write (mu : Mut (H x)) (he : e = x ∨ H e = some (.own x)) (k : ∀ b u, b ≠ e → h.get? b = some u → h'.get? b = some u) (heo : ∃ u, h'.get? e = some u) : Un fs ex H (upd H x o) h h' := by
  have hx : ∀ b, H b = none → b ≠ x := fun b n z => by subst z; rw [n] at mu; exact mu
  have hb : ∀ b, H b = none → b ≠ e := fun b n z => by
    subst z
    rcases he with r | r
    · exact hx b n r
    · rw [n] at r; cases r
  have hm : ∀ b u, H b = some u → ¬ Mut (some u) → b ≠ x := fun b u q nm z => by subst z; rw [q] at mu; exact nm mu
  refine ⟨fun b u q n _ _ => k b u (hb b n) q, fun b u q n _ _ => ⟨u.slots, k b u (hb b n) q⟩, fun b u q n _ => by rw [upd_ne (hx b n)]; exact n, fun b u q _ => ?_,
    fun b xs q => by rw [upd_ne (hm b _ q fun z => z)]; exact q, fun b u xs q => by rw [upd_ne (hm b _ q fun z => z)]; exact q, fun b ps q => ⟨#[], by rw [upd_ne (hm b _ q fun z => z), q]; simp⟩⟩
  by_cases hbe : b = e
  · subst hbe; exact heo
  · exact ⟨u, k b u hbe q⟩
end

/-! ### the heap without what is tracked -/
def trk (h : Heap) (H : Hp) : List Addr := (List.range h.objs.size).filter fun a => (H a).isSome
def hidT (h : Heap) (H : Hp) : Heap := PySem.W.hideAll h (trk h H)
theorem hidT_size (h : Heap) (H : Hp) : (hidT h H).objs.size = h.objs.size := PySem.W.hideAll_size _ _
theorem hidT_get {h : Heap} {H : Hp} {b : Addr} {o : Obj} (e : h.get? b = some o) (n : H b = none) : (hidT h H).get? b = some o :=
  PySem.W.hideAll_get _ e fun hm => by
    have q : (H b).isSome = true := (List.mem_filter.mp hm).2
    rw [n] at q; simp at q
theorem of_hidT {h : Heap} {H : Hp} {b : Addr} {o : Obj} (e : (hidT h H).get? b = some o) : h.get? b = some o ∧ H b = none := by
  have e' : h.get? b = some o := PySem.W.of_hideAll (trk h H) e
  refine ⟨e', ?_⟩
  cases q : H b with
  | none => rfl
  | some x =>
    have hm : b ∈ trk h H := List.mem_filter.mpr ⟨List.mem_range.mpr (Heap.lt_size e'), by simp [q]⟩
    have z : (hidT h H).get? b = none := PySem.W.hideAll_none (trk h H) hm
    rw [z] at e; cases e

/-! ### OpenK's ledger, filled with every new object but one -/
def allNews (g h : Heap) (L : Addr) : List (Addr × Obj) := (List.range h.objs.size).filterMap fun a => if a = L ∨ (g.get? a).isSome = true then none else (h.get? a).map fun o => (a, o)
def rest (g h : Heap) (L d : Addr) : List (Addr × Obj) := (allNews g h L).filter fun p => decide (p.1 ≠ d)
end L2

namespace L2
open PySem PySem.Spec PyProof.Rows

/-- the module's facts, over the base: the heap at the law's entry without what is tracked there -/
structure Mod (K : PySem.W.Frag) (mg : Str → Option Value) (base : Heap) : Prop where
  kin : K.In base
  glob : base.Ns mainGlobals mg
  blt : ∃ mb, base.Ns builtinsNs mb ∧ ∀ x : Str, x ≠ "__name__" → mb x = bootBuiltins x
  nolimit : base.NoLimit

/-- the context: a def's body (or a comprehension's block) running. base: fixed through the whole law; s₀, H₀: the entry; outer: the frames whose slots others may change (a def's callers); stack: all frames that run;
   ex: iterators that were made ahead of the entry and are walked here (a comprehension's); fn: the names whose cells were made at the entry (a def: all; a comprehension's block: its own); calm: not within an except suite; pn: pins that every state bears; xe: what is wanted of an exception that leaves the code -/
structure Cx where
  prog : Program
  w : World
  K : PySem.W.Frag
  mg : Str → Option Value
  base : Heap
  A : Around
  N : List Str
  s₀ : Shared
  H₀ : Hp
  env : Env
  outer : List Env
  stack : List Env
  ex : List Addr
  fn : Str → Bool
  calm : Bool
  pn : List (Addr × Obj)
  xe : Value → Shared → Prop
/-- the callers' frames -/
def frs (l : List Env) : List Addr := l.filterMap (·.frame)
abbrev Cx.fs (X : Cx) : List Addr := frs X.outer

def Vis (sc : Scope) (x : Str) : Prop := sc.names.lookup x = some .local ∨ sc.names.lookup x = some .cell ∨ sc.names.lookup x = some .free
def Loc (sc : Scope) (x : Str) : Prop := sc.names.lookup x = some .local ∨ sc.names.lookup x = some .cell
def Look (env : Env) (h : Heap) (m : Str → Option Value) (x : Str) (u : Value) : Prop :=
  (env.kindOf x = some .local ∧ m x = some u) ∨ ((env.kindOf x = some .cell ∨ env.kindOf x = some .free) ∧ ∃ c, env.cells.lookup x = some c ∧ h.IsCell c (some u))

structure Cx.Ok (X : Cx) : Prop where
  mod : Mod X.K X.mg X.base
  kind : X.env.scope.kind = .function
  glob : X.env.globals = mainGlobals
  blt : X.env.builtins = builtinsNs
  above : X.s₀.heap.objs.size ≤ X.env.locals
  inj : ∀ x y c, X.env.cells.lookup x = some c → X.env.cells.lookup y = some c → x = y
  has : ∀ x, (X.env.kindOf x = some .cell ∨ X.env.kindOf x = some .free) → ∃ c, X.env.cells.lookup x = some c
  cab : ∀ x c, X.fn x = true → X.env.cells.lookup x = some c → X.s₀.heap.objs.size ≤ c
  hd : X.calm = true → X.A.handled = none
  frames : X.A.frames = some X.stack
  stk : X.stack = X.outer ∨ (X.stack = X.env :: X.outer ∧ X.env.frame = some X.env.locals)
  exf : ∀ b ∈ X.ex, b ≠ X.env.locals ∧ ∀ x c, X.env.cells.lookup x = some c → c ≠ b
  bs : ∀ b o, X.base.get? b = some o → X.s₀.heap.get? b = some o ∧ X.H₀ b = none
  bsz : X.base.objs.size ≤ X.s₀.heap.objs.size
  noex : ∀ b o, X.base.get? b = some o → b ∉ X.ex
  exfs : ∀ b ∈ X.ex, b ∉ X.fs
  funs : X.s₀.heap.FunFrames X.base X.outer
  frf : ∀ b ∈ X.fs, X.H₀ b = none

structure Inv (X : Cx) (pins : List (Addr × Obj)) (σ : List (Option V)) (H : Hp) (s : Shared) : Prop where
  ok : X.Ok
  os : s.os = X.s₀.os
  bare : AllBare s.gens
  base : Un X.fs X.ex X.H₀ H X.s₀.heap s.heap
  loc : ∃ m, s.heap.Ns X.env.locals m ∧ ∀ (i : Nat) (x : Str) (v : V), X.N[i]? = some x → σ[i]? = some (some v) → Vis X.env.scope x → ∃ u, RelV v u ∧ Look X.env s.heap m x u
  cell : ∀ x c, X.env.cells.lookup x = some c → ∃ v, s.heap.IsCell c v
  free : H X.env.locals = none
  freeC : ∀ x c, X.env.cells.lookup x = some c → H c = none
  pin : ∀ p ∈ X.pn ++ pins, s.heap.get? p.1 = some p.2 ∧ H p.1 = none ∧ p.1 ≠ X.env.locals ∧ p.1 ∉ X.fs ∧ ∀ v, p.2.data ≠ .cell v
  hok : HOk X.prog X.w H s.heap
  len : σ.length = X.N.length

section
variable {X : Cx} {pins : List (Addr × Obj)} {σ : List (Option V)} {H H' : Hp} {s : Shared} {h' : Heap}

theorem Cx.Ok.nofr (ok : X.Ok) {b : Addr} {o : Obj} (e : X.base.get? b = some o) : b ∉ X.fs := fun hb => by
  have := (ok.funs.mem hb).1
  rw [e] at this; cases this
theorem Inv.bs (I : Inv X pins σ H s) : ∀ b o, X.base.get? b = some o → s.heap.get? b = some o ∧ H b = none := fun b o e =>
  ⟨I.base.keep b o (I.ok.bs b o e).1 (I.ok.bs b o e).2 (I.ok.nofr e) (I.ok.noex b o e), I.base.free b o (I.ok.bs b o e).1 (I.ok.bs b o e).2 (I.ok.noex b o e)⟩
theorem Inv.bk (I : Inv X pins σ H s) : ∀ b o, X.base.get? b = some o → s.heap.get? b = some o := fun b o e => (I.bs b o e).1
theorem Inv.mod (I : Inv X pins σ H s) : Mod X.K X.mg X.base := I.ok.mod
theorem Inv.kIn (I : Inv X pins σ H s) : X.K.In s.heap := I.ok.mod.kin.keeps I.bk
theorem Inv.lt (I : Inv X pins σ H s) : X.env.locals < s.heap.objs.size := let ⟨_, hn, _⟩ := I.loc; hn.lt
theorem Inv.sz (I : Inv X pins σ H s) : X.s₀.heap.objs.size ≤ s.heap.objs.size := Nat.le_trans I.ok.above (Nat.le_of_lt I.lt)
theorem Inv.nofs (I : Inv X pins σ H s) {a : Addr} (h : s.heap.objs.size ≤ a) : a ∉ X.fs := fun hb => by
  obtain ⟨_, o, ho, _⟩ := I.ok.funs.mem hb
  exact absurd (Nat.lt_of_lt_of_le (Heap.lt_size ho) (Nat.le_trans I.sz h)) (Nat.lt_irrefl _)
theorem Inv.cne (I : Inv X pins σ H s) : ∀ x c, X.env.cells.lookup x = some c → c ≠ X.env.locals := fun x c e z => by
  obtain ⟨v, o, ho, hd⟩ := I.cell x c e
  obtain ⟨m, ⟨o', es, ep, ho', hd', _⟩, _⟩ := I.loc
  rw [z, ho'] at ho; cases ho; rw [hd'] at hd; cases hd
theorem Inv.funs (I : Inv X pins σ H s) : s.heap.FunFrames X.base X.outer := by
  have all : ∀ (l : List Env), (∀ b ∈ frs l, b ∈ X.fs) → X.s₀.heap.FunFrames X.base l → s.heap.FunFrames X.base l := by
    intro l
    induction l with
    | nil => intro _ _; trivial
    | cons env r ih =>
      intro hs hl
      obtain ⟨hk, ⟨L, o, hf, hn, ho, hd⟩, hr⟩ := hl
      have hL : L ∈ X.fs := hs L (by unfold frs; rw [List.filterMap_cons, hf]; exact List.mem_cons_self)
      obtain ⟨sl, e⟩ := I.base.slot L o ho (I.ok.frf L hL) hL fun z => I.ok.exfs L z hL
      exact ⟨hk, ⟨L, _, hf, hn, e, hd⟩, ih (fun b hb => hs b (by unfold frs; rw [List.filterMap_cons, hf]; exact List.mem_cons_of_mem _ hb)) hr⟩
  exact all X.outer (fun _ hb => hb) I.ok.funs

/-- the frames that run, for a call -/
theorem Inv.stack (I : Inv X pins σ H s) : s.heap.FunFrames X.base X.stack := by
  rcases I.ok.stk with e | ⟨e, hf⟩
  · rw [e]; exact I.funs
  · rw [e]
    obtain ⟨m, hn, _⟩ := I.loc
    refine .cons (by rw [I.ok.kind]; decide) hf hn ?_ I.funs
    exact Heap.get?_none_of_le (Nat.le_trans I.ok.bsz I.ok.above)
theorem Inv.stkSub (I : Inv X pins σ H s) : ∀ b ∈ frs X.stack, b ∈ X.env.locals :: X.fs := fun b hb => by
  rcases I.ok.stk with e | ⟨e, hf⟩
  · rw [e] at hb; exact List.mem_cons_of_mem _ hb
  · rw [e] at hb
    unfold frs at hb
    rw [List.filterMap_cons, hf] at hb
    exact hb
theorem Inv.stkFree (I : Inv X pins σ H s) : ∀ b ∈ frs X.stack, H b = none := fun b hb => by
  rcases List.mem_cons.mp (I.stkSub b hb) with e | hb
  · rw [e]; exact I.free
  · obtain ⟨_, o, ho, _⟩ := I.ok.funs.mem hb
    exact I.base.free b o ho (I.ok.frf b hb) fun z => I.ok.exfs b z hb

/-- THE STEP: the untracked objects but the frame and the records at ch are kept (the callers' frames up to slots), the frame's map is kept, the new abstract heap is held -/
theorem Inv.step {g' : Array GenState} {t' : Nat} {d' : Drawn} {ch : List Addr} (I : Inv X pins σ H s)
    (hch : ∀ b ∈ ch, (b ∈ X.ex ∨ X.s₀.heap.objs.size ≤ b) ∧ b ≠ X.env.locals ∧ (∀ x c, X.env.cells.lookup x = some c → c ≠ b) ∧ ∀ p ∈ X.pn ++ pins, p.1 ≠ b)
    (keep : ∀ b o, b ≠ X.env.locals → b ∉ X.fs → b ∉ ch → s.heap.get? b = some o → H b = none → h'.get? b = some o)
    (slot : ∀ b o, b ≠ X.env.locals → b ∈ X.fs → b ∉ ch → s.heap.get? b = some o → H b = none → ∃ sl, h'.get? b = some { o with slots := sl }) (free : ∀ b o, b ∉ ch → s.heap.get? b = some o → H b = none → H' b = none)
    (there : ∀ b o, b ∉ ch → s.heap.get? b = some o → ∃ o', h'.get? b = some o')
    (tups : ∀ b xs, H b = some (.tup xs) → H' b = some (.tup xs)) (frzs : ∀ b o u, H b = some (.frz o u) → H' b = some (.frz o u)) (tbls : ∀ b ps, H b = some (.tbl ps) → ∃ more, H' b = some (.tbl (ps ++ more)))
    (ns : ∀ m, s.heap.Ns X.env.locals m → h'.Ns X.env.locals m) (hok : HOk X.prog X.w H' h') (hg : AllBare g') :
    Inv X pins σ H' { s with heap := h', gens := g', drawn := d', toks := t' } := by
  have neL : ∀ b o, X.s₀.heap.get? b = some o → b ≠ X.env.locals := fun b o e => Nat.ne_of_lt (Nat.lt_of_lt_of_le (Heap.lt_size e) I.ok.above)
  have neC : ∀ b o, X.s₀.heap.get? b = some o → b ∉ X.ex → b ∉ ch := fun b o e hx hb => by
    rcases (hch b hb).1 with z | z
    · exact hx z
    · exact absurd (Nat.lt_of_lt_of_le (Heap.lt_size e) z) (Nat.lt_irrefl _)
  have cellK : ∀ x c, X.env.cells.lookup x = some c → ∀ v, s.heap.IsCell c v → h'.IsCell c v := fun x c e v ⟨o, ho, hd⟩ => by
    have nch : c ∉ ch := fun z => (hch c z).2.2.1 x c e rfl
    by_cases hc : c ∈ X.fs
    · obtain ⟨sl, q⟩ := slot c o (I.cne x c e) hc nch ho (I.freeC x c e)
      exact ⟨_, q, hd⟩
    · exact ⟨o, keep c o (I.cne x c e) hc nch ho (I.freeC x c e), hd⟩
  refine ⟨I.ok, I.os, hg, ⟨fun b o e n hb hx => ?_, fun b o e n hb hx => ?_, fun b o e n hx => ?_, fun b o e hx => ?_, fun b xs e => tups b xs (I.base.tups b xs e), fun b o xs e => frzs b o xs (I.base.frzs b o xs e), fun b ps e => ?_⟩, ?_, fun x c e => ?_, ?_, fun x c e => ?_, fun p hp => ?_, hok, I.len⟩
  · exact keep b o (neL b o e) hb (neC b o e hx) (I.base.keep b o e n hb hx) (I.base.free b o e n hx)
  · obtain ⟨sl, e1⟩ := I.base.slot b o e n hb hx
    obtain ⟨sl', e2⟩ := slot b _ (neL b o e) hb (neC b o e hx) e1 (I.base.free b o e n hx)
    exact ⟨sl', e2⟩
  · obtain ⟨o', e1⟩ := I.base.there b o e hx
    exact free b o' (neC b o e hx) e1 (I.base.free b o e n hx)
  · obtain ⟨o', e1⟩ := I.base.there b o e hx
    exact there b o' (neC b o e hx) e1
  · obtain ⟨m1, e1⟩ := I.base.tbls b ps e
    obtain ⟨m2, e2⟩ := tbls b _ e1
    exact ⟨m1 ++ m2, by rw [e2, Array.append_assoc]⟩
  · obtain ⟨m, hn, hl⟩ := I.loc
    refine ⟨m, ns m hn, fun i x v e1 e2 e3 => ?_⟩
    obtain ⟨u, r, l⟩ := hl i x v e1 e2 e3
    refine ⟨u, r, ?_⟩
    rcases l with l | ⟨k, c, e, z⟩
    · exact .inl l
    · exact .inr ⟨k, c, e, cellK x c e _ z⟩
  · obtain ⟨v, z⟩ := I.cell x c e
    exact ⟨v, cellK x c e v z⟩
  · obtain ⟨m, ⟨o, _, _, ho, _⟩, _⟩ := I.loc
    exact free _ o (fun z => (hch _ z).2.1 rfl) ho I.free
  · obtain ⟨v, o, ho, hd⟩ := I.cell x c e
    exact free c o (fun z => (hch c z).2.2.1 x c e rfl) ho (I.freeC x c e)
  · obtain ⟨e, n, ne, nf, d⟩ := I.pin p hp
    have nch : p.1 ∉ ch := fun z => (hch p.1 z).2.2.2 p hp rfl
    exact ⟨keep p.1 p.2 ne nf nch e n, free p.1 p.2 nch e n, ne, nf, d⟩
/-- .. where the frame's own object is kept too -/
theorem Inv.un {t' : Nat} (I : Inv X pins σ H s) (u : Un X.fs [] H H' s.heap h') (hok : HOk X.prog X.w H' h') : Inv X pins σ H' { s with heap := h', toks := t' } := by
  obtain ⟨m, ⟨o, es, ep, ho, r⟩, _⟩ := id I.loc
  obtain ⟨sl, hL⟩ := u.any ho I.free (by simp)
  exact I.step (g' := s.gens) (d' := s.drawn) (ch := []) (fun _ z => nomatch z) (fun b o _ hb _ e n => u.keep b o e n hb (by simp)) (fun b o _ hb _ e n => u.slot b o e n hb (by simp)) (fun b o _ e n => u.free b o e n (by simp)) (fun b o _ e => u.there b o e (by simp)) u.tups u.frzs u.tbls (fun m' hm => by
    obtain ⟨o', es', ep', ho', r'⟩ := hm
    rw [ho] at ho'; cases ho'
    exact ⟨_, es', ep', hL, r'⟩) hok I.bare
/-- behind a call (or a comprehension's block): the slots of this frame may have changed too, the records at ch may have turned -/
theorem Inv.call {g' : Array GenState} {t' : Nat} {d' : Drawn} {ch : List Addr} (I : Inv X pins σ H s) (u : Un (frs X.stack) ch H H' s.heap h') (hok : HOk X.prog X.w H' h') (hg : AllBare g')
    (hch : ∀ b ∈ ch, (b ∈ X.ex ∨ X.s₀.heap.objs.size ≤ b) ∧ b ≠ X.env.locals ∧ (∀ x c, X.env.cells.lookup x = some c → c ≠ b) ∧ ∀ p ∈ X.pn ++ pins, p.1 ≠ b) :
    Inv X pins σ H' { s with heap := h', gens := g', drawn := d', toks := t' } := by
  obtain ⟨m, ⟨o, es, ep, ho, r⟩, _⟩ := id I.loc
  obtain ⟨sl, hL⟩ := u.any ho I.free fun z => (hch _ z).2.1 rfl
  exact I.step (ch := ch) hch (fun b o hL hb hc e n => u.keep b o e n (fun z => (List.mem_cons.mp (I.stkSub b z)).elim hL hb) hc) (fun b o _ _ hc e n => u.any e n hc) (fun b o hc e n => u.free b o e n hc) (fun b o hc e => u.there b o e hc) u.tups u.frzs u.tbls (fun m' hm => by
    obtain ⟨o', es', ep', ho', r'⟩ := hm
    rw [ho] at ho'; cases ho'
    exact ⟨_, es', ep', hL, r'⟩) hok hg
/-- an untracked record of ours (an iterator) has turned -/
theorem Inv.turned {t' : Nat} {it : Addr} (I : Inv X pins σ H s) (k : ∀ b o, b ≠ it → s.heap.get? b = some o → h'.get? b = some o) (hn : H it = none) (hL : it ≠ X.env.locals)
    (h1 : it ∈ X.ex ∨ X.s₀.heap.objs.size ≤ it) (h2 : ∀ x c, X.env.cells.lookup x = some c → c ≠ it) (h3 : ∀ p ∈ X.pn ++ pins, p.1 ≠ it) : Inv X pins σ H { s with heap := h', toks := t' } := by
  have nit : ∀ b u, H b = some u → b ≠ it := fun b u e z => by rw [z, hn] at e; cases e
  refine I.step (g' := s.gens) (d' := s.drawn) (ch := [it]) (fun b hb => ?_) (fun b o _ _ hc e _ => k b o (fun z => hc (by simp [z])) e) (fun b o _ _ hc e _ => ⟨o.slots, k b o (fun z => hc (by simp [z])) e⟩) (fun _ _ _ _ n => n)
    (fun b o hc e => ⟨o, k b o (fun z => hc (by simp [z])) e⟩) (fun _ _ e => e) (fun _ _ _ e => e) (fun b ps e => ⟨#[], by rw [e]; simp⟩) (fun m hm => ?_) (fun b u e => ?_) I.bare
  · have e : b = it := by simpa using hb
    subst e
    exact ⟨h1, hL, h2, h3⟩
  · obtain ⟨o, es, ep, ho, r⟩ := hm
    exact ⟨o, es, ep, k _ o (Ne.symm hL) ho, r⟩
  · refine (I.hok b u e).stay (fun c v hc q => k c v ?_ q) (fun _ q => q) fun _ _ q => q
    rcases hc with z | z
    · rw [z]; exact nit b u e
    · exact nit c _ z
theorem Inv.tok (I : Inv X pins σ H s) (t : Nat) : Inv X pins σ H { s with toks := t } := I.un (h' := s.heap) (t' := t) Un.refl I.hok
/-- all objects kept -/
theorem Inv.kept {t' : Nat} (I : Inv X pins σ H s) (k : ∀ b u, s.heap.get? b = some u → h'.get? b = some u) : Inv X pins σ H { s with heap := h', toks := t' } := I.un (Un.kept k) (I.hok.kept k)
/-- a new object laid and tracked -/
theorem Inv.laid {a : Addr} {o : HO} {t' : Nat} (I : Inv X pins σ H s) (k : ∀ b u, s.heap.get? b = some u → h'.get? b = some u) (hp : s.heap.objs.size ≤ a) (new : ObjOk X.prog X.w (upd H a o) h' a o) :
    Inv X pins σ (upd H a o) { s with heap := h', toks := t' } := I.un (Un.laid k hp (I.hok.fresh hp)) (I.hok.laid k hp new)
/-- an object written -/
theorem Inv.write {x e : Addr} {o : HO} {t' : Nat} (I : Inv X pins σ H s) (mu : Mut (H x)) (he : e = x ∨ H e = some (.own x)) (k : ∀ b u, b ≠ e → s.heap.get? b = some u → h'.get? b = some u) (heo : ∃ u, h'.get? e = some u)
    (new : ObjOk X.prog X.w (upd H x o) h' x o) : Inv X pins σ (upd H x o) { s with heap := h', toks := t' } := I.un (Un.write mu he k heo) (I.hok.write mu he k heo new)
theorem Inv.pins_of {pins' : List (Addr × Obj)} (I : Inv X pins σ H s) (h : ∀ p ∈ pins', s.heap.get? p.1 = some p.2 ∧ H p.1 = none ∧ p.1 ≠ X.env.locals ∧ p.1 ∉ X.fs ∧ ∀ v, p.2.data ≠ .cell v) : Inv X pins' σ H s :=
  ⟨I.ok, I.os, I.bare, I.base, I.loc, I.cell, I.free, I.freeC, fun p hp => (List.mem_append.mp hp).elim (fun z => I.pin p (List.mem_append_left _ z)) (h p), I.hok, I.len⟩

theorem nodup_ix {N : List Str} (hN : N.Nodup) {i j : Nat} {x : Str} (a : N[i]? = some x) (b : N[j]? = some x) : i = j := by
  obtain ⟨h1, e1⟩ := List.getElem?_eq_some_iff.mp a
  obtain ⟨h2, e2⟩ := List.getElem?_eq_some_iff.mp b
  exact (List.getElem_inj hN).mp (e1.trans e2.symm)

/-- a name is stored; what changed -/
theorem store_ok2 {M : Model} {A : Around} {E : Value → Shared → Prop} {i : Nat} {x : Str} {v : V} {u : Value} {Q : Unit → Shared → Prop} (I : Inv X pins σ H s) (hN : X.N.Nodup) (hi : X.N[i]? = some x) (hx : Loc X.env.scope x) (r : RelV v u)
    (h : ∀ s', Inv X pins (σ.set i (some v)) H s' → (∃ a, Heap.SameBut a s.heap s'.heap ∧ (a = X.env.locals ∨ X.env.cells.lookup x = some a)) → Q () s') (hf : X.fn x = true ∨ X.env.scope.names.lookup x = some .local := by first | exact .inl rfl | exact .inr rfl | assumption) : wpAny M A (storeName X.env x u) Q E s := by
  obtain ⟨m, hn, hl⟩ := id I.loc
  have hcls : (X.env.scope.kind == .class || (X.env.scope.kind == .module && X.env.locals != X.env.globals)) = false := by rw [I.ok.kind]; rfl
  have hiσ : i < σ.length := by rw [I.len]; exact (List.getElem?_eq_some_iff.mp hi).1
  have cne := I.cne
  have tracked : ∀ {a : Addr} {h' : Heap}, (∃ o, s.heap.get? a = some o ∧ H a = none) → Heap.SameBut a s.heap h' → HOk X.prog X.w H h' := fun {a h'} ha hs b ob e => by
    obtain ⟨_, _, hfree⟩ := ha
    refine (I.hok b ob e).stay (fun c w' hc q => (hs.2 c ?_).trans q) (fun _ q => q) fun _ _ q => q
    rintro rfl
    rcases hc with rfl | hc
    · rw [hfree] at e; cases e
    · rw [hfree] at hc; cases hc
  rcases hx with hk | hk
  · refine wpAny_storeName_local hk hn (fun h' hn' hs => ?_) hcls
    obtain ⟨oL, _, _, hoL, _⟩ := id hn
    refine h _ ⟨I.ok, I.os, I.bare, ⟨fun b o e n hb hx => ?_, fun b o e n hb hx => ?_, I.base.free, fun b o e hx => ?_, I.base.tups, I.base.frzs, I.base.tbls⟩, ⟨_, hn', fun j y v' e1 e2 e3 => ?_⟩, fun y c e => ?_, I.free, I.freeC, fun p hp => ?_, tracked ⟨oL, hoL, I.free⟩ hs, by simpa using I.len⟩ ⟨_, hs, .inl rfl⟩
    · exact (hs.2 b (Nat.ne_of_lt (Nat.lt_of_lt_of_le (Heap.lt_size e) I.ok.above))).trans (I.base.keep b o e n hb hx)
    · obtain ⟨sl, e1⟩ := I.base.slot b o e n hb hx
      exact ⟨sl, (hs.2 b (Nat.ne_of_lt (Nat.lt_of_lt_of_le (Heap.lt_size e) I.ok.above))).trans e1⟩
    · obtain ⟨o', e1⟩ := I.base.there b o e hx
      exact ⟨o', (hs.2 b (Nat.ne_of_lt (Nat.lt_of_lt_of_le (Heap.lt_size e) I.ok.above))).trans e1⟩
    · by_cases hj : j = i
      · subst hj
        rw [hi] at e1; cases e1
        rw [List.getElem?_set_self hiσ] at e2
        cases e2
        exact ⟨u, r, .inl ⟨hk, by simp⟩⟩
      · rw [List.getElem?_set_ne (Ne.symm hj)] at e2
        obtain ⟨u', r', q⟩ := hl j y v' e1 e2 e3
        refine ⟨u', r', ?_⟩
        rcases q with ⟨k, e⟩ | ⟨k, c, e, z⟩
        · refine .inl ⟨k, ?_⟩
          have : y ≠ x := fun e => hj (nodup_ix hN e1 (e ▸ hi))
          simp [this, e]
        · exact .inr ⟨k, c, e, z.sameBut hs (cne y c e)⟩
    · obtain ⟨w', z⟩ := I.cell y c e
      exact ⟨w', z.sameBut hs (cne y c e)⟩
    · obtain ⟨e, n, ne, nf, d⟩ := I.pin p hp
      exact ⟨(hs.2 p.1 ne).trans e, n, ne, nf, d⟩
  · have hfn : X.fn x = true := by
      rcases hf with z | z
      · exact z
      · rw [z] at hk; cases hk
    obtain ⟨c, hc⟩ := I.ok.has x (.inl hk)
    obtain ⟨w', z⟩ := I.cell x c hc
    refine wpAny_storeName_cell I.ok.kind hk hc z (fun h' hc' hs => ?_)
    obtain ⟨oc, hoc, hocd⟩ := id z
    refine h { s with heap := h' } ⟨I.ok, I.os, I.bare, ⟨fun b o e n hb hx => ?_, fun b o e n hb hx => ?_, I.base.free, fun b o e hx => ?_, I.base.tups, I.base.frzs, I.base.tbls⟩, ⟨m, hn.sameBut hs (Ne.symm (cne x c hc)), fun j y v' e1 e2 e3 => ?_⟩, fun y c' e => ?_, I.free, I.freeC, fun p hp => ?_, tracked ⟨oc, hoc, I.freeC x c hc⟩ hs, by simpa using I.len⟩ ⟨c, hs, .inr hc⟩
    · exact (hs.2 b (Nat.ne_of_lt (Nat.lt_of_lt_of_le (Heap.lt_size e) (I.ok.cab x c hfn hc)))).trans (I.base.keep b o e n hb hx)
    · obtain ⟨sl, e1⟩ := I.base.slot b o e n hb hx
      exact ⟨sl, (hs.2 b (Nat.ne_of_lt (Nat.lt_of_lt_of_le (Heap.lt_size e) (I.ok.cab x c hfn hc)))).trans e1⟩
    · obtain ⟨o', e1⟩ := I.base.there b o e hx
      exact ⟨o', (hs.2 b (Nat.ne_of_lt (Nat.lt_of_lt_of_le (Heap.lt_size e) (I.ok.cab x c hfn hc)))).trans e1⟩
    · by_cases hj : j = i
      · subst hj
        rw [hi] at e1; cases e1
        rw [List.getElem?_set_self hiσ] at e2
        cases e2
        exact ⟨u, r, .inr ⟨.inl hk, c, hc, hc'⟩⟩
      · rw [List.getElem?_set_ne (Ne.symm hj)] at e2
        obtain ⟨u', r', q⟩ := hl j y v' e1 e2 e3
        refine ⟨u', r', ?_⟩
        rcases q with q | ⟨k, c', e, z'⟩
        · exact .inl q
        · refine .inr ⟨k, c', e, z'.sameBut hs ?_⟩
          rintro rfl
          exact hj (nodup_ix hN e1 (I.ok.inj _ _ _ e hc ▸ hi))
    · by_cases hcc : c' = c
      · subst hcc; exact ⟨_, hc'⟩
      · obtain ⟨w2, z2⟩ := I.cell y c' e
        exact ⟨w2, z2.sameBut hs hcc⟩
    · obtain ⟨e, n, ne, nf, d⟩ := I.pin p hp
      refine ⟨(hs.2 p.1 ?_).trans e, n, ne, nf, d⟩
      intro q
      rw [q, hoc] at e
      have q' : oc = p.2 := Option.some.inj e
      exact d w' (by rw [← q']; exact hocd)
theorem store_ok {M : Model} {A : Around} {E : Value → Shared → Prop} {i : Nat} {x : Str} {v : V} {u : Value} {Q : Unit → Shared → Prop} (I : Inv X pins σ H s) (hN : X.N.Nodup) (hi : X.N[i]? = some x) (hx : Loc X.env.scope x) (r : RelV v u)
    (h : ∀ s', Inv X pins (σ.set i (some v)) H s' → Q () s') (hf : X.fn x = true ∨ X.env.scope.names.lookup x = some .local := by first | exact .inl rfl | exact .inr rfl | assumption) : wpAny M A (storeName X.env x u) Q E s :=
  store_ok2 I hN hi hx r (fun s' I' _ => h s' I') hf
/-- behind a call or a block, the state as it is -/
theorem Inv.call' {s' : Shared} {ch : List Addr} (I : Inv X pins σ H s) (ho : s'.os = s.os) (u : Un (frs X.stack) ch H H' s.heap s'.heap) (hok : HOk X.prog X.w H' s'.heap) (hg : AllBare s'.gens)
    (hch : ∀ b ∈ ch, (b ∈ X.ex ∨ X.s₀.heap.objs.size ≤ b) ∧ b ≠ X.env.locals ∧ (∀ x c, X.env.cells.lookup x = some c → c ≠ b) ∧ ∀ p ∈ X.pn ++ pins, p.1 ≠ b) : Inv X pins σ H' s' := by
  obtain ⟨h', g', d', t', o'⟩ := s'
  have e : o' = s.os := ho
  subst e
  exact I.call (g' := g') (t' := t') (d' := d') u hok hg hch
end

/-! ### the judgements -/
/-- an exception: its class, its own dict's address (where it has one), the abstract heap behind it -/
abbrev XK := Value → Option Addr → Hp → Prop
abbrev St := List (Option V)
abbrev VK := V → Hp → Prop
/-- an expression's reading; a test's; an argument list's -/
abbrev TE := St → Hp → VK → Prop
abbrev TT := St → Hp → (Bool → Hp → Prop) → Prop
abbrev TA := St → Hp → (List V → Hp → Prop) → Prop
/-- what is wanted behind a statement -/
structure Ends where
  nx : St → Hp → Prop
  rt : VK
  bk : St → Hp → Prop := fun _ _ => False
  ct : St → Hp → Prop := fun _ _ => False
abbrev TS := Ends → St → Hp → Prop

def EP (X : Cx) (pins : List (Addr × Obj)) (σ : St) (Q : VK) (u : Value) (s' : Shared) : Prop := ∃ v H', Inv X pins σ H' s' ∧ RelV v u ∧ Q v H'
def TP (X : Cx) (pins : List (Addr × Obj)) (σ : St) (Q : Bool → Hp → Prop) (b : Bool) (s' : Shared) : Prop := ∃ H', Inv X pins σ H' s' ∧ Q b H'
def AP (X : Cx) (pins : List (Addr × Obj)) (σ : St) (Q : List V → Hp → Prop) (us : List Value) (s' : Shared) : Prop := ∃ vs H', Inv X pins σ H' s' ∧ Vals vs us ∧ Q vs H'
def SP (X : Cx) (pins : List (Addr × Obj)) (D : Ends) (f : Flow) (s' : Shared) : Prop :=
  match f with
  | .next => ∃ σ' H', Inv X pins σ' H' s' ∧ D.nx σ' H'
  | .brk => ∃ σ' H', Inv X pins σ' H' s' ∧ D.bk σ' H'
  | .cont => ∃ σ' H', Inv X pins σ' H' s' ∧ D.ct σ' H'
  | .ret u => ∃ v σ' H', Inv X pins σ' H' s' ∧ RelV v u ∧ D.rt v H'

def PE (X : Cx) (e : Expr) (t : TE) : Prop :=
  ∀ (pins : List (Addr × Obj)) (s : Shared) (σ : St) (H : Hp) (Q : VK), Inv X pins σ H s → t σ H Q → wpAny (model X.prog X.w) X.A (eval e X.env) (EP X pins σ Q) X.xe s
def PT (X : Cx) (e : Expr) (t : TT) : Prop :=
  ∀ (pins : List (Addr × Obj)) (s : Shared) (σ : St) (H : Hp) (Q : Bool → Hp → Prop), Inv X pins σ H s → t σ H Q → wpAny (model X.prog X.w) X.A (isTrue e X.env (eval e X.env)) (TP X pins σ Q) X.xe s
/-- a test whatever its 'whole' is (and, or) -/
def PW (X : Cx) (e : Expr) (t : TT) : Prop :=
  ∀ (whole : Sem Value) (pins : List (Addr × Obj)) (s : Shared) (σ : St) (H : Hp) (Q : Bool → Hp → Prop), Inv X pins σ H s → t σ H Q → wpAny (model X.prog X.w) X.A (isTrue e X.env whole) (TP X pins σ Q) X.xe s
theorem PW.pt {X : Cx} {e : Expr} {t : TT} (h : PW X e t) : PT X e t := h _
/-- an argument list (no star), from the left -/
def PA (X : Cx) (es : List Expr) (t : TA) : Prop :=
  ∀ (pos : Pos) (pins : List (Addr × Obj)) (s : Shared) (σ : St) (H : Hp) (Q : List V → Hp → Prop), Inv X pins σ H s → t σ H Q → wpAny (model X.prog X.w) X.A (spliced (backTo pos (starEach es X.env))) (AP X pins σ Q) X.xe s
def PS (X : Cx) (st : Stmt) (t : TS) : Prop :=
  ∀ (pins : List (Addr × Obj)) (s : Shared) (σ : St) (H : Hp) (D : Ends), Inv X pins σ H s → t D σ H → wpAny (model X.prog X.w) X.A (exec st X.env) (SP X pins D) X.xe s
def PSs (X : Cx) (st : List Stmt) (t : TS) : Prop :=
  ∀ (pins : List (Addr × Obj)) (s : Shared) (σ : St) (H : Hp) (D : Ends), Inv X pins σ H s → t D σ H → wpAny (model X.prog X.w) X.A (execs st X.env) (SP X pins D) X.xe s
/-- weaken the end -/
theorem thn {α : Type} {t : Sem α} {Q Q' : α → Shared → Prop} {M : Model} {A : Around} {E : Value → Shared → Prop} {s : Shared} (h : wpAny M A t Q E s) (hQ : ∀ a s, Q a s → Q' a s) : wpAny M A t Q' E s := wpAny_mono h hQ fun _ _ x => x
end L2

namespace L2
open PySem PySem.Spec PyProof.Rows
section
variable {X : Cx}

/-! ### names and constants -/
def tVar (i : Nat) : TE := fun σ H Q => ∃ v, σ[i]? = some (some v) ∧ Q v H
def tC (v : V) : TE := fun _ H Q => Q v H
theorem pe_var {i : Nat} {x : Str} {pos : Pos} (hN : X.N[i]? = some x) (hv : Vis X.env.scope x) (hd : (x == ("__debug__" : Str)) = false := by decide) (hcd : (x == ("__classdict__" : Str)) = false := by decide) : PE X (.Name x pos) (tVar i) := by
  intro pins s σ H Q I h
  obtain ⟨v, e, h⟩ := h
  obtain ⟨m, hn, hl⟩ := I.loc
  obtain ⟨u, r, l⟩ := hl i x v hN e hv
  have fin : EP X pins σ Q u s := ⟨v, H, I, r, h⟩
  rcases l with ⟨hk, hm⟩ | ⟨hk, c, hc, hcell⟩
  · exact wpAny_Name (wpAny_loadName_local I.ok.kind hk hn hm fin) hd
  · rcases hk with hk | hk
    · exact wpAny_Name (wpAny_loadName_cell I.ok.kind hk hc hcell fin) hd
    · exact wpAny_Name (wpAny_loadName_free I.ok.kind hk hc hcell fin hcd) hd
theorem pe_int {i j pos} : PE X (.Constant (.int i) j pos) (tC (.int i)) := fun _ _ _ H _ I h => wpAny_Constant_int ⟨.int i, H, I.tok _, ⟨_, rfl⟩, h⟩
theorem pe_bl {b j pos} : PE X (.Constant (.bool b) j pos) (tC (.bl b)) := fun _ _ _ H _ I h => Constant_bool ⟨.bl b, H, I, rfl, h⟩
theorem pe_str {x j pos} : PE X (.Constant (.str x) j pos) (tC (.str x)) := fun _ _ _ H _ I h => Calls.Constant_str ⟨.str x, H, I.tok _, ⟨_, rfl⟩, h⟩

/-- a global name of the def -/
def Gl (X : Cx) (x : Str) : Prop := X.env.kindOf x = some .globalImplicit
theorem ld_glob {E : Value → Shared → Prop} {pins : List (Addr × Obj)} {s : Shared} {σ : St} {H : Hp} {x : Str} {u : Value} {pos : Pos} {Q : Value → Shared → Prop} (I : Inv X pins σ H s) (hg : Gl X x) (hm : X.mg x = some u) (h : Q u s)
    (hd : (x == ("__debug__" : Str)) = false := by decide) : wpAny (model X.prog X.w) X.A (eval (.Name x pos) X.env) Q E s :=
  Calls.Name_function_global I.ok.kind hg (Calls.loadGlobal_global (by rw [I.ok.glob]; exact I.mod.glob.keeps I.bk) hm h) hd
theorem ld_blt {E : Value → Shared → Prop} {pins : List (Addr × Obj)} {s : Shared} {σ : St} {H : Hp} {x : Str} {u : Value} {pos : Pos} {Q : Value → Shared → Prop} (I : Inv X pins σ H s) (hg : Gl X x) (hm : X.mg x = none) (hv : bootBuiltins x = some u) (h : Q u s)
    (hn : x ≠ "__name__" := by decide) (hd : (x == ("__debug__" : Str)) = false := by decide) : wpAny (model X.prog X.w) X.A (eval (.Name x pos) X.env) Q E s := by
  obtain ⟨mb, h1, h2⟩ := I.mod.blt
  exact Calls.Name_function_global I.ok.kind hg (Calls.loadGlobal_builtin (by rw [I.ok.glob]; exact I.mod.glob.keeps I.bk) hm (by rw [I.ok.blt]; exact h1.keeps I.bk) ((h2 x hn).trans hv) h) hd
theorem pe_bltn {x : Str} {v : V} {u : Value} {pos : Pos} (hg : Gl X x) (hm : X.mg x = none) (hv : bootBuiltins x = some u) (r : RelV v u) (hn : x ≠ "__name__" := by decide) (hd : (x == ("__debug__" : Str)) = false := by decide) : PE X (.Name x pos) (tC v) :=
  fun _ _ _ H _ I h => ld_blt I hg hm hv ⟨v, H, I, r, h⟩ hn hd

/-! ### arithmetic -/
/-- two ints -/
def t2I (ta tb : TE) (k : Int → Int → Hp → Prop) : St → Hp → Prop := fun σ H => ta σ H fun x H1 => tb σ H1 fun y H2 => ∃ i j, x = .int i ∧ y = .int j ∧ k i j H2
def tAdd (ta tb : TE) : TE := fun σ H Q => t2I ta tb (fun i j H2 => Q (.int (i + j)) H2) σ H
def tSub (ta tb : TE) : TE := fun σ H Q => t2I ta tb (fun i j H2 => Q (.int (i - j)) H2) σ H
/-- the left factor below 2^64 -/
def tMul (ta tb : TE) : TE := fun σ H Q => t2I ta tb (fun i j H2 => (-(2 ^ 64) < i ∧ i < 2 ^ 64) ∧ Q (.int (i * j)) H2) σ H
variable {a b : Expr} {ta tb : TE} {pos : Pos}
/-! ### comparisons -/
def PC (X : Cx) (op : CmpOp) (a b : Expr) (t : TE) : Prop :=
  ∀ (pins : List (Addr × Obj)) (s : Shared) (σ : St) (H : Hp) (Q : VK), Inv X pins σ H s → t σ H Q →
    wpAny (model X.prog X.w) X.A (eval a X.env) (fun v s₁ => wpAny (model X.prog X.w) X.A (eval b X.env) (fun u s₂ => wpAny (model X.prog X.w) X.A (compareOp op v u) (EP X pins σ Q) X.xe s₂) X.xe s₁) X.xe s
def tCmp (p : Int → Int → Bool) (ta tb : TE) : TE := fun σ H Q => t2I ta tb (fun i j H2 => Q (.bl (p i j)) H2) σ H
abbrev tLt : TE → TE → TE := tCmp fun i j => decide (i < j)
abbrev tLe : TE → TE → TE := tCmp fun i j => decide (i ≤ j)
abbrev tGt : TE → TE → TE := tCmp fun i j => decide (j < i)
abbrev tGe : TE → TE → TE := tCmp fun i j => decide (j ≤ i)
abbrev tEqI : TE → TE → TE := tCmp fun i j => decide (i = j)
abbrev tNeI : TE → TE → TE := tCmp fun i j => !decide (i = j)
/-- is None -/
def tIsN (ta : TE) : TE := fun σ H Q => ta σ H fun x H1 => Q (.bl (decide (x = .non))) H1
def tNotN (ta : TE) : TE := fun σ H Q => ta σ H fun x H1 => Q (.bl (!decide (x = .non))) H1
/-- a comparison as a value, as a test -/
def tB (t : TE) : TT := fun σ H Q => t σ H fun x H1 => ∃ c, x = .bl c ∧ Q c H1
/-- an expression whose value is a bool, as a test -/
theorem pt_val {e : Expr} {t : TE} (h : PE X e t) (he : ∀ whole, isTrue e X.env whole = (do let v ← whole; standAt e.pos; holding [v] (truthy v)) := by intro _; rfl) : PT X e (tB t) := by
  intro pins s σ H Q I hw
  refine isTrue_plain (thn (h pins s σ H _ I hw) fun v s1 ⟨x, H1, I1, r1, q1⟩ => ?_) (he _)
  obtain ⟨d, rfl, q⟩ := q1
  cases r1
  exact wpAny_truthy_bool ⟨H1, I1, q⟩

/-! ### and, or, not -/
variable {tA tB' : TT} {rest : List Expr}
def tAnd (t u : TT) : TT := fun σ H Q => t σ H fun c H1 => if c = true then u σ H1 Q else Q false H1
def tOr (t u : TT) : TT := fun σ H Q => t σ H fun c H1 => if c = true then Q true H1 else u σ H1 Q
def tNot (t : TT) : TT := fun σ H Q => t σ H fun c H1 => Q (!c) H1
theorem pw_or1 (ha : PT X a tA) : PW X (.BoolOp .Or [a] pos) tA := by
  intro wh pins s σ H Q I h
  refine isTrue_or (thn (ha pins s σ H Q I h) fun c s1 e => ?_)
  cases c with
  | false => exact isTrue_or_nil e
  | true => exact e
theorem pw_or (ha : PT X a tA) (hb : PW X (.BoolOp .Or (b :: rest) pos) tB') : PW X (.BoolOp .Or (a :: b :: rest) pos) (tOr tA tB') := by
  intro wh pins s σ H Q I h
  refine isTrue_or (thn (ha pins s σ H _ I h) fun c s1 ⟨H1, I1, q1⟩ => ?_)
  cases c with
  | true => exact ⟨H1, I1, q1⟩
  | false => exact hb wh pins s1 σ H1 Q I1 q1
theorem pt_not (ha : PT X a tA) : PT X (.UnaryOp .Not a pos) (tNot tA) := by
  intro pins s σ H Q I h
  exact isTrue_not (ha pins s σ H (fun c H1 => Q (!c) H1) I h)
/-- .. as values (bools) -/
def tAndV (ta tb : TE) : TE := fun σ H Q => ta σ H fun x H1 => ∃ c, x = .bl c ∧ if c = true then tb σ H1 Q else Q (.bl false) H1
def tOrV (ta tb : TE) : TE := fun σ H Q => ta σ H fun x H1 => ∃ c, x = .bl c ∧ if c = true then Q (.bl true) H1 else tb σ H1 Q
def tNotV (ta : TE) : TE := fun σ H Q => ta σ H fun x H1 => ∃ c, x = .bl c ∧ Q (.bl (!c)) H1
theorem pe_one {op} {t : TE} (h : PE X a t) : PE X (.BoolOp op [a] pos) t := fun pins s σ H Q I hw => BoolOp_one (h pins s σ H Q I hw)
theorem pe_and (ha : PE X a ta) (hb : PE X (.BoolOp .And (b :: rest) pos) tb) : PE X (.BoolOp .And (a :: b :: rest) pos) (tAndV ta tb) := by
  intro pins s σ H Q I h
  refine BoolOp_and (thn (ha pins s σ H _ I h) fun v s1 ⟨x, H1, I1, r1, q1⟩ => ?_)
  obtain ⟨c, rfl, q1⟩ := q1
  cases r1
  refine wpAny_truthy_bool ?_
  cases c with
  | true => exact hb pins s1 σ H1 Q I1 q1
  | false => exact ⟨.bl false, H1, I1, rfl, q1⟩
/-- a if t else b -/
def tIf (t : TT) (ta tb : TE) : TE := fun σ H Q => t σ H fun c H1 => if c = true then ta σ H1 Q else tb σ H1 Q
end
end L2

namespace L2
open PySem PySem.Spec PyProof.Rows

/-! ### a list, a tuple that is read: tracked, frozen, or an object of the module -/
def SqL (K : PySem.W.Frag) (H : Hp) (a : Addr) (xs : List V) : Prop :=
  Rd H a (.lst xs) ∨
    ∃ (o : Obj) (its : Array Value) (n : Nat), K.lookup a = some o ∧ o.cls = .type "list" ∧ o.dict = none ∧ o.data = .seq its n ∧ its.size ≤ sizeLine ∧ Vals xs its.toList
def SqT (K : PySem.W.Frag) (H : Hp) (a : Addr) (xs : List V) : Prop :=
  Rd H a (.tup xs) ∨
    ∃ (o : Obj) (its : Array Value) (n : Nat), K.lookup a = some o ∧ o.cls = .type "tuple" ∧ o.data = .seq its n ∧ its.size ≤ sizeLine ∧ Vals xs its.toList
def absV : Value → Option V
  | .none => some .non
  | .bool b => some (.bl b)
  | .int i _ => some (.int i)
  | .str x _ => some (.str x)
  | .bytes b _ => some (.byt b)
  | .float b _ => some (.flt b)
  | .ref a => some (.ref a)
  | .type n => some (.ty n)
  | _ => none
theorem RelV.abs {x : V} {u : Value} (r : RelV x u) : absV u = some x := by
  cases x with
  | non => cases r; rfl
  | bl _ => cases r; rfl
  | int _ => obtain ⟨t, rfl⟩ := r; rfl
  | str _ => obtain ⟨t, rfl⟩ := r; rfl
  | byt _ => obtain ⟨t, rfl⟩ := r; rfl
  | flt _ => obtain ⟨t, rfl⟩ := r; rfl
  | ref _ => cases r; rfl
  | ty _ => cases r; rfl
theorem RelV.inj {x y : V} {u : Value} (r : RelV x u) (q : RelV y u) : x = y := Option.some.inj (r.abs.symm.trans q.abs)
theorem Vals.inj : ∀ {xs ys : List V} {us : List Value}, Vals xs us → Vals ys us → xs = ys
  | _, _, _, .nil, .nil => rfl
  | _, _, _, .cons r t, .cons r' t' => by rw [r.inj r', Vals.inj t t']
section
variable {X : Cx} {pins : List (Addr × Obj)} {σ : St} {H : Hp} {s : Shared} {a : Addr} {xs ys : List V}
theorem SqL.of {K : PySem.W.Frag} (h : H a = some (.lst xs)) : SqL K H a xs := .inl (.inl h)
theorem Inv.list (I : Inv X pins σ H s) (h : SqL X.K H a xs) : ∃ its : List Value, Vals xs its ∧ PlainL s.heap a its.toArray ∧ xs.length ≤ sizeLine := by
  rcases h with h | ⟨o, its, n, hk, hc, hd, hs, hz, r⟩
  · obtain ⟨z, its, n, r, e⟩ := h.ok I.hok
    exact ⟨its, r, ⟨_, n, e, rfl, rfl, rfl⟩, z⟩
  · refine ⟨its.toList, r, ⟨o, n, I.kIn a o hk, hc, hd, by simpa using hs⟩, ?_⟩
    have e := r.length
    simp only [Array.length_toList] at e
    omega
theorem Inv.tuple (I : Inv X pins σ H s) (h : SqT X.K H a xs) : ∃ its : List Value, Vals xs its ∧ IsTup s.heap a its.toArray ∧ xs.length ≤ sizeLine := by
  rcases h with h | ⟨o, its, n, hk, hc, hs, hz, r⟩
  · obtain ⟨z, its, r, p⟩ := h.ok I.hok
    exact ⟨its, r, p, z⟩
  · refine ⟨its.toList, r, ⟨o, I.kIn a o hk, hc, n, by simpa using hs⟩, ?_⟩
    have e := r.length
    simp only [Array.length_toList] at e
    omega
theorem Inv.list_inj (I : Inv X pins σ H s) (h : SqL X.K H a xs) (h' : SqL X.K H a ys) : xs = ys := by
  obtain ⟨its, r, ⟨o, n, e, _, _, d⟩, _⟩ := I.list h
  obtain ⟨its', r', ⟨o', n', e', _, _, d'⟩, _⟩ := I.list h'
  rw [e] at e'; cases e'
  rw [d] at d'
  injection d' with d1 _
  have : its = its' := by simpa using congrArg Array.toList d1
  subst this
  exact r.inj r'
end

/-! ### another wish about exceptions -/
abbrev Cx.wish (X : Cx) (E : Value → Shared → Prop) : Cx := { X with xe := E }
/-- no exception leaves -/
abbrev Cx.nox (X : Cx) : Cx := X.wish fun _ _ => False
theorem Cx.Ok.wish {X : Cx} (ok : X.Ok) (E : Value → Shared → Prop) : (X.wish E).Ok :=
  ⟨ok.mod, ok.kind, ok.glob, ok.blt, ok.above, ok.inj, ok.has, ok.cab, ok.hd, ok.frames, ok.stk, ok.exf, ok.bs, ok.bsz, ok.noex, ok.exfs, ok.funs, ok.frf⟩
theorem Cx.Ok.unwish {X : Cx} {E : Value → Shared → Prop} (ok : (X.wish E).Ok) : X.Ok :=
  ⟨ok.mod, ok.kind, ok.glob, ok.blt, ok.above, ok.inj, ok.has, ok.cab, ok.hd, ok.frames, ok.stk, ok.exf, ok.bs, ok.bsz, ok.noex, ok.exfs, ok.funs, ok.frf⟩
section
variable {X : Cx} {pins : List (Addr × Obj)} {σ : St} {H : Hp} {s : Shared} {E : Value → Shared → Prop}
theorem Inv.wish (I : Inv X pins σ H s) (E : Value → Shared → Prop) : Inv (X.wish E) pins σ H s := ⟨I.ok.wish E, I.os, I.bare, I.base, I.loc, I.cell, I.free, I.freeC, I.pin, I.hok, I.len⟩
theorem Inv.unwish (I : Inv (X.wish E) pins σ H s) : Inv X pins σ H s := ⟨I.ok.unwish, I.os, I.bare, I.base, I.loc, I.cell, I.free, I.freeC, I.pin, I.hok, I.len⟩
theorem SP.unwish {D : Ends} {f : Flow} {s' : Shared} (h : SP (X.wish E) pins D f s') : SP X pins D f s' := by
  cases f with
  | next => obtain ⟨σ', H', I, q⟩ := h; exact ⟨σ', H', I.unwish, q⟩
  | brk => obtain ⟨σ', H', I, q⟩ := h; exact ⟨σ', H', I.unwish, q⟩
  | cont => obtain ⟨σ', H', I, q⟩ := h; exact ⟨σ', H', I.unwish, q⟩
  | ret u => obtain ⟨v, σ', H', I, r, q⟩ := h; exact ⟨v, σ', H', I.unwish, r, q⟩
theorem PSs.nox {st : List Stmt} {t : TS} (h : PSs X.nox st t) : PSs X st t := fun pins s σ H D I hw =>
  wpAny_mono (h pins s σ H D (I.wish _) hw) (fun _ _ q => q.unwish) fun _ _ z => False.elim z
end

/-! ### blocks and small statements -/
section
variable {X : Cx} {st : Stmt} {rest : List Stmt} {t u : TS} {e : Expr} {te : TE} {pos : Pos}
def tNext : TS := fun D σ H => D.nx σ H
def tSeq (t u : TS) : TS := fun D σ H => t { D with nx := u D } σ H
theorem pss_nil : PSs X [] tNext := fun _ _ σ H _ I h => wpAny_execs_nil ⟨σ, H, I, h⟩
theorem pss_cons (h1 : PS X st t) (h2 : PSs X rest u) : PSs X (st :: rest) (tSeq t u) := by
  intro pins s σ H D I h
  refine wpAny_execs_cons (thn (h1 pins s σ H { D with nx := u D } I h) fun f s1 q => ?_)
  cases f with
  | next =>
    obtain ⟨σ', H', I', q⟩ := q
    exact h2 pins s1 σ' H' D I' q
  | ret v => exact q
  | brk => exact q
  | cont => exact q
theorem pss_one (h1 : PS X st t) : PSs X [st] t := by
  intro pins s σ H D I h
  refine wpAny_execs_cons (thn (h1 pins s σ H D I h) fun f s1 q => ?_)
  cases f with
  | next => exact wpAny_execs_nil q
  | ret v => exact q
  | brk => exact q
  | cont => exact q
def tBreak : TS := fun D σ H => D.bk σ H
def tCont : TS := fun D σ H => D.ct σ H
/-- an expression whose value is dropped -/
def tDrop (te : TE) : TS := fun D σ H => te σ H fun _ H1 => D.nx σ H1
def tRet (te : TE) : TS := fun D σ H => te σ H D.rt
theorem ps_ret (he : PE X e te) : PS X (.Return (some e) pos) (tRet te) := by
  intro pins s σ H D I h
  exact wpAny_Return_some (thn (he pins s σ H _ I h) fun v s1 ⟨x, H1, I1, r1, q1⟩ => ⟨x, σ, H1, I1, r1, q1⟩)
def tRetN : TS := fun D _ H => D.rt .non H
def tIfS (c : TT) (t u : TS) : TS := fun D σ H => c σ H fun b H1 => if b = true then t D σ H1 else u D σ H1
theorem ps_if {c : Expr} {a b : List Stmt} {tc : TT} (hc : PT X c tc) (ha : PSs X a t) (hb : PSs X b u) : PS X (.If c a b pos) (tIfS tc t u) := by
  intro pins s σ H D I h
  refine wpAny_If (thn (hc pins s σ H _ I h) fun d s1 ⟨H1, I1, q1⟩ => ?_)
  cases d with
  | true => exact ha pins s1 σ H1 D I1 q1
  | false => exact hb pins s1 σ H1 D I1 q1
/-- code that the proof never comes to -/
def tNever : TS := fun _ _ _ => False
end

/-! ### targets -/
abbrev TG := V → St → Hp → (St → Hp → Prop) → Prop
abbrev TGs := List V → St → Hp → (St → Hp → Prop) → Prop
def PG (X : Cx) (target : Expr) (t : TG) : Prop :=
  ∀ (pins : List (Addr × Obj)) (s : Shared) (σ : St) (H : Hp) (v : V) (u : Value) (Q : St → Hp → Prop), Inv X pins σ H s → RelV v u → t v σ H Q →
    wpAny (model X.prog X.w) X.A (assign target X.env u) (fun _ s' => ∃ σ' H', Inv X pins σ' H' s' ∧ Q σ' H') X.xe s
/-- several targets, one after another -/
def PGs (X : Cx) (ts : List Expr) (t : TGs) : Prop :=
  ∀ (pins : List (Addr × Obj)) (s : Shared) (σ : St) (H : Hp) (vs : List V) (us : List Value) (Q : St → Hp → Prop), Inv X pins σ H s → Vals vs us → t vs σ H Q →
    wpAny (model X.prog X.w) X.A (assignInOrder ((assignEach ts X.env).map (·.2)) us) (fun _ s' => ∃ σ' H', Inv X pins σ' H' s' ∧ Q σ' H') X.xe s
/-- o[i] = v, by values -/
abbrev TSet := V → V → V → Hp → (Hp → Prop) → Prop
def PSet (X : Cx) (t : TSet) : Prop :=
  ∀ (pins : List (Addr × Obj)) (s : Shared) (σ : St) (H : Hp) (o i v : V) (ov iv u : Value) (Q : Hp → Prop), Inv X pins σ H s → RelV o ov → RelV i iv → RelV v u → t o i v H Q →
    wpAny (model X.prog X.w) X.A (setItem ov iv u) (fun _ s' => ∃ H', Inv X pins σ H' s' ∧ Q H') X.xe s
/-- a op= b, by values -/
abbrev TIp := V → V → Hp → VK → Prop
def PIp (X : Cx) (op : Operator) (t : TIp) : Prop :=
  ∀ (pins : List (Addr × Obj)) (s : Shared) (σ : St) (H : Hp) (x y : V) (v u : Value) (Q : VK), Inv X pins σ H s → RelV x v → RelV y u → t x y H Q →
    wpAny (model X.prog X.w) X.A (inplaceOp op v u) (EP X pins σ Q) X.xe s
section
variable {X : Cx} {pos : Pos}
def gName (i : Nat) : TG := fun v σ H Q => Q (σ.set i (some v)) H
theorem pg_name {i : Nat} {x : Str} (hN : X.N.Nodup) (hi : X.N[i]? = some x) (hx : Loc X.env.scope x) (hf : X.fn x = true ∨ X.env.scope.names.lookup x = some .local := by first | exact .inl rfl | exact .inr rfl | assumption) : PG X (.Name x pos) (gName i) := by
  intro pins s σ H v u Q I r h
  exact wpAny_assign_Name (store_ok I hN hi hx r (fun s' I' => ⟨_, H, I', h⟩) hf)
def gNil : TGs := fun vs σ H Q => vs = [] ∧ Q σ H
def gCons (t : TG) (u : TGs) : TGs := fun vs σ H Q => ∃ v r, vs = v :: r ∧ t v σ H fun σ' H' => u r σ' H' Q
/-- (a, b, ..) = a tuple of that length -/
def gTup (K : PySem.W.Frag) (n : Nat) (t : TGs) : TG := fun v σ H Q => ∃ a xs, v = .ref a ∧ SqT K H a xs ∧ xs.length = n ∧ t xs σ H Q
/-- o[i] = .. -/
def gSub (to ti : TE) (t : TSet) : TG := fun v σ H Q => to σ H fun o H1 => ti σ H1 fun i H2 => t o i v H2 fun H3 => Q σ H3
/-- target = value -/
def tAsg (te : TE) (g : TG) : TS := fun D σ H => te σ H fun x H1 => g x σ H1 D.nx
/-- name = value -/
theorem ps_set {i : Nat} {x : Str} {e : Expr} {te : TE} {pos' : Pos} (hN : X.N.Nodup) (hi : X.N[i]? = some x) (hx : Loc X.env.scope x) (he : PE X e te) (hs : swapsWith e (some (.Name x pos')) pos.line X.env = pure false := by rfl) (hf : X.fn x = true ∨ X.env.scope.names.lookup x = some .local := by first | exact .inl rfl | exact .inr rfl | assumption) :
    PS X (.Assign [.Name x pos'] e pos) (tAsg te (gName i)) := by
  intro pins s σ H D I h
  refine wpAny_Assign_Name (thn (he pins s σ H _ I h) fun v s1 ⟨y, H1, I1, r1, q1⟩ => ?_) hs
  exact store_ok I1 hN hi hx r1 (fun s2 I2 => ⟨_, H1, I2, q1⟩) hf
/-- a, b = x, y with plain local names: stored from the right; the pair itself is not tracked (the opening rows as in PyProof/Rows/TupAssign.lean:23) -/
def tPar (i j : Nat) (ta : TA) : TS := fun D σ H => ta σ H fun vs H1 => ∃ v w, vs = [v, w] ∧ D.nx ((σ.set i (some v)).set j (some w)) H1
/-- name op= e -/
def tAug (i : Nat) (te : TE) (ti : TIp) : TS := fun D σ H => ∃ x, σ[i]? = some (some x) ∧ te σ H fun y H1 => ti x y H1 fun z H2 => D.nx (σ.set i (some z)) H2
/-- o[i] op= e -/
def tAugS (to ti te : TE) (tget : V → V → Hp → VK → Prop) (tip : TIp) (tset : TSet) : TS := fun D σ H => to σ H fun o H1 => ti σ H1 fun i H2 => tget o i H2 fun x H3 => te σ H3 fun y H4 => tip x y H4 fun z H5 => tset o i z H5 fun H6 => D.nx σ H6
/-- o[i], by values -/
def PGet (X : Cx) (t : V → V → Hp → VK → Prop) : Prop :=
  ∀ (pins : List (Addr × Obj)) (s : Shared) (σ : St) (H : Hp) (o i : V) (ov iv : Value) (Q : VK), Inv X pins σ H s → RelV o ov → RelV i iv → t o i H Q →
    wpAny (model X.prog X.w) X.A (getItem ov iv) (EP X pins σ Q) X.xe s
/-- ints -/
def ipI (f : Int → Int → Int) : TIp := fun x y H Q => ∃ i j, x = .int i ∧ y = .int j ∧ Q (.int (f i j)) H
end

/-! ### while -/
section
variable {X : Cx} {pos : Pos}
/-- the invariant W with its measure -/
def tWhile (c : TT) (tb : TS) : TS := fun D σ H => ∃ W : Nat → St → Hp → Prop, (∃ m, W m σ H) ∧ ∀ m σ H, W m σ H →
  c σ H fun b H1 => if b = true then ∃ N : St → Hp → Prop, (∀ σ' H', N σ' H' → ∃ m', m' < m ∧ W m' σ' H') ∧ tb { D with nx := N, ct := N, bk := D.nx } σ H1 else D.nx σ H1
end

/-! ### what a loop or a comprehension walks -/
/-- at turn i: it yields x (the heap may grow), or it stops -/
structure It where
  go : Nat → Hp → Prop
  yld : Nat → Hp → V → Hp → Prop
  stop : Nat → Hp → Prop
/-- the iterator's own objects may turn: they are not the frame's, not pinned, younger than the entry (or a comprehension's own) -/
def FpOk (X : Cx) (pins : List (Addr × Obj)) (H : Hp) (b : Addr) : Prop :=
  H b = none ∧ b ≠ X.env.locals ∧ b ∉ X.fs ∧ (b ∈ X.ex ∨ X.s₀.heap.objs.size ≤ b) ∧ (∀ x c, X.env.cells.lookup x = some c → c ≠ b) ∧ ∀ p ∈ X.pn ++ pins, p.1 ≠ b
theorem Inv.fpOk {X : Cx} {pins : List (Addr × Obj)} {σ : St} {H H' : Hp} {s : Shared} {b : Addr} (I : Inv X pins σ H s) (hb : s.heap.objs.size ≤ b) (hn : H' b = none) : FpOk X pins H' b := by
  refine ⟨hn, Nat.ne_of_gt (Nat.lt_of_lt_of_le I.lt hb), I.nofs hb, .inr (Nat.le_trans I.sz hb), fun x c e z => ?_, fun p hp z => ?_⟩
  · obtain ⟨v, q⟩ := I.cell x c e
    exact absurd (Nat.lt_of_lt_of_le q.lt (by rw [z]; exact hb)) (Nat.lt_irrefl _)
  · exact absurd (Nat.lt_of_lt_of_le (Heap.lt_size (I.pin p hp).1) (by rw [z]; exact hb)) (Nat.lt_irrefl _)
structure Turn (P : Program) (w : World) (K : PySem.W.Frag) (tg : Expr) (J : It) (fp : List Addr) (it : Addr) (tn : Nat → Heap → Prop) : Prop where
  mem : it ∈ fp
  obj : ∀ i h, tn i h → ∀ b ∈ fp, ∃ o, h.get? b = some o ∧ ∀ v, o.data ≠ .cell v
  keep : ∀ i h h', tn i h → (∀ b ∈ fp, ∀ o, h.get? b = some o → h'.get? b = some o) → tn i h'
  item : ∀ (X : Cx), X.prog = P → X.w = w → X.K = K → X.calm = true → ∀ (i : Nat) (pins : List (Addr × Obj)) (s : Shared) (σ : St) (H : Hp) (E : Value → Shared → Prop), Inv X pins σ H s → (∀ b ∈ fp, FpOk X pins H b) → tn i s.heap → J.go i H →
    wpAny (model P w) X.A (pyNext (.ref it)) (fun r s1 => ∃ u, r = some u ∧
      wpAny (model P w) X.A (letOwnedTupleGo tg (.ref it) u) (fun _ s2 => ∃ x H', Inv X pins σ H' s2 ∧ RelV x u ∧ J.yld i H x H' ∧ tn (i + 1) s2.heap ∧ ∀ b ∈ fp, H' b = none) E s1) E s
  done : ∀ (X : Cx), X.prog = P → X.w = w → X.K = K → X.calm = true → ∀ (i : Nat) (pins : List (Addr × Obj)) (s : Shared) (σ : St) (H : Hp) (E : Value → Shared → Prop), Inv X pins σ H s → (∀ b ∈ fp, FpOk X pins H b) → tn i s.heap → J.stop i H →
    wpAny (model P w) X.A (pyNext (.ref it)) (fun r s1 => r = none ∧ Inv X pins σ H s1) E s
  self : ∀ (A : Around) (i : Nat) (s : Shared) (Q : Value → Shared → Prop) (E : Value → Shared → Prop), tn i s.heap → Q (.ref it) s → wpAny (model P w) A (pyIter (.ref it)) Q E s
abbrev TI := St → Hp → (It → Hp → Prop) → Prop
/-- an iterator has come -/
def PIE (X : Cx) (pins : List (Addr × Obj)) (σ : St) (tg : Expr) (R : It → Hp → Prop) (itv : Value) (s2 : Shared) : Prop :=
  ∃ (it : Addr) (fp : List Addr) (tn : Nat → Heap → Prop) (J : It) (H' : Hp), itv = .ref it ∧ Inv X pins σ H' s2 ∧ Turn X.prog X.w X.K tg J fp it tn ∧ tn 0 s2.heap ∧ (∀ b ∈ fp, FpOk X pins H' b) ∧ R J H'
def PI (X : Cx) (tg iter : Expr) (wi : TI) : Prop :=
  ∀ (pins : List (Addr × Obj)) (s : Shared) (σ : St) (H : Hp) (R : It → Hp → Prop), Inv X pins σ H s → wi σ H R →
    wpAny (model X.prog X.w) X.A (eval iter X.env) (fun v s1 => wpAny (model X.prog X.w) X.A (pyIter v) (PIE X pins σ tg R) X.xe s1) X.xe s

/-- the step ahead of the store is nothing for an iterator that keeps no tuple -/
theorem go_of {M : Model} {A : Around} {E : Value → Shared → Prop} {s : Shared} {tg : Expr} {it : Addr} {u : Value} {o : Obj} {n : String} {vs : Array Value} {Q : Unit → Shared → Prop} (ho : s.heap.get? it = some o) (hc : o.cls = .type n) (hd : o.data = .fields vs)
    (hn : ["enumerate", "zip", "dict_itemiterator", "dict_reverseitemiterator", "odict_iterator", "itertools.zip_longest", "itertools.pairwise"].contains n = false) (hQ : Q () s) : wpAny M A (letOwnedTupleGo tg (.ref it) u) Q E s := by
  unfold letOwnedTupleGo
  cases tg <;> first
    | exact wpAny_pure hQ
    | (cases u <;> first
        | exact wpAny_pure hQ
        | (refine wpAny_bind (wpAny_load ho ?_)
           rw [hc, hd]
           show wpAny M A (if (["enumerate", "zip", "dict_itemiterator", "dict_reverseitemiterator", "odict_iterator", "itertools.zip_longest", "itertools.pairwise"].contains n && vs[0]? == some (rawInt _)) = true then _ else _) Q E s
           rw [if_neg (by intro h; rw [hn, Bool.false_and] at h; cases h)]
           exact wpAny_pure hQ))

/-- the list at a, as it stands at each turn (a loop may append to it) -/
def Itl (K : PySem.W.Frag) (a : Addr) : It :=
  ⟨fun i H => ∃ xs x, SqL K H a xs ∧ xs[i]? = some x, fun i H x H' => H' = H ∧ ∀ xs, SqL K H a xs → xs[i]? = some x, fun i H => ∃ xs, SqL K H a xs ∧ xs.length ≤ i⟩
def Itt (K : PySem.W.Frag) (a : Addr) : It :=
  ⟨fun i H => ∃ xs x, SqT K H a xs ∧ xs[i]? = some x, fun i H x H' => H' = H ∧ ∀ xs, SqT K H a xs → xs[i]? = some x, fun i H => ∃ xs, SqT K H a xs ∧ xs.length ≤ i⟩
/-- lo, lo + 1, .. (n of them) -/
def Itr (lo : Int) (n : Nat) : It := ⟨fun i _ => i < n, fun i H x H' => H' = H ∧ x = .int (lo + i), fun i _ => n ≤ i⟩
theorem turn_list {P : Program} {w : World} {K : PySem.W.Frag} {tg : Expr} (a it : Addr) : Turn P w K tg (Itl K a) [it] it (fun i h => h.IsListIter it a i) where
  mem := by simp
  obj := fun i h st b hb => by
    have e : b = it := by simpa using hb
    subst e
    obtain ⟨o, e, c, d⟩ := st
    exact ⟨o, e, fun v z => by rw [d] at z; cases z⟩
  keep := fun i h h' st k => st.at fun o e => k it (by simp) o e
  item := by
    intro X hP hw hK hc i pins s σ H E I hf st hg
    subst hP hw hK
    obtain ⟨xs, x, hq, hx⟩ := hg
    obtain ⟨its, rv, p, hz⟩ := I.list hq
    obtain ⟨u, hu, ru⟩ := rv.get hx
    obtain ⟨f0, f1, f2, f3, f4, f5⟩ := hf it (by simp)
    refine wpAny_pyNext_list_item st p.isList (x := u) (by simpa using hu) fun h' st' sb => ?_
    have I1 : Inv X pins σ H { s with heap := h' } := I.turned (t' := s.toks) (fun b o hb e => (sb.2 b hb).trans e) f0 f1 f3 f4 f5
    obtain ⟨o, e, c, d⟩ := id st'
    exact ⟨u, rfl, go_of (s := { s with heap := h' }) e c d (by decide) ⟨x, H, I1, ru, ⟨rfl, fun ys hy => by rw [I.list_inj hy hq]; exact hx⟩, st', fun b hb => (hf b hb).1⟩⟩
  done := by
    intro X hP hw hK hc i pins s σ H E I hf st hg
    subst hP hw hK
    obtain ⟨xs, hq, hx⟩ := hg
    obtain ⟨its, rv, p, hz⟩ := I.list hq
    obtain ⟨f0, f1, f2, f3, f4, f5⟩ := hf it (by simp)
    have hl := rv.length
    exact wpAny_pyNext_list_end (I.ok.hd hc) st p.isList (by simp; omega) fun h' eb => ⟨rfl, I.turned (t' := s.toks) (fun b o hb e => eb b o hb e) f0 f1 f3 f4 f5⟩
  self := fun _ _ _ _ _ st h => wpAny_pyIter_listiter st h
theorem turn_range {P : Program} {w : World} {K : PySem.W.Frag} {tg : Expr} (it : Addr) (lo : Int) (n : Nat) : Turn P w K tg (Itr lo n) [it] it (fun i h => IsRangeIter h it (lo + (i : Nat) * 1) ((n : Int) - (i : Nat)) 1) where
  mem := by simp
  obj := fun i h st b hb => by
    have e : b = it := by simpa using hb
    subst e
    exact ⟨_, st, fun v z => by
      have z' : Data.fields _ = Data.cell v := z
      cases z'⟩
  keep := fun i h h' st k => k it (by simp) _ st
  item := by
    intro X hP hw hK hc i pins s σ H E I hf st hg
    subst hP hw hK
    obtain ⟨f0, f1, f2, f3, f4, f5⟩ := hf it (by simp)
    have W := Walks.range (prog := X.prog) (w := X.w) (I.ok.hd hc) it lo 1 n
    refine W.item i s _ _ hg st fun v h' tk hv st' kk => ?_
    obtain ⟨t, rfl⟩ := hv
    have I1 : Inv X pins σ H { s with heap := h', toks := tk } := I.turned (fun b o hb e => kk b o (by simpa using hb) e) f0 f1 f3 f4 f5
    refine ⟨_, rfl, go_of (s := { s with heap := h', toks := tk }) (n := "range_iterator") st' rfl rfl (by decide) ⟨.int (lo + i), H, I1, ⟨t, ?_⟩, ⟨rfl, rfl⟩, st', fun b hb => (hf b hb).1⟩⟩
    rw [Int.mul_one]
  done := by
    intro X hP hw hK hc i pins s σ H E I hf st hg
    subst hP hw hK
    obtain ⟨f0, f1, f2, f3, f4, f5⟩ := hf it (by simp)
    exact wpAny_pyNext_range_end (I.ok.hd hc) st (by have : n ≤ i := hg; omega) fun h' eb => ⟨rfl, I.turned (t' := s.toks) (fun b o hb e => eb b o hb e) f0 f1 f3 f4 f5⟩
  self := fun _ _ _ _ _ st h => wpAny_pyIter_rangeiter st h
end L2

namespace L2
open PySem PySem.Spec PyProof.Rows
section
variable {X : Cx} {tg : Expr}
def iList (K : PySem.W.Frag) (tl : TE) : TI := fun σ H R => tl σ H fun x H1 => ∃ a, x = .ref a ∧ (∃ xs, SqL K H1 a xs) ∧ R (Itl K a) H1
def iTup (K : PySem.W.Frag) (tl : TE) : TI := fun σ H R => tl σ H fun x H1 => ∃ a, x = .ref a ∧ (∃ xs, SqT K H1 a xs) ∧ R (Itt K a) H1
theorem pi_list {l : Expr} {tl : TE} (hl : PE X l tl) : PI X tg l (iList X.K tl) := by
  intro pins s σ H R I h
  refine thn (hl pins s σ H _ I h) fun v s1 ⟨x, H1, I1, r1, q1⟩ => ?_
  obtain ⟨a, e, ⟨xs, hq⟩, q⟩ := q1
  subst e
  cases r1
  obtain ⟨its, rv, p, hz⟩ := I1.list hq
  refine wpAny_pyIter_list p.isList ?_
  refine ⟨s1.heap.objs.size, [s1.heap.objs.size], _, _, H1, rfl, I1.kept (t' := s1.toks) fun b o e => Heap.get?_push_of_some _ e, turn_list a _, ⟨_, Heap.get?_push_size _ rfl, rfl, rfl⟩, fun b hb => ?_, q⟩
  have e : b = s1.heap.objs.size := by simpa using hb
  subst e
  exact I1.fpOk (Nat.le_refl _) (I1.hok.fresh (Nat.le_refl _))
/-- a range object just made, walked -/
theorem range_it {pins : List (Addr × Obj)} {σ : St} {H : Hp} {s : Shared} {R : It → Hp → Prop} {E : Value → Shared → Prop} {lo hi : Int} {t u v : Tok} {tk : Nat} (I : Inv X pins σ H s) (h1 : -(2 ^ 62) ≤ lo) (h2 : lo < 2 ^ 62) (h3 : -(2 ^ 62) ≤ hi) (h4 : hi < 2 ^ 62)
    (q : R (Itr lo (hi - lo).toNat) H) : wpAny (model X.prog X.w) X.A (pyIter (.ref s.heap.objs.size)) (PIE X pins σ tg R) E { s with heap := s.heap.push { cls := .type "range", data := .fields #[.int lo t, .int hi u, .int 1 v] }, toks := tk } := by
  refine wpAny_pyIter_range (IsRange.new ..) (small_one h1 h2 h3 h4) ?_
  have I1 : Inv X pins σ H { s with heap := s.heap.push { cls := .type "range", data := .fields #[.int lo t, .int hi u, .int 1 v] }, toks := tk } := I.kept fun b o e => Heap.get?_push_of_some _ e
  refine ⟨(s.heap.push { cls := .type "range", data := .fields #[.int lo t, .int hi u, .int 1 v] }).objs.size, [(s.heap.push { cls := .type "range", data := .fields #[.int lo t, .int hi u, .int 1 v] }).objs.size], _, _, H, rfl,
    I1.kept (t' := tk) fun b o e => Heap.get?_push_of_some _ e, turn_range _ lo (hi - lo).toNat, ?_, fun b hb => ?_, q⟩
  · have e1 : lo + ((0 : Nat) : Int) * 1 = lo := by simp
    have e2 : (((hi - lo).toNat : Nat) : Int) - ((0 : Nat) : Int) = Builtin.Range.rangeSize lo hi 1 := by rw [rangeSize_one]; split <;> omega
    show IsRangeIter _ _ (lo + ((0 : Nat) : Int) * 1) ((((hi - lo).toNat : Nat) : Int) - ((0 : Nat) : Int)) 1
    rw [e1, e2]
    exact Heap.get?_push_size _ rfl
  · have e : b = (s.heap.push { cls := .type "range", data := .fields #[.int lo t, .int hi u, .int 1 v] }).objs.size := by simpa using hb
    subst e
    exact I1.fpOk (Nat.le_refl _) (I1.hok.fresh (Nat.le_refl _))
def iRng1 (ta : TA) : TI := fun σ H R => ta σ H fun vs H1 => ∃ j : Int, vs = [.int j] ∧ -(2 ^ 62) ≤ j ∧ j < 2 ^ 62 ∧ R (Itr 0 j.toNat) H1
def iRng2 (ta : TA) : TI := fun σ H R => ta σ H fun vs H1 => ∃ i j : Int, vs = [.int i, .int j] ∧ (-(2 ^ 62) ≤ i ∧ i < 2 ^ 62 ∧ -(2 ^ 62) ≤ j ∧ j < 2 ^ 62) ∧ R (Itr i (j - i).toNat) H1
theorem pi_range1 {a : Expr} {ta : TA} {p pos : Pos} (hg : Gl X "range") (hm : X.mg "range" = none) (ha : PA X [a] ta) (hs : starEach [a] X.env = [(false, eval a X.env)] := by rfl) : PI X tg (.Call (.Name "range" p) [a] [] pos) (iRng1 ta) := by
  intro pins s σ H R I h
  refine Call_ (ld_blt I hg hm boot_range (PyProof.Rows.callWith_type1 (thn (ha pos pins s σ H _ I h) fun us s1 ⟨vs, H1, I1, r1, q1⟩ => ?_) hs rfl))
  obtain ⟨j, e, q1, q2, q⟩ := q1
  subst e
  cases r1 with
  | cons r rr =>
    cases rr
    obtain ⟨t, rfl⟩ := r
    exact call_range_1 (range_it I1 (by omega) (by omega) q1 q2 (by simpa using q))
/-! ### for -/
/-- W: the invariant by the turn and a measure; N: what the body is to reach -/
def tFor (wi : TI) (g : TG) (tb : TS) : TS := fun D σ H => wi σ H fun J H1 => ∃ W : Nat → Nat → St → Hp → Prop, (∃ m, W 0 m σ H1) ∧ ∀ i m σ H, W i m σ H →
  (J.stop i H ∧ D.nx σ H) ∨ (J.go i H ∧ ∃ N : St → Hp → Prop, (∀ σ' H', N σ' H' → ∃ m', m' < m ∧ W (i + 1) m' σ' H') ∧ ∀ x H', J.yld i H x H' → g x σ H' fun σ2 H2 => tb { D with nx := N, ct := N, bk := D.nx } σ2 H2)
/-- the records at fp as they stand -/
def pinsAt (fp : List Addr) (h : Heap) : List (Addr × Obj) := fp.filterMap fun b => (h.get? b).map fun o => (b, o)
theorem mem_pinsAt {fp : List Addr} {h : Heap} {b : Addr} {o : Obj} (hb : b ∈ fp) (e : h.get? b = some o) : (b, o) ∈ pinsAt fp h := List.mem_filterMap.mpr ⟨b, hb, by rw [e]; rfl⟩
theorem of_pinsAt {fp : List Addr} {h : Heap} {p : Addr × Obj} (hp : p ∈ pinsAt fp h) : p.1 ∈ fp ∧ h.get? p.1 = some p.2 := by
  obtain ⟨b, hb, e⟩ := List.mem_filterMap.mp hp
  cases q : h.get? b with
  | none => rw [q] at e; cases e
  | some o =>
    rw [q] at e
    have e' : (b, o) = p := Option.some.inj e
    subst e'
    exact ⟨hb, q⟩
theorem Inv.pinned {pins : List (Addr × Obj)} {σ : St} {H : Hp} {s : Shared} {fp : List Addr} (I : Inv X pins σ H s) (hf : ∀ b ∈ fp, FpOk X pins H b) (ho : ∀ b ∈ fp, ∃ o, s.heap.get? b = some o ∧ ∀ v, o.data ≠ .cell v) : Inv X (pins ++ pinsAt fp s.heap) σ H s :=
  I.pins_of fun p hp => (List.mem_append.mp hp).elim (fun z => I.pin p (List.mem_append_right _ z)) fun z => by
    obtain ⟨hb, e⟩ := of_pinsAt z
    obtain ⟨f0, f1, f2, _⟩ := hf p.1 hb
    obtain ⟨o, e', d⟩ := ho p.1 hb
    rw [e] at e'; cases e'
    exact ⟨e, f0, f1, f2, d⟩
theorem Inv.unpinned {pins pl : List (Addr × Obj)} {σ : St} {H : Hp} {s : Shared} (I : Inv X (pins ++ pl) σ H s) : Inv X pins σ H s := I.pins_of fun p hp => I.pin p (List.mem_append_right _ (List.mem_append_left _ hp))
theorem ps_for {iter : Expr} {body : List Stmt} {wi : TI} {g : TG} {tb : TS} {pos : Pos} (hp : PassesOwn (model X.prog X.w) X.A X.env X.xe) (hc : X.calm = true) (hi : PI X tg iter wi) (hg : PG X tg g) (hb : PSs X body tb)
    (hs : ∀ x, foldedSetIterable iter X.env x = pure x := by intro _; rfl) : PS X (.For tg iter body [] pos) (tFor wi g tb) := by
  intro pins s σ H D I h
  refine wpAny_For (thn (hi pins s σ H _ I h) fun v s1 h1 => thn h1 fun itv s2 h2 => ?_) hs
  obtain ⟨it, fp, tn, J, H2, e, I2, T, st2, f2, W, ⟨m0, w0⟩, turn⟩ := h2
  subst e
  -- what stays true of the iterator's objects through the loop
  have stat : ∀ {H' : Hp}, (∀ b ∈ fp, H' b = none) → ∀ b ∈ fp, FpOk X pins H' b := fun hn b hb => ⟨hn b hb, (f2 b hb).2⟩
  refine codeAny_forLoop_any (fun n s' => ∃ i σ' H', Inv X pins σ' H' s' ∧ tn i s'.heap ∧ (∀ b ∈ fp, H' b = none) ∧ W i n σ' H') ?_ m0 ⟨0, σ, H2, I2, st2, fun b hb => (f2 b hb).1, w0⟩
  rintro n s3 ⟨i, σ3, H3, I3, st3, fr3, w3⟩
  rcases turn i n σ3 H3 w3 with ⟨stop, qn⟩ | ⟨go, N, hN, step⟩
  · refine wpAny_passesOwn hp (thn (T.done X rfl rfl rfl hc i pins s3 σ3 H3 X.xe I3 (stat fr3) st3 stop) fun r s4 ⟨hr, I4⟩ => ?_)
    subst hr
    exact wpAny_execs_nil ⟨σ3, H3, I4, qn⟩
  · refine wpAny_passesOwn hp (thn (T.item X rfl rfl rfl hc i pins s3 σ3 H3 X.xe I3 (stat fr3) st3 go) fun r s4 ⟨u, hr, h4⟩ => ?_)
    subst hr
    refine wpAny_passesOwn hp (thn h4 fun _ s5 ⟨x, H5, I5, r5, y5, st5, fr5⟩ => ?_)
    have I5' := I5.pinned (stat fr5) (T.obj _ _ st5)
    refine wpAny_passesOwn hp (thn (hg _ s5 σ3 H5 x u _ I5' r5 (step x H5 y5)) fun _ s6 ⟨σ6, H6, I6, q6⟩ => ?_)
    refine wpAny_passesOwn hp (thn (hb _ s6 σ6 H6 _ I6 q6) fun f s7 q7 => ?_)
    have again : ∀ {σ7 : St} {H7 : Hp}, Inv X (pins ++ pinsAt fp s5.heap) σ7 H7 s7 → N σ7 H7 → ∃ m, m < n ∧ ∃ i σ' H', Inv X pins σ' H' s7 ∧ tn i s7.heap ∧ (∀ b ∈ fp, H' b = none) ∧ W i m σ' H' := fun {σ7 H7} I7 n7 => by
      obtain ⟨m', hm, w7⟩ := hN σ7 H7 n7
      refine ⟨m', hm, i + 1, σ7, H7, I7.unpinned, T.keep _ _ _ st5 fun b hb o e => (I7.pin (b, o) (List.mem_append_right _ (List.mem_append_right _ (mem_pinsAt hb e)))).1, fun b hb => ?_, w7⟩
      obtain ⟨o, e, d⟩ := T.obj _ _ st5 b hb
      exact (I7.pin (b, o) (List.mem_append_right _ (List.mem_append_right _ (mem_pinsAt hb e)))).2.1
    cases f with
    | next => obtain ⟨σ7, H7, I7, n7⟩ := q7; exact again I7 n7
    | cont => obtain ⟨σ7, H7, I7, n7⟩ := q7; exact again I7 n7
    | brk => obtain ⟨σ7, H7, I7, q7⟩ := q7; exact ⟨σ7, H7, I7.unpinned, q7⟩
    | ret v => obtain ⟨x7, σ7, H7, I7, r7, q7⟩ := q7; exact ⟨x7, σ7, H7, I7.unpinned, r7, q7⟩
end

/-! ### the forms one uses -/
/-- over a list that the body leaves as it is -/
theorem for_list {K : PySem.W.Frag} {a : Addr} {xs : List V} {g : TG} {tb : TS} {D : Ends} {σ : St} {H : Hp} (Pv : Nat → St → Hp → Prop) (h0 : Pv 0 σ H) (hl : ∀ i σ H, i ≤ xs.length → Pv i σ H → SqL K H a xs)
    (hs : ∀ i x σ H, xs[i]? = some x → Pv i σ H → g x σ H fun σ2 H2 => tb { D with nx := Pv (i + 1), ct := Pv (i + 1), bk := D.nx } σ2 H2) (hd : ∀ σ H, Pv xs.length σ H → D.nx σ H) :
    ∃ W : Nat → Nat → St → Hp → Prop, (∃ m, W 0 m σ H) ∧ ∀ i m σ H, W i m σ H →
      ((Itl K a).stop i H ∧ D.nx σ H) ∨ ((Itl K a).go i H ∧ ∃ N : St → Hp → Prop, (∀ σ' H', N σ' H' → ∃ m', m' < m ∧ W (i + 1) m' σ' H') ∧ ∀ x H', (Itl K a).yld i H x H' → g x σ H' fun σ2 H2 => tb { D with nx := N, ct := N, bk := D.nx } σ2 H2) := by
  refine ⟨fun i m σ H => m = xs.length - i ∧ i ≤ xs.length ∧ Pv i σ H, ⟨xs.length, by simp, Nat.zero_le _, h0⟩, ?_⟩
  rintro i m σ H ⟨rfl, hi, p⟩
  have q := hl i σ H hi p
  by_cases hlt : i < xs.length
  · refine .inr ⟨⟨xs, xs[i], q, by simp [hlt]⟩, Pv (i + 1), fun σ' H' p' => ⟨xs.length - (i + 1), by omega, rfl, hlt, p'⟩, fun x H' y => ?_⟩
    obtain ⟨e, y⟩ := y
    subst e
    exact hs i x σ _ (y xs q) p
  · have e : i = xs.length := by omega
    subst e
    exact .inl ⟨⟨xs, q, Nat.le_refl _⟩, hd σ H p⟩
theorem for_range {lo : Int} {n : Nat} {g : TG} {tb : TS} {D : Ends} {σ : St} {H : Hp} (Pv : Nat → St → Hp → Prop) (h0 : Pv 0 σ H)
    (hs : ∀ i σ H, i < n → Pv i σ H → g (.int (lo + i)) σ H fun σ2 H2 => tb { D with nx := Pv (i + 1), ct := Pv (i + 1), bk := D.nx } σ2 H2) (hd : ∀ σ H, Pv n σ H → D.nx σ H) :
    ∃ W : Nat → Nat → St → Hp → Prop, (∃ m, W 0 m σ H) ∧ ∀ i m σ H, W i m σ H →
      ((Itr lo n).stop i H ∧ D.nx σ H) ∨ ((Itr lo n).go i H ∧ ∃ N : St → Hp → Prop, (∀ σ' H', N σ' H' → ∃ m', m' < m ∧ W (i + 1) m' σ' H') ∧ ∀ x H', (Itr lo n).yld i H x H' → g x σ H' fun σ2 H2 => tb { D with nx := N, ct := N, bk := D.nx } σ2 H2) := by
  refine ⟨fun i m σ H => m = n - i ∧ i ≤ n ∧ Pv i σ H, ⟨n, by simp, Nat.zero_le _, h0⟩, ?_⟩
  rintro i m σ H ⟨rfl, hi, p⟩
  by_cases hlt : i < n
  · refine .inr ⟨hlt, Pv (i + 1), fun σ' H' p' => ⟨n - (i + 1), by omega, rfl, hlt, p'⟩, fun x H' y => ?_⟩
    obtain ⟨e, y⟩ := y
    subst e y
    exact hs i σ _ hlt p
  · have e : i = n := by omega
    subst e
    exact .inl ⟨Nat.le_refl _, hd σ H p⟩
end L2

namespace L2
open PySem PySem.Spec PyProof.Rows

abbrev R2 := V → V → Hp → VK → Prop
/-- a two-place operation on values: f is binaryOp op, inplaceOp op or compareOp op -/
def OpR (X : Cx) (f : Value → Value → Sem Value) (r : R2) : Prop :=
  ∀ (pins : List (Addr × Obj)) (s : Shared) (σ : St) (H : Hp) (x y : V) (v u : Value) (Q : VK), Inv X pins σ H s → RelV x v → RelV y u → r x y H Q →
    wpAny (model X.prog X.w) X.A (f v u) (EP X pins σ Q) X.xe s
/-- a one-place operation -/
def UnR (X : Cx) (f : Value → Sem Value) (r : V → Hp → VK → Prop) : Prop :=
  ∀ (pins : List (Addr × Obj)) (s : Shared) (σ : St) (H : Hp) (x : V) (v : Value) (Q : VK), Inv X pins σ H s → RelV x v → r x H Q →
    wpAny (model X.prog X.w) X.A (f v) (EP X pins σ Q) X.xe s
/-- a call of a value that is known (a builtin, a type) with values -/
def CallR (X : Cx) (f : Value) (r : List V → Hp → VK → Prop) : Prop :=
  ∀ (pins : List (Addr × Obj)) (s : Shared) (σ : St) (H : Hp) (xs : List V) (us : List Value) (Q : VK), Inv X pins σ H s → Vals xs us → r xs H Q →
    wpAny (model X.prog X.w) X.A (call f us) (EP X pins σ Q) X.xe s
/-- a value's truth -/
def TruR (X : Cx) (r : V → Hp → (Bool → Hp → Prop) → Prop) : Prop :=
  ∀ (pins : List (Addr × Obj)) (s : Shared) (σ : St) (H : Hp) (x : V) (v : Value) (Q : Bool → Hp → Prop), Inv X pins σ H s → RelV x v → r x H Q →
    wpAny (model X.prog X.w) X.A (truthy v) (TP X pins σ Q) X.xe s

def tOp (r : R2) (ta tb : TE) : TE := fun σ H Q => ta σ H fun x H1 => tb σ H1 fun y H2 => r x y H2 Q
def tUn (r : V → Hp → VK → Prop) (ta : TE) : TE := fun σ H Q => ta σ H fun x H1 => r x H1 Q
/-- ints in, under C, and a value out -/
def rI (C : Int → Int → Prop) (g : Int → Int → V) : R2 := fun x y H Q => ∃ i j, x = .int i ∧ y = .int j ∧ C i j ∧ Q (g i j) H
def rI0 (g : Int → Int → V) : R2 := fun x y H Q => ∃ i j, x = .int i ∧ y = .int j ∧ Q (g i j) H
def rU (g : Int → V) : V → Hp → VK → Prop := fun x H Q => ∃ i, x = .int i ∧ Q (g i) H

section
variable {X : Cx} {a b c : Expr} {ta tb tc : TE} {pos : Pos}

theorem binT (ha : PE X a ta) (hb : PE X b tb) {pins : List (Addr × Obj)} {s : Shared} {σ : St} {H : Hp} {R : V → V → Hp → Prop} (I : Inv X pins σ H s)
    (h : ta σ H fun x H1 => tb σ H1 fun y H2 => R x y H2) {Q : Value → Shared → Prop} {f : Value → Value → Sem Value}
    (hf : ∀ v u s2 x y H2, Inv X pins σ H2 s2 → RelV x v → RelV y u → R x y H2 → wpAny (model X.prog X.w) X.A (f v u) Q X.xe s2) :
    wpAny (model X.prog X.w) X.A (eval a X.env) (fun v s₁ => wpAny (model X.prog X.w) X.A (eval b X.env) (fun u s₂ => wpAny (model X.prog X.w) X.A (f v u) Q X.xe s₂) X.xe s₁) X.xe s := by
  refine thn (ha pins s σ H _ I h) fun v s1 ⟨x, H1, I1, r1, q1⟩ => ?_
  refine thn (hb pins s1 σ H1 _ I1 q1) fun u s2 ⟨y, H2, I2, r2, q2⟩ => ?_
  exact hf v u s2 x y H2 I2 r1 r2 q2

theorem pe_op {op : Operator} {r : R2} (ho : OpR X (binaryOp op) r) (ha : PE X a ta) (hb : PE X b tb) : PE X (.BinOp a op b pos) (tOp r ta tb) := by
  intro pins s σ H Q I h
  exact wpAny_BinOp (binT ha hb I h fun v u s2 x y H2 I2 rx ry q => ho pins s2 σ H2 x y v u Q I2 rx ry q)
theorem pe_un {op : UnaryOp} {r : V → Hp → VK → Prop} (ho : UnR X (unaryOp op) r) (ha : PE X a ta) : PE X (.UnaryOp op a pos) (tUn r ta) := by
  intro pins s σ H Q I h
  exact UnaryOp_ (thn (ha pins s σ H _ I h) fun v s1 ⟨x, H1, I1, r1, q1⟩ => ho pins s1 σ H1 x v Q I1 r1 q1)
/-! ### ints -/
theorem opI {f : Value → Value → Sem Value} {C : Int → Int → Prop} {g : Int → Int → Int}
    (rule : ∀ (i j : Int) (t u : Tok) (s : Shared) (Q : Value → Shared → Prop) (E : Value → Shared → Prop), C i j → Q (.int (g i j) s.toks) { s with toks := s.toks + 1 } → wpAny (model X.prog X.w) X.A (f (.int i t) (.int j u)) Q E s) :
    OpR X f (rI C fun i j => .int (g i j)) := by
  intro pins s σ H x y v u Q I rx ry h
  obtain ⟨i, j, rfl, rfl, hc, q⟩ := h
  obtain ⟨t, rfl⟩ := rx
  obtain ⟨t', rfl⟩ := ry
  exact rule i j t t' s _ _ hc ⟨.int (g i j), H, I.tok _, ⟨_, rfl⟩, q⟩
theorem opI0 {f : Value → Value → Sem Value} {g : Int → Int → Int}
    (rule : ∀ (i j : Int) (t u : Tok) (s : Shared) (Q : Value → Shared → Prop) (E : Value → Shared → Prop), Q (.int (g i j) s.toks) { s with toks := s.toks + 1 } → wpAny (model X.prog X.w) X.A (f (.int i t) (.int j u)) Q E s) :
    OpR X f (rI0 fun i j => .int (g i j)) := by
  intro pins s σ H x y v u Q I rx ry h
  obtain ⟨i, j, rfl, rfl, q⟩ := h
  obtain ⟨t, rfl⟩ := rx
  obtain ⟨t', rfl⟩ := ry
  exact rule i j t t' s _ _ ⟨.int (g i j), H, I.tok _, ⟨_, rfl⟩, q⟩
theorem opB0 {f : Value → Value → Sem Value} {g : Int → Int → Bool}
    (rule : ∀ (i j : Int) (t u : Tok) (s : Shared) (Q : Value → Shared → Prop) (E : Value → Shared → Prop), Q (.bool (g i j)) s → wpAny (model X.prog X.w) X.A (f (.int i t) (.int j u)) Q E s) :
    OpR X f (rI0 fun i j => .bl (g i j)) := by
  intro pins s σ H x y v u Q I rx ry h
  obtain ⟨i, j, rfl, rfl, q⟩ := h
  obtain ⟨t, rfl⟩ := rx
  obtain ⟨t', rfl⟩ := ry
  exact rule i j t t' s _ _ ⟨.bl (g i j), H, I, rfl, q⟩

def CDiv (i j : Int) : Prop := 0 < j ∧ j < 1073741824
def CDivN (i j : Int) : Prop := j ≠ 0 ∧ j.natAbs < 1073741824
def CPow (i j : Int) : Prop := 0 ≤ j ∧ j ≤ 1000000 ∧ i.natAbs < 2 ^ 64
def CMul (i j : Int) : Prop := (-(2 ^ 64) < i ∧ i < 2 ^ 64) ∨ (-(2 ^ 64) < j ∧ j < 2 ^ 64)
theorem CMul.ok {i j : Int} (h : CMul i j) : IntMulOk i j := by
  rcases h with ⟨h1, h2⟩ | ⟨h1, h2⟩
  · exact .of_left (intBits_le_64 h1 h2)
  · exact .of_right (intBits_le_64 h1 h2)
theorem op_add : OpR X (binaryOp .Add) (rI0 fun i j => .int (i + j)) := opI0 fun _ _ _ _ _ _ _ q => add_int q
theorem op_sub : OpR X (binaryOp .Sub) (rI0 fun i j => .int (i - j)) := opI0 fun _ _ _ _ _ _ _ q => sub_int q
theorem op_mul : OpR X (binaryOp .Mult) (rI CMul fun i j => .int (i * j)) := opI fun _ _ _ _ _ _ _ hc q => mul_int q hc.ok
/-- // by a positive divisor -/
theorem op_fdiv : OpR X (binaryOp .FloorDiv) (rI CDiv fun i j => .int (i / j)) := opI fun i j _ _ _ _ _ hc q => by
  have h1 : (0 : Int) < j := hc.1
  have h2 : j < 1073741824 := hc.2
  exact floordiv_int (by omega) (by rw [Int.fdiv_eq_ediv_of_nonneg i (by omega)]; exact q) (.inl (PyProof.noPylong_small (by omega)))
/-- % by a positive divisor of any size -/
theorem op_mod : OpR X (binaryOp .Mod) (rI (fun _ j => 0 < j) fun i j => .int (i % j)) := opI fun i j _ _ _ _ _ hc q => by
  have h1 : (0 : Int) < j := hc
  exact mod_int' (by omega) (by rw [Int.fmod_eq_emod_of_nonneg i (by omega)]; exact q)
theorem op_pow : OpR X (binaryOp .Pow) (rI CPow fun i j => .int (i ^ j.toNat)) := opI fun _ _ _ _ _ _ _ hc q => pow_int_small hc.1 hc.2.1 hc.2.2 q
theorem unI {f : Value → Sem Value} {g : Int → Int}
    (rule : ∀ (i : Int) (t : Tok) (s : Shared) (Q : Value → Shared → Prop) (E : Value → Shared → Prop), Q (.int (g i) s.toks) { s with toks := s.toks + 1 } → wpAny (model X.prog X.w) X.A (f (.int i t)) Q E s) :
    UnR X f (rU fun i => .int (g i)) := by
  intro pins s σ H x v Q I rx h
  obtain ⟨i, rfl, q⟩ := h
  obtain ⟨t, rfl⟩ := rx
  exact rule i t s _ _ ⟨.int (g i), H, I.tok _, ⟨_, rfl⟩, q⟩
theorem un_neg : UnR X (unaryOp .USub) (rU fun i => .int (-i)) := unI fun _ _ _ _ _ q => neg_int q
end

/-! ### comparisons -/
/-- the scalars that == tells apart as data does -/
def scal : V → V → Bool
  | .non, .non => true | .non, .int _ => true | .int _, .non => true | .non, .bl _ => true | .bl _, .non => true | .non, .str _ => true | .str _, .non => true
  | .int _, .int _ => true | .bl _, .bl _ => true | .str _, .str _ => true | .byt _, .byt _ => true
  | .int _, .str _ => true | .str _, .int _ => true | .bl _, .str _ => true | .str _, .bl _ => true
  | _, _ => false
def rEq : R2 := fun x y H Q => scal x y = true ∧ Q (.bl (decide (x = y))) H
def rNe : R2 := fun x y H Q => scal x y = true ∧ Q (.bl (!decide (x = y))) H

theorem dec_int {i j : Int} : decide (V.int i = V.int j) = (i == j) := by
  rw [Bool.eq_iff_iff]
  simp
theorem dec_bl {i j : Bool} : decide (V.bl i = V.bl j) = (i == j) := by
  rw [Bool.eq_iff_iff]
  simp
theorem dec_str {i j : Str} : decide (V.str i = V.str j) = (i == j) := by
  rw [Bool.eq_iff_iff]
  simp
theorem dec_byt {i j : Array UInt8} : decide (V.byt i = V.byt j) = (i.toList == j.toList) := by
  rw [Bool.eq_iff_iff]
  cases i
  cases j
  simp

section
variable {X : Cx} {a b c : Expr} {ta tb tc : TE} {pos : Pos}
theorem fin_bl {pins : List (Addr × Obj)} {σ : St} {H : Hp} {s : Shared} {Q : VK} {k k' : Bool} (I : Inv X pins σ H s) (q : Q (.bl k) H) (e : k = k') : EP X pins σ Q (.bool k') s := by
  subst e
  exact ⟨.bl k, H, I, rfl, q⟩
theorem op_eq : OpR X (compareOp .Eq) rEq := by
  intro pins s σ H x y v u Q I rx ry h
  obtain ⟨hs, q⟩ := h
  cases x with
  | non =>
    cases rx
    cases y with
    | non => cases ry; exact PySem.EqNone.eq_none_none (fin_bl I q (by simp))
    | bl j => cases ry; exact PySem.EqNone.eq_none_bool (fin_bl I q (by simp))
    | int j => obtain ⟨t', rfl⟩ := ry; exact PySem.EqNone.eq_none_int (fin_bl I q (by simp))
    | str j => obtain ⟨t', rfl⟩ := ry; exact PySem.EqNone.eq_none_str (fin_bl I q (by simp))
    | _ => exact absurd (show false = true from hs) Bool.false_ne_true
  | bl i =>
    cases rx
    cases y with
    | non => cases ry; exact PySem.EqNone.eq_bool_none (fin_bl I q (by simp))
    | bl j => cases ry; exact eq_bool (fin_bl I q dec_bl)
    | str j => obtain ⟨t', rfl⟩ := ry; exact PySem.EqMixed.eq_bool_str (fin_bl I q (by simp))
    | _ => exact absurd (show false = true from hs) Bool.false_ne_true
  | int i =>
    obtain ⟨t, rfl⟩ := rx
    cases y with
    | non => cases ry; exact PySem.EqNone.eq_int_none (fin_bl I q (by simp))
    | int j => obtain ⟨t', rfl⟩ := ry; exact eq_int (fin_bl I q dec_int)
    | str j => obtain ⟨t', rfl⟩ := ry; exact PySem.EqMixed.eq_int_str (fin_bl I q (by simp))
    | _ => exact absurd (show false = true from hs) Bool.false_ne_true
  | str i =>
    obtain ⟨t, rfl⟩ := rx
    cases y with
    | non => cases ry; exact PySem.EqNone.eq_str_none (fin_bl I q (by simp))
    | bl j => cases ry; exact PySem.EqMixed.eq_str_bool (fin_bl I q (by simp))
    | int j => obtain ⟨t', rfl⟩ := ry; exact PySem.EqMixed.eq_str_int (fin_bl I q (by simp))
    | str j => obtain ⟨t', rfl⟩ := ry; exact eq_str (fin_bl I q dec_str)
    | _ => exact absurd (show false = true from hs) Bool.false_ne_true
  | byt i =>
    obtain ⟨t, rfl⟩ := rx
    cases y with
    | byt j => obtain ⟨t', rfl⟩ := ry; exact PySem.W.eq_bytes (fin_bl I q dec_byt)
    | _ => exact absurd (show false = true from hs) Bool.false_ne_true
  | _ => cases y <;> exact absurd (show false = true from hs) Bool.false_ne_true
theorem op_ne : OpR X (compareOp .NotEq) rNe := by
  intro pins s σ H x y v u Q I rx ry h
  obtain ⟨hs, q⟩ := h
  cases x with
  | non =>
    cases rx
    cases y with
    | non => cases ry; exact PySem.EqNone.ne_none_none (fin_bl I q (by simp))
    | bl j => cases ry; exact PySem.EqNone.ne_none_bool (fin_bl I q (by simp))
    | int j => obtain ⟨t', rfl⟩ := ry; exact PySem.EqNone.ne_none_int (fin_bl I q (by simp))
    | str j => obtain ⟨t', rfl⟩ := ry; exact PySem.EqNone.ne_none_str (fin_bl I q (by simp))
    | _ => exact absurd (show false = true from hs) Bool.false_ne_true
  | bl i =>
    cases rx
    cases y with
    | non => cases ry; exact PySem.EqNone.ne_bool_none (fin_bl I q (by simp))
    | bl j => cases ry; exact ne_bool (fin_bl I q (congrArg not dec_bl))
    | str j => obtain ⟨t', rfl⟩ := ry; exact PySem.EqMixed.ne_bool_str (fin_bl I q (by simp))
    | _ => exact absurd (show false = true from hs) Bool.false_ne_true
  | int i =>
    obtain ⟨t, rfl⟩ := rx
    cases y with
    | non => cases ry; exact PySem.EqNone.ne_int_none (fin_bl I q (by simp))
    | int j => obtain ⟨t', rfl⟩ := ry; exact ne_int (fin_bl I q (congrArg not dec_int))
    | str j => obtain ⟨t', rfl⟩ := ry; exact PySem.EqMixed.ne_int_str (fin_bl I q (by simp))
    | _ => exact absurd (show false = true from hs) Bool.false_ne_true
  | str i =>
    obtain ⟨t, rfl⟩ := rx
    cases y with
    | non => cases ry; exact PySem.EqNone.ne_str_none (fin_bl I q (by simp))
    | bl j => cases ry; exact PySem.EqMixed.ne_str_bool (fin_bl I q (by simp))
    | int j => obtain ⟨t', rfl⟩ := ry; exact PySem.EqMixed.ne_str_int (fin_bl I q (by simp))
    | str j => obtain ⟨t', rfl⟩ := ry; exact ne_str (fin_bl I q (congrArg not dec_str))
    | _ => exact absurd (show false = true from hs) Bool.false_ne_true
  | byt i =>
    obtain ⟨t, rfl⟩ := rx
    cases y with
    | byt j => obtain ⟨t', rfl⟩ := ry; exact PySem.W.ne_bytes (fin_bl I q (congrArg not dec_byt))
    | _ => exact absurd (show false = true from hs) Bool.false_ne_true
  | _ => cases y <;> exact absurd (show false = true from hs) Bool.false_ne_true

theorem op_lt : OpR X (compareOp .Lt) (rI0 fun i j => .bl (decide (i < j))) := opB0 fun _ _ _ _ _ _ _ q => lt_int q
/-- is, is not of two objects that are tracked lists or instances -/
def isObj : HO → Bool
  | .lst _ => true
  | .ins _ _ _ => true
  | _ => false
theorem nomark (b : Expr) {op : CmpOp} (h : op ≠ .In := by decide) (h2 : op ≠ .NotIn := by decide) : behindInMarks op b = false := by
  have e1 : (op == CmpOp.In) = false := by cases op <;> first | rfl | exact absurd rfl h
  have e2 : (op == CmpOp.NotIn) = false := by cases op <;> first | rfl | exact absurd rfl h2
  cases b <;> simp [behindInMarks, e1, e2]
/-- a comparison as a value; hm: nomark b, or (for in, not in) by with_unfolding_all rfl -/
theorem pe_cmpR {op : CmpOp} {r : R2} (ho : OpR X (compareOp op) r) (ha : PE X a ta) (hb : PE X b tb) (hm : behindInMarks op b = false) : PE X (.Compare a [op] [b] pos) (tOp r ta tb) := by
  intro pins s σ H Q I h
  exact wpAny_Compare1 (binT ha hb I h fun v u s2 x y H2 I2 rx ry q => ho pins s2 σ H2 x y v u Q I2 rx ry q) hm
/-- a reading of a value as a test -/
def tTest (t : TE) : TT := fun σ H Q => t σ H fun x H' => ∃ k, x = .bl k ∧ Q k H'
theorem pt_cmpR {op : CmpOp} {r : R2} (ho : OpR X (compareOp op) r) (ha : PE X a ta) (hb : PE X b tb) (hm : behindInMarks op b = false) : PT X (.Compare a [op] [b] pos) (tTest (tOp r ta tb)) := by
  intro pins s σ H Q I h
  refine wpAny_isTrue_Compare1 (thn (ha pins s σ H _ I h) fun v s1 ⟨x, H1, I1, r1, q1⟩ => thn (hb pins s1 σ H1 _ I1 q1) fun u s2 ⟨y, H2, I2, r2, q2⟩ =>
    thn (ho pins s2 σ H2 x y v u _ I2 r1 r2 q2) fun c s3 ⟨z, H3, I3, r3, k, e, q3⟩ => ?_) hm
  subst e
  cases r3
  exact wpAny_truthy_bool ⟨H3, I3, q3⟩
/-- a op1 b op2 c -/
def tChain (r r' : R2) (ta tb tc : TE) : TE := fun σ H Q => ta σ H fun x H1 => tb σ H1 fun y H2 => r x y H2 fun z H3 => ∃ k, z = .bl k ∧
  (if k = true then tc σ H3 fun w' H4 => r' y w' H4 Q else Q (.bl false) H3)
/-! ### truth -/
/-- a value's truth by the abstract heap -/
def TruV (K : PySem.W.Frag) (x : V) (H : Hp) (k : Bool) : Prop :=
  match x with
  | .non => k = false
  | .bl b => k = b
  | .int i => k = (i != 0)
  | .str y => y.length ≤ sizeLine ∧ k = ((y.length : Int) != 0)
  | .byt y => y.size ≤ sizeLine ∧ k = ((y.size : Int) != 0)
  | .ref p => (∃ xs, SqL K H p xs ∧ k = !xs.isEmpty) ∨ (∃ xs, SqT K H p xs ∧ k = !xs.isEmpty) ∨ ∃ kvs, H p = some (.dK kvs) ∧ k = !kvs.isEmpty
  | _ => False
theorem line63 : (sizeLine : Nat) < 2 ^ 63 := by rw [sizeLine_eq]; decide
theorem op_add_str : OpR X (binaryOp .Add) (fun x y H Q => ∃ i j, x = .str i ∧ y = .str j ∧ i.length + j.length ≤ sizeLine ∧ Q (.str (i ++ j)) H) := by
  intro pins s σ H x y v u Q I rx ry h
  obtain ⟨i, j, rfl, rfl, hz, q⟩ := h
  obtain ⟨t, rfl⟩ := rx
  obtain ⟨t', rfl⟩ := ry
  exact add_str (fun t' tk => ⟨.str (i ++ j), H, I.tok _, ⟨_, rfl⟩, q⟩) hz
def PlainIxT (b : Expr) : Prop := ∀ o i, subscripted b false o i = operate [o, i] (getItem o i)
/-! ### scalar builtins, by CallR -/
theorem vals1 {x : V} {us : List Value} (r : Vals [x] us) : ∃ u, us = [u] ∧ RelV x u := by
  cases r with
  | cons r1 r2 => cases r2; exact ⟨_, rfl, r1⟩
theorem vals2 {x y : V} {us : List Value} (r : Vals [x, y] us) : ∃ u w', us = [u, w'] ∧ RelV x u ∧ RelV y w' := by
  cases r with
  | cons r1 r2 =>
    cases r2 with
    | cons r3 r4 => cases r4; exact ⟨_, _, rfl, r1, r3⟩
/-- len of a str, a bytes, a list, a tuple -/
def LenV (K : PySem.W.Frag) (x : V) (H : Hp) (n : Nat) : Prop :=
  match x with
  | .str y => y.length ≤ sizeLine ∧ n = y.length
  | .byt y => y.size ≤ sizeLine ∧ n = y.size
  | .ref p => (∃ xs, SqL K H p xs ∧ n = xs.length) ∨ ∃ xs, SqT K H p xs ∧ n = xs.length
  | _ => False
end
end L2

namespace L2
open PySem PySem.Spec PyProof.Rows

/-! ### an instance, its attributes a map -/
structure ObjM (h : Heap) (x dx C : Addr) (mA : Str → Option Value) : Prop where
  obj : h.get? x = some (PySem.W.instObj C dx)
  ns : h.Ns1 dx mA
  ne : dx ≠ x

theorem lookIn_ns {h : Heap} {dx : Addr} {mA : Str → Option Value} (n : h.Ns1 dx mA) : ∃ od, h.get? dx = some od ∧ ∀ name, PySem.W.lookIn name od = some (mA name) := by
  obtain ⟨o, es, ep, ho, hd, hk, _, hm⟩ := n
  refine ⟨o, ho, fun name => ?_⟩
  have e := hm name
  unfold nsFind findBy at e
  rw [← Array.find?_toList] at e
  unfold PySem.W.lookIn
  rw [hd]
  dsimp only
  split
  · rename_i y q
    rw [q] at e
    exact congrArg some e
  · rename_i q
    rw [q] at e
    have a : es.toList.any (·.refKey) = false := by
      rw [List.any_eq_false]
      intro y hy
      obtain ⟨z, t, hkey⟩ := hk y (Array.mem_toList_iff.mp hy)
      simp [DictEntry.refKey, hkey]
    have a' : ¬ es.toList.any (·.refKey) = true := by rw [a]; exact Bool.false_ne_true
    rw [if_neg a']
    exact congrArg some e

theorem ObjM.look {h : Heap} {x dx C : Addr} {mA : Str → Option Value} (I : ObjM h x dx C mA) : ∃ od, PySem.W.InstAt h x (PySem.W.instObj C dx) C (some od) ∧ ∀ name, PySem.W.lookIn name od = some (mA name) :=
  let ⟨od, ho, hl⟩ := lookIn_ns I.ns
  ⟨od, ⟨I.obj, rfl, rfl, ho⟩, hl⟩

section
variable {prog : Program} {w : World} {A : Around} {E : Value → Shared → Prop} {s : Shared} {K : PySem.W.Frag} {x dx C f : Addr} {mA : Str → Option Value} {name : Str} {v : Value}

end

/-! ### the attributes as a list of pairs -/
def putF (f : Str) (v : V) : List (Str × V) → List (Str × V)
  | [] => [(f, v)]
  | (g, x) :: r => if g = f then (g, v) :: r else (g, x) :: putF f v r
section
variable {P : Program} {w : World} {H H' : Hp} {h h' : Heap} {a C dx : Addr} {fs fs' : List (Str × V)}
theorem ins_get (hok : HOk P w H h) (e : H a = some (.ins C dx fs)) : ∃ mA, ObjM h a dx C mA ∧ (∀ f, RelO (fs.lookup f) (mA f)) ∧ PySem.Within mA (fs.map (·.1)) ∧ fs.length ≤ 1000 ∧ H dx = some (.own a) := by
  obtain ⟨d, z, ne, ob, mA, n, r, q⟩ := (show ObjOk P w H h a (.ins C dx fs) from hok a _ e)
  exact ⟨mA, ⟨ob, n, ne⟩, r, q, z, d⟩
end

/-! ### what of the text a class must have -/
structure Cls (K : PySem.W.Frag) (C : Addr) : Prop where
  pg : PySem.W.plainGet K C Str.empty = true
  hd : PySem.W.hasDictIn K C = true
  po : PySem.W.plainOver K C = true
  sa : PySem.W.findIn K (.ref C) "__setattr__" = some (some (.builtin "object.__setattr__"))
theorem Cls.get {K : PySem.W.Frag} {C : Addr} (c : Cls K C) (f : Str) : PySem.W.plainGet K C f = true := c.pg
/-- no class of it has the name -/
def NoAttr (K : PySem.W.Frag) (C : Addr) (f : Str) : Prop := PySem.W.findIn K (.ref C) f = some none
/-- a constant of the class -/
structure Con (K : PySem.W.Frag) (C : Addr) (f : Str) (v : V) (u : Value) : Prop where
  at_ : PySem.W.findIn K (.ref C) f = some (some u)
  rel : RelV v u
  get : PySem.W.specialIn K u "__get__" = some none
  cp : PySem.W.copiedNames.contains f = false
/-- a method: a plain def of the class or of one above it -/
structure Meth (K : PySem.W.Frag) (C : Addr) (m : Str) (f : Addr) : Prop where
  at_ : PySem.W.findIn K (.ref C) m = some (some (.ref f))
  fn : PySem.W.isFn K (.ref f) = true
  kp : PySem.W.keepIn K (.ref f) = true

section
variable {X : Cx} {pins : List (Addr × Obj)} {σ : St} {H : Hp} {s : Shared} {a C dx : Addr} {fs : List (Str × V)} {f : Str} {v : V} {A : Around} {E : Value → Shared → Prop}

end

/-! ### readings and rules -/
/-- e.f, an attribute of the instance -/
def tFld (K : PySem.W.Frag) (ta : TE) (f : Str) : TE := fun σ H Q => ta σ H fun x H1 => ∃ a C dx fs v, x = .ref a ∧ H1 a = some (.ins C dx fs) ∧ Cls K C ∧ NoAttr K C f ∧ fs.lookup f = some v ∧ Q v H1
/-- e.f, a constant of the class -/
def tCon (K : PySem.W.Frag) (ta : TE) (f : Str) : TE := fun σ H Q => ta σ H fun x H1 => ∃ a C dx fs v u, x = .ref a ∧ H1 a = some (.ins C dx fs) ∧ Cls K C ∧ Con K C f v u ∧ fs.lookup f = none ∧ Q v H1
/-- e.f = value -/
def sFld (K : PySem.W.Frag) (ta tv : TE) (f : Str) : TS := fun D σ H => tv σ H fun y H1 => ta σ H1 fun x H2 => ∃ a C dx fs, x = .ref a ∧ H2 a = some (.ins C dx fs) ∧ Cls K C ∧ NoAttr K C f ∧ fs.length < 1000 ∧
  D.nx σ (upd H2 a (.ins C dx (putF f y fs)))
/-- an augmented operator on two values -/
def InOp (X : Cx) (op : Operator) (rd : V → V → Hp → VK → Prop) : Prop :=
  ∀ (pins : List (Addr × Obj)) (s : Shared) (σ : St) (H : Hp) (x y : V) (u v : Value) (Q : VK), Inv X pins σ H s → RelV x u → RelV y v → rd x y H Q → wpAny (model X.prog X.w) X.A (inplaceOp op u v) (EP X pins σ Q) X.xe s
/-- e.f op= value -/
def sFldAug (K : PySem.W.Frag) (ta tv : TE) (rd : V → V → Hp → VK → Prop) (f : Str) : TS := fun D σ H => ta σ H fun x H1 => ∃ a C dx fs v, x = .ref a ∧ H1 a = some (.ins C dx fs) ∧ Cls K C ∧ NoAttr K C f ∧ fs.lookup f = some v ∧
  tv σ H1 fun y H2 => rd v y H2 fun z H3 => ∃ dx' fs', H3 a = some (.ins C dx' fs') ∧ fs'.length < 1000 ∧ D.nx σ (upd H3 a (.ins C dx' (putF f z fs')))

section
variable {X : Cx} {o e value : Expr} {f : Str} {pos pos' tpos : Pos} {ta tv : TE}
def rAdd : V → V → Hp → VK → Prop := fun x y H Q => ∃ i j, x = .int i ∧ y = .int j ∧ Q (.int (i + j)) H
def rSub : V → V → Hp → VK → Prop := fun x y H Q => ∃ i j, x = .int i ∧ y = .int j ∧ Q (.int (i - j)) H
end

/-! ### isinstance -/
section
variable {X : Cx} {pins : List (Addr × Obj)} {σ : St} {H : Hp} {s : Shared} {A : Around} {E : Value → Shared → Prop} {Q : Value → Shared → Prop} {c : Value} {b : Bool}
/-- the type of a value, as the fragment's deciders take it; for an instance its class -/
inductive TyOf (K : PySem.W.Frag) (H : Hp) : V → Value → Prop where
  | non : TyOf K H .non (.type "NoneType")
  | bl (x : Bool) : TyOf K H (.bl x) (.type "bool")
  | int (i : Int) : TyOf K H (.int i) (.type "int")
  | str (x : Str) : TyOf K H (.str x) (.type "str")
  | flt (x : UInt64) : TyOf K H (.flt x) (.type "float")
  | lst {a : Addr} {xs : List V} (e : H a = some (.lst xs)) : TyOf K H (.ref a) (.type "list")
  | frz {a : Addr} {o : Obj} {xs : List V} (e : H a = some (.frz o (.lst xs))) : TyOf K H (.ref a) (.type "list")
  | tup {a : Addr} {xs : List V} (e : H a = some (.tup xs)) : TyOf K H (.ref a) (.type "tuple")
  | dK {a : Addr} {kvs : List (Key × V)} (e : H a = some (.dK kvs)) : TyOf K H (.ref a) (.type "dict")
  | dT {a : Addr} {kvs : List (List Key × V)} (e : H a = some (.dT kvs)) : TyOf K H (.ref a) (.type "dict")
  | ins {a C dx : Addr} {fs : List (Str × V)} (e : H a = some (.ins C dx fs)) (cl : Cls K C) (ha : PySem.W.findIn K (.ref C) "__class__" = some (some (.builtin "object.__class__")))
      (hn : PySem.W.specialIn K (.builtin "object.__class__") "__get__" = some (some (.builtin "getset_descriptor.__get__"))) (htk : PySem.W.takesIn K (.builtin "object.__class__") = some true)
      (hm : PySem.W.mroIn K C (.type "object") = some true) : TyOf K H (.ref a) (.ref C)
/-- isinstance(x, c) for one class c, a built-in or an own one: kitOne's answer -/
theorem isinst_ok {x : V} {u t : Value} (I : Inv X pins σ H s) (rx : RelV x u) (ty : TyOf X.K H x t) (e : PySem.W.kitOne X.K t c = some b) (h : ∀ tk, Q (.bool b) { s with toks := tk }) :
    wpAny (model X.prog X.w) A (call (.builtin "isinstance") [u, c]) Q E s := by
  cases ty with
  | non => cases (show u = Value.none from rx); exact PySem.W.kia_one PySem.W.kitx_none I.kIn True.intro e (fun z => nomatch z) h
  | bl y => cases (show u = Value.bool y from rx); exact PySem.W.kia_one PySem.W.kitx_bool I.kIn True.intro e (fun z => nomatch z) h
  | int i => obtain ⟨t, q⟩ := (show ∃ t, u = Value.int i t from rx); cases q; exact PySem.W.kia_one PySem.W.kitx_int I.kIn True.intro e (fun z => nomatch z) h
  | str y => obtain ⟨t, q⟩ := (show ∃ t, u = Value.str y t from rx); cases q; exact PySem.W.kia_one PySem.W.kitx_str I.kIn True.intro e (fun z => nomatch z) h
  | flt y => obtain ⟨t, q⟩ := (show ∃ t, u = Value.float y t from rx); cases q; exact PySem.W.kia_one PySem.W.kitx_float I.kIn True.intro e (fun z => nomatch z) h
  | @lst a xs ea =>
    cases (show u = Value.ref a from rx)
    obtain ⟨_, _, n, _, h1⟩ := (show ObjOk X.prog X.w H s.heap a (.lst xs) from I.hok a _ ea)
    exact PySem.W.kia_one PySem.W.kitx_list I.kIn ⟨_, h1, rfl⟩ e (fun z => nomatch z) h
  | @frz a ob xs ea =>
    cases (show u = Value.ref a from rx)
    obtain ⟨_, _, _, n, _, h1⟩ := (show ObjOk X.prog X.w H s.heap a (.frz ob (.lst xs)) from I.hok a _ ea)
    exact PySem.W.kia_one PySem.W.kitx_list I.kIn ⟨_, h1, rfl⟩ e (fun z => nomatch z) h
  | @tup a xs ea =>
    cases (show u = Value.ref a from rx)
    obtain ⟨_, _, _, p⟩ := (show ObjOk X.prog X.w H s.heap a (.tup xs) from I.hok a _ ea)
    obtain ⟨o, h1, h2, _⟩ := p
    exact PySem.W.kia_one PySem.W.kitx_tuple I.kIn ⟨o, h1, h2⟩ e (fun z => nomatch z) h
  | @dK a kvs ea =>
    cases (show u = Value.ref a from rx)
    obtain ⟨_, _, vs, _, p⟩ := (show ObjOk X.prog X.w H s.heap a (.dK kvs) from I.hok a _ ea)
    obtain ⟨o, es, ep, h1, h2, _⟩ := p
    exact PySem.W.kia_one PySem.W.kitx_dict I.kIn ⟨o, h1, h2.1⟩ e (fun z => nomatch z) h
  | @dT a kvs ea =>
    cases (show u = Value.ref a from rx)
    obtain ⟨_, _, xs, _, o, es, ep, h1, h2, _⟩ := (show ObjOk X.prog X.w H s.heap a (.dT kvs) from I.hok a _ ea)
    exact PySem.W.kia_one PySem.W.kitx_dict I.kIn ⟨o, h1, h2.1⟩ e (fun z => nomatch z) h
  | @ins a C dx fs ea cl ha hn htk hm =>
    cases (show u = Value.ref a from rx)
    obtain ⟨mA, O, _⟩ := ins_get I.hok ea
    obtain ⟨od, J, _⟩ := O.look
    exact PySem.W.kia_one (PySem.W.kitx_own (cl.get _) cl.hd ha hn htk hm) I.kIn J e (fun z => nomatch z) h
end
end L2

namespace L2
open PySem PySem.Spec PyProof.Rows

/-! ### room -/
structure Room (k : Nat) (A : Around) : Prop where
  hd : A.handled = none
  dp : A.depth + 3 * k + 5 < recursionLimit
  un : A.units + 16 * k + 200 < cLine
theorem Room.mono {j k : Nat} {A : Around} (r : Room k A) (h : j ≤ k) : Room j A := ⟨r.hd, by have := r.dp; omega, by have := r.un; omega⟩
theorem Room.deeper {k : Nat} {A : Around} (r : Room (k + 1) A) (env : Env) : Room k (A.deeper env) :=
  ⟨r.hd, by have := r.dp; show A.depth + 1 + 3 * k + 5 < _; omega, by have := r.un; show A.units + 3 + 16 * k + 200 < _; omega⟩
theorem Room.depth {k : Nat} {A : Around} (r : Room k A) : A.depth < recursionLimit := by have := r.dp; omega
theorem Room.units {k : Nat} {A : Around} (r : Room k A) : A.units + 64 < cLine := by have := r.un; omega
/-! ### argument lists and displays -/
def tNil : TA := fun _ H Q => Q [] H
def tCons (ta : TE) (tr : TA) : TA := fun σ H Q => ta σ H fun x H1 => tr σ H1 fun xs H2 => Q (x :: xs) H2
section
variable {X : Cx} {e : Expr} {es : List Expr} {te : TE} {t : TA} {pos : Pos}
theorem pa_nil : PA X [] tNil := fun _ _ _ _ H Q I h => Calls.spliced_nil ⟨[], H, I, .nil, h⟩
theorem pa_cons (ha : PE X e te) (hr : PA X es t) (hs : starEach (e :: es) X.env = (false, eval e X.env) :: starEach es X.env := by rfl) : PA X (e :: es) (tCons te t) := by
  intro pos pins s σ H Q I h
  rw [hs]
  show wpAny _ _ (spliced ((false, eval e X.env) :: backTo pos (starEach es X.env))) _ _ s
  refine Calls.spliced_cons (thn (ha pins s σ H _ I h) fun u s1 ⟨x, H1, I1, r1, q1⟩ => ?_)
  exact thn (hr pos pins s1 σ H1 _ I1 q1) fun us s2 ⟨xs, H2, I2, r2, q2⟩ => ⟨x :: xs, H2, I2, .cons r1 r2, q2⟩

/-- a tuple, a list of written items -/
def tTup (t : TA) : TE := fun σ H Q => t σ H fun xs H1 => xs.length ≤ sizeLine ∧ ∀ p, H1 p = none → Q (.ref p) (upd H1 p (.tup xs))
def tLst (t : TA) : TE := fun σ H Q => t σ H fun xs H1 => xs.length ≤ sizeLine ∧ ∀ p, H1 p = none → Q (.ref p) (upd H1 p (.lst xs))
theorem pe_lst (h : PA X es t) : PE X (.List es pos) (tLst t) := by
  intro pins s σ H Q I hq
  refine wpAny_List_spliced (thn (h pos pins s σ H _ I hq) fun us s1 ⟨xs, H1, I1, r, z, q⟩ => ⟨by rw [← r.length]; exact z, ?_⟩)
  have hf : H1 s1.heap.objs.size = none := I1.hok.fresh (Nat.le_refl _)
  refine ⟨.ref s1.heap.objs.size, upd H1 s1.heap.objs.size (.lst xs), I1.laid (t' := s1.toks) (fun b u e => Heap.get?_push_of_some _ e) (Nat.le_refl _) ?_, rfl, q _ hf⟩
  exact ⟨z, us, 0, r, Heap.get?_push_size _ rfl⟩
end

/-! ### what a def promises -/
/-- a def's promise: the bound arguments in the parameters' order, the heap, the wanted end, the wanted exception -/
abbrev Sp := List V → Hp → VK → XK → Prop
/-- how an exception lies behind a call (file 08 gives it): the callers' frames, abstract heap and state ahead of the call, the wish, the exception, the state -/
abbrev CXT := List Env → Hp → Shared → XK → Value → Shared → Prop

/-- the state at a call -/
structure Env0 (P : Program) (w : World) (K : PySem.W.Frag) (mg : Str → Option Value) (base : Heap) (A : Around) (outer : List Env) (s : Shared) (H : Hp) : Prop where
  frames : A.frames = some outer
  mod : Mod K mg base
  bs : ∀ b o, base.get? b = some o → s.heap.get? b = some o ∧ H b = none
  bsz : base.objs.size ≤ s.heap.objs.size
  funs : s.heap.FunFrames base outer
  frf : ∀ b ∈ frs outer, H b = none
  hok : HOk P w H s.heap
  bare : AllBare s.gens
/-- a call's end -/
def CE (outer : List Env) (P : Program) (w : World) (H : Hp) (s : Shared) (Q : VK) (u : Value) (s' : Shared) : Prop :=
  ∃ v H', s'.os = s.os ∧ AllBare s'.gens ∧ Un (frs outer) [] H H' s.heap s'.heap ∧ HOk P w H' s'.heap ∧ RelV v u ∧ Q v H'
def CR (CX : CXT) (outer : List Env) (P : Program) (w : World) (H : Hp) (s : Shared) (Q : VK) (E : XK) (r : Result) (s' : Shared) : Prop :=
  match r with
  | .ok (.ret u) => CE outer P w H s Q u s'
  | .ok _ => False
  | .error e => CX outer H s E e s'
structure FnOk (P : Program) (w : World) (K : PySem.W.Frag) (mg : Str → Option Value) (base : Heap) (CX : CXT) (k : Nat) (f : Addr) (fd : FuncData) (ps : List Str) (sp : Sp) : Prop where
  len : ∀ vs H Q E, sp vs H Q E → vs.length = ps.length
  run : ∀ (A : Around) (outer : List Env) (s : Shared) (H : Hp) (args : Args) (us : List Value) (vs : List V) (Q : VK) (E : XK), Room k A → Env0 P w K mg base A outer s H → BindsTo s fd args (ps.zip us) → Vals vs us → sp vs H Q E →
    codeAny (model P w) A (.call (.ref f) args) (CR CX outer P w H s Q E) s
section
variable {X : Cx} {pins : List (Addr × Obj)} {σ : St} {H : Hp} {s s' : Shared}
/-- from a body: what a callee wants -/
theorem Inv.env0 (I : Inv X pins σ H s) : Env0 X.prog X.w X.K X.mg X.base X.A X.stack s H :=
  ⟨I.ok.frames, I.ok.mod, I.bs, Nat.le_trans I.ok.bsz I.sz, I.stack, I.stkFree, I.hok, I.bare⟩
/-- behind a call -/
theorem Inv.after {Q : VK} {u : Value} (I : Inv X pins σ H s) (h : CE X.stack X.prog X.w H s Q u s') : EP X pins σ Q u s' := by
  obtain ⟨v, H', os, bare, un, hok, r, q⟩ := h
  obtain ⟨hh, g, d, t, os'⟩ := s'
  obtain rfl : os' = s.os := os
  exact ⟨v, H', I.call (h' := hh) (g' := g) (d' := d) (t' := t) (ch := []) un hok bare (fun b z => absurd z (by simp)), r, q⟩
end

/-! ### calls -/
/-- f(..): the written arguments, then the defaults dvs; E: what is wanted of an exception -/
def tCall (sp : Sp) (dvs : List V) (E : XK) (t : TA) : TE := fun σ H Q => t σ H fun vs H1 => sp (vs ++ dvs) H1 Q E
/-- o.m(..) of an instance of the class at C -/
def tMeth (C : Addr) (m : Str) (sp : Sp) (dvs : List V) (E : XK) (ta : TE) (t : TA) : TE := fun σ H Q => ta σ H fun x H1 => ∃ a dx fs, x = .ref a ∧ H1 a = some (.ins C dx fs) ∧ fs.lookup m = none ∧
  t σ H1 fun vs H2 => sp (x :: (vs ++ dvs)) H2 Q E
/-- C(..): a new instance and its dict, then __init__ -/
def tMake (C : Addr) (sp : Sp) (dvs : List V) (E : XK) (t : TA) : TE := fun σ H Q => t σ H fun vs H1 => ∀ x dx, H1 x = none → H1 dx = none → dx ≠ x →
  sp (.ref x :: (vs ++ dvs)) (upd (upd H1 dx (.own x)) x (.ins C dx [])) (fun v H2 => v = .non ∧ Q (.ref x) H2) E

/-- how the parameters are bound: us the positional arguments, kw the keywords' values by name, ds the defaults that fill up -/
def Binds (K : PySem.W.Frag) (fd : FuncData) (ps : List Str) (ds : List Value) : Prop :=
  ∀ (s : Shared) (us : List Value), K.In s.heap → (us ++ ds).length = ps.length → BindsTo s fd ⟨us, []⟩ (ps.zip (us ++ ds))
/-- every parameter is given -/
theorem Binds.all {K : PySem.W.Frag} {fd : FuncData} {ps : List Str} (h : ∀ us : List Value, us.length = ps.length → bindArgs fd ⟨us, []⟩ = pure (ps.zip us)) : Binds K fd ps [] := fun s us _ hl => by
  rw [List.append_nil] at hl ⊢
  exact .of_eq (h us hl)

/-- an exception of a callee reaches what this body wants of exceptions -/
def Passes (CX : CXT) (X : Cx) (E : XK) : Prop := ∀ (pins : List (Addr × Obj)) (σ : St) (H : Hp) (s : Shared) (e : Value) (s' : Shared), Inv X pins σ H s → CX X.stack H s E e s' → X.xe e s'

section
variable {X : Cx} {CX : CXT} {k : Nat} {f C : Addr} {fd : FuncData} {ps : List Str} {sp : Sp} {dvs : List V} {ds : List Value} {E : XK} {x m : Str} {p pos apos : Pos} {e o : Expr} {es : List Expr} {ta : TE} {t : TA}

/-- the callee runs -/
theorem run_fn {pins : List (Addr × Obj)} {σ : St} {H : Hp} {s : Shared} {Q : VK} {us : List Value} {vs : List V} (F : FnOk X.prog X.w X.K X.mg X.base CX k f fd ps sp) (hr : Room k X.A) (hb : Binds X.K fd ps ds) (hd : Vals dvs ds) (hx : Passes CX X E)
    (I : Inv X pins σ H s) (r : Vals vs us) (h : sp (vs ++ dvs) H Q E) : wpAny (model X.prog X.w) X.A (call (.ref f) us) (EP X pins σ Q) X.xe s := by
  have r2 : Vals (vs ++ dvs) (us ++ ds) := r.append hd
  have hl : (us ++ ds).length = ps.length := by rw [← r2.length]; exact F.len _ _ _ _ h
  refine wpAny_call (codeAny_mono (F.run X.A X.stack s H ⟨us, []⟩ (us ++ ds) (vs ++ dvs) Q E hr I.env0 (hb s us I.kIn hl) r2 h) fun r s' hq => ?_)
  cases r with
  | error e => exact hx pins σ H s e s' I hq
  | ok fl =>
    cases fl with
    | ret u => exact I.after hq
    | next => exact False.elim hq
    | brk => exact False.elim hq
    | cont => exact False.elim hq

theorem pe_call (F : FnOk X.prog X.w X.K X.mg X.base CX k f fd ps sp) (hr : Room k X.A) (hg : Gl X x) (hm : X.mg x = some (.ref f)) (hk : PySem.W.keepIn X.K (.ref f) = true) (hb : Binds X.K fd ps ds) (hd : Vals dvs ds) (hx : Passes CX X E)
    (ha : PA X (e :: es) t) (hdb : (x == ("__debug__" : Str)) = false := by decide) (he : starEach (e :: es) X.env = (false, eval e X.env) :: starEach es X.env := by rfl) (hpl : (backTo pos (starEach es X.env)).any (·.1) = false := by rfl) :
    PE X (.Call (.Name x p) (e :: es) [] pos) (tCall sp dvs E t) := by
  intro pins s σ H Q I h
  refine wpAny_Call_Name_kw (ld_glob I hg hm ?_ hdb)
  refine PySem.W.callWith_K (h₀ := X.base) I.ok.mod.kin hk (thn (ha pos pins s σ H _ I h) fun us s1 ⟨vs, H1, I1, r, q⟩ => ⟨I1.kIn, ?_⟩) he hpl
  exact run_fn F hr hb hd hx I1 r q
/-- what a class must have to be made -/
structure Mk (K : PySem.W.Frag) (C f : Addr) : Prop where
  makes : PySem.W.makesIn K C = true
  init : PySem.W.findIn K (.ref C) "__init__" = some (some (.ref f))
  fn : PySem.W.isFn K (.ref f) = true
  kp : PySem.W.keepIn K (.ref C) = true

end

/-! ### keywords -/
/-- the values of the keywords, from the left -/
def PK (X : Cx) (kws : List Keyword) (t : TA) : Prop :=
  ∀ (pos : Pos) (pins : List (Addr × Obj)) (s : Shared) (σ : St) (H : Hp) (Q : List V → Hp → Prop), Inv X pins σ H s → t σ H Q → wpAny (model X.prog X.w) X.A (evalAll ((backToKw pos (keywordEach kws X.env)).map (·.2))) (AP X pins σ Q) X.xe s
section
variable {X : Cx} {CX : CXT} {k : Nat} {f C : Addr} {fd : FuncData} {ps ks : List Str} {sp : Sp} {E : XK} {x m : Str} {p pos apos kpos : Pos} {e o : Expr} {es : List Expr} {kws : List Keyword} {te ta : TE} {t tk : TA} {nm : Option Str}
/-- how a call with keywords binds: g puts the positional values us and the keywords' values ws (names ks) in the parameters' order, defaults among them -/
structure KBinds (K : PySem.W.Frag) (fd : FuncData) (ps ks : List Str) (g : List Value → List Value → List Value) (gV : List V → List V → List V) : Prop where
  to : ∀ (s : Shared) (us ws : List Value), K.In s.heap → (g us ws).length = ps.length → BindsTo s fd ⟨us, ks.zip ws⟩ (ps.zip (g us ws))
  rel : ∀ {vs : List V} {us : List Value} {zs : List V} {ws : List Value}, Vals vs us → Vals zs ws → Vals (gV vs zs) (g us ws)
def tCallK (sp : Sp) (gV : List V → List V → List V) (E : XK) (t tk : TA) : TE := fun σ H Q => t σ H fun vs H1 => tk σ H1 fun zs H2 => sp (gV vs zs) H2 Q E
variable {g : List Value → List Value → List Value} {gV : List V → List V → List V}
end

/-! ### a def's body keeps its promise -/
/-- names: the parameters first -/
structure FnScope (N P : List Str) (sc : Scope) : Prop where
  kind : sc.kind = .function
  co : sc.isCoroutine = false
  gen : sc.isGenerator = false
  nd : N.Nodup
  pre : N.take P.length = P
  par : ∀ x ∈ P, sc.names.lookup x = some .local ∨ sc.names.lookup x = some .cell
  nofree : ∀ y ∈ sc.names, y.2 ≠ .free

theorem bindL_out {kindOf : Str → Option NameKind} {x : Str} : ∀ {binds : List (Str × Value)} {m : Str → Option Value}, (∀ v, (x, v) ∉ binds) → bindL kindOf binds m x = m x
  | [], _, _ => rfl
  | (n, v) :: r, m, h => by
    unfold bindL
    rw [bindL_out fun w hw => h w (List.mem_cons_of_mem _ hw)]
    split
    · have : x ≠ n := by rintro rfl; exact h v List.mem_cons_self
      simp [this]
    · rfl
theorem bindC_out {kindOf : Str → Option NameKind} {x : Str} : ∀ {binds : List (Str × Value)} {m : Str → Option Value}, (∀ v, (x, v) ∉ binds) → bindC kindOf binds m x = m x
  | [], _, _ => rfl
  | (n, v) :: r, m, h => by
    unfold bindC
    rw [bindC_out fun w hw => h w (List.mem_cons_of_mem _ hw)]
    split
    · rfl
    · have : x ≠ n := by rintro rfl; exact h v List.mem_cons_self
      simp [this]
theorem bindL_get {kindOf : Str → Option NameKind} {x : Str} {v : Value} : ∀ {P : List Str} {vs : List Value} {i : Nat} {m : Str → Option Value}, P.Nodup → P[i]? = some x → vs[i]? = some v → kindOf x = some .local →
    bindL kindOf (P.zip vs) m x = some v
  | [], _, _, _, _, h, _, _ => by simp at h
  | _ :: _, [], _, _, _, _, h, _ => by simp at h
  | p :: P, w :: vs, 0, m, nd, h1, h2, hk => by
    simp at h1 h2; subst h1; subst h2
    show bindL kindOf ((p, w) :: P.zip vs) m p = _
    unfold bindL
    rw [bindL_out fun v hv => (List.nodup_cons.mp nd).1 (List.of_mem_zip hv).1, if_pos hk]
    simp
  | p :: P, w :: vs, i + 1, m, nd, h1, h2, hk => by
    show bindL kindOf ((p, w) :: P.zip vs) m x = _
    unfold bindL
    exact bindL_get (i := i) (List.nodup_cons.mp nd).2 (by simpa using h1) (by simpa using h2) hk
theorem bindC_get {kindOf : Str → Option NameKind} {x : Str} {v : Value} : ∀ {P : List Str} {vs : List Value} {i : Nat} {m : Str → Option Value}, P.Nodup → P[i]? = some x → vs[i]? = some v → kindOf x ≠ some .local →
    bindC kindOf (P.zip vs) m x = some v
  | [], _, _, _, _, h, _, _ => by simp at h
  | _ :: _, [], _, _, _, _, h, _ => by simp at h
  | p :: P, w :: vs, 0, m, nd, h1, h2, hk => by
    simp at h1 h2; subst h1; subst h2
    show bindC kindOf ((p, w) :: P.zip vs) m p = _
    unfold bindC
    rw [bindC_out fun v hv => (List.nodup_cons.mp nd).1 (List.of_mem_zip hv).1, if_neg hk]
    simp
  | p :: P, w :: vs, i + 1, m, nd, h1, h2, hk => by
    show bindC kindOf ((p, w) :: P.zip vs) m x = _
    unfold bindC
    exact bindC_get (i := i) (List.nodup_cons.mp nd).2 (by simpa using h1) (by simpa using h2) hk

/-- the names' values at the entry -/
def start (N : List Str) (vs : List V) : St := vs.map some ++ List.replicate (N.length - vs.length) none

/-- the context of a def's body, at its entry; an exception leaves the frame, then lies as CX says -/
def cxOf (CX : CXT) (P : Program) (w : World) (K : PySem.W.Frag) (mg : Str → Option Value) (base : Heap) (N : List Str) (qual : Str) (scope : Scope) (f : Addr) (cd : Value) (A : Around) (outer : List Env) (s : Shared) (H : Hp) (E : XK) : Cx where
  prog := P
  w := w
  K := K
  mg := mg
  base := base
  A := A.deeper (envOfC qual scope s.heap.objs.size f cd)
  N := N
  s₀ := s
  H₀ := H
  env := envOfC qual scope s.heap.objs.size f cd
  outer := outer
  stack := envOfC qual scope s.heap.objs.size f cd :: outer
  ex := []
  calm := true
  fn := fun _ => true
  pn := []
  xe := fun e s' => wpAny (model P w) (A.deeper (envOfC qual scope s.heap.objs.size f cd)) (leaving (envOfC qual scope s.heap.objs.size f cd) e) (fun _ s'' => CX outer H s E e s'') (fun e' s'' => CX outer H s E e' s'') s'

theorem cell_has {sc : Scope} {n : Nat} {x : Str} (h : sc.names.lookup x = some .cell) : ∃ c, (cellsFrom n sc.names []).lookup x = some c := by
  have q := PySem.W.cellsFrom_some sc.names n [] (.inl h)
  exact Option.isSome_iff_exists.mp q

theorem inv_start {CX : CXT} {P : Program} {w : World} {K : PySem.W.Frag} {mg : Str → Option Value} {base : Heap} {N ps : List Str} {qual : Str} {scope : Scope} {f : Addr} {cd : Value} {A : Around} {outer : List Env} {s s1 : Shared} {H : Hp} {E : XK} {us : List Value} {vs : List V}
    (S : FnScope N ps scope) (hd : A.handled = none) (e0 : Env0 P w K mg base A outer s H) (hl : vs.length = ps.length) (r : Vals vs us)
    (x : InCallC s s.heap.objs.size (bindL (envOfC qual scope s.heap.objs.size f cd).kindOf (ps.zip us) fun _ => none) (cellsFrom (s.heap.objs.size + 1) scope.names []) (bindC (envOfC qual scope s.heap.objs.size f cd).kindOf (ps.zip us) fun _ => none) s1) :
    Inv (cxOf CX P w K mg base N qual scope f cd A outer s H E) [] (start N vs) H s1 := by
  have hpl : ps.length ≤ N.length := by have := congrArg List.length S.pre; rw [List.length_take] at this; omega
  obtain ⟨h1, tk, rfl, hk⟩ := x.done
  have noA : ∀ b : Addr, b ∉ (cxOf CX P w K mg base N qual scope f cd A outer s H E).ex := fun b z => absurd (show b ∈ ([] : List Addr) from z) (by simp)
  refine ⟨⟨e0.mod, S.kind, rfl, rfl, Nat.le_refl _, fun y z c h1 h2 => ?_, fun y hy => ?_, fun y c _ h => ?_, fun _ => hd, Around.frames_deeper e0.frames, .inr ⟨rfl, rfl⟩, fun b z => absurd z (noA b), e0.bs, e0.bsz, fun b _ _ => noA b, fun b z => absurd z (noA b), e0.funs, e0.frf⟩,
    rfl, e0.bare, Un.kept hk, ⟨_, x.toInCall.ns, fun i y v h1 h2 h3 => ?_⟩, fun y c h => ⟨_, x.cell y c h⟩, e0.hok.fresh (Nat.le_refl _), fun y c h => ?_, fun p hp => absurd (show p ∈ ([] : List (Addr × Obj)) from hp) (by simp), e0.hok.kept hk, ?_⟩
  · exact name_of_addr x.apart (PySem.mem_of_lookup h1) (PySem.mem_of_lookup h2)
  · have hy : scope.names.lookup y = some .cell ∨ scope.names.lookup y = some .free := hy
    rcases hy with hy | hy
    · exact cell_has hy
    · exact absurd rfl (S.nofree _ (PySem.mem_of_lookup hy))
  · exact Nat.le_of_lt (x.above y c (PySem.mem_of_lookup h))
  · have hi : i < vs.length := by
      unfold start at h2
      by_cases hi : i < vs.length
      · exact hi
      · rw [List.getElem?_append_right (by simpa using hi)] at h2
        rw [List.getElem?_replicate] at h2
        split at h2 <;> cases h2
    have ha : vs[i]? = some v := by
      unfold start at h2
      rw [List.getElem?_append_left (by simpa using hi), List.getElem?_map] at h2
      cases e : vs[i]? with
      | none => rw [e] at h2; cases h2
      | some a => rw [e] at h2; cases h2; rfl
    obtain ⟨u, hu, rv⟩ := r.get ha
    have hp : ps[i]? = some y := by
      rw [← S.pre, List.getElem?_take_of_lt (by omega)]; exact h1
    have ndP : ps.Nodup := by rw [← S.pre]; exact S.nd.sublist (List.take_sublist _ _)
    refine ⟨u, rv, ?_⟩
    rcases S.par y (List.mem_of_getElem? hp) with k | k
    · exact .inl ⟨k, bindL_get ndP hp hu k⟩
    · obtain ⟨c, e⟩ := cell_has (n := s.heap.objs.size + 1) k
      refine .inr ⟨.inl k, c, e, ?_⟩
      have q := x.cell y c e
      rw [bindC_get ndP hp hu (by show scope.names.lookup y ≠ _; rw [k]; decide)] at q
      exact q
  · exact e0.hok.fresh (Nat.le_of_lt (x.above y c (PySem.mem_of_lookup h)))
  · unfold start
    show _ = N.length
    rw [List.length_append, List.length_map, List.length_replicate]
    omega

/-- THE RULE: a def (or a method) of the text, by its body. The body's reading t is chosen for each entry; it is run at the parameters' values -/
theorem fn_of {CX : CXT} {P : Program} {w : World} {K : PySem.W.Frag} {mg : Str → Option Value} {base : Heap} {k : Nat} {f : Addr} {name qual : Str} {params : Arguments} {body : List Stmt} {scope : Scope} {dV kV doc pm cdv ct oc : Value} {an od : Option Addr}
    {osl : Array (Option Value)} {N ps : List Str} {sp : Sp} (lk : K.lookup f = some ⟨oc, od, .func (PySem.W.fnOf name qual params body scope dV kV doc pm an cdv ct), osl⟩) (hcd : PySem.W.codeIn K cdv qual = true) (S : FnScope N ps scope)
    (len : ∀ vs H Q E, sp vs H Q E → vs.length = ps.length)
    (hbody : ∀ (A : Around) (outer : List Env) (s : Shared) (H : Hp) (vs : List V) (Q : VK) (E : XK), Room k (A.deeper (envOfC qual scope s.heap.objs.size f cdv)) → sp vs H Q E →
      ∃ t, PSs (cxOf CX P w K mg base N qual scope f cdv A outer s H E) body t ∧ t { nx := fun _ H' => Q .non H', rt := Q } (start N vs) H) :
    FnOk P w K mg base CX (k + 1) f (PySem.W.fnOf name qual params body scope dV kV doc pm an cdv ct) ps sp := by
  refine ⟨len, fun A outer s H args us vs Q E hr e0 hb r hsp => ?_⟩
  have hl := len _ _ _ _ hsp
  have KX : K.In s.heap := e0.mod.kin.keeps fun b o e => (e0.bs b o e).1
  have lim : s.heap.NoLimit := e0.mod.nolimit.keeps fun b o e => (e0.bs b o e).1
  have hkind : ∀ y ∈ ps.zip us, scope.names.lookup y.1 = some .local ∨ (scope.names.lookup y.1 = some .cell ∧ ((cellsFrom (s.heap.objs.size + 1) scope.names []).lookup y.1).isSome = true) := fun ⟨n, v⟩ hy => by
    rcases S.par n (List.of_mem_zip hy).1 with q | q
    · exact .inl q
    · exact .inr ⟨q, PySem.W.cellsFrom_some _ _ _ (.inl q)⟩
  refine codeAny_call_function hr.depth (KX _ _ lk) rfl S.co S.gen rfl (PySem.W.codeRec_of KX hcd) (hb _ _ _ _ ?_)
  refine wpAny_newFunctionEnv_cells S.kind hkind fun env he s1 x => ?_
  subst he
  refine ⟨lim.keeps x.toInCall.keep, codeAny_func ?_⟩
  obtain ⟨t, ht, hq⟩ := hbody A outer s H vs Q E (hr.deeper _) hsp
  have I : Inv (cxOf CX P w K mg base N qual scope f cdv A outer s H E) [] (start N vs) H s1 := inv_start S hr.hd e0 hl r x
  refine wpAny_mono (ht [] s1 (start N vs) H _ I hq) (fun fl s' hs => ?_) fun e s' hs => hs
  have fin : ∀ {σ' : St} {H' : Hp} {v : V} {u : Value}, Inv (cxOf CX P w K mg base N qual scope f cdv A outer s H E) [] σ' H' s' → RelV v u → Q v H' → CE outer P w H s Q u s' :=
    fun {σ' H' v u} J rv q => ⟨v, H', J.os, J.bare, J.base, J.hok, rv, q⟩
  cases fl with
  | ret u =>
    obtain ⟨v, σ', H', J, rv, q⟩ := hs
    exact fin J rv q
  | next =>
    obtain ⟨σ', H', J, q⟩ := hs
    exact fin (v := V.non) (u := Value.none) J rfl q
  | brk =>
    obtain ⟨_, _, _, q⟩ := hs
    exact False.elim q
  | cont =>
    obtain ⟨_, _, _, q⟩ := hs
    exact False.elim q
end L2

namespace L2
open PySem PySem.Spec PyProof.Rows
section
variable {X : Cx} {x : Str} {p pos : Pos} {e : Expr} {es : List Expr} {t : TA} {id T : String} {r : List V → Hp → VK → Prop}

def tCB (r : List V → Hp → VK → Prop) (t : TA) : TE := fun σ H Q => t σ H fun vs H1 => r vs H1 Q
/-- f(e, ..), f a built-in function -/
theorem pe_callB (hc : CallR X (.builtin id) r) (hg : Gl X x) (hm : X.mg x = none) (hv : bootBuiltins x = some (.builtin id)) (ha : PA X (e :: es) t) (hn : x ≠ "__name__" := by decide) (hdb : (x == ("__debug__" : Str)) = false := by decide)
    (he : starEach (e :: es) X.env = (false, eval e X.env) :: starEach es X.env := by rfl) (hpl : (backTo pos (starEach es X.env)).any (·.1) = false := by rfl) : PE X (.Call (.Name x p) (e :: es) [] pos) (tCB r t) := by
  intro pins s σ H Q I h
  refine wpAny_Call_Name_kw (ld_blt I hg hm hv ?_ hn hdb)
  exact PyProof.Rows.callWith_builtin1 (thn (ha pos pins s σ H _ I h) fun us s1 ⟨vs, H1, I1, r1, q1⟩ => hc pins s1 σ H1 vs us Q I1 r1 q1) he hpl
end
end L2

namespace HT
open PySem PyProof.Rows

/-- t < u of tuples of ints -/
def lexLt : List Int → List Int → Bool
  | [], [] => false
  | [], _ :: _ => true
  | _ :: _, [] => false
  | x :: xs, y :: ys => if x = y then lexLt xs ys else decide (x < y)
section
open PySem.SeqAt
open PySem.AutoSeq1 (wpAny_loadPart')
open PySem.MeetsSeq PySem.MeetsSeq2 PySem.MeetsSeq3

end

section
variable {prog : Program} {w : World} {A : Around} {E : Value → Shared → Prop} {s : Shared}

/-! ### t[a:b], not the whole -/
/-- a slice's bound as a place among n (d where it is left out) -/
def sIx (n d : Nat) : Option Int → Nat
  | none => d
  | some v => if v < 0 then (v + (n : Int)).toNat else min v.toNat n
theorem sIx_none (n d : Nat) : sIx n d none = d := rfl
theorem sIx_nat (n d k : Nat) : sIx n d (some (k : Int)) = min k n := by
  show (if (k : Int) < 0 then ((k : Int) + (n : Int)).toNat else min (k : Int).toNat n) = min k n
  rw [if_neg (by omega), Int.toNat_natCast]
theorem sIx_le (n d : Nat) (hd : d ≤ n) (o : Option Int) : sIx n d o ≤ n := by
  cases o with
  | none => exact hd
  | some v =>
    show (if v < 0 then (v + (n : Int)).toNat else min v.toNat n) ≤ n
    by_cases hv : v < 0
    · rw [if_pos hv]; omega
    · rw [if_neg hv]; exact Nat.min_le_right _ _
end
end HT

namespace L2
open PySem PySem.Spec PyProof.Rows

/-! ### the parts of a slice -/
abbrev TO := St → Hp → (Option Int → Hp → Prop) → Prop
/-- a slice's part (left out, or an int) -/
def PO (X : Cx) (e : Option Expr) (t : TO) : Prop :=
  ∀ (pins : List (Addr × Obj)) (s : Shared) (σ : St) (H : Hp) (Q : Option Int → Hp → Prop), Inv X pins σ H s → t σ H Q →
    wpAny (model X.prog X.w) X.A (evalPart e X.env) (fun u s' => ∃ o H', Inv X pins σ H' s' ∧ IsPart u o ∧ Q o H') X.xe s
def tNoPart : TO := fun _ H Q => Q none H
def tPart (t : TE) : TO := fun σ H Q => t σ H fun x H1 => ∃ i, x = .int i ∧ Q (some i) H1

theorem intsAre_of {ns : List Int} : ∀ {us : List Value}, Vals (ns.map V.int) us → IntsAre us ns := by
  induction ns with
  | nil => intro us r; rw [List.map_nil] at r; cases r; exact .nil
  | cons n ns ih =>
    intro us r
    rw [List.map_cons] at r
    cases r with
    | cons r1 r2 =>
      obtain ⟨t, e⟩ := r1
      subst e
      exact .cons n t (ih r2)

section
variable {X : Cx} {e : Expr} {te : TE} {lo hi : Option Expr} {tl th : TO} {pos p2 : Pos}

theorem po_none : PO X none tNoPart := by
  intro pins s σ H Q I h
  rw [evalPart_none]
  exact wpAny_pure ⟨none, H, I, .none, h⟩
theorem po_some (h : PE X e te) : PO X (some e) (tPart te) := by
  intro pins s σ H Q I hw
  rw [evalPart_some]
  refine thn (h pins s σ H _ I hw) fun u s1 ⟨x, H1, I1, r1, q1⟩ => ?_
  obtain ⟨i, rfl, q⟩ := q1
  obtain ⟨t, rfl⟩ := r1
  exact ⟨some i, H1, I1, .int i t, q⟩

/-- what a slice of a value is, by values: the slice object stands at sl -/
def SlR (X : Cx) (r : V → Option Int → Option Int → Hp → VK → Prop) : Prop :=
  ∀ (pins : List (Addr × Obj)) (s : Shared) (σ : St) (H : Hp) (x : V) (v vl vu : Value) (lo hi : Option Int) (sl : Addr) (Q : VK), Inv X pins σ H s → RelV x v → s.heap.IsSliceOf sl vl vu .none → IsPart vl lo → IsPart vu hi → r x lo hi H Q →
    ∃ T id, typeLookup (.type T) "__getitem__" = pure (some (.builtin id)) ∧ s.TypeIs v T ∧ wpAny (model X.prog X.w) X.A (getItem v (.ref sl)) (EP X pins σ Q) X.xe s
def tSl (r : V → Option Int → Option Int → Hp → VK → Prop) (te : TE) (tl th : TO) : TE := fun σ H Q => te σ H fun x H1 => tl σ H1 fun l H2 => th σ H2 fun u H3 => r x l u H3 Q
/-- a[lo:hi], any a -/
theorem pe_slice {r : V → Option Int → Option Int → Hp → VK → Prop} (hr : SlR X r) (he : PE X e te) (hl : PO X lo tl) (hu : PO X hi th) : PE X (.Subscript e (.Slice lo hi none p2) pos) (tSl r te tl th) := by
  intro pins s σ H Q I h
  refine Subscript_ (thn (he pins s σ H _ I h) fun v s1 ⟨x, H1, I1, r1, q1⟩ => ?_)
  refine wpAny_Slice (thn (hl pins s1 σ H1 _ I1 q1) fun vl s2 ⟨l, H2, I2, pl, q2⟩ => thn (hu pins s2 σ H2 _ I2 q2) fun vu s3 ⟨u, H3, I3, pu, q3⟩ => ?_)
  rw [evalPart_none]
  refine wpAny_pure ?_
  have I4 : Inv X pins σ H3 { s3 with heap := s3.heap.push { cls := .type "slice", data := .fields #[vl, vu, .none] } } := I3.kept (t' := s3.toks) fun b ob q => Heap.get?_push_of_some _ q
  obtain ⟨T, id, hT, ht, hg⟩ := hr pins { s3 with heap := s3.heap.push { cls := .type "slice", data := .fields #[vl, vu, .none] } } σ H3 x v vl vu l u s3.heap.objs.size Q I4 r1 (Heap.IsSliceOf.new ..) pl pu q3
  show wpAny (model X.prog X.w) X.A (subscriptTail e (.Slice lo hi none p2) v (.ref s3.heap.objs.size)) (EP X pins σ Q) X.xe { s3 with heap := s3.heap.push { cls := .type "slice", data := .fields #[vl, vu, .none] } }
  exact tail_any (ops := [.ref s3.heap.objs.size, v]) ht hT hg (by with_unfolding_all rfl)

/-- the items of xs[lo:hi] -/
def cutV (xs : List V) (lo hi : Option Int) : List V := (xs.drop (HT.sIx xs.length 0 lo)).take (HT.sIx xs.length xs.length hi - HT.sIx xs.length 0 lo)
theorem cutV_length (xs : List V) (lo hi : Option Int) : (cutV xs lo hi).length ≤ xs.length := by
  unfold cutV
  rw [List.length_take, List.length_drop]
  omega
/-- t[lo:hi], not the whole of it (the whole would be t itself) -/
def rSlT (K : PySem.W.Frag) : V → Option Int → Option Int → Hp → VK → Prop := fun x lo hi H Q => ∃ a xs, x = .ref a ∧ SqT K H a xs ∧
  ¬ (HT.sIx xs.length 0 lo = 0 ∧ HT.sIx xs.length xs.length hi = xs.length) ∧ ∀ p, H p = none → Q (.ref p) (upd H p (.tup (cutV xs lo hi)))
/-! ### t < u, t + u -/
def rLtT (K : PySem.W.Frag) : R2 := fun x y H Q => ∃ a b ns ms, x = .ref a ∧ y = .ref b ∧ SqT K H a (ns.map V.int) ∧ SqT K H b (ms.map V.int) ∧ Q (.bl (HT.lexLt ns ms)) H
/-- t + u, t not empty: u empty gives t itself -/
def rCatT (K : PySem.W.Frag) : R2 := fun x y H Q => ∃ a b xs ys, x = .ref a ∧ y = .ref b ∧ SqT K H a xs ∧ SqT K H b ys ∧ xs ≠ [] ∧ xs.length + ys.length ≤ sizeLine ∧
  (ys = [] → Q (.ref a) H) ∧ (ys ≠ [] → ∀ p, H p = none → Q (.ref p) (upd H p (.tup (xs ++ ys))))
end
end L2

namespace L2
open PySem PySem.Spec PyProof.Rows

/-! ### places -/
/-- the place that an index of any sign means -/
def ixN (n : Nat) (i : Int) : Option Nat := if 0 ≤ i then (if i < n then some i.toNat else none) else if -(n : Int) ≤ i then some (i + n).toNat else none
def atI {α : Type} (xs : List α) (i : Int) : Option α := (ixN xs.length i).bind fun j => xs[j]?
theorem ixN_seq {n : Nat} {i : Int} {j : Nat} (h : ixN n i = some j) : seqIndex? i n = some j ∧ j < n ∧ -(n : Int) ≤ i ∧ i < n := by
  unfold ixN at h
  by_cases h0 : 0 ≤ i
  · rw [if_pos h0] at h
    by_cases h1 : i < n
    · rw [if_pos h1] at h
      have e : i.toNat = j := Option.some.inj h
      exact ⟨by rw [seqIndex_of h0 h1, e], by omega, by omega, h1⟩
    · rw [if_neg h1] at h; cases h
  · rw [if_neg h0] at h
    by_cases h1 : -(n : Int) ≤ i
    · rw [if_pos h1] at h
      have e : (i + n).toNat = j := Option.some.inj h
      exact ⟨by rw [seqIndex_neg (by omega) h1, e], by omega, h1, by omega⟩
    · rw [if_neg h1] at h; cases h
theorem atI_get {α : Type} {xs : List α} {i : Int} {v : α} (h : atI xs i = some v) : ∃ j, seqIndex? i xs.length = some j ∧ xs[j]? = some v ∧ j < xs.length ∧ -(xs.length : Int) ≤ i ∧ i < xs.length := by
  unfold atI at h
  cases e : ixN xs.length i with
  | none => rw [e] at h; cases h
  | some j =>
    rw [e] at h
    obtain ⟨h1, h2, h3, h4⟩ := ixN_seq e
    exact ⟨j, h1, h, h2, h3, h4⟩
theorem atI_nat {α : Type} {xs : List α} {j : Nat} {v : α} (h : xs[j]? = some v) : atI xs (j : Int) = some v := by
  have hj : j < xs.length := (List.getElem?_eq_some_iff.mp h).1
  have e : ixN xs.length (j : Int) = some j := by
    unfold ixN
    rw [if_pos (by omega), if_pos (by omega)]; simp
  unfold atI; rw [e]; exact h
/-! ### what may be subscripted -/
/-- what stands as an index of a plain subscript -/
def PlainIx (b : Expr) : Prop := ∀ o i, subscripted b false o i = operate [o, i] (getItem o i)
/-- a subscript by values -/
def IxR (X : Cx) (r : R2) : Prop :=
  ∀ (value slice : Expr) (pins : List (Addr × Obj)) (s : Shared) (σ : St) (H : Hp) (x y : V) (v u : Value) (Q : VK), Inv X pins σ H s → RelV x v → RelV y u → r x y H Q →
    subscripted slice false v u = operate [v, u] (getItem v u) → wpAny (model X.prog X.w) X.A (subscriptTail value slice v u) (EP X pins σ Q) X.xe s
/-- a call of a builtin's method by values: the receiver, the arguments -/
def MtR (X : Cx) (id : String) (r : V → List V → Hp → VK → Prop) : Prop :=
  ∀ (pins : List (Addr × Obj)) (s : Shared) (σ : St) (H : Hp) (x : V) (xs : List V) (v : Value) (us : List Value) (Q : VK), Inv X pins σ H s → RelV x v → Vals xs us → r x xs H Q →
    wpAny (model X.prog X.w) X.A (call (.builtin id) (v :: us)) (EP X pins σ Q) X.xe s
section
variable {X : Cx} {a b : Expr} {ta tb : TE} {pos : Pos}
/-- a[b] -/
theorem pe_ix {r : R2} (hr : IxR X r) (ha : PE X a ta) (hb : PE X b tb) (hs : PlainIx b) : PE X (.Subscript a b pos) (tOp r ta tb) := by
  intro pins s σ H Q I h
  exact Subscript_ (binT ha hb I h fun v u s2 x y H2 I2 rx ry q => hr a b pins s2 σ H2 x y v u Q I2 rx ry q (hs _ _))

def rIxL (K : PySem.W.Frag) : R2 := fun x y H Q => ∃ p xs i v, x = .ref p ∧ y = .int i ∧ SqL K H p xs ∧ atI xs i = some v ∧ Q v H
def rIxT (K : PySem.W.Frag) : R2 := fun x y H Q => ∃ p xs i v, x = .ref p ∧ y = .int i ∧ SqT K H p xs ∧ atI xs i = some v ∧ Q v H
def rIxS : R2 := fun x y H Q => ∃ z i c, x = .str z ∧ y = .int i ∧ z.length ≤ sizeLine ∧ atI z.cps.toList i = some c ∧ Q (.str ⟨#[c]⟩) H
theorem ix_list : IxR X (rIxL X.K) := by
  intro value slice pins s σ H x y v u Q I rx ry h hs
  obtain ⟨p, xs, i, z, rfl, rfl, hq, he, q⟩ := h
  cases rx
  obtain ⟨t, rfl⟩ := ry
  obtain ⟨its, r, pl, hz⟩ := I.list hq
  obtain ⟨j, h1, h2, h3, h4, h5⟩ := atI_get he
  obtain ⟨w, ew, rw'⟩ := r.get h2
  have hl := r.length
  have hn := line63
  have fin : EP X pins σ Q w s := ⟨z, H, I, rw', q⟩
  by_cases h0 : 0 ≤ i
  · have hj : i.toNat = j := by
      rw [seqIndex_of h0 h5] at h1
      exact Option.some.inj h1
    exact item_listR pl.isList h0 (by omega) (by rw [hj]; simpa using ew) fin hs
  · have hj : (i + (its.toArray.size : Int)).toNat = j := by
      rw [seqIndex_neg (by omega) h4] at h1
      rw [List.size_toArray, ← hl]
      exact Option.some.inj h1
    exact subscriptTail_builtinR (x := w) pl.isList.typeIs slot_list_getitem.lookup
      (wpAny_getItem_list_neg (Q := fun r s' => r = w ∧ EP X pins σ Q r s') pl.isList (by omega) (by rw [List.size_toArray] <;> omega) (by omega) (by rw [hj]; simpa using ew) ⟨rfl, fin⟩) hs
theorem ix_str : IxR X rIxS := by
  intro value slice pins s σ H x y v u Q I rx ry h hs
  obtain ⟨z, i, c, rfl, rfl, hz, he, q⟩ := h
  obtain ⟨t, rfl⟩ := rx
  obtain ⟨t', rfl⟩ := ry
  obtain ⟨j, h1, h2, h3, h4, h5⟩ := atI_get he
  have hl : z.cps.toList.length = z.length := by simp [Str.length]
  rw [hl] at h1 h4 h5
  have hn := line63
  exact tail_any (typeIs_str s z t) slot_str_getitem.lookup (getItem_str (c := c) (by
    have e1 : decide (i < -(2 ^ 63 : Int)) = false := decide_eq_false (by omega)
    have e2 : decide (i ≥ 2 ^ 63) = false := decide_eq_false (by omega)
    rw [e1, e2, Bool.or_false]) (by rw [h1]; simpa using h2) ⟨.str ⟨#[c]⟩, H, I.tok _, ⟨_, rfl⟩, q⟩) hs
/-- list, tuple or str -/
def rIx (K : PySem.W.Frag) : R2 := fun x y H Q => rIxL K x y H Q ∨ rIxT K x y H Q ∨ rIxS x y H Q
def rSetL : V → V → V → Hp → (Hp → Prop) → Prop := fun o i v H Q => ∃ p xs k j, o = .ref p ∧ i = .int k ∧ H p = some (.lst xs) ∧ ixN xs.length k = some j ∧ Q (upd H p (.lst (xs.set j v)))
/-! ### slices -/
theorem slice_bounds (lo hi : Option Int) (n : Nat) : (sliceBounds lo hi none n).1 = ((HT.sIx n 0 lo : Nat) : Int) ∧ (sliceBounds lo hi none n).2.1 = ((HT.sIx n n hi : Nat) : Int) ∧ (sliceBounds lo hi none n).2.2 = 1 := by
  refine ⟨?_, ?_, rfl⟩
  · cases lo with
    | none => simp [sliceBounds, HT.sIx]
    | some i =>
      simp only [sliceBounds, HT.sIx, Option.getD_none, show (1 : Int) > 0 by decide, if_true]
      by_cases h : i < 0
      · simp only [h, if_true] <;> omega
      · simp only [h, if_false] <;> omega
  · cases hi with
    | none => simp [sliceBounds, HT.sIx]
    | some i =>
      simp only [sliceBounds, HT.sIx, Option.getD_none, show (1 : Int) > 0 by decide, if_true]
      by_cases h : i < 0
      · simp only [h, if_true] <;> omega
      · simp only [h, if_false] <;> omega
theorem slicePick_cut (its : List Value) (lo hi : Option Int) : slicePick its.toArray lo hi none = ((its.drop (HT.sIx its.length 0 lo)).take (HT.sIx its.length its.length hi - HT.sIx its.length 0 lo)).toArray := by
  obtain ⟨h1, h2, h3⟩ := slice_bounds lo hi its.toArray.size
  unfold slicePick
  rw [h1, h2, h3]
  simp only [sliceRange_one, pick_run, List.size_toArray] <;> rfl
/-- xs[lo:hi] of a list: a new list -/
def rSlL (K : PySem.W.Frag) : V → Option Int → Option Int → Hp → VK → Prop := fun x lo hi H Q => ∃ a xs, x = .ref a ∧ SqL K H a xs ∧ ∀ p, H p = none → Q (.ref p) (upd H p (.lst (cutV xs lo hi)))
theorem sl_list : SlR X (rSlL X.K) := by
  intro pins s σ H x v vl vu lo hi sl Q I rx hs pl pu h
  obtain ⟨a, xs, rfl, hx, q⟩ := h
  cases rx
  obtain ⟨its, r, ht, hz⟩ := I.list hx
  have hlen := r.length
  refine ⟨"list", _, slot_list_getitem.lookup, ht.isList.typeIs, ?_⟩
  refine wpAny_getItem_list_slice ht.isList hs pl pu .none (by simp) ?_ (by rw [List.size_toArray] <;> omega)
  rw [slicePick_cut, ← hlen]
  refine ⟨.ref s.heap.objs.size, _, I.laid (t' := s.toks) (o := .lst (cutV xs lo hi)) (fun b ob q => Heap.get?_push_of_some _ q) (Nat.le_refl _) ?_, rfl, q _ (I.hok.fresh (Nat.le_refl _))⟩
  exact ⟨Nat.le_trans (cutV_length xs lo hi) hz, _, 0, (r.drop (HT.sIx xs.length 0 lo)).take (HT.sIx xs.length xs.length hi - HT.sIx xs.length 0 lo), Heap.get?_push_size _ rfl⟩

/-! ### in, not in: flat items -/
def flatV : V → Bool
  | .non => true
  | .bl _ => true
  | .int _ => true
  | .str _ => true
  | _ => false
/-- == of flat values -/
def eqV : V → V → Bool
  | .non, .non => true
  | .bl a, .bl b => a == b
  | .bl a, .int b => (if a then 1 else 0) == b
  | .int a, .bl b => a == (if b then 1 else 0)
  | .int a, .int b => a == b
  | .str a, .str b => a == b
  | _, _ => false
theorem eqAt_V {A : Around} {s : Shared} {y x : V} {u v : Value} (ry : RelV y u) (rx : RelV x v) (fy : flatV y = true) (fx : flatV x = true) : SeqAt.EqAt A s u v (eqV y x) := by
  cases y with
  | non =>
    cases ry
    cases x with
    | non => cases rx; exact SeqAt.EqAt.same _
    | bl b => cases rx; exact SeqAt.EqAt.none_bool b
    | int b => obtain ⟨t, rfl⟩ := rx; exact SeqAt.EqAt.none_int b t
    | str b => obtain ⟨t, rfl⟩ := rx; exact SeqAt.EqAt.none_str b t
    | _ => exact absurd (show false = true from fx) Bool.false_ne_true
  | bl a =>
    cases ry
    cases x with
    | non => cases rx; exact SeqAt.EqAt.bool_none a
    | bl b => cases rx; exact SeqAt.EqAt.bool_bool a b
    | int b => obtain ⟨t, rfl⟩ := rx; exact SeqAt.EqAt.bool_int a b t
    | str b => obtain ⟨t, rfl⟩ := rx; exact SeqAt.EqAt.bool_str a b t
    | _ => exact absurd (show false = true from fx) Bool.false_ne_true
  | int a =>
    obtain ⟨t', rfl⟩ := ry
    cases x with
    | non => cases rx; exact SeqAt.EqAt.int_none a t'
    | bl b => cases rx; exact SeqAt.EqAt.int_bool a t' b
    | int b => obtain ⟨t, rfl⟩ := rx; exact SeqAt.EqAt.int_int a t' b t
    | str b => obtain ⟨t, rfl⟩ := rx; exact SeqAt.EqAt.int_str a t' b t
    | _ => exact absurd (show false = true from fx) Bool.false_ne_true
  | str a =>
    obtain ⟨t', rfl⟩ := ry
    cases x with
    | non => cases rx; exact SeqAt.EqAt.str_none a t'
    | bl b => cases rx; exact SeqAt.EqAt.str_bool a t' b
    | int b => obtain ⟨t, rfl⟩ := rx; exact SeqAt.EqAt.str_int a t' b t
    | str b => obtain ⟨t, rfl⟩ := rx; exact SeqAt.EqAt.str_str a t' b t
    | _ => exact absurd (show false = true from fx) Bool.false_ne_true
  | _ => exact absurd (show false = true from fy) Bool.false_ne_true
/-- the items' answers, read off the values (a value's own answer does not lean on its token) -/
def eqU (x : V) (u : Value) : Bool := match u with
  | .none => eqV .non x
  | .bool b => eqV (.bl b) x
  | .int i _ => eqV (.int i) x
  | .str z _ => eqV (.str z) x
  | _ => false
def inV (x : V) (xs : List V) : Bool := xs.any fun y => eqV y x
/-- x in a list or tuple of flat items -/
def rIn (K : PySem.W.Frag) (neg : Bool) : R2 := fun x y H Q => ∃ p xs, y = .ref p ∧ (SqL K H p xs ∨ SqT K H p xs) ∧ flatV x = true ∧ xs.all flatV = true ∧ Q (.bl (if neg then !inV x xs else inV x xs)) H
/-! ### len, list(x), tuple(x) of any list or tuple that is read -/
theorem call_len_seq : CallR X (.builtin "len") (fun xs H Q => ∃ p ys, xs = [.ref p] ∧ (SqL X.K H p ys ∨ SqT X.K H p ys) ∧ Q (.int ys.length) H) := by
  intro pins s σ H xs us Q I r h
  obtain ⟨p, ys, rfl, hq, q⟩ := h
  obtain ⟨u, rfl, rx⟩ := vals1 r
  cases rx
  have hn := line63
  rcases hq with hq | hq
  · obtain ⟨its, r', pl, hz⟩ := I.list hq
    have hlen := r'.length
    exact Calls.call_len_list pl.isList (by simp only [List.size_toArray] <;> omega) ⟨.int ys.length, H, I.tok _, ⟨s.toks + 1, by rw [List.size_toArray, hlen]⟩, q⟩
  · obtain ⟨its, r', pl, hz⟩ := I.tuple hq
    have hlen := r'.length
    exact len_tuple pl (by simp only [List.size_toArray] <;> omega) ⟨.int ys.length, H, I.tok _, ⟨s.toks + 1, by rw [List.size_toArray, hlen]⟩, q⟩
theorem call_len_str : CallR X (.builtin "len") (fun xs H Q => ∃ z, xs = [.str z] ∧ z.length ≤ sizeLine ∧ Q (.int z.length) H) := by
  intro pins s σ H xs us Q I r h
  obtain ⟨z, rfl, hz, q⟩ := h
  obtain ⟨u, rfl, t, rfl⟩ := vals1 r
  have hn := line63
  exact len_str (by omega) ⟨.int z.length, H, I.tok _, ⟨_, rfl⟩, q⟩
/-! ### the call of a builtin's method: o.m(..) -/
/-- the value is of that builtin type -/
def tyV (K : PySem.W.Frag) (T : String) (x : V) (H : Hp) : Prop := match x with
  | .str _ => T = "str"
  | .int _ => T = "int"
  | .ref p => (T = "list" ∧ ∃ xs, SqL K H p xs) ∨ (T = "tuple" ∧ ∃ o, K.lookup p = some o ∧ o.cls = .type "tuple" ∧ o.dict = none) ∨
      (T = "dict" ∧ ((∃ kvs, H p = some (.dK kvs)) ∨ ∃ kvs, H p = some (.dT kvs))) ∨ (T = "set" ∧ ∃ S n, H p = some (.set S n))
  | _ => False
theorem tyV_is {pins : List (Addr × Obj)} {σ : St} {H : Hp} {s : Shared} {T : String} {x : V} {v : Value} (I : Inv X pins σ H s) (r : RelV x v) (ty : tyV X.K T x H) :
    s.TypeIs v T ∧ ∀ a, v = .ref a → ∃ ob, s.heap.get? a = some ob ∧ ob.dict = none := by
  cases x with
  | str z =>
    obtain ⟨t, rfl⟩ := r
    cases (show T = "str" from ty)
    exact ⟨typeIs_str s z t, fun _ e => nomatch e⟩
  | int i =>
    obtain ⟨t, rfl⟩ := r
    cases (show T = "int" from ty)
    exact ⟨typeIs_int s i t, fun _ e => nomatch e⟩
  | ref p =>
    cases r
    rcases ty with ⟨rfl, xs, hq⟩ | ⟨rfl, o, hk, hc, hd⟩ | ⟨rfl, hk⟩ | ⟨rfl, S, n, hk⟩
    · obtain ⟨its, _, pl, _⟩ := I.list hq
      refine ⟨pl.isList.typeIs, fun a e => ?_⟩
      cases e
      obtain ⟨o, n, e, c, hd, _⟩ := pl
      exact ⟨o, e, hd⟩
    · refine ⟨⟨o, I.kIn p o hk, hc⟩, fun a e => ?_⟩
      cases e
      exact ⟨o, I.kIn _ o hk, hd⟩
    · have z : ∃ o, s.heap.get? p = some o ∧ o.ExactDict := by
        rcases hk with ⟨kvs, hk⟩ | ⟨kvs, hk⟩
        · obtain ⟨_, _, _, _, o, _, _, e, ex, _⟩ := I.hok p _ hk
          exact ⟨o, e, ex⟩
        · obtain ⟨_, _, _, _, o, _, _, e, ex, _⟩ := I.hok p _ hk
          exact ⟨o, e, ex⟩
      obtain ⟨o, e, ex⟩ := z
      refine ⟨⟨o, e, ex.1⟩, fun a e2 => ?_⟩
      cases e2
      exact ⟨o, e, ex.2.1⟩
    · obtain ⟨o, _, _, _, e, ex, _⟩ := I.hok p _ hk
      refine ⟨⟨o, e, ex.1⟩, fun a e2 => ?_⟩
      cases e2
      exact ⟨o, e, ex.2.1⟩
  | _ => exact False.elim ty
def tBM0 (K : PySem.W.Frag) (T : String) (r : V → List V → Hp → VK → Prop) (to : TE) : TE := fun σ H Q => to σ H fun x H1 => tyV K T x H1 ∧ r x [] H1 Q
def tBM (K : PySem.W.Frag) (T : String) (r : V → List V → Hp → VK → Prop) (to : TE) (t : TA) : TE := fun σ H Q => to σ H fun x H1 => tyV K T x H1 ∧ t σ H1 fun xs H2 => r x xs H2 Q
variable {o e : Expr} {es : List Expr} {to : TE} {t : TA} {name : Str} {apos cpos : Pos} {T id : String} {r : V → List V → Hp → VK → Prop}
theorem pe_bm (pa : PlainAttrs T) (slot : Slot T name id) (hty : typeOf (.builtin id) = pure (.type "method_descriptor")) (hm : MtR X id r) (ho : PE X o to) (ha : PA X (e :: es) t)
    (hbase : attributeBase o name X.env (eval o X.env) = eval o X.env := by rfl)
    (hfew : ((backTo cpos (starEach (e :: es) X.env)).all (fun x => !x.1) && (backToKw cpos (keywordEach [] X.env)).all (fun x => x.1.isSome)
      && decide ((e :: es).length + ([] : List Keyword).length + (if ([] : List Keyword).isEmpty then 0 else 1) < 30)) = true := by rfl)
    (hline : (apos.endLine == cpos.line) = true := by rfl) (hs : starEach (e :: es) X.env = (false, eval e X.env) :: starEach es X.env := by rfl) (hplain : (backTo cpos (starEach es X.env)).any (·.1) = false := by rfl) :
    PE X (.Call (.Attribute o name apos) (e :: es) [] cpos) (tBM X.K T r to t) := by
  intro pins s σ H Q I h
  refine wpAny_Call_method_late hbase hfew hline rfl (thn (ho pins s σ H _ I h) fun v s1 ⟨x, H1, I1, r1, ty, q1⟩ => ?_)
  obtain ⟨h1, h2⟩ := tyV_is I1 r1 ty
  refine ⟨T, id, pa, slot, hty, h1, h2, ?_⟩
  have hA := ha cpos pins s1 σ H1 _ I1 q1
  rw [hs] at hA ⊢
  refine Calls.callWith_builtin (by show (false || (backTo cpos (starEach es X.env)).any (·.1)) = false; rw [hplain] <;> rfl) (Calls.evalArgs_plain ?_)
  exact thn hA fun us s2 ⟨vs, H2, I2, r2, q2⟩ => hm pins s2 σ H2 x vs v us Q I2 r1 r2 q2
/- xs.append(e), list.index on a module's tuple .. are MtR facts of 06m -/
end
end L2

namespace L2
open PySem PySem.Spec PyProof.Rows

def MtM (X : Cx) (id : String) (r : V → List V → Hp → VK → Prop) : Prop :=
  ∀ (pins : List (Addr × Obj)) (s : Shared) (σ : St) (H : Hp) (x : V) (xs : List V) (v : Value) (us : List Value) (Q : VK), Inv X pins σ H s → RelV x v → Vals xs us → r x xs H Q →
    wpAny (model X.prog X.w) X.A (call (.builtin id) (v :: us)) (EP X pins σ Q) X.xe s

/-! ### lists of values -/
theorem Vals.one : ∀ {x : V} {us : List Value}, Vals [x] us → ∃ u, us = [u] ∧ RelV x u
  | _, _, .cons r .nil => ⟨_, rfl, r⟩
theorem Vals.rep {xs : List V} {us : List Value} (h : Vals xs us) : ∀ k : Nat, Vals (List.replicate k xs).flatten (List.replicate k us).flatten
  | 0 => .nil
  | k + 1 => by
    rw [List.replicate_succ, List.replicate_succ, List.flatten_cons, List.flatten_cons]
    exact Vals.append h (Vals.rep h k)
theorem foldl_rep (its : List Value) : ∀ (k : Nat) (acc : List Value),
    List.foldl (fun x1 x2 => x1 ++ x2) acc.toArray (List.replicate k its.toArray) = (acc ++ (List.replicate k its).flatten).toArray
  | 0, acc => by simp
  | k + 1, acc => by
    have e : acc.toArray ++ its.toArray = (acc ++ its).toArray := by simp
    have e2 : (acc ++ its) ++ (List.replicate k its).flatten = acc ++ (List.replicate (k + 1) its).flatten := by
      rw [List.replicate_succ, List.flatten_cons, List.append_assoc]
    rw [← e2, ← foldl_rep its k (acc ++ its), ← e, List.replicate_succ, List.foldl_cons]

section
variable {X : Cx} {pins : List (Addr × Obj)} {σ : St} {H : Hp} {s : Shared} {l b : Addr} {xs ys zs : List V}

/-! ### the two steps: a tracked list is rewritten, a new list is laid -/
theorem Inv.lset {its its' : List Value} {n : Nat} {f : Array Value → Array Value} {t' : Nat} (I : Inv X pins σ H s) (hH : H l = some (.lst xs))
    (e : s.heap.get? l = some { cls := .type "list", data := .seq its.toArray n }) (hf : f its.toArray = its'.toArray) (hv : Vals ys its') (hz : ys.length ≤ sizeLine) :
    Inv X pins σ (upd H l (.lst ys)) { s with heap := s.heap.update l (Obj.mapSeq f), toks := t' } := by
  have q := PySem.IsL.update e f
  rw [hf] at q
  refine I.write (x := l) (e := l) (by rw [hH]; exact trivial) (.inl rfl) (fun b' u hb hu => (Heap.get?_update_other s.heap (Obj.mapSeq f) (Ne.symm hb)).trans hu) ⟨_, q⟩ ?_
  exact ⟨hz, its', _, hv, q⟩
theorem Inv.lnew {its : List Value} {t' : Nat} (I : Inv X pins σ H s) (hv : Vals ys its) (hz : ys.length ≤ sizeLine) :
    Inv X pins σ (upd H s.heap.objs.size (.lst ys)) { s with heap := s.heap.push { cls := .type "list", data := .seq its.toArray }, toks := t' } :=
  I.laid (fun _ _ q => Heap.get?_push_of_some _ q) (Nat.le_refl _) ⟨hz, its, 0, hv, Heap.get?_push_size _ rfl⟩
theorem Inv.fresh (I : Inv X pins σ H s) : H s.heap.objs.size = none := I.hok.fresh (Nat.le_refl _)
theorem Inv.lstM (I : Inv X pins σ H s) (hH : H l = some (.lst xs)) : xs.length ≤ sizeLine ∧ ∃ (its : List Value) (n : Nat), Vals xs its ∧ xs.length = its.length ∧ s.heap.get? l = some { cls := .type "list", data := .seq its.toArray n } := by
  obtain ⟨z, its, n, r, e⟩ := I.hok l _ hH
  exact ⟨z, its, n, r, r.length, e⟩

theorem notLongL {n : Nat} (h : n ≤ sizeLine) : Builtin.List.listTooLong n = false := by
  unfold Builtin.List.listTooLong
  exact decide_eq_false (by omega)
end

section
variable {X : Cx}

/-! ### methods -/
def rAppend : V → List V → Hp → VK → Prop := fun x vs H Q => ∃ l xs y, x = .ref l ∧ vs = [y] ∧ H l = some (.lst xs) ∧ xs.length < sizeLine ∧ Q .non (upd H l (.lst (xs ++ [y])))
theorem mt_append : MtM X "list.append" rAppend := by
  intro pins s σ H x vs v us Q I rx rv h
  obtain ⟨l, xs, y, rfl, rfl, hH, hz, q⟩ := h
  cases rx
  obtain ⟨u, rfl, ru⟩ := rv.one
  obtain ⟨z, its, n, r, hl, e⟩ := I.lstM hH
  refine call_meets F.slot_list_append ⟨_, e, rfl⟩ F.entry_list_append (F.args_list_append_2 _ _) (PySem.list_append l its.toArray n u (by rw [List.size_toArray]; omega)) ⟨e, ?_⟩
  refine ⟨.non, _, I.lset (its' := its ++ [u]) hH e (by simp) (r.append (.cons ru .nil)) ?_, rfl, q⟩
  rw [List.length_append, List.length_singleton]
  omega

def rExtend : V → List V → Hp → VK → Prop := fun x vs H Q => ∃ l b xs zs, x = .ref l ∧ vs = [.ref b] ∧ H l = some (.lst xs) ∧ H b = some (.lst zs) ∧ xs.length + zs.length ≤ sizeLine ∧ Q .non (upd H l (.lst (xs ++ zs)))
def rPop : V → List V → Hp → VK → Prop := fun x vs H Q => ∃ l xs y, x = .ref l ∧ vs = [] ∧ H l = some (.lst xs) ∧ xs[xs.length - 1]? = some y ∧ Q y (upd H l (.lst xs.dropLast))
def rPopAt : V → List V → Hp → VK → Prop := fun x vs H Q => ∃ l xs i k y, x = .ref l ∧ vs = [.int i] ∧ H l = some (.lst xs) ∧ -(2 ^ 63) ≤ i ∧ i < 2 ^ 63 ∧ seqIndex? i xs.length = some k ∧ xs[k]? = some y ∧ Q y (upd H l (.lst (xs.eraseIdx k)))
def rReverse : V → List V → Hp → VK → Prop := fun x vs H Q => ∃ l xs, x = .ref l ∧ vs = [] ∧ H l = some (.lst xs) ∧ Q .non (upd H l (.lst xs.reverse))
def rClear : V → List V → Hp → VK → Prop := fun x vs H Q => ∃ l xs, x = .ref l ∧ vs = [] ∧ H l = some (.lst xs) ∧ Q .non (upd H l (.lst []))
/-! ### list + list, list += list, list * int -/
def rCat : R2 := fun x y H Q => ∃ l b xs zs, x = .ref l ∧ y = .ref b ∧ H l = some (.lst xs) ∧ H b = some (.lst zs) ∧ xs.length + zs.length ≤ sizeLine ∧ ∀ p, H p = none → Q (.ref p) (upd H p (.lst (xs ++ zs)))
/-- a list times an int (a negative one is nothing) -/
def rRep : R2 := fun x y H Q => ∃ l k xs, x = .ref l ∧ y = .int k ∧ H l = some (.lst xs) ∧ -(2 ^ 63) ≤ k ∧ k < 2 ^ 63 ∧ xs.length * k.toNat ≤ sizeLine ∧
  ∀ p, H p = none → Q (.ref p) (upd H p (.lst (List.replicate k.toNat xs).flatten))
theorem len_rep {α : Type} (xs : List α) (k : Nat) : (List.replicate k xs).flatten.length = k * xs.length := by
  induction k with
  | zero => simp
  | succ k ih => rw [List.replicate_succ, List.flatten_cons, List.length_append, ih, Nat.succ_mul, Nat.add_comm]
end

/-! ### xs[a:b] = ys -/
section
variable {prog : Program} {w : World} {A : Around} {E : Value → Shared → Prop} {s : Shared}
set_option maxRecDepth 100000 in
end

section
variable {X : Cx}
end
end L2

namespace Att
open PySem PySem.W PySem.Calls PyProof.Rows

/-! ### the script -/
theorem ints_of_wellAll {P : Params} {h : Heap} : ∀ (ns : List Int) (vs : List Value), WellAll P h vs (ns.map WData.int) → IntsAre vs ns := by
  intro ns
  induction ns with
  | nil =>
    intro vs w
    rw [List.map_nil] at w
    cases w
    exact .nil
  | cons n ns ih =>
    intro vs w
    rw [List.map_cons] at w
    cases w with
    | cons a b =>
      cases a
      exact .cons _ _ (ih _ b)

theorem script_of {l : OpenLaw} {n : Nat} (hn : l.most = some n) {P : Params} {h : Heap} {args : List WData} {vals : List Value}
    (hpre : l.row.toRowW.claim.pre args = true) (hwl : WellAll P h vals args) :
    ∃ a vs ns, vals = [Value.ref a] ∧ args = [WData.list (ns.map WData.int)] ∧ h.get? a = some { cls := .type "list", data := .seq vs.toArray } ∧ IntsAre vs ns ∧ ns.length ≤ n := by
  have hsh : WShape.hasAll [] args [.list .int] = true := (pre_splitW hpre).1
  have hc : l.pre.holds [] { args := args } = true := (pre_splitW hpre).2
  obtain ⟨d, r, rfl, h1, h2⟩ := hasAllW_cons hsh
  obtain rfl := hasAllW_nil h2
  obtain ⟨xs, rfl, h3⟩ := hasW_list h1
  obtain ⟨ns, rfl⟩ := items_int h3
  have hlen : ns.length ≤ n := by
    unfold OpenLaw.pre at hc
    have h4 : (WTm.not (.lt (.lit (.int (n : Int))) (.len (.arg 0)))).holds [] { args := [.list (ns.map .int)] } = true := by
      have h4 := (holds_andW hc).1
      rw [hn] at h4
      exact h4
    have h5 := condW_of h4 (w_not (w_lt w_lit (w_len_list (w_arg rfl))))
    rw [List.length_map] at h5
    refine Nat.le_of_not_lt fun q => ?_
    have q' : (n : Int) < ((ns.length : Nat) : Int) := by omega
    first
      | (rw [decide_eq_true q'] at h5; exact absurd h5 (by decide))
      | (simp at h5; omega)
  cases hwl with
  | cons w1 w2 =>
    cases w2
    cases w1 with
    | list ho hall => exact ⟨_, _, ns, rfl, rfl, ho, ints_of_wellAll ns _ hall, hlen⟩

theorem post_true (l : OpenLaw) (args : List WData) : l.row.toRowW.claim.post args (.bool true) args = true :=
  postW_of (r := l.row.toRowW) (X := (true == true))
    (show WShape.has [] (.bool true) .bool = true by first | rfl | decide | simp [WShape.has, WShape.arms, WShape.armsAll])
    (show (WTm.eq .res (.lit (.bool true))).value [] { args := args, res := some (.bool true), after := args } = some (.bool (true == true)) from w_eq_bool (w_res rfl) w_lit) rfl

/-- the same from a codeAny of the CALL (for a layer whose function contracts speak of calls) -/
theorem attach_call {l : OpenLaw} {n : Nat} {q : Program} {loose : List Str} {XP : (Str → Option Value) → Heap → Prop} {YP : World → Heap → Prop} {d : DefRec}
    (hn : l.most = some n) (hdf : d.params.defaults = [])
    (call : ∀ (w : World) (s₀ s₁ : Shared) (mg mb : Str → Option Value) (fa : Addr) (o : Obj) (pm cd doc : Value) (a : Addr) (vs : List Value) (ns : List Int),
      Ground q loose [] XP w s₀ mg mb s₁.heap → YP w s₁.heap →
      s₁.heap.get? fa = some o → o.data = .func (docDef d.name d.params d.body d.scope pm cd doc) → s₁.heap.CodeRec cd d.name → mg d.name = some (.ref fa) →
      s₁.heap.get? a = some { cls := .type "list", data := .seq vs.toArray } → IntsAre vs ns → ns.length ≤ n → s₁.gens = #[] →
      codeAny (model l.prog w) callerA (.call (.ref fa) ⟨[.ref a], []⟩) (fun r s' => r = .ok (.ret (.bool true)) ∧ OldK s₁.heap s'.heap ∧ s'.os = s₁.os ∧ AllBare s'.gens) s₁) :
    WalkO q loose XP YP l.row.toRowW d [] (fun f vs => PySem.call f vs) := by
  intro w s₀ s₁ mg mb G Y fa o pm cd doc dV kV ho hd hcd hD hmg hg args vals as hpre hlay hrd hwl hlo
  obtain rfl : dV = .none := Dflts.none hD hdf
  obtain rfl : kV = .none := Dflts.noKw hD
  obtain ⟨a, vs, ns, rfl, rfl, hobj, hints, hlen⟩ := script_of hn hpre hwl
  refine enter_call (codeAny_mono (call w s₀ s₁ mg mb fa o pm cd doc a vs ns G Y ho (fd_plain hd) hcd hmg hobj hints hlen hg) fun r s' hq => ?_)
  obtain ⟨rfl, h2, h3, h4⟩ := hq
  exact ⟨.inl ⟨.bool true, .bool true, [], rfl, fun _ => rfl, .bool true, post_true l _, fun _ => ⟨List.Pairwise.nil, fun _ hm => (nomatch hm)⟩⟩, h2, h3, h4⟩

/-! ### rules over ANY heap (no ledger) from facts about the written part K: the library's own take a ledger (News) for what they write -/
section
variable {prog : Program} {w : World} {A : Around} {E : Value → Shared → Prop} {s : Shared} {K : Frag}

/-! the whole heap as the ledger: makes every rule that writes through a ledger a rule over any heap -/
def noObjs (h : Heap) : Heap := { h with objs := #[] }
def ledger (h : Heap) (L d : Addr) : List (Addr × Obj) := (List.range h.objs.size).filterMap fun a => if a = L ∨ a = d then none else (h.get? a).map fun o => (a, o)
end
end Att

namespace L2
open PySem PySem.Spec PyProof.Rows

theorem vals_ints : ∀ {vs : List Value} {ns : List Int}, IntsAre vs ns → Vals (ns.map V.int) vs
  | _, _, .nil => .nil
  | _, _, .cons n t h => .cons ⟨t, rfl⟩ (vals_ints h)

/-- nothing is tracked but the script, known to the object (or it is an object of the module) -/
def Only (H : Hp) : Prop := ∀ b, H b = none ∨ ∃ o xs, H b = some (.frz o (.lst xs))

/-- THE HEAD: the law's promise, at the heap behind the top. F, the promise of the law's def, may use that base is part of the heap (so K.In base, base.Ns mainGlobals mg stand in Mod) -/
theorem law_call {P : Program} {w : World} {K : PySem.W.Frag} {mg mb : Str → Option Value} {CX : CXT} {k : Nat} {fa a : Addr} {fd : FuncData} {x : Str} {sp : Sp} {s₁ : Shared} {vs : List Value} {ns : List Int}
    (KX : K.In s₁.heap) (hns : s₁.heap.Ns mainGlobals mg) (hb : s₁.heap.Ns builtinsNs mb) (hbb : ∀ x : Str, x ≠ "__name__" → mb x = bootBuiltins x) (hlim : s₁.heap.NoLimit) (hg : s₁.gens = #[])
    (ha : s₁.heap.get? a = some { cls := .type "list", data := .seq vs.toArray }) (hi : IntsAre vs ns) (hl : ns.length ≤ sizeLine) (hr : Room k callerA)
    (F : ∀ base : Heap, K.In base → base.Ns mainGlobals mg → FnOk P w K mg base CX k fa fd [x] sp) (hbind : ∀ (s : Shared) (u : Value), BindsTo s fd ⟨[u], []⟩ [(x, u)])
    (hsp : ∀ H : Hp, Only H → SqL K H a (ns.map V.int) → sp [.ref a] H (fun v _ => v = .bl true) fun _ _ _ => False)
    (hCX : ∀ H e s', CX [] H s₁ (fun _ _ _ => False) e s' → False) :
    codeAny (model P w) callerA (.call (.ref fa) ⟨[.ref a], []⟩) (fun r s' => r = .ok (.ret (.bool true)) ∧ OldK s₁.heap s'.heap ∧ s'.os = s₁.os ∧ AllBare s'.gens) s₁ := by
  have rv := vals_ints hi
  have lenV := hi.length
  -- from an abstract heap in which nothing but the script may be tracked
  have core : ∀ H : Hp, Only H → SqL K H a (ns.map V.int) → HOk P w H s₁.heap → (∀ b, H b ≠ none → b = a) → (H a ≠ none → K.lookup a = none) →
      codeAny (model P w) callerA (.call (.ref fa) ⟨[.ref a], []⟩) (fun r s' => r = .ok (.ret (.bool true)) ∧ OldK s₁.heap s'.heap ∧ s'.os = s₁.os ∧ AllBare s'.gens) s₁ := by
    intro H hO hS hok hA hK
    have base_of : ∀ {b : Addr} {o : Obj}, s₁.heap.get? b = some o → H b = none → (hidT s₁.heap H).get? b = some o := fun e n => hidT_get e n
    have noA : ∀ {b : Addr} {o : Obj} {es : Array DictEntry} {ep : Nat}, s₁.heap.get? b = some o → o.data = .dict es ep → H b = none := fun {b o es ep} e d => by
      cases q : H b with
      | none => rfl
      | some u =>
        have e' : b = a := hA b (by rw [q]; simp)
        subst e'
        rw [ha] at e; cases e
        have d' : Data.seq vs.toArray _ = Data.dict es ep := d
        cases d'
    have nsK : ∀ {b : Addr} {m : Str → Option Value}, s₁.heap.Ns b m → (hidT s₁.heap H).Ns b m := fun {b m} ⟨o, es, ep, e, d, r⟩ => ⟨o, es, ep, base_of e (noA e d), d, r⟩
    have hKb : K.In (hidT s₁.heap H) := fun b o e => base_of (KX b o e) (by
      cases q : H b with
      | none => rfl
      | some u =>
        have e' : b = a := hA b (by rw [q]; simp)
        subst e'
        rw [hK (by rw [q]; simp)] at e; cases e)
    have hM : Mod K mg (hidT s₁.heap H) := ⟨hKb, nsK hns, ⟨mb, nsK hb, hbb⟩, let ⟨mc, h1, h2⟩ := hlim; ⟨mc, nsK h1, h2⟩⟩
    have e0 : Env0 P w K mg (hidT s₁.heap H) callerA [] s₁ H := ⟨rfl, hM, fun b o e => of_hidT e, Nat.le_of_eq (hidT_size _ _), trivial, fun b hb => absurd (show b ∈ ([] : List Addr) from hb) (by simp), hok, .of_eq hg⟩
    refine codeAny_mono ((F _ hKb (nsK hns)).run callerA [] s₁ H ⟨[.ref a], []⟩ [.ref a] [.ref a] _ _ hr e0 (hbind s₁ (.ref a)) (.cons rfl .nil) (hsp H hO hS)) fun r s' h => ?_
    cases r with
    | error e => exact (hCX H e s' h).elim
    | ok fl =>
      cases fl with
      | next => exact False.elim h
      | brk => exact False.elim h
      | cont => exact False.elim h
      | ret u =>
        obtain ⟨v, H', os, bare, un, hok', r', q⟩ := h
        have q' : v = .bl true := q
        subst q'
        obtain rfl : u = Value.bool true := r'
        refine ⟨rfl, OldK.of_keep fun b o e => ?_, os, bare⟩
        cases q : H b with
        | none => exact un.keep b o e q (by intro z; exact absurd (show b ∈ ([] : List Addr) from z) (by simp)) (by simp)
        | some u =>
          rcases hO b with z | ⟨ob, xs, z⟩
          · rw [q] at z; cases z
          · have z2 := un.frzs b ob _ z
            obtain ⟨e1, _⟩ := hok b _ z
            obtain ⟨e2, _⟩ := hok' b _ z2
            rw [e] at e1; cases e1
            exact e2
  cases hk : K.lookup a with
  | some o =>
    -- the script is one of the module's own objects
    have e := KX a o hk
    rw [ha] at e
    cases e
    refine core (fun _ => none) (fun _ => .inl rfl) (.inr ⟨_, vs.toArray, _, hk, rfl, rfl, rfl, by rw [List.size_toArray, lenV]; exact hl, by simpa using rv⟩) (fun b u z => by have z' : (none : Option HO) = some u := z; cases z') (fun b z => absurd rfl z) fun z => absurd rfl z
  | none =>
    refine core (fun b => if b = a then some (.frz { cls := .type "list", data := .seq vs.toArray } (.lst (ns.map V.int))) else none) (fun b => ?_) (.inl (.inr ⟨{ cls := .type "list", data := .seq vs.toArray }, if_pos rfl⟩)) (fun b u z => ?_) (fun b z => ?_) fun _ => hk
    · by_cases hb : b = a
      · exact .inr ⟨_, _, if_pos hb⟩
      · exact .inl (if_neg hb)
    · by_cases hb : b = a
      · have z' := (if_pos hb).symm.trans z
        cases z'
        subst hb
        exact ⟨ha, by rw [List.length_map]; exact hl, vs, _, rv, ha⟩
      · have z' := (if_neg hb).symm.trans z
        cases z'
    · by_cases hb : b = a
      · exact hb
      · exact absurd (if_neg hb) z
end L2

namespace L2
open PySem PySem.Spec PyProof.Rows

abbrev KOf {K : PySem.W.Frag} {h : Heap} (_ : K.In h) : PySem.W.Frag := K

/-- the goal that k_head leaves (case hc), from the law's promise. F gives the function object fd (K's own) once, then the promise over every base -/
theorem walk_of {l : PySem.W.OpenLaw} {n k : Nat} {q : Program} {loose : List Str} {XP : (Str → Option Value) → Heap → Prop} {YP : World → Heap → Prop} {d : DefRec} {K : Params → PySem.W.Frag} {CX : World → CXT} {sp : World → Sp} {x : Str}
    (hn : l.most = some n) (hn2 : n ≤ sizeLine) (hdf : d.params.defaults = []) (hr : Room k callerA)
    (hY : ∀ (w : World) (h : Heap), YP w h → (K w.params).In h)
    (F : ∀ (w : World) (mg : Str → Option Value) (fa : Addr) (h : Heap), (K w.params).In h → h.Ns mainGlobals mg → mg d.name = some (.ref fa) →
      ∃ fd : FuncData, (∀ (s : Shared) (u : Value), BindsTo s fd ⟨[u], []⟩ [(x, u)]) ∧
        ∀ base : Heap, (K w.params).In base → base.Ns mainGlobals mg → FnOk l.prog w (K w.params) mg base (CX w) k fa fd [x] (sp w))
    (hsp : ∀ (w : World) (H : Hp) (a : Addr) (ns : List Int), ns.length ≤ n → Only H → SqL (K w.params) H a (ns.map V.int) → sp w [.ref a] H (fun v _ => v = .bl true) fun _ _ _ => False)
    (hCX : ∀ (w : World) (H : Hp) (s : Shared) (e : Value) (s' : Shared), CX w [] H s (fun _ _ _ => False) e s' → False) :
    PySem.W.WalkO q loose XP YP l.row.toRowW d [] (fun f vs => PySem.call f vs) := by
  refine Att.attach_call hn hdf fun w s₀ s₁ mg mb fa o pm cd doc a vs ns G Y ho hd hcd hmg hobj hints hlen hg => ?_
  have KX := hY w _ Y
  obtain ⟨fd, hb, hF⟩ := F w mg fa _ KX G.T.g hmg
  exact law_call KX G.T.g G.T.b G.T.builtins G.T.nolimit hg hobj hints (Nat.le_trans hlen hn2) hr hF hb (fun H hO hS => hsp w H a ns hlen hO hS) fun H e s' => hCX w H s₁ e s'
end L2

/- THE LAST THEOREM (shape; LID, My.* are yours):
   My.Adr: a structure of the addresses that your layer names (classes, functions); My.Txt K t: a structure (Prop) of the equations over K;
   My.txt_mk : {K} {implicit addresses ..} (e1 : nsIn K mainGlobals "law" = some (some (.ref f))) (e2 : K.lookup f = some ⟨oc, od, .func (fnOf "law" "law" params body scope dV kV doc pm an cdv ct), sl⟩) (e3 : codeIn K cdv "law" = true) .. : ∃ t, My.Txt K t

set_option maxRecDepth 100000 in
set_option maxHeartbeats 0 in
theorem PySem.Challenge.cw_LID_holds : PySem.Challenge.rw_LID.Holds := by
  w_on; o_law; k_head; (case hw => w_witness2)
  k_fill
  refine L2.walk_of (l := PySem.Challenge.rw_LID) (n := 63) (k := 40) (x := "script") (CX := fun w => ..) (sp := fun _ => My.sp_law) rfl (by decide) rfl ⟨rfl, by decide, by decide⟩ (fun w h Y => PySem.W.kIn_of Y) ?F ?S ?C
  case F =>
    intro w mg fa h KX G hmg
    have T : ∃ t, My.Txt (L2.KOf KX) t := by
      dsimp only [L2.KOf]                          -- K must stand as «<heap const> w.params» for k_is
      refine' My.txt_mk ?e1 ?e2 ?e3 ..
      (case e1 => PySem.W.k_is)                    -- in the order: a name -> its address -> its object -> its parts
      (case e2 => PySem.W.k_is)
      ..
    obtain ⟨t, T⟩ := T
    have e0 := hmg.symm.trans (PySem.W.mg_of KX G T.law)
    cases e0                                       -- fa is the law's own address
    exact ⟨_, fun s u => .of_eq rfl, fun base kb nb => My.law_fn T kb nb⟩     -- if «.of_eq rfl» comes too early: refine' ⟨_, ?b, fun base kb nb => My.law_fn T kb nb⟩; exact fun s u => .of_eq rfl
  case S => exact fun w H a ns hl hO hS => ..
  case C => exact ..
(the tactic k_is has no namespace: write k_is) -/

/-! SHORT WORDS over the layer: a def of the text, its body, what a loop and a test want. -/
namespace L2
open PySem PySem.Spec PyProof.Rows

/-! ### the text by places -/
/-- the j-th statement of a class's body -/
def inClass (s : Stmt) (j : Nat) : Stmt := match s with
  | .ClassDef _ _ _ body _ _ _ _ _ _ _ => body.getD j (.Pass ⟨0, 0, 0, 0⟩)
  | _ => .Pass ⟨0, 0, 0, 0⟩
def defArgs (s : Stmt) : Arguments := match s with
  | .FunctionDef _ a _ _ _ _ _ _ _ _ => a
  | _ => { posonlyargs := [], args := [], vararg := none, kwonlyargs := [], kw_defaults := [], kwarg := none, defaults := [] }
def defBody (s : Stmt) : List Stmt := match s with
  | .FunctionDef _ _ b _ _ _ _ _ _ _ => b
  | _ => []
def defScope (s : Stmt) : Scope := match s with
  | .FunctionDef _ _ _ _ _ _ sc _ _ _ => sc
  | _ => { kind := .function, names := [], isGenerator := false, isCoroutine := false }

/-! ### no exception leaves a def -/
abbrev CX0 : CXT := fun _ _ _ _ _ _ => False
abbrev E0 : XK := fun _ _ _ => False
theorem pass0 {X : Cx} : Passes CX0 X E0 := fun _ _ _ _ _ _ _ h => h.elim

/-! ### a def (or method) of the text as it stands behind the top -/
structure Fun (K : PySem.W.Frag) (x qual : Str) (st : Stmt) (f : Addr) (fd : FuncData) : Prop where
  ex : ∃ (oc : Value) (od : Option Addr) (kV doc pm : Value) (an : Option Addr) (cdv ct : Value) (osl : Array (Option Value)),
    fd = PySem.W.fnOf x qual (defArgs st) (defBody st) (defScope st) .none kV doc pm an cdv ct ∧ K.lookup f = some ⟨oc, od, .func fd, osl⟩ ∧ PySem.W.codeIn K cdv qual = true
  kp : PySem.W.keepIn K (.ref f) = true
section
variable {P : Program} {w : World} {K : PySem.W.Frag} {mg : Str → Option Value} {base : Heap}
/-- THE RULE for a def: its body as a term of rules, and the reading of that term -/
theorem Fun.ok {x qual : Str} {st : Stmt} {f : Addr} {fd : FuncData} {N ps : List Str} {k : Nat} {sp : Sp} (F : Fun K x qual st f fd) (S : FnScope N ps (defScope st)) (len : ∀ vs H Q E, sp vs H Q E → vs.length = ps.length)
    (hbody : ∀ (cdv : Value) (A : Around) (outer : List Env) (s : Shared) (H : Hp) (vs : List V) (Q : VK) (E : XK), Room k (A.deeper (envOfC qual (defScope st) s.heap.objs.size f cdv)) → sp vs H Q E →
      ∃ t, PSs (cxOf CX0 P w K mg base N qual (defScope st) f cdv A outer s H E).nox (defBody st) t ∧ t { nx := fun _ H' => Q .non H', rt := Q } (start N vs) H) : FnOk P w K mg base CX0 (k + 1) f fd ps sp := by
  obtain ⟨oc, od, kV, doc, pm, an, cdv, ct, osl, rfl, lk, hcd⟩ := F.ex
  refine fn_of lk hcd S len fun A outer s H vs Q E hr hsp => ?_
  obtain ⟨t, h, q⟩ := hbody cdv A outer s H vs Q E hr hsp
  exact ⟨t, h.nox, q⟩
/-- how its arguments bind (no defaults): h is «fun _ _ _ _ _ _ us hl => match us, hl with | [_, _], _ => rfl», one _ a parameter -/
theorem Fun.binds {x qual : Str} {st : Stmt} {f : Addr} {fd : FuncData} {ps : List Str} (F : Fun K x qual st f fd)
    (h : ∀ (kV doc pm : Value) (an : Option Addr) (cdv ct : Value) (us : List Value), us.length = ps.length → bindArgs (PySem.W.fnOf x qual (defArgs st) (defBody st) (defScope st) .none kV doc pm an cdv ct) ⟨us, []⟩ = pure (ps.zip us)) : Binds K fd ps [] := by
  obtain ⟨oc, od, kV, doc, pm, an, cdv, ct, osl, rfl, lk, hcd⟩ := F.ex
  exact .all (h kV doc pm an cdv ct)
theorem fun_mk {x qual : Str} {st : Stmt} {f : Addr} {oc : Value} {od an : Option Addr} {osl : Array (Option Value)} {kV doc pm cdv ct : Value} (l : K.lookup f = some ⟨oc, od, .func (PySem.W.fnOf x qual (defArgs st) (defBody st) (defScope st) .none kV doc pm an cdv ct), osl⟩)
    (c : PySem.W.codeIn K cdv qual = true) (k : PySem.W.keepIn K (.ref f) = true) : Fun K x qual st f (PySem.W.fnOf x qual (defArgs st) (defBody st) (defScope st) .none kV doc pm an cdv ct) := ⟨⟨oc, od, kV, doc, pm, an, cdv, ct, osl, rfl, l, c⟩, k⟩
end
theorem hu_of {A : Around} {k : Nat} (hr : Room k A) : A.units + 1 < cLine := Nat.lt_of_le_of_lt (Nat.add_le_add_left (by decide : 1 ≤ 64) _) hr.units
/-! ### expressions in short: the name that stands in the i-th slot -/
section
variable {X : Cx}
theorem pv (i : Nat) {x : Str} {pos : Pos} (hN : X.N[i]? = some x := by rfl) (hv : Vis X.env.scope x := by first | exact Or.inl rfl | exact Or.inr (Or.inl rfl) | exact Or.inr (Or.inr rfl)) (hd : (x == ("__debug__" : Str)) = false := by decide)
    (hcd : (x == ("__classdict__" : Str)) = false := by decide) : PE X (.Name x pos) (tVar i) := pe_var hN hv hd hcd
end

/-! ### tests -/
theorem iteF {A B : Prop} (h : B) : if false = true then A else B := by
  rw [if_neg Bool.false_ne_true]
  exact h
theorem iteT {A B : Prop} (h : A) : if true = true then A else B := by
  rw [if_pos rfl]
  exact h
theorem ite2 {c A B : Prop} [Decidable c] (h1 : c → A) (h2 : ¬ c → B) : if c then A else B := by
  by_cases h : c
  · rw [if_pos h]
    exact h1 h
  · rw [if_neg h]
    exact h2 h
theorem iteNS {c A B : Prop} [Decidable c] (hc : c) (h : B) : if (!decide c) = true then A else B := by
  rw [decide_eq_true hc]
  exact iteF h

/-! ### heaps -/
/-- all that was tracked is as it was -/
def Same (H H' : Hp) : Prop := ∀ b o, H b = some o → H' b = some o
theorem Same.refl (H : Hp) : Same H H := fun _ _ h => h
theorem Same.trans {H H1 H2 : Hp} (a : Same H H1) (b : Same H1 H2) : Same H H2 := fun c o h => b c o (a c o h)
theorem Same.seq {K : PySem.W.Frag} {H H' : Hp} {a : Addr} {xs : List V} (e : Same H H') (h : SqL K H a xs) : SqL K H' a xs := by
  rcases h with (h | ⟨o, h⟩) | h
  · exact .inl (.inl (e _ _ h))
  · exact .inl (.inr ⟨o, e _ _ h⟩)
  · exact .inr h

end L2

/-! Turns of a word, in plain lists. -/
namespace Wd
abbrev W := List Nat
theorem lele {a b c : W} (h : ¬ b < a) (h' : ¬ c < b) : ¬ c < a := fun hc => List.not_lt.mpr (List.le_trans (List.not_lt.mp h) (List.not_lt.mp h')) hc
def rot (k : Nat) (w : W) : W := w.drop k ++ w.take k
theorem ext_get {a b : W} (hl : a.length = b.length) (h : ∀ i, i < a.length → a[i]? = b[i]?) : a = b := by
  apply List.ext_getElem? 
  intro i
  by_cases hi : i < a.length
  · exact h i hi
  · rw [List.getElem?_eq_none (by omega), List.getElem?_eq_none (by omega)]
/-- the best so far, going through 1, 2, .. -/
def bestTo (w : W) : Nat → Nat
  | 0 => 0
  | n + 1 => if rot (n + 1) w < rot (bestTo w n) w then n + 1 else bestTo w n
def turnBy (w : W) : Nat := bestTo w (w.length - 1)
def leastTo (w : W) : Nat → W
  | 0 => w
  | n + 1 => if rot (n + 1) w < leastTo w n then rot (n + 1) w else leastTo w n
def least (w : W) : W := leastTo w (w.length - 1)
end Wd

/-! Primes, and a word parted into primes, in plain lists. -/
namespace Wd
/-- by turns -/
def Prime (w : W) : Prop := w ≠ [] ∧ ∀ k, 0 < k → k < w.length → w < rot k w
/-- by ends -/
def Ly (w : W) : Prop := w ≠ [] ∧ ∀ k, 0 < k → k < w.length → w < w.drop k
/-- text[i] for i up to m repeats with the period p -/
def Per (t : W) (p m : Nat) : Prop := ∀ i, p ≤ i → i < m → t[i]? = t[i - p]?
end Wd

/-! Roots. -/
namespace Wd
def rep (n : Nat) (l : W) : W := (List.replicate n l).flatten
theorem rep_succ (n : Nat) (l : W) : rep (n + 1) l = l ++ rep n l := by unfold rep; rw [List.replicate_succ, List.flatten_cons]
theorem rep_zero (l : W) : rep 0 l = [] := rfl
theorem rep_one (l : W) : rep 1 l = l := by rw [rep_succ, rep_zero, List.append_nil]
theorem rep_len (n : Nat) (l : W) : (rep n l).length = n * l.length := by
  induction n with
  | zero => rw [rep_zero, Nat.zero_mul]; rfl
  | succ n ih => rw [rep_succ, List.length_append, ih, Nat.succ_mul, Nat.add_comm]
theorem rep_get {l : W} {n i : Nat} (h : i < n * l.length) : (rep n l)[i]? = l[i % l.length]? := by
  induction n generalizing i with
  | zero => rw [Nat.zero_mul] at h; omega
  | succ n ih =>
    rw [rep_succ]
    rw [Nat.succ_mul] at h
    by_cases hi : i < l.length
    · rw [List.getElem?_append_left hi, Nat.mod_eq_of_lt hi]
    · rw [List.getElem?_append_right (by omega), ih (by omega)]
      congr 1
      rw [← Nat.mod_eq_sub_mod (by omega)]
/-- the letters stay where all go on by d -/
def Rp (w : W) (d : Nat) : Prop := ∀ i, w[i % w.length]? = w[(i + d) % w.length]?
/-- the root's length: the least that comes out whole -/
structure RootLen (w : W) (p : Nat) : Prop where
  pos : 0 < p
  le : p ≤ w.length
  is : rep (w.length / p) (w.take p) = w
  no : ∀ q, 0 < q → q < p → rep (w.length / q) (w.take q) ≠ w
end Wd
namespace Wd
end Wd

/-! One way to part a word. -/
namespace Wd
abbrev NI (ls : List W) : Prop := ls.Pairwise (fun a b => ¬ a < b)
end Wd

/-! Words and their numbers. -/
namespace Wd
/-- the n letters of number N over k kinds -/
def spell (k : Nat) : Nat → Nat → W
  | 0, _ => []
  | n + 1, N => spell k n (N / k) ++ [97 + N % k]
/-- the number of a word -/
def num (k : Nat) (w : W) : Nat := w.foldl (fun a c => a * k + (c - 97)) 0
/-- all words -/
def allW (k n : Nat) : List W := (List.range (k ^ n)).map (spell k n)
end Wd

/-! Windows of rows and rings. -/
namespace Wd
/-- n letters from place i on, going round -/
def ringAt (t : W) (n i : Nat) : W := (List.range n).map fun k => t.getD ((i + k) % t.length) 0
theorem ringAt_len (t : W) (n i : Nat) : (ringAt t n i).length = n := by rw [ringAt, List.length_map, List.length_range]
theorem ringAt_get {t : W} {n i k : Nat} (h : k < n) (ht : 0 < t.length) : (ringAt t n i)[k]? = t[(i + k) % t.length]? := by
  rw [ringAt, List.getElem?_map, List.getElem?_range h]
  show some (t.getD ((i + k) % t.length) 0) = _
  rw [List.getD_eq_getElem?_getD, List.getElem?_eq_getElem (Nat.mod_lt _ ht)]
  rfl
theorem row_at {t : W} {n i : Nat} (h : i + n ≤ t.length) : (t.drop i).take n = ringAt t n i := by
  apply ext_get
  · rw [List.length_take, List.length_drop, ringAt_len]
    omega
  · intro k hk
    rw [List.length_take, List.length_drop] at hk
    rw [List.getElem?_take_of_lt (by omega), List.getElem?_drop, ringAt_get (by omega) (by omega), Nat.mod_eq_of_lt (by omega)]
theorem ring_at {t : W} {n i c : Nat} (h : i + n ≤ c * t.length) (ht : 0 < t.length) : ((rep c t).drop i).take n = ringAt t n i := by
  apply ext_get
  · rw [List.length_take, List.length_drop, rep_len, ringAt_len]
    omega
  · intro k hk
    rw [List.length_take, List.length_drop, rep_len] at hk
    rw [List.getElem?_take_of_lt (by omega), List.getElem?_drop, ringAt_get (by omega) ht, rep_get (by omega)]
def rowW (t : W) (n : Nat) : List W := (List.range (t.length + 1 - n)).map (ringAt t n)
def ringW (t : W) (n : Nat) : List W := (List.range t.length).map (ringAt t n)
def win (t : W) (n : Nat) (b : Bool) : List W := if b = true then ringW t n else rowW t n
theorem ringW_len (t : W) (n : Nat) : (ringW t n).length = t.length := by rw [ringW, List.length_map, List.length_range]
end Wd

set_option linter.all false
/-! turned and mirrored words, their windows -/
namespace Wd
def rotN {α : Type _} (t : List α) (s : Nat) : List α := t.drop s ++ t.take s
theorem rotN_len {α : Type _} (t : List α) (s : Nat) : (rotN t s).length = t.length := by
  rw [rotN, List.length_append, List.length_drop, List.length_take]; omega
theorem rotN_get {α : Type _} {t : List α} {s i : Nat} (hi : i < t.length) (hs : s < t.length) : (rotN t s)[i]? = t[(i + s) % t.length]? := by
  unfold rotN
  by_cases h : i + s < t.length
  · rw [List.getElem?_append_left (by rw [List.length_drop]; omega), List.getElem?_drop, Nat.mod_eq_of_lt h, Nat.add_comm]
  · rw [List.getElem?_append_right (by rw [List.length_drop]; omega), List.length_drop, List.getElem?_take_of_lt (by omega), Nat.mod_eq_sub_mod (by omega), Nat.mod_eq_of_lt (by omega)]
    congr 1
    omega
theorem ringAt_mod {t : W} {n i : Nat} : ringAt t n (i % t.length) = ringAt t n i := by
  unfold ringAt
  refine List.map_congr_left fun k _ => ?_
  rw [Nat.mod_add_mod]
theorem ringAt_rot {t : W} {n s i : Nat} (hs : s < t.length) : ringAt (rotN t s) n i = ringAt t n (i + s) := by
  unfold ringAt
  refine List.map_congr_left fun k _ => ?_
  have h : 0 < t.length := by omega
  rw [rotN_len, List.getD_eq_getElem?_getD, List.getD_eq_getElem?_getD, rotN_get (Nat.mod_lt _ h) hs, Nat.mod_add_mod, show i + k + s = i + s + k by omega]
theorem ringW_get {t : W} {n i : Nat} (h : i < t.length) : (ringW t n)[i]? = some (ringAt t n i) := by
  rw [ringW, List.getElem?_map, List.getElem?_range h]; rfl
theorem ringW_rot {t : W} {n s : Nat} (hs : s < t.length) : ringW (rotN t s) n = rotN (ringW t n) s := by
  have h : 0 < t.length := by omega
  apply List.ext_getElem?
  intro i
  by_cases hi : i < t.length
  · rw [ringW_get (by rw [rotN_len]; exact hi), rotN_get (by rw [ringW_len]; exact hi) (by rw [ringW_len]; exact hs), ringW_len, ringW_get (Nat.mod_lt _ h), ringAt_rot hs, ringAt_mod]
  · rw [List.getElem?_eq_none (by rw [ringW_len, rotN_len]; omega), List.getElem?_eq_none (by rw [rotN_len, ringW_len]; omega)]
theorem mod_back {A B L m : Nat} (hL : 0 < L) (h : A + B + 1 = (m + 1) * L) : B % L = L - 1 - A % L := by
  have ha := Nat.mod_lt A hL
  have hb := Nat.mod_lt B hL
  have e : (A % L + B % L + 1) % L = 0 := by
    have e1 : (A + B + 1) % L = 0 := by rw [h, Nat.mul_mod_left]
    rw [← e1, Nat.add_mod (A + B) 1 L, Nat.add_mod A B L, ← Nat.add_mod]
  rcases Nat.lt_or_ge (A % L + B % L + 1) L with z | z
  · rw [Nat.mod_eq_of_lt z] at e; omega
  · rcases Nat.eq_or_lt_of_le z with y | y
    · omega
    · rw [Nat.mod_eq_sub_mod z, Nat.mod_eq_of_lt (by omega)] at e
      omega
/-- the windows of the mirrored ring are the mirrored windows of the ring -/
theorem ringW_rev {t : W} {n : Nat} (ht : 0 < t.length) (hn : 1 ≤ n) : ((ringW t n).map List.reverse) = (ringW (rotN t.reverse ((t.length - (n - 1) % t.length) % t.length)) n).reverse := by
  have hs : (t.length - (n - 1) % t.length) % t.length < t.length := Nat.mod_lt _ ht
  obtain ⟨m, hm⟩ : ∃ m, (t.length - (n - 1) % t.length) % t.length + (n - 1) = m * t.length := by
    have h1 := Nat.div_add_mod (n - 1) t.length
    have h2 := Nat.mod_lt (n - 1) ht
    rcases Nat.eq_zero_or_pos ((n - 1) % t.length) with z | z
    · refine ⟨(n - 1) / t.length, ?_⟩
      rw [z, Nat.sub_zero, Nat.mod_self, Nat.zero_add, Nat.mul_comm]
      omega
    · refine ⟨(n - 1) / t.length + 1, ?_⟩
      rw [Nat.mod_eq_of_lt (by omega), Nat.add_mul, Nat.one_mul, Nat.mul_comm]
      omega
  generalize (t.length - (n - 1) % t.length) % t.length = s at hs hm
  apply List.ext_getElem?
  intro i
  by_cases hi : i < t.length
  · rw [List.getElem?_map, ringW_get hi, List.getElem?_reverse (by rw [ringW_len, rotN_len, List.length_reverse]; exact hi), ringW_len, rotN_len, List.length_reverse, ringW_get (by rw [rotN_len, List.length_reverse]; omega)]
    show some _ = some _
    congr 1
    apply List.ext_getElem?
    intro k
    by_cases hk : k < n
    · have hr : 0 < (rotN t.reverse s).length := by rw [rotN_len, List.length_reverse]; exact ht
      rw [List.getElem?_reverse (by rw [ringAt_len]; exact hk), ringAt_len, ringAt_get (by omega) ht, ringAt_get hk hr, rotN_len, List.length_reverse]
      have hmo := Nat.mod_lt (t.length - 1 - i + k) ht
      rw [rotN_get (by rw [List.length_reverse]; exact hmo) (by rw [List.length_reverse]; exact hs), List.length_reverse, Nat.mod_add_mod, List.getElem?_reverse (Nat.mod_lt _ ht)]
      congr 1
      refine mod_back (m := m) ht ?_
      rw [Nat.add_mul, Nat.one_mul]
      omega
    · rw [List.getElem?_eq_none (by rw [List.length_reverse, ringAt_len]; omega), List.getElem?_eq_none (by rw [ringAt_len]; omega)]
  · rw [List.getElem?_eq_none (by rw [List.length_map, ringW_len]; omega), List.getElem?_eq_none (by rw [List.length_reverse, ringW_len, rotN_len, List.length_reverse]; omega)]
theorem rotN_perm {α : Type _} (t : List α) (s : Nat) : (rotN t s).Perm t := by
  have h : (t.drop s ++ t.take s).Perm (t.take s ++ t.drop s) := List.perm_append_comm
  rw [List.take_append_drop] at h
  exact h
theorem ringW_mirror {t : W} {n : Nat} (ht : 0 < t.length) (hn : 1 ≤ n) : ((ringW t n).map List.reverse).Perm (ringW t.reverse n) := by
  rw [ringW_rev ht hn]
  refine (List.reverse_perm _).trans ?_
  rw [ringW_rot (by rw [List.length_reverse]; exact Nat.mod_lt _ ht)]
  exact rotN_perm _ _
def rotZ (t : W) (b : Int) : W := rotN t (b % (t.length : Int)).toNat
theorem rotZ_len (t : W) (b : Int) : (rotZ t b).length = t.length := rotN_len _ _
theorem rotZ_get {t : W} {b : Int} {i : Nat} (hi : i < t.length) : (rotZ t b)[i]? = t[(((i : Int) + b) % (t.length : Int)).toNat]? := by
  have h0 := Int.emod_nonneg b (show (t.length : Int) ≠ 0 by omega)
  have h1 := Int.emod_lt_of_pos b (show (0 : Int) < t.length by omega)
  rw [rotZ, rotN_get hi (by omega)]
  congr 1
  have e : ((i + (b % (t.length : Int)).toNat : Nat) : Int) = (i : Int) + b % (t.length : Int) := by omega
  have e2 : (((i + (b % (t.length : Int)).toNat) % t.length : Nat) : Int) = ((i : Int) + b) % (t.length : Int) := by rw [Int.natCast_emod, e, Int.add_emod_emod]
  omega
theorem rotZ_nil (b : Int) : rotZ [] b = [] := by simp [rotZ, rotN]
theorem rotZ_rotZ (t : W) (a b : Int) : rotZ (rotZ t a) b = rotZ t (a + b) := by
  apply List.ext_getElem?
  intro i
  by_cases hi : i < t.length
  · have h0 := Int.emod_nonneg ((i : Int) + b) (show (t.length : Int) ≠ 0 by omega)
    have h1 := Int.emod_lt_of_pos ((i : Int) + b) (show (0 : Int) < t.length by omega)
    rw [rotZ_get (by rw [rotZ_len]; exact hi), rotZ_len, rotZ_get (by omega), rotZ_get hi, Int.toNat_of_nonneg h0, Int.emod_add_emod, show (i : Int) + b + a = (i : Int) + (a + b) by omega]
  · rw [List.getElem?_eq_none (by rw [rotZ_len, rotZ_len]; omega), List.getElem?_eq_none (by rw [rotZ_len]; omega)]
theorem rotZ_zero (t : W) : rotZ t 0 = t := by simp [rotZ, rotN]
theorem sorted_same : ∀ {xs ys : List W}, xs.Perm ys → xs.Pairwise (fun a b => ¬ b < a) → ys.Pairwise (fun a b => ¬ b < a) → xs = ys := by
  intro xs ys h h1 h2
  refine List.Perm.eq_of_pairwise ?_ h1 h2 h
  intro a b _ _ z1 z2
  exact Std.Trichotomous.trichotomous a b z2 z1
end Wd

set_option Elab.async false
set_option linter.all false
set_option maxRecDepth 100000
set_option maxHeartbeats 4000000

/-! Texts by their codes, over the layer. -/
namespace L2
open PySem PySem.Spec PyProof.Rows

def tx (l : List Nat) : Str := ⟨l.toArray⟩
abbrev T (l : List Nat) : V := .str (tx l)
theorem tx_len (l : List Nat) : (tx l).length = l.length := by simp [tx, Str.length]
theorem tx_cps (l : List Nat) : (tx l).cps.toList = l := by simp [tx]
theorem tx_eta (x : Str) : tx x.cps.toList = x := by cases x; simp [tx]
theorem tx_inj {a b : List Nat} (h : tx a = tx b) : a = b := by
  have e := congrArg (fun x : Str => x.cps.toList) h
  simpa [tx] using e
theorem T_inj {a b : List Nat} (h : T a = T b) : a = b := tx_inj (V.str.inj h)
theorem T_dec {a b : List Nat} : decide (T a = T b) = decide (a = b) := by
  rw [Bool.eq_iff_iff, decide_eq_true_iff, decide_eq_true_iff]
  exact ⟨T_inj, fun h => by rw [h]⟩
theorem tx_app (a b : List Nat) : tx a ++ tx b = tx (a ++ b) := by
  rw [← tx_eta (tx a ++ tx b), PySem.W.KT.app_list, tx_cps, tx_cps]

section
variable {X : Cx}
theorem op_add_T : OpR X (binaryOp .Add) (fun x y H Q => ∃ a, x = T a ∧ ∃ b, y = T b ∧ a.length + b.length ≤ sizeLine ∧ Q (T (a ++ b)) H) := by
  intro pins s σ H x y v u Q I rx ry h
  obtain ⟨a, e1, b, e2, hz, q⟩ := h
  exact op_add_str pins s σ H x y v u Q I rx ry ⟨tx a, tx b, e1, e2, by rw [tx_len, tx_len]; exact hz, by rw [tx_app]; exact q⟩
theorem op_eq_T : OpR X (compareOp .Eq) (fun x y H Q => ∃ a, x = T a ∧ ∃ b, y = T b ∧ Q (.bl (decide (a = b))) H) := by
  intro pins s σ H x y v u Q I rx ry h
  obtain ⟨a, rfl, b, rfl, q⟩ := h
  exact op_eq pins s σ H _ _ v u Q I rx ry ⟨rfl, by rw [T_dec]; exact q⟩
theorem op_ne_T : OpR X (compareOp .NotEq) (fun x y H Q => ∃ a, x = T a ∧ ∃ b, y = T b ∧ Q (.bl (!decide (a = b))) H) := by
  intro pins s σ H x y v u Q I rx ry h
  obtain ⟨a, rfl, b, rfl, q⟩ := h
  exact op_ne pins s σ H _ _ v u Q I rx ry ⟨rfl, by rw [T_dec]; exact q⟩
theorem op_eq_I : OpR X (compareOp .Eq) (fun x y H Q => ∃ a, x = .int a ∧ ∃ b, y = .int b ∧ Q (.bl (decide (a = b))) H) := by
  intro pins s σ H x y v u Q I rx ry h
  obtain ⟨a, rfl, b, rfl, q⟩ := h
  exact op_eq pins s σ H _ _ v u Q I rx ry ⟨rfl, by rw [dec_int, Bool.beq_eq_decide_eq]; exact q⟩
theorem op_ne_I : OpR X (compareOp .NotEq) (fun x y H Q => ∃ a, x = .int a ∧ ∃ b, y = .int b ∧ Q (.bl (!decide (a = b))) H) := by
  intro pins s σ H x y v u Q I rx ry h
  obtain ⟨a, rfl, b, rfl, q⟩ := h
  exact op_ne pins s σ H _ _ v u Q I rx ry ⟨rfl, by rw [dec_int, Bool.beq_eq_decide_eq]; exact q⟩
/-! ### slices -/
def cutL (l : List Nat) (lo hi : Option Int) : List Nat := (l.drop (HT.sIx l.length 0 lo)).take (HT.sIx l.length l.length hi - HT.sIx l.length 0 lo)
theorem cutL_length_le (l : List Nat) (lo hi : Option Int) : (cutL l lo hi).length ≤ l.length := by
  unfold cutL
  rw [List.length_take, List.length_drop]
  omega
theorem clip_sIx (v : Option Int) (n d : Nat) : (match v with | none => (d : Int) | some i => max 0 (min (if i < 0 then i + (n : Int) else i) (n : Int))) = ((HT.sIx n d v : Nat) : Int) := by
  cases v with
  | none => rfl
  | some i =>
    show max 0 (min (if i < 0 then i + (n : Int) else i) (n : Int)) = (((if i < 0 then (i + (n : Int)).toNat else min i.toNat n) : Nat) : Int)
    by_cases hi : i < 0
    · simp only [if_pos hi]; omega
    · simp only [if_neg hi]; omega
theorem indices_sIx (lo hi : Option Int) (n : Nat) : Builtin.Str.strSliceIndices lo hi 1 n = Builtin.Str.strSliceIndices (some ((HT.sIx n 0 lo : Nat) : Int)) (some ((HT.sIx n n hi : Nat) : Int)) 1 n := by
  have h1 := HT.sIx_le n 0 (Nat.zero_le _) lo
  have h2 := HT.sIx_le n n (Nat.le_refl _) hi
  have c1 := clip_sIx lo n 0
  have c2 := clip_sIx hi n n
  have d1 := clip_sIx (some ((HT.sIx n 0 lo : Nat) : Int)) n 0
  have d2 := clip_sIx (some ((HT.sIx n n hi : Nat) : Int)) n n
  rw [HT.sIx_nat, Nat.min_eq_left h1] at d1
  rw [HT.sIx_nat, Nat.min_eq_left h2] at d2
  unfold Builtin.Str.strSliceIndices
  simp only [show ((1 : Int) > 0) from by decide, if_true]
  have g : ∀ a b c d : Int, a = c → b = d → sliceRange a b 1 = sliceRange c d 1 := fun a b c d h1 h2 => by rw [h1, h2]
  exact g _ _ _ _ (c1.trans d1.symm) (c2.trans d2.symm)
theorem slice_tx (l : List Nat) (lo hi : Option Int) : Txt.slice (tx l) lo hi = tx (cutL l lo hi) := by
  have h1 := HT.sIx_le l.length 0 (Nat.zero_le _) lo
  have h2 := HT.sIx_le l.length l.length (Nat.le_refl _) hi
  unfold Txt.slice
  rw [tx_len, indices_sIx]
  by_cases hab : HT.sIx l.length 0 lo ≤ HT.sIx l.length l.length hi
  · have e := StrLaws.sliceText_nat (tx l) hab (by rw [tx_len]; exact h2)
    unfold StrLaws.sliceText at e
    rw [tx_len, tx_cps] at e
    exact e
  · have e0 : Builtin.Str.strSliceIndices (some ((HT.sIx l.length 0 lo : Nat) : Int)) (some ((HT.sIx l.length l.length hi : Nat) : Int)) 1 l.length = [] := by
      unfold Builtin.Str.strSliceIndices sliceRange
      have n1 : ¬ (((HT.sIx l.length 0 lo : Nat) : Int) < 0) := by omega
      have n2 : ¬ (((HT.sIx l.length l.length hi : Nat) : Int) < 0) := by omega
      simp only [show ((1 : Int) > 0) from by decide, if_true, if_neg n1, if_neg n2]
      have n3 : ¬ (max (0 : Int) (min ((HT.sIx l.length 0 lo : Nat) : Int) (l.length : Int)) < max (0 : Int) (min ((HT.sIx l.length l.length hi : Nat) : Int) (l.length : Int))) := by omega
      simp [n3]
    have e1 : cutL l lo hi = [] := by
      unfold cutL
      rw [show HT.sIx l.length l.length hi - HT.sIx l.length 0 lo = 0 by omega, List.take_zero]
    rw [e0, e1]
    cases l with
    | nil => rfl
    | cons c r => rfl
theorem sl_T : SlR X (fun x lo hi H Q => ∃ a, x = T a ∧ a.length ≤ sizeLine ∧ Q (T (cutL a lo hi)) H) := by
  intro pins s σ H x v vl vu lo hi sl Q I rx hs pl pu h
  obtain ⟨a, rfl, hz, q⟩ := h
  obtain ⟨t, rfl⟩ := rx
  obtain ⟨l, hl1, hl2⟩ : ∃ l : Option (Int × Tok), partValue l = vl ∧ l.map (·.1) = lo := by
    cases pl with
    | none => exact ⟨none, rfl, rfl⟩
    | int i t => exact ⟨some (i, t), rfl, rfl⟩
  obtain ⟨u, hu1, hu2⟩ : ∃ u : Option (Int × Tok), partValue u = vu ∧ u.map (·.1) = hi := by
    cases pu with
    | none => exact ⟨none, rfl, rfl⟩
    | int i t => exact ⟨some (i, t), rfl, rfl⟩
  refine ⟨"str", _, F.slot_str_getitem.lookup, typeIs_str _ _ _, ?_⟩
  have hsl : s.heap.IsSlice sl l u none := by
    obtain ⟨o, ho, hc, hd⟩ := hs
    exact ⟨o, ho, hc, by rw [hl1, hu1]; exact hd⟩
  refine wpAny_getItem_str_slice hsl rfl ?_
  have key : (if ((1 : Int) == 1 && (Builtin.Str.strSliceIndices lo hi 1 (tx a).length).length == (tx a).length) = true then (tx a) else ⟨((Builtin.Str.strSliceIndices lo hi 1 (tx a).length).filterMap ((tx a).cps[·]?)).toArray⟩) = tx (cutL a lo hi) := slice_tx a lo hi
  unfold sliceMade slicePicked
  rw [hl2, hu2]
  refine post_val_or_str ⟨?_, fun t' k => ?_⟩
  · show (Txt.slice (tx a) lo hi).length ≤ sizeLine
    exact Nat.le_trans (Txt.slice_le _ _ _) (by rw [tx_len]; exact hz)
  · refine ⟨T (cutL a lo hi), H, I.tok _, ⟨t', ?_⟩, q⟩
    exact congrArg (fun z => Value.str z t') key

/-! ### text * number -/
theorem rep_length (n : Nat) (l : List Nat) : (Wd.rep n l).length = n * l.length := Wd.rep_len n l
theorem foldl_cps (n : Nat) (c : Array Nat) : ∀ acc : Array Nat, (List.replicate n c).foldl (· ++ ·) acc = acc ++ (Wd.rep n c.toList).toArray := by
  induction n with
  | zero => intro acc; simp [Wd.rep]
  | succ n ih =>
    intro acc
    rw [List.replicate_succ, List.foldl_cons, ih]
    rw [Wd.rep_succ, Array.append_assoc]
    congr 1
    apply Array.ext'
    simp
theorem mul_tx (n : Nat) (l : List Nat) : Txt.mul (tx l) (n : Int) = tx (Wd.rep n l) := by
  unfold Txt.mul
  by_cases h1 : (n : Int) < 1
  · have e : n = 0 := by omega
    subst e
    rw [if_pos h1]
    rfl
  · rw [if_neg h1]
    by_cases h2 : ((n : Int) == 1 || (tx l).length == 0) = true
    · rw [if_pos h2]
      rw [Bool.or_eq_true, beq_iff_eq, beq_iff_eq, tx_len] at h2
      rcases h2 with h2 | h2
      · have e : n = 1 := by omega
        subst e
        rw [Wd.rep_one]
      · have e : l = [] := List.length_eq_zero_iff.mp h2
        subst e
        have : Wd.rep n [] = [] := List.length_eq_zero_iff.mp (by rw [rep_length]; simp)
        rw [this]
    · rw [if_neg h2, Int.toNat_natCast, foldl_cps]
      simp [tx]
theorem op_mul_T : OpR X (binaryOp .Mult) (fun x y H Q => ∃ a, x = T a ∧ ∃ n : Nat, y = .int n ∧ (n ≤ sizeLine ∧ n * a.length ≤ sizeLine) ∧ Q (T (Wd.rep n a)) H) := by
  intro pins s σ H x y v u Q I rx ry h
  obtain ⟨a, rfl, n, rfl, ⟨h1, h2⟩, q⟩ := h
  obtain ⟨t, rfl⟩ := rx
  obtain ⟨t', rfl⟩ := ry
  have hs : sizeLine = 16777216 := sizeLine_eq
  refine SB.mul ⟨?_, ?_, ?_⟩ fun t' k => ⟨T (Wd.rep n a), H, I.tok _, ⟨t', by rw [mul_tx]⟩, q⟩
  · have e1 : decide ((n : Int) < -(2 ^ 63 : Int)) = false := decide_eq_false (by omega)
    have e2 : decide ((n : Int) ≥ 2 ^ 63) = false := decide_eq_false (by omega)
    rw [e1, e2]
    rfl
  · intro hn _
    rw [tx_len]
    have h3 : n * a.length ≤ 16777216 := by omega
    intro hc
    have h4 : ((n * a.length : Nat) : Int) ≤ 16777216 := by omega
    have hn' : (0 : Int) < n := by omega
    have h5 : ((2 ^ 63 - 1) / (n : Int)) * n ≤ 2 ^ 63 - 1 := Int.ediv_mul_le _ (by omega)
    have h6 : (2 ^ 63 - 1 : Int) < ((2 ^ 63 - 1) / (n : Int) + 1) * n := Int.lt_ediv_add_one_mul_self _ hn'
    have h7 : ((2 ^ 63 - 1) / (n : Int) + 1) * n ≤ (a.length : Int) * n := Int.mul_le_mul_of_nonneg_right (by omega) (by omega)
    have h8 : ((n * a.length : Nat) : Int) = (a.length : Int) * n := by rw [Int.natCast_mul, Int.mul_comm]
    omega
  · intro hn _
    rw [tx_len, Int.toNat_natCast, Nat.mul_comm]
    unfold Builtin.Str.tooLong
    exact decide_eq_false (by omega)

/-! ### ''.join(texts) -/
theorem strsAre_T : ∀ {ls : List (List Nat)} {us : List Value}, Vals (ls.map T) us → StrsAre us (ls.map tx)
  | [], us, r => by
    cases r
    exact .nil
  | l :: ls, us, r => by
    rw [List.map_cons] at r
    cases r with
    | cons r1 r2 =>
      obtain ⟨t, rfl⟩ := r1
      exact .cons _ _ (strsAre_T r2)
theorem glued_empty : ∀ (ls : List (List Nat)) (acc : Array Nat), (ls.map tx).foldl (fun acc p => acc ++ (tx []).cps ++ p.cps) acc = acc ++ ls.flatten.toArray
  | [], acc => by simp
  | l :: ls, acc => by
    rw [List.map_cons, List.foldl_cons, glued_empty ls]
    simp [tx]
theorem join_tx (ls : List (List Nat)) : Txt.join (tx []) (ls.map tx) = tx ls.flatten := by
  unfold Txt.join Builtin.Str.glued
  cases ls with
  | nil => rfl
  | cons l ls =>
    rw [List.map_cons, List.drop_succ_cons, List.drop_zero, List.headD_cons, glued_empty]
    simp [tx]
theorem sum_len_tx (ls : List (List Nat)) : ((ls.map tx).map (·.length)).sum = ls.flatten.length := by
  induction ls with
  | nil => rfl
  | cons l ls ih => rw [List.map_cons, List.map_cons, List.sum_cons, ih, List.flatten_cons, List.length_append, tx_len]
theorem mt_join : MtR X "str.join" (fun x xs H Q => x = T [] ∧ ∃ (p : Addr) (ls : List (List Nat)), xs = [.ref p] ∧ SqL X.K H p (ls.map T) ∧ ls.flatten.length ≤ sizeLine ∧ Q (T ls.flatten) H) := by
  intro pins s σ H x xs v us Q I rx rs h
  obtain ⟨rfl, p, ls, rfl, hq, hz, q⟩ := h
  obtain ⟨t, rfl⟩ := rx
  obtain ⟨u, rfl, ru⟩ := vals1 rs
  cases ru
  obtain ⟨its, r, pl, _⟩ := I.list hq
  have hs : sizeLine = 16777216 := sizeLine_eq
  refine join_list pl.isList (ys := ls.map tx) (by simpa using strsAre_T r) ?_ fun t' k => ⟨T ls.flatten, H, I.tok _, ⟨t', by rw [join_tx]⟩, q⟩
  rw [sum_len_tx, tx_len, List.length_nil, Nat.mul_zero]
  omega
end
end L2
namespace L2
theorem cutL_from {w : List Nat} {k : Nat} (h : k ≤ w.length) : cutL w (some (k : Int)) none = w.drop k := by
  unfold cutL
  rw [HT.sIx_nat, HT.sIx_none, Nat.min_eq_left h]
  exact List.take_of_length_le (by rw [List.length_drop]; omega)
theorem cutL_to {w : List Nat} {k : Nat} (h : k ≤ w.length) : cutL w none (some (k : Int)) = w.take k := by
  unfold cutL
  rw [HT.sIx_nat, HT.sIx_none, Nat.min_eq_left h, List.drop_zero, Nat.sub_zero]
theorem cutL_mid {w : List Nat} {a b : Nat} (hb : b ≤ w.length) (hab : a ≤ b) : cutL w (some (a : Int)) (some (b : Int)) = (w.drop a).take (b - a) := by
  unfold cutL
  rw [HT.sIx_nat, HT.sIx_nat, Nat.min_eq_left hb, Nat.min_eq_left (show a ≤ w.length by omega)]
end L2

set_option Elab.async false
set_option linter.all false
set_option maxRecDepth 100000
set_option maxHeartbeats 4000000

/-! A list comprehension (one for, a plain name, no test) over the layer. -/
namespace L2
open PySem PySem.Spec PyProof.Rows

/-- the scopes of a def and of a comprehension in it; N: the def's names, N' : the block's (its own first, a hidden one empty) -/
structure CompSc (N N' : List Str) (sc scope : Scope) (x : Str) : Prop where
  kind : scope.kind = .function
  cell : ∀ y ∈ scope.names, y.2 ≠ .cell
  names : ∀ y ∈ scope.names, y.2 = .local → scope.names.lookup y.1 = some .local
  var : scope.names.lookup x = some .local
  ok : ∀ y ∈ scope.names, y.2 = .free → sc.names.lookup y.1 = some .cell ∨ sc.names.lookup y.1 = some .free
  hd : N'[0]? = some x
  len : N'.length = N.length + 1
  sub : ∀ i, i < N.length → N'[i + 1]? = N[i]? ∨ N'[i + 1]? = some ("" : Str)
  noe : scope.names.lookup ("" : Str) = none
  nol : ∀ y ∈ N'.tail, scope.names.lookup y ≠ some .local
  nd : N'.Nodup

def closOf (cells : List (Str × Addr)) : List (Str × NameKind) → List (Str × Addr) → List (Str × Addr)
  | [], acc => acc
  | (n, k) :: r, acc => closOf cells r (if k == .free then (n, (cells.lookup n).getD 0) :: acc else acc)
theorem clos_sound {cells : List (Str × Addr)} {y : Str} {c : Addr} : ∀ (names : List (Str × NameKind)) (acc : List (Str × Addr)), (∀ z ∈ names, z.2 = .free → ∃ c, cells.lookup z.1 = some c) →
    (acc.lookup y = some c → cells.lookup y = some c) → (closOf cells names acc).lookup y = some c → cells.lookup y = some c
  | [], acc, _, ha, h => ha h
  | (n, k) :: r, acc, hz, ha, h => by
    unfold closOf at h
    refine clos_sound r _ (fun z hm => hz z (List.mem_cons_of_mem _ hm)) (fun q => ?_) h
    split at q
    · rename_i hk
      obtain ⟨c', e⟩ := hz (n, k) List.mem_cons_self (by simpa using hk)
      rw [List.lookup_cons] at q
      split at q
      · rename_i he
        have : y = n := by simpa using he
        subst this
        rw [e] at q
        rw [e]
        exact q
      · exact ha q
    · exact ha q
theorem clos_acc {cells : List (Str × Addr)} {y : Str} : ∀ (names : List (Str × NameKind)) (acc : List (Str × Addr)), (∃ c, acc.lookup y = some c) → ∃ c, (closOf cells names acc).lookup y = some c
  | [], acc, h => h
  | (n, k) :: r, acc, ⟨c, h⟩ => by
    unfold closOf
    refine clos_acc r _ ?_
    split
    · rw [List.lookup_cons]
      split
      · exact ⟨_, rfl⟩
      · exact ⟨c, h⟩
    · exact ⟨c, h⟩
theorem clos_has {cells : List (Str × Addr)} {y : Str} : ∀ (names : List (Str × NameKind)) (acc : List (Str × Addr)), (y, NameKind.free) ∈ names → ∃ c, (closOf cells names acc).lookup y = some c
  | (n, k) :: r, acc, h => by
    unfold closOf
    rcases List.mem_cons.mp h with e | h
    · cases e
      refine clos_acc r _ ⟨(cells.lookup y).getD 0, ?_⟩
      simp
    · exact clos_has r _ h
theorem clos_eq {scope : Scope} {env : Env} (h : ∀ z ∈ scope.names, z.2 = .free → ∃ c, env.cells.lookup z.1 = some c) : closureFor scope env = pure (closOf env.cells scope.names []) := by
  have gen : ∀ (names : List (Str × NameKind)) (acc : List (Str × Addr)), (∀ z ∈ names, z.2 = .free → ∃ c, env.cells.lookup z.1 = some c) →
      (forIn names acc fun (x : Str × NameKind) (r : List (Str × Addr)) => (if (x.2 == NameKind.free) = true then (do let a ← cellOf env x.1; pure (ForInStep.yield ((x.1, a) :: r))) else pure (ForInStep.yield r) : Sem (ForInStep (List (Str × Addr))))) = (pure (closOf env.cells names acc) : Sem (List (Str × Addr))) := by
    intro names
    induction names with
    | nil => intro acc _; rfl
    | cons z r ih =>
      intro acc hz
      obtain ⟨n, k⟩ := z
      rw [List.forIn_cons]
      unfold closOf
      by_cases hk : (k == NameKind.free) = true
      · obtain ⟨c, e⟩ := hz (n, k) List.mem_cons_self (by simpa using hk)
        have e' : env.cells.lookup n = some c := e
        simp only [hk, if_true, cellOf, e', pure_bind, Option.getD_some]
        exact ih _ fun z hm => hz z (List.mem_cons_of_mem _ hm)
      · simp only [hk, Bool.false_eq_true, if_false, pure_bind]
        exact ih _ fun z hm => hz z (List.mem_cons_of_mem _ hm)
  have g := gen scope.names [] h
  unfold closureFor
  refine Eq.trans ?_ (congrArg (fun (m : Sem (List (Str × Addr))) => m >>= fun cs => pure cs) g)
  rfl
theorem relabel_lookup (scope : Scope) (env : Env) (y : Str) : (relabel scope env).names.lookup y = (scope.names.lookup y).map fun k => if (k == NameKind.free && env.scope.kind == .function && env.kindOf y == some .cell) = true then NameKind.cell else k := by
  unfold relabel
  show List.lookup y (scope.names.map fun (n, k) => if (k == NameKind.free && env.scope.kind == .function && env.kindOf n == some .cell) = true then (n, NameKind.cell) else (n, k)) = _
  induction scope.names with
  | nil => rfl
  | cons z r ih =>
    obtain ⟨n, k⟩ := z
    rw [List.map_cons]
    by_cases hy : (y == n) = true
    · have e : y = n := by simpa using hy
      subst e
      by_cases hc : (k == NameKind.free && env.scope.kind == .function && env.kindOf y == some .cell) = true
      · simp only [hc, if_true, List.lookup_cons, beq_self_eq_true, Option.map_some]
      · simp only [hc, if_false, List.lookup_cons, beq_self_eq_true, Option.map_some, Bool.false_eq_true]
    · have hy' : (y == n) = false := by simpa using hy
      by_cases hc : (k == NameKind.free && env.scope.kind == .function && env.kindOf n == some .cell) = true
      · simp only [hc, if_true, List.lookup_cons, hy']
        exact ih
      · simp only [hc, if_false, List.lookup_cons, hy', Bool.false_eq_true]
        exact ih
theorem lookup_mem {κ : Type} : ∀ {l : List (Str × κ)} {y : Str} {k : κ}, l.lookup y = some k → (y, k) ∈ l := fun h => PySem.mem_of_lookup h

/-- the context of the block -/
abbrev cxComp (X : Cx) (N' : List Str) (scope : Scope) (cl : List (Str × Addr)) (C : Addr) (s : Shared) (H : Hp) (fp : List Addr) : Cx :=
  { X with env := compEnvC scope cl C X.env, N := N', s₀ := s, H₀ := H, outer := X.stack, stack := X.stack, ex := fp, fn := fun _ => false, xe := fun _ _ => False }

theorem codeAny_compLoop_any {prog : Program} {w : World} {A : Around} {R : Result → Shared → Prop} {s : Shared} {elt target iter : Expr} {scope : Scope} {pos : Pos} {it acc : Value} {env : Env} (I : Nat → Shared → Prop)
    (turn : ∀ n s, I n s → wpAny (model prog w) A (pyNext it) (fun r s₁ => match r with
      | none => R (.ok .next) s₁
      | some v => wpAny (model prog w) A (letOwnedTupleGo target it v) (fun _ s₁' => wpAny (model prog w) A (assign target env v) (fun _ s₂ => wpAny (model prog w) A (eval elt env) (fun x s₃ =>
          wpAny (model prog w) A (call (.builtin "list.append") [acc, x]) (fun _ s₄ => ∃ m, m < n ∧ I m s₄) (fun _ _ => False) s₃)
          (fun _ _ => False) s₂) (fun _ _ => False) s₁') (fun _ _ => False) s₁) (fun _ _ => False) s)
    (n : Nat) (h : I n s) :
    codeAny (model prog w) A (.compLoop (.ListComp elt [⟨target, iter, [], 0⟩] scope pos) 0 it acc env) R s := by
  refine codeAny_loop rfl I (fun n s hI => ?_) n h
  show wpAny _ _ ((compTurn (.ListComp elt [⟨target, iter, [], 0⟩] scope pos) 0 it acc env).onRaise (fun x => do noteFrame x env; theTreesLotGoes x)) _ _ s
  refine wpAny_noted ?_
  rw [compTurn_list1]
  refine wpAny_bind (wpAny_standAt (wpAny_bind (wpAny_mono (turn n s hI) (fun r s₁ h₁ => ?_) fun _ _ h' => h'.elim)))
  cases r with
  | none => exact wpAny_pure h₁
  | some v =>
    refine wpAny_bind (wpAny_mono h₁ (fun _ s₁' h₁' => ?_) fun _ _ h' => h'.elim)
    exact wpAny_bind (wpAny_mono h₁' (fun _ s₂ h₂ => wpAny_bind (wpAny_bind (wpAny_mono h₂ (fun x s₃ h₃ => wpAny_bind (wpAny_mono h₃
      (fun _ s₄ h₄ => wpAny_pure (wpAny_pure ⟨rfl, h₄⟩)) fun _ _ h' => h'.elim)) fun _ _ h' => h'.elim))) fun _ _ h' => h'.elim)

/-- the reading: W i m ys H: at turn i (measure m) the list so far is ys -/
def compAt (te : TE) (σ : St) (Q : VK) (J : It) (H1 : Hp) : Prop := ∀ D, H1 D = none → ∃ W : Nat → Nat → List V → Hp → Prop, (∃ m, W 0 m [] (upd H1 D (.lst []))) ∧ ∀ i m ys H2, W i m ys H2 →
  (J.stop i H2 ∧ Q (.ref D) H2) ∨ (J.go i H2 ∧ ys.length < sizeLine ∧ ∃ N : V → Hp → Prop, (∀ v H', N v H' → H' D = some (.lst ys) ∧ ∃ m', m' < m ∧ W (i + 1) m' (ys ++ [v]) (upd H' D (.lst (ys ++ [v])))) ∧
    ∀ y H', J.yld i H2 y H' → te (some y :: σ) H' N)
def tComp (wi : TI) (te : TE) : TE := fun σ H Q => wi σ H (compAt te σ Q)

section
variable {X : Cx} {N' : List Str} {scope : Scope} {x : Str} {px : Pos} {elt iter : Expr} {pos : Pos} {te : TE} {wi : TI}

theorem comp_core (S : CompSc X.N N' X.env.scope scope x) (hc : X.calm = true) (he : ∀ cl C s H fp, PE (cxComp X N' scope cl C s H fp) elt te)
    {pins : List (Addr × Obj)} {σ : St} {H : Hp} {s : Shared} {Q : VK} {E : Value → Shared → Prop} {RR : Value → Addr → Result → Shared → Prop} {it : Addr} {fp : List Addr} {tn : Nat → Heap → Prop} {J : It}
    (I : Inv X pins σ H s) (T : Turn X.prog X.w X.K (.Name x px) J fp it tn) (st : tn 0 s.heap) (f2 : ∀ b ∈ fp, FpOk X pins H b)
    (hw : compAt te σ Q J H)
    (hRR : ∀ D C s' H', Inv X pins σ H' s' → (∃ m, s'.heap.Ns C m) → C ≠ X.env.locals → (∀ y c, X.env.cells.lookup y = some c → c ≠ C) → H' C = none → X.s₀.heap.objs.size ≤ C → (∀ p ∈ X.pn ++ pins, p.1 ≠ C) → Q (.ref D) H' → RR (.ref D) C (.ok .next) s') :
    ∃ cl, closureFor scope X.env = pure cl ∧ wpAny (model X.prog X.w) X.A (newList []) (fun acc s₃ => wpAny (model X.prog X.w) X.A (newFunctionEnv scope X.env.globals cl [] X.env.qual none .none (some X.env)) (fun cenv s₄ =>
      codeAny (model X.prog X.w) X.A (.compStart (.ListComp elt [⟨.Name x px, iter, [], 0⟩] scope pos) 0 (.ref it) acc { cenv with scope := relabel scope X.env }) (RR acc cenv.locals) s₄) E s₃) E s := by
  have hfree : ∀ z ∈ scope.names, z.2 = .free → ∃ c, X.env.cells.lookup z.1 = some c := fun z hz hk => by
    rcases S.ok z hz hk with q | q
    · exact I.ok.has z.1 (.inl q)
    · exact I.ok.has z.1 (.inr q)
  refine ⟨_, clos_eq hfree, ?_⟩
  have clS : ∀ y c, (closOf X.env.cells scope.names []).lookup y = some c → X.env.cells.lookup y = some c := fun y c => clos_sound scope.names [] hfree fun q => by cases q
  generalize hcl : closOf X.env.cells scope.names [] = cl at clS
  have clH : ∀ y, scope.names.lookup y = some .free → ∃ c, cl.lookup y = some c := fun y hy => by
    rw [← hcl]
    exact clos_has scope.names [] (lookup_mem hy)
  refine wpAny_newObj_type (wpAny_newFunctionEnv S.cell (by intro y hy; simp at hy) (fun h₁ hns₁ hsb₁ => ?_) S.kind)
  have I3 : Inv X pins σ (upd H s.heap.objs.size (.lst [])) { s with heap := s.heap.push { cls := .type "list", data := .seq ([] : List Value).toArray } } := I.lnew (t' := s.toks) .nil (Nat.zero_le _)
  obtain ⟨W, ⟨m0, w0⟩, turn⟩ := hw s.heap.objs.size I.fresh
  dsimp only at hns₁ hsb₁ ⊢
  generalize hs3 : ({ s with heap := s.heap.push { cls := .type "list", data := .seq ([] : List Value).toArray } } : Shared) = s3 at I3
  have hh3 : s3.heap = s.heap.push { cls := .type "list", data := .seq ([] : List Value).toArray } := by rw [← hs3]
  have hsz3 : s3.heap.objs.size = s.heap.objs.size + 1 := by rw [hh3, Heap.size_push]
  rw [← hh3] at hns₁ hsb₁ ⊢
  have old : ∀ b o, s3.heap.get? b = some o → h₁.get? b = some o := fun b o e => hsb₁.extBut b o (by have := Heap.lt_size e; exact Nat.ne_of_lt this) (Heap.get?_push_of_some _ e)
  have old0 : ∀ b o, s.heap.get? b = some o → h₁.get? b = some o := fun b o e => old b o (by rw [hh3]; exact Heap.get?_push_of_some _ e)
  have CneL : s3.heap.objs.size ≠ X.env.locals := Nat.ne_of_gt I3.lt
  have CneC : ∀ y c, X.env.cells.lookup y = some c → c ≠ s3.heap.objs.size := fun y c e z => by
    obtain ⟨v, q⟩ := I3.cell y c e
    have := q.lt
    rw [z] at this
    exact absurd this (Nat.lt_irrefl _)
  have CneP : ∀ p ∈ X.pn ++ pins, p.1 ≠ s3.heap.objs.size := fun p hp z => by
    have := Heap.lt_size (I3.pin p hp).1
    rw [z] at this
    exact absurd this (Nat.lt_irrefl _)
  have CfreeH : ∀ b o, s3.heap.get? b = some o → b < s3.heap.objs.size := fun b o e => by have := Heap.lt_size e; exact this
  have fpLt : ∀ b ∈ fp, b < s3.heap.objs.size := fun b hb => by
    obtain ⟨o, e, _⟩ := T.obj 0 s.heap st b hb
    rw [hsz3]
    exact Nat.lt_succ_of_lt (Heap.lt_size e)
  have fpD : ∀ b ∈ fp, b ≠ s.heap.objs.size := fun b hb => by
    obtain ⟨o, e, _⟩ := T.obj 0 s.heap st b hb
    exact Nat.ne_of_lt (Heap.lt_size e)
  -- the block's context
  have ok' : (cxComp X N' scope cl s3.heap.objs.size s3 (upd H s.heap.objs.size (.lst [])) fp).Ok := by
    refine ⟨I3.ok.mod, ?_, I3.ok.glob, I3.ok.blt, Nat.le_refl _, fun y z c h1 h2 => I3.ok.inj y z c (clS y c h1) (clS z c h2), fun y hy => ?_, fun y c hf => (by cases hf), I3.ok.hd, I3.ok.frames, .inl rfl, fun b hb => ⟨Nat.ne_of_lt (fpLt b hb), fun y c e => (f2 b hb).2.2.2.2.1 y c (clS y c e)⟩,
      fun b o e => I3.bs b o e, Nat.le_trans I3.ok.bsz I3.sz, fun b o e hb => ?_, fun b hb z => ?_, I3.stack, I3.stkFree⟩
    · show (relabel scope X.env).kind = .function
      exact S.kind
    · have hy' : (relabel scope X.env).names.lookup y = some .cell ∨ (relabel scope X.env).names.lookup y = some .free := hy
      rw [relabel_lookup] at hy'
      cases q : scope.names.lookup y with
      | none => rw [q] at hy'; rcases hy' with z | z <;> cases z
      | some k =>
        have hm := lookup_mem q
        cases k with
        | free => exact clH y q
        | cell => exact absurd rfl (S.cell _ hm)
        | «local» => rw [q] at hy'; rcases hy' with z | z <;> simp at z
        | globalExplicit => rw [q] at hy'; rcases hy' with z | z <;> simp at z
        | globalImplicit => rw [q] at hy'; rcases hy' with z | z <;> simp at z
    · rcases (f2 b hb).2.2.2.1 with z | z
      · exact I.ok.noex b o e z
      · exact absurd (Nat.lt_of_lt_of_le (Heap.lt_size e) (Nat.le_trans I.ok.bsz z)) (Nat.lt_irrefl _)
    · rcases List.mem_cons.mp (I3.stkSub b z) with q | q
      · exact (f2 b hb).2.1 q
      · exact (f2 b hb).2.2.1 q
  have fpOk' : ∀ {H' : Hp}, (∀ b ∈ fp, H' b = none) → ∀ b ∈ fp, FpOk (cxComp X N' scope cl s3.heap.objs.size s3 (upd H s.heap.objs.size (.lst [])) fp) pins H' b := fun hn b hb =>
    ⟨hn b hb, Nat.ne_of_lt (fpLt b hb), fun z => by
      rcases List.mem_cons.mp (I3.stkSub b z) with q | q
      · exact (f2 b hb).2.1 q
      · exact (f2 b hb).2.2.1 q, .inl hb, fun y c e => (f2 b hb).2.2.2.2.1 y c (clS y c e), (f2 b hb).2.2.2.2.2⟩
  have I4 : Inv (cxComp X N' scope cl s3.heap.objs.size s3 (upd H s.heap.objs.size (.lst [])) fp) pins (none :: σ) (upd H s.heap.objs.size (.lst [])) { s3 with heap := h₁, toks := s3.toks + ([] : List (Str × Value)).length } := by
    refine ⟨ok', rfl, I3.bare, Un.kept old, ⟨_, hns₁, fun i y v e1 e2 vis => ?_⟩, fun y c e => ?_, ?_, fun y c e => I3.freeC y c (clS y c e), fun p hp => ?_, I3.hok.kept old, ?_⟩
    · cases i with
      | zero => cases e2
      | succ i =>
        have e2' : σ[i]? = some (some v) := by simpa using e2
        have hi : i < X.N.length := by rw [← I3.len]; exact (List.getElem?_eq_some_iff.mp e2').1
        have vis' : (relabel scope X.env).names.lookup y = some .local ∨ (relabel scope X.env).names.lookup y = some .cell ∨ (relabel scope X.env).names.lookup y = some .free := vis
        have e1' : N'[i + 1]? = some y := e1
        rcases S.sub i hi with q | q
        · rw [e1'] at q
          have hy : X.N[i]? = some y := q.symm
          have hmem : y ∈ N'.tail := by
            rw [List.mem_iff_getElem?]
            exact ⟨i, by rw [List.getElem?_tail]; exact e1'⟩
          have hfr : scope.names.lookup y = some .free := by
            rw [relabel_lookup] at vis'
            cases q2 : scope.names.lookup y with
            | none => rw [q2] at vis'; rcases vis' with z | z | z <;> cases z
            | some k =>
              cases k with
              | free => rfl
              | cell => exact absurd rfl (S.cell _ (lookup_mem q2))
              | «local» => exact absurd q2 (S.nol y hmem)
              | globalExplicit => rw [q2] at vis'; rcases vis' with z | z | z <;> simp at z
              | globalImplicit => rw [q2] at vis'; rcases vis' with z | z | z <;> simp at z
          have hok := S.ok (y, .free) (lookup_mem hfr) rfl
          obtain ⟨m, hn, hl⟩ := I3.loc
          have visX : Vis X.env.scope y := by
            rcases hok with z | z
            · exact .inr (.inl z)
            · exact .inr (.inr z)
          obtain ⟨u, r, l⟩ := hl i y v hy e2' visX
          refine ⟨u, r, .inr ⟨?_, ?_⟩⟩
          · show (relabel scope X.env).names.lookup y = some .cell ∨ (relabel scope X.env).names.lookup y = some .free
            rw [relabel_lookup, hfr, Option.map_some]
            by_cases hcnd : (NameKind.free == NameKind.free && X.env.scope.kind == .function && X.env.kindOf y == some .cell) = true
            · left
              rw [if_pos hcnd]
            · right
              rw [if_neg hcnd]
          · rcases l with ⟨k, _⟩ | ⟨k, c, e, z⟩
            · have k' : X.env.scope.names.lookup y = some .local := k
              have hok' : X.env.scope.names.lookup y = some .cell ∨ X.env.scope.names.lookup y = some .free := hok
              rw [k'] at hok'
              rcases hok' with z | z <;> cases z
            · obtain ⟨c', e'⟩ := clH y hfr
              have e3 := clS y c' e'
              rw [e] at e3
              cases e3
              obtain ⟨o, ho, hd⟩ := z
              exact ⟨c, e', o, old c o ho, hd⟩
        · rw [e1'] at q
          cases q
          rw [relabel_lookup, S.noe] at vis'
          rcases vis' with z | z | z <;> cases z
    · obtain ⟨v, o, ho, hd⟩ := I3.cell y c (clS y c e)
      exact ⟨v, o, old c o ho, hd⟩
    · show upd H s.heap.objs.size (.lst []) s3.heap.objs.size = none
      exact I3.hok.fresh (Nat.le_refl _)
    · obtain ⟨e, n, ne, nf, d⟩ := I3.pin p hp
      refine ⟨old _ _ e, n, CneP p hp, fun z => ?_, d⟩
      rcases List.mem_cons.mp (I3.stkSub p.1 z) with q | q
      · exact ne q
      · exact nf q
    · show (none :: σ).length = N'.length
      rw [S.len, List.length_cons, I3.len]
  have st4 : tn 0 h₁ := T.keep 0 s.heap h₁ st fun b _ o e => old0 b o e
  -- the loop
  have loop : ∀ s₄ : Shared, s₄ = { s3 with heap := h₁, toks := s3.toks + ([] : List (Str × Value)).length } →
      codeAny (model X.prog X.w) X.A (.compLoop (.ListComp elt [⟨.Name x px, iter, [], 0⟩] scope pos) 0 (.ref it) (.ref s.heap.objs.size) (compEnvC scope cl s3.heap.objs.size X.env)) (RR (.ref s.heap.objs.size) s3.heap.objs.size) s₄ := by
    rintro s₄ rfl
    refine codeAny_compLoop_any (fun n s' => ∃ i v0 ys H', Inv (cxComp X N' scope cl s3.heap.objs.size s3 (upd H s.heap.objs.size (.lst [])) fp) pins (v0 :: σ) H' s' ∧ tn i s'.heap ∧ (∀ b ∈ fp, H' b = none) ∧ W i n ys H') ?_ m0
      ⟨0, none, [], _, I4, st4, fun b hb => by rw [upd_ne (fpD b hb)]; exact (f2 b hb).1, w0⟩
    rintro n s5 ⟨i, v0, ys, H5, I5, st5, fr5, w5⟩
    rcases turn i n ys H5 w5 with ⟨stop, qn⟩ | ⟨go, hz, N, hN, step⟩
    · refine thn (T.done (cxComp X N' scope cl s3.heap.objs.size s3 (upd H s.heap.objs.size (.lst [])) fp) rfl rfl rfl hc i pins s5 (v0 :: σ) H5 (fun _ _ => False) I5 (fpOk' fr5) st5 stop) fun r s6 ⟨hr, I6⟩ => ?_
      subst hr
      have hch : ∀ b ∈ fp, (b ∈ X.ex ∨ X.s₀.heap.objs.size ≤ b) ∧ b ≠ X.env.locals ∧ (∀ x c, X.env.cells.lookup x = some c → c ≠ b) ∧ ∀ p ∈ X.pn ++ pins, p.1 ≠ b := fun b hb =>
        ⟨(f2 b hb).2.2.2.1, (f2 b hb).2.1, (f2 b hb).2.2.2.2.1, (f2 b hb).2.2.2.2.2⟩
      have I7 : Inv X pins σ H5 s6 := I3.call' (ch := fp) I6.os I6.base I6.hok I6.bare hch
      obtain ⟨m, hm, _⟩ := I6.loc
      exact hRR s.heap.objs.size s3.heap.objs.size s6 H5 I7 ⟨m, hm⟩ CneL CneC I6.free (Nat.le_trans I3.sz (Nat.le_refl _)) CneP qn
    · refine thn (T.item (cxComp X N' scope cl s3.heap.objs.size s3 (upd H s.heap.objs.size (.lst [])) fp) rfl rfl rfl hc i pins s5 (v0 :: σ) H5 (fun _ _ => False) I5 (fpOk' fr5) st5 go) fun r s6 ⟨u, hr, h6⟩ => ?_
      subst hr
      refine thn h6 fun _ s7 ⟨y, H7, I7, r7, y7, st7, fr7⟩ => ?_
      have I7' := I7.pinned (fpOk' fr7) (T.obj _ _ st7)
      refine wpAny_assign_Name (store_ok (i := 0) (v := y) I7' S.nd S.hd (.inl (lookup_relabel_local S.var)) r7 (fun s8 I8 => ?_) (.inr (lookup_relabel_local S.var)))
      have I8' : Inv (cxComp X N' scope cl s3.heap.objs.size s3 (upd H s.heap.objs.size (.lst [])) fp) (pins ++ pinsAt fp s7.heap) (some y :: σ) H7 s8 := I8
      refine thn (he cl s3.heap.objs.size s3 (upd H s.heap.objs.size (.lst [])) fp _ s8 (some y :: σ) H7 N I8' (step y H7 y7)) fun w s9 ⟨v, H9, I9, r9, q9⟩ => ?_
      obtain ⟨hD9, m', hm, w9⟩ := hN v H9 q9
      refine thn (mt_append _ s9 (some y :: σ) H9 (.ref s.heap.objs.size) [v] (.ref s.heap.objs.size) [w] (fun z H10 => z = .non ∧ H10 = upd H9 s.heap.objs.size (.lst (ys ++ [v]))) I9 rfl (.cons r9 .nil) ⟨s.heap.objs.size, ys, v, rfl, rfl, hD9, hz, rfl, rfl⟩) fun _ s10 ⟨z, H10, I10, _, ez, e10⟩ => ?_
      subst e10
      refine ⟨m', hm, i + 1, some y, ys ++ [v], _, I10.unpinned, T.keep _ _ _ st7 fun b hb o e => (I10.pin (b, o) (List.mem_append_right _ (List.mem_append_right _ (mem_pinsAt hb e)))).1, fun b hb => ?_, w9⟩
      obtain ⟨o, e, d⟩ := T.obj _ _ st7 b hb
      exact (I10.pin (b, o) (List.mem_append_right _ (List.mem_append_right _ (mem_pinsAt hb e)))).2.1
  exact codeAny_compStart_list (loop _ (by rw [← hs3])) (T.self X.A 0 _ _ _ st4 (loop _ (by rw [← hs3])))

/-- [elt for x in iter] -/
theorem pe_comp (S : CompSc X.N N' X.env.scope scope x) (hc : X.calm = true) (hi : PI X (.Name x px) iter wi) (he : ∀ cl C s H fp, PE (cxComp X N' scope cl C s H fp) elt te)
    (hs : ∀ x, foldedSetIterable iter X.env x = pure x := by intro _; rfl) : PE X (.ListComp elt [⟨.Name x px, iter, [], 0⟩] scope pos) (tComp wi te) := by
  intro pins s σ H Q I h
  rw [eval_ListComp]
  have hfree : ∀ z ∈ scope.names, z.2 = .free → ∃ c, X.env.cells.lookup z.1 = some c := fun z hz hk => by
    rcases S.ok z hz hk with q | q
    · exact I.ok.has z.1 (.inl q)
    · exact I.ok.has z.1 (.inr q)
  refine wpAny_comprehension_free (use := none) rfl hs (clos_eq hfree) S.kind S.names (thn (hi pins s σ H _ I h) fun xv s1 h1 => thn h1 fun itv s2 h2 => ?_)
  obtain ⟨it, fp, tn, J, H2, e, I2, T, st2, f2, hw⟩ := h2
  subst e
  obtain ⟨cl, hcl, hrun⟩ := comp_core (elt := elt) (iter := iter) (pos := pos) (px := px) (E := X.xe) (RR := fun acc C => compPost (model X.prog X.w) X.A X.xe none (EP X pins σ Q) acc C) S hc he I2 T st2 f2 hw (fun D C s' H' I' ⟨m, hm⟩ n1 n2 n3 n4 n5 q =>
    ⟨m, hm, fun h' hsb => ⟨.ref D, H', I'.turned (it := C) (t' := s'.toks) (fun b o hb e => (hsb.2 b hb).trans e) n3 n1 (.inr n4) n2 n5, rfl, q⟩⟩)
  have ecl : (pure (closOf X.env.cells scope.names []) : Sem (List (Str × Addr))) = pure cl := (clos_eq hfree).symm.trans hcl
  have ecl' : closOf X.env.cells scope.names [] = cl := by
    injection ecl
  rw [ecl']
  exact hrun
/-- name = [elt for x in iter] where the store comes ahead of the block's end -/
theorem ps_setComp {i : Nat} {y : Str} {py spos : Pos} (S : CompSc X.N N' X.env.scope scope x) (hc : X.calm = true) (hi : PI X (.Name x px) iter wi) (he : ∀ cl C s H fp, PE (cxComp X N' scope cl C s H fp) elt te)
    (hN : X.N.Nodup) (hy : X.N[i]? = some y) (hyl : X.env.scope.names.lookup y = some .local)
    (hsw : swapsWith (.ListComp elt [⟨.Name x px, iter, [], 0⟩] scope pos) (some (.Name y py)) spos.line X.env = pure true := by rfl)
    (hs : ∀ x, foldedSetIterable iter X.env x = pure x := by intro _; rfl) : PS X (.Assign [.Name y py] (.ListComp elt [⟨.Name x px, iter, [], 0⟩] scope pos) spos) (tAsg (tComp wi te) (gName i)) := by
  intro pins s σ H D0 I h
  have hfree : ∀ z ∈ scope.names, z.2 = .free → ∃ c, X.env.cells.lookup z.1 = some c := fun z hz hk => by
    rcases S.ok z hz hk with q | q
    · exact I.ok.has z.1 (.inl q)
    · exact I.ok.has z.1 (.inr q)
  rw [exec_Assign_Name_used _ _ _ _ hsw]
  refine wpAny_bind (wpAny_standAt (wpAny_bind ?_))
  show wpAny _ X.A (do let _ ← comprehension (.ListComp elt [⟨.Name x px, iter, [], 0⟩] scope pos) scope X.env _ (newList []) false (eval iter X.env) (some (assign (.Name y py) X.env))) _ _ s
  refine wpAny_bind (wpAny_mono (wpAny_comprehension_free (use := some (assign (.Name y py) X.env)) (Q := fun _ s' => SP X pins D0 .next s') rfl hs (clos_eq hfree) S.kind S.names
    (thn (hi pins s σ H _ I h) fun xv s1 h1 => thn h1 fun itv s2 h2 => ?_)) (fun _ s' hq => wpAny_pure (wpAny_pure hq)) fun _ _ e => e)
  obtain ⟨it, fp, tn, J, H2, e, I2, T, st2, f2, hw⟩ := h2
  subst e
  obtain ⟨cl, hcl, hrun⟩ := comp_core (elt := elt) (iter := iter) (pos := pos) (px := px) (E := X.xe) (Q := fun x H1 => gName i x σ H1 D0.nx) (RR := fun acc C => compPost (model X.prog X.w) X.A X.xe (some (assign (.Name y py) X.env)) (fun _ s' => SP X pins D0 .next s') acc C) S hc he I2 T st2 f2 hw (fun D C s' H' I' ⟨m, hm⟩ n1 n2 n3 n4 n5 q => by
    show wpAny _ X.A (assign (.Name y py) X.env (.ref D)) _ _ _
    refine wpAny_assign_Name (store_ok2 (i := i) (v := .ref D) I' hN hy (.inl hyl) rfl (fun s'' I'' ⟨a, hsa, hwa⟩ => ?_) (.inr hyl))
    have haC : C ≠ a := by
      rcases hwa with z | z
      · rw [z]; exact n1
      · intro z2
        exact n2 y a z z2.symm
    refine ⟨m, hm.sameBut hsa haC, fun h' hsb => ?_⟩
    exact ⟨_, H', I''.turned (it := C) (t' := s''.toks) (fun b o hb e => (hsb.2 b hb).trans e) n3 n1 (.inr n4) n2 n5, q⟩)
  have ecl : (pure (closOf X.env.cells scope.names []) : Sem (List (Str × Addr))) = pure cl := (clos_eq hfree).symm.trans hcl
  have ecl' : closOf X.env.cells scope.names [] = cl := by
    injection ecl
  rw [ecl']
  exact hrun
end

/-- over lo, lo + 1, .. (n of them): element i has value f i, whatever else is made -/
theorem comp_range {lo : Int} {n : Nat} {te : TE} {σ : St} {H : Hp} {Q : VK} (f : Nat → V) (hn : n ≤ sizeLine)
    (he : ∀ i H', i < n → Same H H' → ∀ N : V → Hp → Prop, (∀ H'', Same H' H'' → N (f i) H'') → te (some (.int (lo + i)) :: σ) H' N)
    (hq : ∀ D H', H D = none → Same H H' → H' D = some (.lst ((List.range n).map f)) → Q (.ref D) H') :
    compAt te σ Q (Itr lo n) H := by
  intro D hD
  refine ⟨fun i m ys H2 => m = n - i ∧ i ≤ n ∧ ys = (List.range i).map f ∧ Same H H2 ∧ H2 D = some (.lst ys), ⟨n, rfl, Nat.zero_le _, rfl, fun b o e => ?_, upd_same⟩, ?_⟩
  · rw [upd_ne (ne_of_none e hD)]
    exact e
  · rintro i m ys H2 ⟨rfl, hi, rfl, hs, hd⟩
    by_cases hlt : i < n
    · refine .inr ⟨hlt, by rw [List.length_map, List.length_range]; omega, fun v H' => v = f i ∧ Same H2 H', fun v H' ⟨ev, hs'⟩ => ⟨hs' D _ hd, n - (i + 1), by omega, rfl, hlt, ?_, fun b o e => ?_, upd_same⟩, fun y H' hy => ?_⟩
      · rw [ev, List.range_succ, List.map_append]
        rfl
      · rw [upd_ne (ne_of_none e hD)]
        exact hs' b o (hs b o e)
      · obtain ⟨e1, e2⟩ := hy
        subst e1 e2
        exact he i _ hlt hs _ fun H'' h'' => ⟨rfl, h''⟩
    · have e : i = n := by omega
      subst e
      exact .inl ⟨Nat.le_refl _, hq D H2 hD hs hd⟩
/-- over a list that stays as it is -/
theorem comp_list {K : PySem.W.Frag} {a : Addr} {xs : List V} {te : TE} {σ : St} {H : Hp} {Q : VK} (f : Nat → V) (hl : SqL K H a xs) (hn : xs.length ≤ sizeLine)
    (he : ∀ i x H', xs[i]? = some x → Same H H' → ∀ N : V → Hp → Prop, (∀ H'', Same H' H'' → N (f i) H'') → te (some x :: σ) H' N)
    (hq : ∀ D H', H D = none → Same H H' → H' D = some (.lst ((List.range xs.length).map f)) → Q (.ref D) H') :
    compAt te σ Q (Itl K a) H := by
  intro D hD
  refine ⟨fun i m ys H2 => m = xs.length - i ∧ i ≤ xs.length ∧ ys = (List.range i).map f ∧ Same H H2 ∧ H2 D = some (.lst ys), ⟨xs.length, rfl, Nat.zero_le _, rfl, fun b o e => ?_, upd_same⟩, ?_⟩
  · rw [upd_ne (ne_of_none e hD)]
    exact e
  · rintro i m ys H2 ⟨rfl, hi, rfl, hs, hd⟩
    by_cases hlt : i < xs.length
    · refine .inr ⟨⟨xs, xs[i], hs.seq hl, by simp [hlt]⟩, by rw [List.length_map, List.length_range]; omega, fun v H' => v = f i ∧ Same H2 H', fun v H' ⟨ev, hs'⟩ => ⟨hs' D _ hd, xs.length - (i + 1), by omega, rfl, hlt, ?_, fun b o e => ?_, upd_same⟩, fun y H' hy => ?_⟩
      · rw [ev, List.range_succ, List.map_append]
        rfl
      · rw [upd_ne (ne_of_none e hD)]
        exact hs' b o (hs b o e)
      · obtain ⟨e1, e2⟩ := hy
        subst e1
        exact he i y _ (e2 xs (hs.seq hl)) hs _ fun H'' h'' => ⟨rfl, h''⟩
    · have e : i = xs.length := by omega
      subst e
      exact .inl ⟨⟨xs, hs.seq hl, Nat.le_refl _⟩, hq D H2 hD hs hd⟩
end L2

set_option Elab.async false
set_option linter.all false
set_option maxRecDepth 100000
set_option maxHeartbeats 4000000

/-! Calls by name, isinstance, list.index, lists of texts compared, a text walked, sum. -/
namespace L2
open PySem PySem.Spec PyProof.Rows

/-- a def that is called by its name -/
structure Cal (P : Program) (w : World) (K : PySem.W.Frag) (mg : Str → Option Value) (base : Heap) (CX : CXT) (x : Str) (k : Nat) (ps : List Str) (sp : Sp) : Prop where
  ex : ∃ (f : Addr) (fd : FuncData), FnOk P w K mg base CX k f fd ps sp ∧ mg x = some (.ref f) ∧ PySem.W.keepIn K (.ref f) = true ∧ Binds K fd ps []
section
variable {X : Cx}
theorem pe_cal {CX : CXT} {x : Str} {j k : Nat} {ps : List Str} {sp : Sp} {E : XK} {e : Expr} {es : List Expr} {t : TA} {p pos : Pos} (c : Cal X.prog X.w X.K X.mg X.base CX x j ps sp) (hr : Room k X.A) (hx : Passes CX X E) (ha : PA X (e :: es) t)
    (hjk : j ≤ k := by decide) (hg : Gl X x := by rfl) (hdb : (x == ("__debug__" : Str)) = false := by decide) (he : starEach (e :: es) X.env = (false, eval e X.env) :: starEach es X.env := by rfl) (hpl : (backTo pos (starEach es X.env)).any (·.1) = false := by rfl) :
    PE X (.Call (.Name x p) (e :: es) [] pos) (tCall sp [] E t) := by
  obtain ⟨f, fd, F, hm, hk, hb⟩ := c.ex
  exact pe_call F (hr.mono hjk) hg hm hk hb .nil hx ha hdb he hpl

/-! ### small ones -/
theorem pe_strT (l : List Nat) {x : Str} {j pos} (h : x = tx l) : PE X (.Constant (.str x) j pos) (tC (T l)) := by
  subst h
  exact pe_str
theorem call_len_T : CallR X (.builtin "len") (fun xs H Q => ∃ (l : List Nat), xs = [T l] ∧ l.length ≤ sizeLine ∧ Q (.int (l.length : Nat)) H) := by
  intro pins s σ H xs us Q I r h
  obtain ⟨l, e, hz, q⟩ := h
  exact call_len_str pins s σ H xs us Q I r ⟨tx l, e, by rw [tx_len]; exact hz, by rw [tx_len]; exact q⟩
theorem ix_T : IxR X (fun x y H Q => ∃ (l : List Nat), x = T l ∧ ∃ (i : Int), y = .int i ∧ l.length ≤ sizeLine ∧ ∃ c, atI l i = some c ∧ Q (T [c]) H) := by
  intro value slice pins s σ H x y v u Q I rx ry h hs
  obtain ⟨l, e1, i, e2, hz, c, hc, q⟩ := h
  exact ix_str value slice pins s σ H x y v u Q I rx ry ⟨tx l, i, c, e1, e2, by rw [tx_len]; exact hz, by rw [tx_cps]; exact hc, q⟩ hs

/-! ### isinstance(x, C), C a built-in class -/
theorem call_isinst : CallR X (.builtin "isinstance") (fun xs H Q => ∃ (x : V) (c : String) (t : Value) (b : Bool), xs = [x, .ty c] ∧ TyOf X.K H x t ∧ PySem.W.kitOne X.K t (.type c) = some b ∧ Q (.bl b) H) := by
  intro pins s σ H xs us Q I r h
  obtain ⟨x, c, t, b, rfl, ty, e, q⟩ := h
  obtain ⟨u, w', rfl, ru, rw'⟩ := vals2 r
  cases (show w' = Value.type c from rw')
  exact isinst_ok I ru ty e fun tk => ⟨.bl b, H, I.tok tk, rfl, q⟩
theorem kit_same {K : PySem.W.Frag} (T : String) : PySem.W.kitOne K (.type T) (.type T) = some true := by
  unfold PySem.W.kitOne
  rw [if_pos (by simp)]
/-! ### xs + ys, both read -/
theorem op_catL : OpR X (binaryOp .Add) (fun x y H Q => ∃ (l b : Addr) (xs zs : List V), x = .ref l ∧ y = .ref b ∧ SqL X.K H l xs ∧ SqL X.K H b zs ∧ xs.length + zs.length ≤ sizeLine ∧ ∀ p, H p = none → Q (.ref p) (upd H p (.lst (xs ++ zs)))) := by
  intro pins s σ H x y v u Q I rx ry h
  obtain ⟨l, b, xs, zs, rfl, rfl, hH, hB, hz, q⟩ := h
  cases rx
  cases ry
  obtain ⟨its, r, ⟨⟨cls, dd, data, sl⟩, n, ho, hc, hdd, hd⟩, _⟩ := I.list hH
  obtain ⟨its2, r2, ⟨⟨cls2, dd2, data2, sl2⟩, n2, ho2, hc2, hdd2, hd2⟩, _⟩ := I.list hB
  simp only at hc hd hc2 hd2
  subst hc hd hc2 hd2
  have e : its.toArray ++ its2.toArray = (its ++ its2).toArray := by simp
  refine concat_meets ⟨_, ho, rfl⟩ ⟨_, ho2, rfl⟩ noFill_list_add seq_list_add PySem.F.slot_list_add PySem.F.entry_list_add (PySem.F.args_list_add_2 _ _) (list_addW l b its.toArray its2.toArray n n2 dd dd2 sl sl2 (by rw [List.size_toArray, List.size_toArray, ← r.length, ← r2.length]; exact hz)) ⟨ho, ho2, ?_⟩
  rw [e]
  exact ⟨.ref _, _, I.lnew (t' := s.toks) (r.append r2) (by rw [List.length_append]; exact hz), rfl, q _ I.fresh⟩

/-! ### lists of texts compared -/
theorem eqAt_T {ls ms : List (List Nat)} {us ws : List Value} (r : Vals (ls.map T) us) (r' : Vals (ms.map T) ws) {A : Around} {s : Shared} {j : Nat} {u w : Value} (hu : us[j]? = some u) (hw : ws[j]? = some w) : SeqAt.EqAt A s u w (decide (ls[j]? = ms[j]?)) := by
  have h1 : j < ls.length := by have := r.length; rw [List.length_map] at this; rw [this]; exact (List.getElem?_eq_some_iff.mp hu).1
  have h2 : j < ms.length := by have := r'.length; rw [List.length_map] at this; rw [this]; exact (List.getElem?_eq_some_iff.mp hw).1
  obtain ⟨u', e1, q1⟩ := r.get (i := j) (x := T ls[j]) (by rw [List.getElem?_map, List.getElem?_eq_getElem h1]; rfl)
  obtain ⟨w', e2, q2⟩ := r'.get (i := j) (x := T ms[j]) (by rw [List.getElem?_map, List.getElem?_eq_getElem h2]; rfl)
  rw [hu] at e1
  cases e1
  rw [hw] at e2
  cases e2
  have e := eqAt_V (A := A) (s := s) q1 q2 rfl rfl
  have ee : eqV (T ls[j]) (T ms[j]) = decide (ls[j]? = ms[j]?) := by
    show (tx ls[j] == tx ms[j]) = _
    rw [Bool.eq_iff_iff, beq_iff_eq, decide_eq_true_iff, List.getElem?_eq_getElem h1, List.getElem?_eq_getElem h2]
    exact ⟨fun h => by rw [tx_inj h], fun h => by rw [Option.some.inj h]⟩
  rw [ee] at e
  exact e
theorem all_range_eq {ls ms : List (List Nat)} (h : ls.length = ms.length) : (List.range ls.length).all (fun j => decide (ls[j]? = ms[j]?)) = decide (ls = ms) := by
  rw [Bool.eq_iff_iff, List.all_eq_true, decide_eq_true_iff]
  constructor
  · intro g
    apply List.ext_getElem?
    intro i
    by_cases hi : i < ls.length
    · exact of_decide_eq_true (g i (List.mem_range.mpr hi))
    · rw [List.getElem?_eq_none (by omega), List.getElem?_eq_none (by omega)]
  · intro g j _
    rw [g]
    exact decide_eq_true rfl
theorem op_eq_LT (hu : X.A.units < cLine) : OpR X (compareOp .Eq) (fun x y H Q => ∃ (p b : Addr) (ls ms : List (List Nat)), x = .ref p ∧ y = .ref b ∧ SqL X.K H p (ls.map T) ∧ SqL X.K H b (ms.map T) ∧ Q (.bl (decide (ls = ms))) H) := by
  intro pins s σ H x y v u Q I rx ry h
  obtain ⟨p, b, ls, ms, rfl, rfl, h1, h2, q⟩ := h
  cases rx
  cases ry
  obtain ⟨its, r, pl, _⟩ := I.list h1
  obtain ⟨its2, r2, pl2, _⟩ := I.list h2
  have l1 := r.length
  have l2 := r2.length
  rw [List.length_map] at l1 l2
  by_cases hl : ls.length = ms.length
  · refine SeqAt.eq_listAt (e := fun j => decide (ls[j]? = ms[j]?)) pl.isList pl2.isList (by rw [List.size_toArray, List.size_toArray]; omega) hu (fun j g1 g2 => eqAt_T r r2 (by simp) (by simp)) ?_
    rw [List.size_toArray, ← l1, all_range_eq hl]
    exact ⟨.bl _, H, I, rfl, q⟩
  · refine SeqAt.eq_list_lengthsAt pl.isList pl2.isList (by rw [List.size_toArray, List.size_toArray, bne_iff_ne]; omega) hu ?_
    have e : decide (ls = ms) = false := decide_eq_false fun z => hl (by rw [z])
    rw [e] at q
    exact ⟨.bl _, H, I, rfl, q⟩


/-! ### sum(ints): some int -/
theorem call_sum (hc : X.calm = true) : CallR X (.builtin "sum") (fun xs H Q => ∃ (p : Addr) (ns : List Int), xs = [.ref p] ∧ SqL X.K H p (ns.map V.int) ∧ ∀ r : Int, Q (.int r) H) := by
  intro pins s σ H xs us Q I r h
  obtain ⟨p, ns, rfl, hq, q⟩ := h
  obtain ⟨u, rfl, ru⟩ := vals1 r
  cases ru
  obtain ⟨its, rv, pl, _⟩ := I.list hq
  obtain ⟨xs, hx⟩ := (intsAre_of rv).allInts.items
  have hl := pl.isList
  rw [hx] at hl
  exact sum_intListG (I.ok.hd hc) hl fun h' tk t' hk => ⟨.int _, H, I.kept hk, ⟨_, rfl⟩, q _⟩
end
end L2

set_option Elab.async false
set_option linter.all false
set_option maxRecDepth 100000
set_option maxHeartbeats 4000000

/-! Exceptions of the text's own classes, over the layer: raised, on their way through frames, caught. -/
namespace L2
open PySem PySem.Spec PyProof.Rows

/-- the exception at a, of the class cls, is on its way over the frames outer. H, s: abstract heap and state ahead of the call; H': the abstract heap behind -/
structure Fly (P : Program) (w : World) (outer : List Env) (H : Hp) (s : Shared) (a : Addr) (cls : Value) (H' : Hp) (s' : Shared) : Prop where
  os : s'.os = s.os
  bare : AllBare s'.gens
  ex : ∃ (B : Heap) (t : Addr), Heap.FlyingW B outer a cls (.ref t) s'.heap ∧ HOk P w H' B ∧ (∀ b o, s.heap.get? b = some o → H b = none → b ∉ frs outer → B.get? b = some o) ∧
    ∀ b o, s.heap.get? b = some o → b ∉ frs outer → ∃ o', B.get? b = some o'
  slot : ∀ b o, s.heap.get? b = some o → H b = none → b ∈ frs outer → ∃ sl, s'.heap.get? b = some { o with slots := sl }
  free : ∀ b o, s.heap.get? b = some o → H b = none → H' b = none
  tups : ∀ b xs, H b = some (.tup xs) → H' b = some (.tup xs)
  frzs : ∀ b o u, H b = some (.frz o u) → H' b = some (.frz o u)
  tbls : ∀ b ps, H b = some (.tbl ps) → ∃ more, H' b = some (.tbl (ps ++ more))
def CX1 (P : Program) (w : World) : CXT := fun outer H s E e s' => ∃ a cls H', e = .ref a ∧ Fly P w outer H s a cls H' s' ∧ E cls none H'

section
variable {X : Cx} {pins : List (Addr × Obj)} {σ : St} {H H' : Hp} {s s' : Shared} {a : Addr} {cls : Value} {E : Value → Shared → Prop}

/-- a frame of this body's own -/
structure Own (X : Cx) : Prop where
  stk : X.stack = X.env :: X.outer
  fr : X.env.frame = some X.env.locals
  ex : X.ex = []
end

/-! ### raise C(text), C an own class under ValueError -/
abbrev bmVE : List Value := [.type "ValueError", .type "Exception", .type "BaseException", .type "object"]
/-- what is asked of the class -/
structure Exc (K : PySem.W.Frag) (mg : Str → Option Value) (x : Str) (C : Addr) : Prop where
  mg : mg x = some (.ref C)
  is : PySem.W.excIn K C bmVE "ValueError.__new__" = true
/-- the reading: the wanted exception, at the heap as it is -/
def tRaise (E : Value → Hp → Prop) (C : Addr) (t : TA) : TS := fun _ σ H => t σ H fun vs H1 => vs.length ≤ sizeLine ∧ E (.ref C) H1
/-! ### a def's body: exceptions leave it -/
section
variable {P : Program} {w : World} {K : PySem.W.Frag} {mg : Str → Option Value} {base : Heap} {N : List Str} {qual : Str} {scope : Scope} {f : Addr} {cdv : Value} {A : Around} {outer : List Env} {s : Shared} {H : Hp} {E : XK}
end
end L2

set_option Elab.async false
set_option linter.all false
set_option maxRecDepth 100000
set_option maxHeartbeats 4000000

/-! try .. except C [as n], over the layer. -/
namespace L2
open PySem PySem.Spec PyProof.Rows

/-- an exception has come out of a try's body -/
def XP (X : Cx) (pins : List (Addr × Obj)) (R : St → Value → Hp → Prop) (e : Value) (s' : Shared) : Prop :=
  ∃ a cls σ' H s1 H', e = .ref a ∧ Inv X pins σ' H s1 ∧ Fly X.prog X.w X.stack H s1 a cls H' s' ∧ R σ' cls H'
abbrev TTy := Ends → (St → Value → Hp → Prop) → St → Hp → Prop
/-- a try's body -/
def PTy (X : Cx) (st : List Stmt) (t : TTy) : Prop :=
  ∀ (pins : List (Addr × Obj)) (s : Shared) (σ : St) (H : Hp) (D : Ends) (R : St → Value → Hp → Prop), Inv X pins σ H s → t D R σ H → wpAny (model X.prog X.w) X.A (execs st X.env) (SP X pins D) (XP X pins R) s
section
variable {X : Cx}
def tyCall (sp : Sp) (t : TA) : TTy := fun D R σ H => t σ H fun vs H1 => sp vs H1 (fun _ H2 => D.nx σ H2) fun cls _ H2 => R σ cls H2
def tyIf (c : TT) (t u : TTy) : TTy := fun D R σ H => c σ H fun b H1 => if b = true then t D R σ H1 else u D R σ H1
/-! ### the handlers -/
/-- an exception that was caught and is kept -/
def ExcAt (a : Addr) (cls : Value) : HO := .ext fun h => ∃ o, h.get? a = some o ∧ o.cls = cls
abbrev TH := Ends → St → Value → Hp → Prop
def PH (X : Cx) (hs : List ExceptHandler) (t : TH) : Prop :=
  ∀ (pins : List (Addr × Obj)) (σ : St) (H : Hp) (s : Shared) (a : Addr) (cls : Value) (H' : Hp) (s' : Shared) (D : Ends), Inv X pins σ H s → Fly X.prog X.w X.stack H s a cls H' s' → t D σ cls H' →
    wpAny (model X.prog X.w) X.A (handleBy (.ref a) X.env hs) (SP X pins D) X.xe s'
/-- the context of a handler's rows -/
abbrev cxMark (X : Cx) (a : Addr) : Cx := { X with A := X.A.mark (some (.ref a)), calm := false, xe := fun _ _ => False }
/-- except C: .. -/
def thPlain (K : PySem.W.Frag) (c : Value) (ts : TS) (tr : TH) : TH := fun D σ cls H' => (PySem.W.exmOne K cls c = some true ∧ ts D σ H') ∨ (PySem.W.exmOne K cls c = some false ∧ tr D σ cls H')
def thNone : TH := fun _ _ _ _ => False
/-- except C as n: .. (n in slot i) -/
def thAs (K : PySem.W.Frag) (c : Value) (i : Nat) (ts : TS) (tr : TH) : TH := fun D σ cls H' =>
  (PySem.W.exmOne K cls c = some true ∧ ∀ a, H' a = none → ts { nx := fun σ2 H2 => D.nx (σ2.set i none) H2, rt := D.rt } (σ.set i (some (.ref a))) (upd H' a (ExcAt a cls))) ∨ (PySem.W.exmOne K cls c = some false ∧ tr D σ cls H')
/-- try: .. except .. -/
def tTry (tb : TTy) (th : TH) : TS := fun D σ H => tb D (fun σ' cls H' => th D σ' cls H') σ H
end
end L2

set_option Elab.async false
set_option linter.all false
set_option maxRecDepth 100000
set_option maxHeartbeats 4000000

/-! sorted(texts), reversed(list), list(reversed(list)), lists of texts told apart. -/
namespace L2
open PySem PySem.Spec PyProof.Rows

namespace RV
section
variable {prog : Program} {w : World} {A : Around} {E : Value → Shared → Prop} {s : Shared}
end
end RV

section
variable {X : Cx}
/-- one argument -/
theorem arg1 {e : Expr} {pos : Pos} {s : Shared} {Q : List Value → Shared → Prop} {E : Value → Shared → Prop} (h : wpAny (model X.prog X.w) X.A (eval e X.env) (fun u s1 => Q [u] s1) E s) (hs : starEach [e] X.env = (false, eval e X.env) :: starEach [] X.env) :
    wpAny (model X.prog X.w) X.A (spliced (backTo pos (starEach [e] X.env))) Q E s := by
  rw [hs]
  show wpAny _ _ (spliced ((false, eval e X.env) :: backTo pos (starEach [] X.env))) _ _ s
  exact Calls.spliced_cons (thn h fun u s1 q => Calls.spliced_nil q)
def tLR (K : PySem.W.Frag) (t : TE) : TE := fun σ H Q => t σ H fun x H1 => ∃ (p : Addr) (vs : List V), x = .ref p ∧ SqL K H1 p vs ∧ ∀ D, H1 D = none → Q (.ref D) (upd H1 D (.lst vs.reverse))
/-! ### sorted(texts) -/
theorem rising_pw : ∀ (x : List Nat) (ls : List (List Nat)), risingS (tx x) (ls.map tx) = true → (∀ y ∈ ls, ¬ y < x) ∧ ls.Pairwise (fun a b => ¬ b < a)
  | x, [], _ => ⟨fun _ h => (by cases h), .nil⟩
  | x, y :: ls, h => by
    have h' : (!ltCps (tx y).cps.toList (tx x).cps.toList && risingS (tx y) (ls.map tx)) = true := h
    rw [Bool.and_eq_true, tx_cps, tx_cps, ltCps_eq] at h'
    obtain ⟨a, b⟩ := rising_pw y ls h'.2
    have h1 : ¬ y < x := by simpa using h'.1
    refine ⟨fun z hz => ?_, List.pairwise_cons.mpr ⟨a, b⟩⟩
    rcases List.mem_cons.mp hz with rfl | hz
    · exact h1
    · exact Wd.lele h1 (a z hz)
theorem sorted_pw : ∀ (ls : List (List Nat)), sortedS (ls.map tx) = true → ls.Pairwise (fun a b => ¬ b < a)
  | [], _ => .nil
  | x :: ls, h => List.pairwise_cons.mpr (rising_pw x ls h)
theorem strs_back : ∀ {us : List Value} {ss : List Str}, StrsAre us ss → Vals ((ss.map fun x => x.cps.toList).map T) us
  | _, _, .nil => .nil
  | _, _, .cons x t h => .cons ⟨t, by show Value.str x t = Value.str (tx x.cps.toList) t; rw [tx_eta]⟩ (strs_back h)
/-! ### lists of texts told apart -/
theorem op_ne_LT (hu : X.A.units < cLine) : OpR X (compareOp .NotEq) (fun x y H Q => ∃ (p b : Addr) (ls ms : List (List Nat)), x = .ref p ∧ y = .ref b ∧ SqL X.K H p (ls.map T) ∧ SqL X.K H b (ms.map T) ∧ Q (.bl (!decide (ls = ms))) H) := by
  intro pins s σ H x y v u Q I rx ry h
  obtain ⟨p, b, ls, ms, rfl, rfl, h1, h2, q⟩ := h
  cases rx
  cases ry
  obtain ⟨its, r, pl, _⟩ := I.list h1
  obtain ⟨its2, r2, pl2, _⟩ := I.list h2
  have l1 := r.length
  have l2 := r2.length
  rw [List.length_map] at l1 l2
  by_cases hl : ls.length = ms.length
  · refine SeqAt.RcNeAt.lists (e := fun j => decide (ls[j]? = ms[j]?)) pl.isList pl2.isList (by rw [List.size_toArray, List.size_toArray]; omega) hu (fun j g1 g2 => eqAt_T r r2 (by simp) (by simp)) _ _ _ _ ?_
    rw [List.size_toArray, ← l1, all_range_eq hl]
    exact ⟨.bl _, H, I, rfl, q⟩
  · refine SeqAt.RcNeAt.lists_lengths pl.isList pl2.isList (by rw [List.size_toArray, List.size_toArray, bne_iff_ne]; omega) hu _ _ _ _ ?_
    have e : decide (ls = ms) = false := decide_eq_false fun z => hl (by rw [z])
    rw [e] at q
    exact ⟨.bl _, H, I, rfl, q⟩
end
end L2

set_option Elab.async false
set_option linter.all false
set_option maxRecDepth 100000
set_option maxHeartbeats 4000000

/-! set(texts), len of it. -/
namespace L2
open PySem PySem.Spec PyProof.Rows

/-- the unlike ones, in the order in which they are met -/
def nub : List (List Nat) → List (List Nat) → List (List Nat)
  | acc, [] => acc
  | acc, l :: ls => if l ∈ acc then nub acc ls else nub (acc ++ [l]) ls
def nubTo (ls : List (List Nat)) : Nat → List (List Nat)
  | 0 => []
  | i + 1 => if ls.getD i [] ∈ nubTo ls i then nubTo ls i else nubTo ls i ++ [ls.getD i []]
/-- how many unlike ones there are -/
def uniq (ls : List (List Nat)) : List (List Nat) := nubTo ls ls.length
namespace SE
section
variable {prog : Program} {w : World} {A : Around} {R : Result → Shared → Prop} {J : Addr} {fp wr : List Addr} {G : Array GenState → Array GenState → Prop} {n : Nat} {P : Nat → Value → Prop} {St : Nat → Shared → Prop}
abbrev Has (prog : Program) (w : World) (h : Heap) (D : Addr) (ms : List (List Nat)) : Prop := h.SetOf (PySem.strKind prog w) D (fun x => decide (x.cps.toList ∈ ms)) ms.length
variable {E : Value → Shared → Prop} {s : Shared}
end
end SE

/-- a set of texts, tracked -/
def SetT (P : Program) (w : World) (D : Addr) (ms : List (List Nat)) : HO := .ext fun h => SE.Has P w h D ms
section
variable {X : Cx}
end
end L2

set_option Elab.async false
set_option linter.all false
set_option maxRecDepth 100000
set_option maxHeartbeats 4000000

namespace L2
open PySem PySem.Spec PyProof.Rows
section
variable {X : Cx}
/-! ### a list that is read, times a number -/
namespace LM
theorem rmul (a : Int) (t : Tok) (l : Addr) (its : Array Value) (n : Nat) (dd : Option Addr) (sl : Array (Option Value)) :
    Meets (Builtin.«int.__rmul__» ⟨[.int a t, .ref l], []⟩) (fun _ R s => s.heap.get? l = some { cls := .type "list", dict := dd, data := .seq its n, slots := sl } ∧ R (.ok (.ret Value.notImplemented)) s) :=
  .of_wp fun prog w A R s z => by
    obtain ⟨hp, g, d, tk, os⟩ := s
    obtain ⟨hl, z⟩ := z
    wp_walk
    exact ⟨_, rfl, z⟩
theorem mul (l : Addr) (its : Array Value) (n : Nat) (dd : Option Addr) (sl : Array (Option Value)) (x : Int) (u : Tok) (c0 : ¬(!Builtin.List.listFitsIndex x) = true) (c1 : ¬its.size * x.toNat > (2 ^ 63 - 1) / 8) (c2 : ¬Builtin.List.listTooLong (its.size * x.toNat) = true) :
    Meets (Builtin.«list.__mul__» ⟨[.ref l, .int x u], []⟩) (fun _ R s => s.heap.get? l = some { cls := .type "list", dict := dd, data := .seq its n, slots := sl } ∧
      R (.ok (.ret (Value.ref s.heap.objs.size))) { s with heap := s.heap.push { cls := Value.type "list", data := Data.seq (List.foldl (fun x1 x2 => x1 ++ x2) #[] (List.replicate (if its.isEmpty = true then 0 else x.toNat) its)) } }) :=
  .of_wp fun prog w A R s z => by
    obtain ⟨hp, g, d, tk, os⟩ := s
    obtain ⟨hl, z⟩ := z
    have hsz := AutoListH.joined_fits c2
    wp_walk using wpAny_loadPart' hl
    refine wpAny_ite_false (decide_eq_false (Nat.not_lt.mpr hsz)) ?_
    wp_walk
    exact ⟨_, rfl, z⟩
end LM
/-! ### the same rules where the fragment is named (in a comprehension) -/
theorem call_len_K (K : PySem.W.Frag) (hK : X.K = K) : CallR X (.builtin "len") (fun xs H Q => ∃ p ys, xs = [.ref p] ∧ (SqL K H p ys ∨ SqT K H p ys) ∧ Q (.int ys.length) H) := by
  subst hK
  exact call_len_seq
theorem ix_list_K (K : PySem.W.Frag) (hK : X.K = K) : IxR X (rIxL K) := by
  subst hK
  exact ix_list
theorem op_repI : OpR X (binaryOp .Mult) (fun x y H Q => ∃ (l : Addr) (k : Int) (xs : List V), x = .ref l ∧ y = .int k ∧ SqL X.K H l xs ∧ (-(2 ^ 63) ≤ k ∧ k < 2 ^ 63 ∧ xs.length * k.toNat ≤ sizeLine) ∧ ∀ p, H p = none → Q (.ref p) (upd H p (.lst (List.replicate k.toNat xs).flatten))) := by
  intro pins s σ H x y v u Q I rx ry h
  obtain ⟨l, k, xs, rfl, rfl, hH, ⟨h1, h2, hz⟩, q⟩ := h
  cases rx
  obtain ⟨t, rfl⟩ := ry
  obtain ⟨its, r, ⟨⟨cls, dd, data, sl⟩, n, e, hc, hdd, hd⟩, z⟩ := I.list hH
  simp only at hc hd
  subst hc hd
  have hl := r.length
  have hlen : its.toArray.size * k.toNat ≤ sizeLine := by rw [List.size_toArray, ← hl]; exact hz
  have hcap : ¬ its.toArray.size * k.toNat > (2 ^ 63 - 1) / 8 := by
    have : (sizeLine : Nat) ≤ (2 ^ 63 - 1) / 8 := by decide
    omega
  have hfit : ¬ (!Builtin.List.listFitsIndex k) = true := by
    rw [fitsIndex_both h1 h2]
    exact Bool.false_ne_true
  have hlong : ¬ Builtin.List.listTooLong (its.toArray.size * k.toNat) = true := by
    rw [notLongL hlen]
    exact Bool.false_ne_true
  have hnew : List.foldl (fun x1 x2 => x1 ++ x2) #[] (List.replicate (if its.toArray.isEmpty = true then 0 else k.toNat) its.toArray) = (List.replicate k.toNat its).flatten.toArray := by
    have f0 : ∀ m : Nat, List.foldl (fun x1 x2 => x1 ++ x2) #[] (List.replicate m its.toArray) = (List.replicate m its).flatten.toArray := fun m => by
      have := foldl_rep its m []
      rw [List.nil_append] at this
      exact this
    rw [f0]
    cases its with
    | nil => simp
    | cons a r' => rw [if_neg (by simp)]
  refine wpAny_binaryOp_repeat_ref (T := "list") (U := "int") (by decide) ⟨_, e, rfl⟩ (fun s' => typeIs_int s' k t) noFill_list_mul F.fills_int_mul F.slot_int_rmul repeat_list F.slot_int_index.lookup
    (call_meets F.slot_int_rmul (typeIs_int s k t) F.entry_int_rmul (F.args_int_rmul_2 _ _) (LM.rmul k t l its.toArray n dd sl)
      ⟨e, rfl, ⟨_, e, rfl⟩, call_meets F.slot_list_mul ⟨_, e, rfl⟩ F.entry_list_mul (F.args_list_mul_2 _ _) (LM.mul l its.toArray n dd sl k t hfit hcap hlong) ⟨e, ?_⟩⟩)
  rw [hnew]
  exact ⟨.ref _, _, I.lnew (t' := s.toks) (r.rep k.toNat) (by rw [len_rep, Nat.mul_comm]; exact hz), rfl, q _ I.fresh⟩
theorem op_repL : OpR X (binaryOp .Mult) (fun x y H Q => ∃ (l : Addr) (k : Nat) (xs : List V), x = .ref l ∧ y = .int k ∧ SqL X.K H l xs ∧ (k ≤ sizeLine ∧ xs.length * k ≤ sizeLine) ∧ ∀ p, H p = none → Q (.ref p) (upd H p (.lst (List.replicate k xs).flatten))) := by
  intro pins s σ H x y v u Q I rx ry h
  obtain ⟨l, k, xs, e1, e2, hH, ⟨hk, hz⟩, q⟩ := h
  have hs : sizeLine = 16777216 := sizeLine_eq
  refine op_repI pins s σ H x y v u Q I rx ry ⟨l, (k : Int), xs, e1, e2, hH, ⟨by omega, by omega, ?_⟩, ?_⟩
  · rw [Int.toNat_natCast]
    exact hz
  · rw [Int.toNat_natCast]
    exact q
end
end L2

set_option Elab.async false
set_option linter.all false
set_option maxRecDepth 100000
set_option maxHeartbeats 4000000

/-! Texts walked sign by sign, a sign within a text, LETTERS.index, ''.join(reversed(list)), list(range(n)), range downward. -/
namespace L2
open PySem PySem.Spec PyProof.Rows

/-! ### for c in text -/
def Itx (l : List Nat) : It := ⟨fun i _ => i < l.length, fun i H x H' => H' = H ∧ ∃ c, l[i]? = some c ∧ x = T [c], fun i _ => l.length ≤ i⟩
def iStr (tl : TE) : TI := fun σ H R => tl σ H fun x H1 => ∃ l, x = T l ∧ R (Itx l) H1
section
variable {X : Cx} {tg : Expr}
end
section
variable {X : Cx}
/-! ### ''.join(reversed(list)) -/
namespace RV
variable {prog : Program} {w : World} {A : Around} {E : Value → Shared → Prop} {s : Shared}
end RV
def tJR (K : PySem.W.Frag) (t : TE) : TE := fun σ H Q => t σ H fun x H1 => ∃ (p : Addr) (ls : List (List Nat)), x = .ref p ∧ SqL K H1 p (ls.map T) ∧ ls.flatten.length ≤ sizeLine ∧ Q (T ls.reverse.flatten) H1
end
end L2

set_option Elab.async false
set_option linter.all false
set_option maxRecDepth 100000
set_option maxHeartbeats 4000000

/-! Defs that raise nothing among those that do; isinstance of a caught exception. -/
namespace L2
open PySem PySem.Spec PyProof.Rows

section
variable {P : Program} {w : World} {K : PySem.W.Frag} {mg : Str → Option Value} {base : Heap}
end

/-! ### isinstance(e, C), e an exception of an own class -/
open PySem.W in
/-- what is asked of its class -/
structure Knd (K : PySem.W.Frag) (C : Addr) : Prop where
  ga : findIn K (.ref C) "__getattribute__" = some (some (.builtin "BaseException.__getattribute__"))
  hk : findIn K (.ref C) "__getattr__" = some none
  ha : findIn K (.ref C) "__class__" = some (some (.builtin "object.__class__"))
  hn : specialIn K (.builtin "object.__class__") "__get__" = some (some (.builtin "getset_descriptor.__get__"))
  htk : takesIn K (.builtin "object.__class__") = some true
  hm : mroIn K C (.type "object") = some true
  hb : mroIn K C (.type "BaseException") = some true
  cl : (clsIn K C).isSome = true
namespace EX
open PySem.W PySem.Calls PySem.Builtin PySem.Builtin.ObjectAttr PySem.Builtin.Getset_descriptor
variable {prog : Program} {w : World} {A : Around} {E : Value → Shared → Prop} {s : Shared} {K : PySem.W.Frag} {a C : Addr}
end EX
section
variable {X : Cx}
/-- the class as a value -/
def clsV : Value → Option V
  | .ref c => some (.ref c)
  | .type n => some (.ty n)
  | _ => none
/-! ### list(range(n)) -/
def tLRg (ta : TE) : TE := fun σ H Q => ta σ H fun x H1 => ∃ n : Nat, x = .int (n : Nat) ∧ n ≤ 100000 ∧ ∀ D, H1 D = none → Q (.ref D) (upd H1 D (.lst ((List.range n).map fun i => .int ((i : Nat) : Int))))
end
end L2

set_option Elab.async false
set_option linter.all false
set_option maxRecDepth 100000
set_option maxHeartbeats 4000000

/-! Argument lists and displays, with less to reckon: what an item's form says is said once. -/
namespace L2
open PySem PySem.Spec PyProof.Rows
section
variable {X : Cx} {es : List Expr} {te : TE} {t : TA}
/-- ints written out -/
def cInts : List (Int × Nat × Pos) → List Expr
  | [] => []
  | (i, j, p) :: r => .Constant (.int i) j p :: cInts r
def tInts (is : List Int) : TA := fun _ H Q => Q (is.map V.int) H
/-- pairs of ints written out -/
def cPairs : List ((Int × Nat × Pos) × (Int × Nat × Pos) × Nat × Pos) → List Expr
  | [] => []
  | ((i, j, p), (i', j', p'), k, q) :: r => .Tuple [.Constant (.int i) j p, .Constant (.int i') j' p'] k q :: cPairs r
def tPairs : List (Int × Int) → TA
  | [] => fun _ H Q => Q [] H
  | (a, b) :: r => fun σ H Q => ∀ t, H t = none → tPairs r σ (upd H t (.tup [.int a, .int b])) fun vs H1 => Q (.ref t :: vs) H1
end
end L2

set_option Elab.async false
set_option linter.all false
set_option maxRecDepth 100000
set_option maxHeartbeats 4000000

/-! range(a, b, -1) walked; two lists of bools that are alike compared -/
namespace L2
open PySem PySem.Spec PyProof.Rows
def Itd (lo : Int) (n : Nat) : It where
  go := fun i _ => i < n
  stop := fun i _ => n ≤ i
  yld := fun i H x H' => x = .int (lo - i) ∧ H' = H
section
variable {X : Cx} {tg : Expr}
def iRng3 (ta : TA) : TI := fun σ H R => ta σ H fun vs H1 => ∃ i j : Int, vs = [.int i, .int j, .int (-1)] ∧ (-(2 ^ 62) ≤ i ∧ i < 2 ^ 62 ∧ -(2 ^ 62) ≤ j ∧ j < 2 ^ 62) ∧ R (Itd i (i - j).toNat) H1
end
end L2

set_option Elab.async false
set_option linter.all false
set_option maxRecDepth 100000
/-! Lists made of what passes a test. -/
namespace L2
open PySem
def compAtF (tc : TT) (te : TE) (σ : St) (Q : VK) (J : It) (H1 : Hp) : Prop := ∀ D, H1 D = none → ∃ W : Nat → Nat → List V → Hp → Prop, (∃ m, W 0 m [] (upd H1 D (.lst []))) ∧ ∀ i m ys H2, W i m ys H2 →
  (J.stop i H2 ∧ Q (.ref D) H2) ∨ (J.go i H2 ∧ ys.length < sizeLine ∧ ∃ N : V → Hp → Prop, (∀ v H', N v H' → H' D = some (.lst ys) ∧ ∃ m', m' < m ∧ W (i + 1) m' (ys ++ [v]) (upd H' D (.lst (ys ++ [v])))) ∧
    ∃ Nn : Hp → Prop, (∀ H', Nn H' → ∃ m', m' < m ∧ W (i + 1) m' ys H') ∧
    ∀ y H', J.yld i H2 y H' → tc (some y :: σ) H' fun b H'' => if b = true then te (some y :: σ) H'' N else Nn H'')
def tCompF (wi : TI) (tc : TT) (te : TE) : TE := fun σ H Q => wi σ H (compAtF tc te σ Q)

section
variable {X : Cx} {N' : List Str} {scope : Scope} {x : Str} {px : Pos} {elt iter cd : Expr} {pos : Pos} {te : TE} {tc : TT} {wi : TI}

end

section
variable {X : Cx}
end
end L2

set_option autoImplicit false
set_option linter.all false
set_option maxRecDepth 100000
/-! The sort of any number of items: runs and insertions from any place on. -/
namespace SR
open PySem PyProof.Rows
/-- what every step keeps -/
structure SB (z : Array Keyed) (st : SortSt) : Prop where
  prm : (arrOf st).Perm z
  knd : kindOf st = oneType'
  ffl : failedOf st = none
theorem SB.sz {z : Array Keyed} {st : SortSt} (h : SB z st) : (arrOf st).size = z.size := h.prm.size_eq
theorem SB.put {z : Array Keyed} {st : SortSt} (h : SB z st) {xs : Array Keyed} (hp : xs.Perm (arrOf st)) : SB z (setArr st xs) := ⟨hp.trans h.prm, h.knd, h.ffl⟩
def Up (κ : KeyKind) (xs : Array Keyed) (l r : Nat) : Prop := ∀ i j, l ≤ i → i ≤ j → j < r → κ.kle (KK κ xs i) (KK κ xs j)
def Dn (κ : KeyKind) (xs : Array Keyed) (l r : Nat) : Prop := ∀ i j, l ≤ i → i ≤ j → j < r → κ.kle (KK κ xs j) (KK κ xs i)
/-- nothing below lo changes, nor what is pending -/
structure Kp (lo : Nat) (st st' : SortSt) : Prop where
  low : ∀ k, k < lo → (arrOf st')[k]? = (arrOf st)[k]?
  pen : pendingOf st' = pendingOf st
theorem Kp.rfl' {lo : Nat} {st : SortSt} : Kp lo st st := ⟨fun _ _ => rfl, rfl⟩
theorem Kp.tr {lo : Nat} {a b c : SortSt} (h : Kp lo a b) (h' : Kp lo b c) : Kp lo a c := ⟨fun k hk => (h'.low k hk).trans (h.low k hk), h'.pen.trans h.pen⟩
theorem kp_mirror {lo i j : Nat} {st : SortSt} (hj : j ≤ (arrOf st).size) (hi : lo ≤ i) : Kp lo st (setArr st (mirror (arrOf st) i j ((j - i) / 2))) := ⟨fun k hk => by
  show (mirror (arrOf st) i j ((j - i) / 2))[k]? = _
  rw [getElem?_mirror_all hj, if_neg (by omega)], rfl⟩
section
variable {prog : Program} {w : World} {A : Around} {E : Value → Shared → Prop} {s : Shared} {z : Array Keyed} {κ : KeyKind}
theorem SB.key {st : SortSt} (h : SB z st) (hz : KeysOf κ z) {i : Nat} (hi : i < z.size) : ∃ x p a, (arrOf st)[i]? = some (x, p) ∧ κ.keyOf x = some a ∧ KK κ (arrOf st) i = a := by
  have hi' : i < (arrOf st).size := by rw [h.sz]; exact hi
  have hm : (arrOf st)[i] ∈ z.toList := (Array.perm_iff_toList_perm.mp h.prm).mem_iff.mp (by simp)
  obtain ⟨a, ha⟩ := hz _ hm
  have e : (arrOf st)[i]? = some (arrOf st)[i] := getElem?_pos _ i hi'
  exact ⟨(arrOf st)[i].1, (arrOf st)[i].2, a, by rw [e], ha, by unfold KK; rw [e]; simp [ha]⟩
theorem w_lt {st : SortSt} {i j : Nat} {Q : Option Bool → SortSt → Prop} (hO : κ.OneLt) (hB : SB z st) (hz : KeysOf κ z) (hi : i < z.size) (hj : j < z.size)
    (h : Q (some (κ.blt (KK κ (arrOf st) i) (KK κ (arrOf st) j))) st) : wpS (model prog w) A E s (ltAt' i j) Q st := by
  obtain ⟨x, p, a, e1, ha, ka⟩ := hB.key hz hi
  obtain ⟨y, q, b, e2, hb, kb⟩ := hB.key hz hj
  rw [ka, kb] at h
  exact wpS_ltAtK hO hB.knd e1 e2 ha hb h
/-- the run goes up -/
def upL (lo a m : Nat) : StateT SortSt Sem AscSt :=
  forIn [a:m] ((none, a) : AscSt) fun _ c => do
    let o ← ltAt' (lo + c.snd) (lo + c.snd - 1)
    match o with
    | some t => if t = true then pure (ForInStep.done (none, c.snd)) else pure (ForInStep.yield (none, c.snd + 1))
    | _ => pure (ForInStep.done (some none, c.snd))
def endL (lo n m : Nat) : StateT SortSt Sem (Option Nat) := do
  reverseSlice' lo (lo + n)
  let c ← upL lo n m
  match c.fst with
  | some r => pure r
  | none => pure (some c.snd)
def dnL (lo n m : Nat) : StateT SortSt Sem DescSt :=
  forIn [n:m] ((none, n, 0) : DescSt) fun _ c => do
    let o ← ltAt' (lo + c.snd.fst) (lo + c.snd.fst - 1)
    match o with
    | some t =>
      if t = true then
        if c.snd.snd > 0 then do
          reverseSlice' (lo + c.snd.fst - (c.snd.snd + 1)) (lo + c.snd.fst)
          pure (ForInStep.yield (none, c.snd.fst + 1, 0))
        else pure (ForInStep.yield (none, c.snd.fst + 1, 0))
      else do
        let o ← ltAt' (lo + c.snd.fst - 1) (lo + c.snd.fst)
        match o with
        | some t => if t = true then pure (ForInStep.done (none, c.snd.fst, c.snd.snd)) else pure (ForInStep.yield (none, c.snd.fst + 1, c.snd.snd + 1))
        | _ => pure (ForInStep.done (some none, c.snd.fst, c.snd.snd))
    | _ => pure (ForInStep.done (some none, c.snd.fst, c.snd.snd))
def dnP (lo n m : Nat) : StateT SortSt Sem (Option Nat) := do
  liftM (rule "list.sort.descending-run")
  let c ← dnL lo (n + 1) m
  match c.fst with
  | some r => pure r
  | none =>
    if c.snd.snd > 0 then do
      reverseSlice' (lo + c.snd.fst - (c.snd.snd + 1)) (lo + c.snd.fst)
      endL lo c.snd.fst m
    else endL lo c.snd.fst m
theorem bnd {α β : Type} {x y : StateT SortSt Sem α} {f g : α → StateT SortSt Sem β} (h : x = y) (h' : ∀ a, f a = g a) : (x >>= f) = (y >>= g) := by
  rw [h, show f = g from funext h']
theorem run_eq (lo m : Nat) : countRun' lo m = (do
    let c ← upL lo 1 m
    match c.fst with
    | some r => pure r
    | none =>
      if (c.snd == m) = true then pure (some c.snd)
      else if c.snd > 1 then do
        let o ← ltAt' lo (lo + c.snd - 1)
        match o with
        | some t => if t = true then pure (some c.snd) else do
            reverseSlice' lo (lo + c.snd)
            dnP lo c.snd m
        | _ => pure none
      else dnP lo c.snd m) := by
  rw [countRun'_eq]
  unfold dnP endL dnL upL
  refine bnd rfl fun c => ?_
  obtain ⟨r, n⟩ := c
  cases r with
  | some r => rfl
  | none =>
    dsimp only
    split
    · rfl
    · split
      · refine bnd rfl fun x => ?_
        cases x with
        | none => rfl
        | some t =>
          dsimp only
          split
          · rfl
          · refine bnd rfl fun _r => ?_
            refine bnd rfl fun _u => ?_
            refine bnd rfl fun s2 => ?_
            obtain ⟨r2, n2, q2⟩ := s2
            cases r2 with
            | some r2 => rfl
            | none =>
              dsimp only
              split
              · refine bnd rfl fun _v => ?_
                (refine bnd rfl fun _w => ?_; refine bnd rfl fun s3 => ?_; obtain ⟨r3, n3⟩ := s3; cases r3 <;> rfl)
              · (refine bnd rfl fun _w => ?_; refine bnd rfl fun s3 => ?_; obtain ⟨r3, n3⟩ := s3; cases r3 <;> rfl)
      · refine bnd rfl fun _u => ?_
        refine bnd rfl fun s2 => ?_
        obtain ⟨r2, n2, q2⟩ := s2
        cases r2 with
        | some r2 => rfl
        | none =>
          dsimp only
          split
          · refine bnd rfl fun _v => ?_
            (refine bnd rfl fun _w => ?_; refine bnd rfl fun s3 => ?_; obtain ⟨r3, n3⟩ := s3; cases r3 <;> rfl)
          · (refine bnd rfl fun _w => ?_; refine bnd rfl fun s3 => ?_; obtain ⟨r3, n3⟩ := s3; cases r3 <;> rfl)
theorem up_one {xs : Array Keyed} {l : Nat} : Up κ xs l (l + 1) := fun i j h1 h2 h3 => by
  obtain rfl : i = j := by omega
  exact KeyOrd.kle_refl _
theorem up_snoc {xs : Array Keyed} {l r : Nat} (hr : l < r) (h : Up κ xs l r) (hl : κ.kle (KK κ xs (r - 1)) (KK κ xs r)) : Up κ xs l (r + 1) := fun i j h1 h2 h3 => by
  by_cases hj : j < r
  · exact h i j h1 h2 hj
  · obtain rfl : j = r := by omega
    by_cases hi : i = j
    · subst hi; exact KeyOrd.kle_refl _
    · exact KeyOrd.kle_trans (h i (j - 1) h1 (by omega) (by omega)) hl
theorem dn_snoc {xs : Array Keyed} {l r : Nat} (hr : l < r) (h : Dn κ xs l r) (hl : κ.kle (KK κ xs r) (KK κ xs (r - 1))) : Dn κ xs l (r + 1) := fun i j h1 h2 h3 => by
  by_cases hj : j < r
  · exact h i j h1 h2 hj
  · obtain rfl : j = r := by omega
    by_cases hi : i = j
    · subst hi; exact KeyOrd.kle_refl _
    · exact KeyOrd.kle_trans hl (h i (j - 1) h1 (by omega) (by omega))
theorem w_up {st : SortSt} {lo a m : Nat} {Q : AscSt → SortSt → Prop} (hO : κ.OneLt) (hz : KeysOf κ z) (hm : lo + m ≤ z.size) (ha : 1 ≤ a) (ham : a ≤ m) (hB : SB z st) (hs : Up κ (arrOf st) lo (lo + a))
    (h : ∀ n, a ≤ n → n ≤ m → Up κ (arrOf st) lo (lo + n) → (n = m ∨ κ.klt (KK κ (arrOf st) (lo + n)) (KK κ (arrOf st) (lo + n - 1))) → Q (none, n) st) : wpS (model prog w) A E s (upL lo a m) Q st := by
  unfold upL
  refine wpS_forRange (I := fun x c st' => st' = st ∧ c = (none, x) ∧ Up κ (arrOf st) lo (lo + x)) ?sp ?fi ⟨rfl, rfl, hs⟩
  case fi =>
    rintro c st' ⟨rfl, rfl, hu⟩
    rw [show max a m = m by omega] at hu ⊢
    exact h m ham (Nat.le_refl _) hu (.inl rfl)
  case sp =>
    rintro x c st' hax hxm ⟨rfl, rfl, hu⟩
    dsimp only
    refine wpS_bind (w_lt hO hB hz (by omega) (by omega) ?_)
    cases hq : κ.blt (KK κ (arrOf st') (lo + x)) (KK κ (arrOf st') (lo + x - 1)) with
    | true =>
      simp only [if_true]
      exact wpS_pure (h x hax (by omega) hu (.inr hq))
    | false =>
      simp only [Bool.false_eq_true, if_false]
      exact wpS_pure ⟨rfl, rfl, up_snoc (r := lo + x) (by omega) hu hq⟩
theorem w_end {st : SortSt} {lo n m : Nat} {Q : Option Nat → SortSt → Prop} (hO : κ.OneLt) (hz : KeysOf κ z) (hm : lo + m ≤ z.size) (h1 : 1 ≤ n) (hn : n ≤ m) (hB : SB z st) (hs : Dn κ (arrOf st) lo (lo + n))
    (h : ∀ k st', SB z st' → Kp lo st st' → 1 ≤ k → k ≤ m → Up κ (arrOf st') lo (lo + k) → Q (some k) st') : wpS (model prog w) A E s (endL lo n m) Q st := by
  unfold endL
  have hsz : lo + n ≤ (arrOf st).size := by rw [hB.sz]; omega
  refine wpS_bind (wpS_reverse ?_)
  have hB' : SB z (setArr st (mirror (arrOf st) lo (lo + n) ((lo + n - lo) / 2))) := hB.put (mirror_perm _ _ _ _)
  refine wpS_bind (w_up hO hz hm h1 hn hB' ?_ fun k hk1 hk2 hu _ => wpS_pure (h k _ hB' (kp_mirror hsz (Nat.le_refl _)) (by omega) hk2 hu))
  intro i j hi hij hj
  show κ.kle (KK κ (mirror (arrOf st) lo (lo + n) ((lo + n - lo) / 2)) i) (KK κ (mirror (arrOf st) lo (lo + n) ((lo + n - lo) / 2)) j)
  rw [KK_mirror hsz, KK_mirror hsz, if_pos ⟨by omega, by omega⟩, if_pos ⟨by omega, by omega⟩]
  exact hs _ _ (by omega) (by omega) (by omega)
theorem w_dn {st : SortSt} {lo n m : Nat} {Q : DescSt → SortSt → Prop} (hO : κ.OneLt) (hz : KeysOf κ z) (hm : lo + m ≤ z.size) (h1 : 1 ≤ n) (hn : n ≤ m) (hB : SB z st) (hs : Dn κ (arrOf st) lo (lo + n))
    (h : ∀ k e st', SB z st' → Kp lo st st' → n ≤ k → k ≤ m → Dn κ (arrOf st') lo (lo + k) → e + 1 ≤ k → (∀ i, lo + k - (e + 1) ≤ i → i < lo + k → KK κ (arrOf st') i = KK κ (arrOf st') (lo + k - 1)) → Q (none, k, e) st') :
    wpS (model prog w) A E s (dnL lo n m) Q st := by
  unfold dnL
  refine wpS_forRange (I := fun x c st' => ∃ e, c = (none, x, e) ∧ SB z st' ∧ Kp lo st st' ∧ Dn κ (arrOf st') lo (lo + x) ∧ e + 1 ≤ x ∧ (∀ i, lo + x - (e + 1) ≤ i → i < lo + x → KK κ (arrOf st') i = KK κ (arrOf st') (lo + x - 1))) ?sp ?fi
    ⟨0, rfl, hB, Kp.rfl', hs, by omega, fun i g1 g2 => by rw [show i = lo + n - 1 by omega]⟩
  case fi =>
    rintro c st' ⟨e, rfl, hB', hk', hd, he, hq⟩
    rw [show max n m = m by omega] at hd he hq ⊢
    exact h m e st' hB' hk' hn (Nat.le_refl _) hd he hq
  case sp =>
    rintro x c st' hax hxm ⟨e, rfl, hB', hk', hd, he, hq⟩
    dsimp only
    have hsz : lo + x ≤ (arrOf st').size := by rw [hB'.sz]; omega
    refine wpS_bind (w_lt hO hB' hz (by omega) (by omega) ?_)
    cases hl : κ.blt (KK κ (arrOf st') (lo + x)) (KK κ (arrOf st') (lo + x - 1)) with
    | true =>
      simp only [if_true]
      have hstep : ∀ xs : Array Keyed, (∀ k, KK κ xs k = KK κ (arrOf st') k) → Dn κ xs lo (lo + (x + 1)) := fun xs hk => by
        have h2 := dn_snoc (r := lo + x) (by omega) hd (KeyOrd.kle_of_klt hl)
        intro i j g1 g2 g3
        rw [hk, hk]
        exact h2 i j g1 g2 (by omega)
      by_cases he0 : e > 0
      · rw [if_pos he0]
        exact wpS_bind (wpS_reverse (wpS_pure ⟨0, rfl, hB'.put (mirror_perm _ _ _ _), hk'.tr (kp_mirror hsz (by omega)), hstep _ (KK_mirror_equal hsz hq), by omega, fun i g1 g2 => by rw [show i = lo + (x + 1) - 1 by omega]⟩))
      · rw [if_neg he0]
        exact wpS_pure ⟨0, rfl, hB', hk', hstep _ (fun _ => rfl), by omega, fun i g1 g2 => by rw [show i = lo + (x + 1) - 1 by omega]⟩
    | false =>
      simp only [Bool.false_eq_true, if_false]
      refine wpS_bind (w_lt hO hB' hz (by omega) (by omega) ?_)
      cases hg : κ.blt (KK κ (arrOf st') (lo + x - 1)) (KK κ (arrOf st') (lo + x)) with
      | true =>
        simp only [if_true]
        exact wpS_pure (h x e st' hB' hk' hax (by omega) hd he hq)
      | false =>
        simp only [Bool.false_eq_true, if_false]
        have hx : KK κ (arrOf st') (lo + x) = KK κ (arrOf st') (lo + x - 1) := KeyOrd.kle_antisymm hg hl
        refine wpS_pure ⟨e + 1, rfl, hB', hk', dn_snoc (r := lo + x) (by omega) hd hg, by omega, fun i g1 g2 => ?_⟩
        rw [show lo + (x + 1) - 1 = lo + x by omega]
        by_cases hi : i = lo + x
        · rw [hi]
        · rw [hx]; exact hq i (by omega) (by omega)
theorem w_dnP {st : SortSt} {lo n m : Nat} {Q : Option Nat → SortSt → Prop} (hO : κ.OneLt) (hz : KeysOf κ z) (hm : lo + m ≤ z.size) (hn : n + 1 ≤ m) (hB : SB z st) (hs : Dn κ (arrOf st) lo (lo + (n + 1)))
    (h : ∀ k st', SB z st' → Kp lo st st' → 1 ≤ k → k ≤ m → Up κ (arrOf st') lo (lo + k) → Q (some k) st') : wpS (model prog w) A E s (dnP lo n m) Q st := by
  unfold dnP
  refine wpS_bind (wpS_lift (wpAny_rule ⟨rfl, ?_⟩))
  refine wpS_bind (w_dn hO hz hm (by omega) hn hB hs fun k e st' hB' hk' hk1 hk2 hd he hq => ?_)
  dsimp only
  have hsz : lo + k ≤ (arrOf st').size := by rw [hB'.sz]; omega
  by_cases he0 : e > 0
  · rw [if_pos he0]
    refine wpS_bind (wpS_reverse (w_end hO hz hm (by omega) hk2 (hB'.put (mirror_perm _ _ _ _)) ?_ fun j st2 b1 b2 b3 b4 b5 => h j st2 b1 ((hk'.tr (kp_mirror hsz (by omega))).tr b2) b3 b4 b5))
    intro i j hi hij hj
    show κ.kle (KK κ (mirror (arrOf st') _ _ _) j) (KK κ (mirror (arrOf st') _ _ _) i)
    rw [KK_mirror_equal hsz hq, KK_mirror_equal hsz hq]
    exact hd i j hi hij hj
  · rw [if_neg he0]
    exact w_end hO hz hm (by omega) hk2 hB' hd fun j st2 b1 b2 b3 b4 b5 => h j st2 b1 (hk'.tr b2) b3 b4 b5
theorem w_run {st : SortSt} {lo m : Nat} {Q : Option Nat → SortSt → Prop} (hO : κ.OneLt) (hz : KeysOf κ z) (hm : lo + m ≤ z.size) (h1 : 1 ≤ m) (hB : SB z st)
    (h : ∀ k st', SB z st' → Kp lo st st' → 1 ≤ k → k ≤ m → Up κ (arrOf st') lo (lo + k) → Q (some k) st') : wpS (model prog w) A E s (countRun' lo m) Q st := by
  rw [run_eq]
  refine wpS_bind (w_up hO hz hm (Nat.le_refl 1) h1 hB up_one fun n hn1 hn2 hu hor => ?_)
  dsimp only
  by_cases hnm : n = m
  · rw [if_pos (by simpa using hnm)]
    exact wpS_pure (h n st hB Kp.rfl' hn1 hn2 hu)
  · rw [if_neg (by simpa using hnm)]
    have hlt := hor.resolve_left hnm
    by_cases hgt : n > 1
    · rw [if_pos hgt]
      refine wpS_bind (w_lt hO hB hz (by omega) (by omega) ?_)
      cases hr : κ.blt (KK κ (arrOf st) lo) (KK κ (arrOf st) (lo + n - 1)) with
      | true =>
        simp only [if_true]
        exact wpS_pure (h n st hB Kp.rfl' hn1 hn2 hu)
      | false =>
        simp only [Bool.false_eq_true, if_false]
        have hsz : lo + n ≤ (arrOf st).size := by rw [hB.sz]; omega
        have hall : ∀ k, lo ≤ k → k < lo + n → KK κ (arrOf st) k = KK κ (arrOf st) (lo + n - 1) := fun k k1 k2 =>
          KeyOrd.kle_antisymm (hu k (lo + n - 1) k1 (by omega) (by omega)) (KeyOrd.kle_trans hr (hu lo k (Nat.le_refl _) k1 k2))
        refine wpS_bind (wpS_reverse (w_dnP hO hz hm (by omega) (hB.put (mirror_perm _ _ _ _)) ?_ fun j st2 b1 b2 b3 b4 b5 => h j st2 b1 ((kp_mirror hsz (Nat.le_refl _)).tr b2) b3 b4 b5))
        have hd : Dn κ (arrOf st) lo (lo + n) := fun i j g1 g2 g3 => by rw [hall i (by omega) (by omega), hall j (by omega) (by omega)]; exact KeyOrd.kle_refl _
        have hd2 := dn_snoc (by omega) hd (KeyOrd.kle_of_klt hlt)
        intro i j g1 g2 g3
        show κ.kle (KK κ (mirror (arrOf st) _ _ _) j) (KK κ (mirror (arrOf st) _ _ _) i)
        rw [KK_mirror_equal hsz hall, KK_mirror_equal hsz hall]
        exact hd2 i j g1 g2 (by omega)
    · rw [if_neg hgt]
      obtain rfl : n = 1 := by omega
      refine w_dnP hO hz hm (by omega) hB ?_ h
      refine dn_snoc (by omega) (fun i j g1 g2 g3 => ?_) (KeyOrd.kle_of_klt hlt)
      obtain rfl : i = j := by omega
      exact KeyOrd.kle_refl _
theorem w_ins {st : SortSt} {lo n ok : Nat} {Q : Bool → SortSt → Prop} (hO : κ.OneLt) (hz : KeysOf κ z) (hn : lo + n ≤ z.size) (h1 : 1 ≤ ok) (hok : ok ≤ n) (hB : SB z st) (hs : Up κ (arrOf st) lo (lo + ok))
    (h : ∀ st', SB z st' → Kp lo st st' → Up κ (arrOf st') lo (lo + n) → Q true st') : wpS (model prog w) A E s (binarySort' lo n ok) Q st := by
  rw [binarySort'_eq]
  refine wpS_bind (wpS_mono (wpS_forRange (I := fun k c st' => c = (none, ()) ∧ SB z st' ∧ Kp lo st st' ∧ Up κ (arrOf st') lo (lo + k)) (Q := fun c st' => c = (none, ()) ∧ SB z st' ∧ Kp lo st st' ∧ Up κ (arrOf st') lo (lo + n)) ?sp ?fi ?ini) ?po)
  case po =>
    rintro c st' ⟨rfl, hB', hk', hu⟩
    exact wpS_pure (h st' hB' hk' hu)
  case ini =>
    rw [show max ok 1 = ok by omega]
    exact ⟨rfl, hB, Kp.rfl', hs⟩
  case fi =>
    rintro c st' ⟨hc, hB', hk', hu⟩
    rw [show max (max ok 1) n = n by omega] at hu
    exact ⟨hc, hB', hk', hu⟩
  case sp =>
    rintro k c st' hak hkn ⟨rfl, hB', hk', hu⟩
    have hk : lo + k < z.size := by omega
    refine wpS_bind (wpS_mono (wpS_forRange (I := fun x c st2 => st2 = st' ∧ ∃ l r, c = (none, l, r) ∧ l ≤ r ∧ r ≤ k ∧ r - l ≤ k - x ∧ (∀ i, i < l → κ.kle (KK κ (arrOf st') (lo + i)) (KK κ (arrOf st') (lo + k))) ∧ (∀ i, r ≤ i → i < k → κ.klt (KK κ (arrOf st') (lo + k)) (KK κ (arrOf st') (lo + i))))
      (Q := fun c st2 => st2 = st' ∧ ∃ l r, c = (none, l, r) ∧ l ≤ k ∧ (∀ i, i < l → κ.kle (KK κ (arrOf st') (lo + i)) (KK κ (arrOf st') (lo + k))) ∧ (∀ i, l ≤ i → i < k → κ.klt (KK κ (arrOf st') (lo + k)) (KK κ (arrOf st') (lo + i)))) ?isp ?ifi ?iini) ?ipo)
    case iini => exact ⟨rfl, 0, k, rfl, by omega, by omega, by omega, fun i g => by omega, fun i g1 g2 => by omega⟩
    case ifi =>
      rintro c st2 ⟨rfl, l, r, rfl, hlr, hrk, hx, hlo, hhi⟩
      obtain rfl : l = r := by omega
      exact ⟨rfl, l, l, rfl, hrk, hlo, hhi⟩
    case isp =>
      rintro x c st2 _ hxk ⟨rfl, l, r, rfl, hlr, hrk, hx, hlo, hhi⟩
      dsimp only
      by_cases hge : l ≥ r
      · rw [if_pos hge]
        obtain rfl : l = r := by omega
        exact wpS_pure ⟨rfl, l, l, rfl, hrk, hlo, hhi⟩
      · rw [if_neg hge]
        refine wpS_bind (w_lt hO hB' hz hk (by omega) ?_)
        cases hl : κ.blt (KK κ (arrOf st2) (lo + k)) (KK κ (arrOf st2) (lo + (l + r) / 2)) with
        | true =>
          simp only [if_true]
          exact wpS_pure ⟨rfl, l, (l + r) / 2, rfl, by omega, by omega, by omega, hlo, fun i g1 g2 => KeyOrd.klt_of_klt_of_kle hl (hu _ _ (by omega) (by omega) (by omega))⟩
        | false =>
          simp only [Bool.false_eq_true, if_false]
          exact wpS_pure ⟨rfl, (l + r) / 2 + 1, r, rfl, by omega, by omega, by omega, fun i g => KeyOrd.kle_trans (hu (lo + i) (lo + (l + r) / 2) (by omega) (by omega) (by omega)) hl, hhi⟩
    case ipo =>
      rintro c st2 ⟨rfl, l, r, rfl, hlk, hlo, hhi⟩
      show wpS _ _ _ _ (do moveDown' (lo + k) (lo + l); pure (ForInStep.yield (none, ()))) _ _
      rw [moveDown'_eq]
      have hks : lo + k < (arrOf st2).size := by rw [hB'.sz]; exact hk
      refine wpS_bind (wpS_modify (wpS_pure ⟨rfl, hB'.put (bubble_perm _ _ _), hk'.tr ⟨fun i hi => ?_, rfl⟩, ?_⟩))
      · show (bubble (arrOf st2) (lo + k) (lo + k - (lo + l)))[i]? = _
        rw [getElem?_bubble hks _ (by omega), if_neg (by omega), if_neg (by omega)]
      intro i j g1 g2 g3
      show κ.kle (KK κ (bubble (arrOf st2) (lo + k) (lo + k - (lo + l))) i) (KK κ (bubble (arrOf st2) (lo + k) (lo + k - (lo + l))) j)
      rw [KK_bubble hks (by omega), KK_bubble hks (by omega), show lo + k - (lo + k - (lo + l)) = lo + l by omega]
      have hlo' : ∀ i, lo ≤ i → i < lo + l → κ.kle (KK κ (arrOf st2) i) (KK κ (arrOf st2) (lo + k)) := fun i g1 g2 => by
        have := hlo (i - lo) (by omega)
        rwa [show lo + (i - lo) = i by omega] at this
      have hhi' : ∀ i, lo + l ≤ i → i < lo + k → κ.klt (KK κ (arrOf st2) (lo + k)) (KK κ (arrOf st2) i) := fun i g1 g2 => by
        have := hhi (i - lo) (by omega) (by omega)
        rwa [show lo + (i - lo) = i by omega] at this
      repeat' split
      all_goals first
        | (exfalso; omega)
        | exact KeyOrd.kle_refl _
        | exact hlo' _ (by omega) (by omega)
        | exact KeyOrd.kle_of_klt (hhi' _ (by omega) (by omega))
        | exact hu _ _ (by omega) (by omega) (by omega)
end
end SR

set_option autoImplicit false
set_option linter.all false
set_option maxRecDepth 100000
namespace SR
open PySem PyProof.Rows
def gal' : Bool → Keyed → Array Keyed → Nat → Nat → Nat → StateT SortSt Sem (Option Nat) := sortPriv% PySem.Builtin.gallop
def bq (left : Bool) (key : Keyed) (arr : Array Keyed) (base : Nat) (i : Nat) : StateT SortSt Sem (Option Bool) := do
  let x ← elem' arr (base + i)
  if left then lt' x key else return (← lt' key x).map (!·)
theorem gal'_eq (left : Bool) (key : Keyed) (arr : Array Keyed) (base n hint : Nat) : gal' left key arr base n hint = (do
  let mut la := 0
  let mut po := 1
  let mut l := 0
  let mut h := 0
  let some r0 ← bq left key arr base hint | return none
  if r0 then
    let mx := n - hint
    for _ in [0:n] do
      if po ≥ mx then break
      let some mo ← bq left key arr base (hint + po) | return none
      if !mo then break
      la := po
      po := 2 * po + 1
    l := hint + la + 1
    h := hint + min po mx
  else
    let mx := hint + 1
    for _ in [0:n] do
      if po ≥ mx then break
      let some mo ← bq left key arr base (hint - po) | return none
      if mo then break
      la := po
      po := 2 * po + 1
    l := hint + 1 - min po mx
    h := hint - la
  for _ in [0:n] do
    if l ≥ h then break
    let m := l + (h - l) / 2
    let some mo ← bq left key arr base m | return none
    if mo then l := m + 1 else h := m
  return some h) := rfl
section
variable {prog : Program} {w : World} {A : Around} {E : Value → Shared → Prop} {s : Shared} {z : Array Keyed} {κ : KeyKind}
theorem w_eq {α : Type} {m m' : StateT SortSt Sem α} {Q : α → SortSt → Prop} {st : SortSt} (e : m = m') (h : wpS (model prog w) A E s m' Q st) : wpS (model prog w) A E s m Q st := e ▸ h
theorem w_lt2 {st : SortSt} {x y : Keyed} {a b : κ.α} {Q : Option Bool → SortSt → Prop} (hO : κ.OneLt) (hk : kindOf st = oneType') (ha : κ.keyOf x.1 = some a) (hb : κ.keyOf y.1 = some b) (h : Q (some (κ.blt a b)) st) :
    wpS (model prog w) A E s (lt' x y) Q st := by
  rw [lt'_eq]
  refine wpS_bind (wpS_get ?_)
  rw [hk, keyLt'_oneType]
  refine wpS_bind (wpS_lift (wpAny_attempt (hO prog w A _ s x.1 y.1 a b ha hb ⟨rfl, ?_⟩)))
  exact wpS_pure h
theorem w_bq {st : SortSt} {left : Bool} {key x : Keyed} {arr : Array Keyed} {base i : Nat} {a b : κ.α} {Q : Option Bool → SortSt → Prop} (hO : κ.OneLt) (hk : kindOf st = oneType') (hx : arr[base + i]? = some x) (ha : κ.keyOf x.1 = some a) (hb : κ.keyOf key.1 = some b)
    (h : Q (some (if left = true then κ.blt a b else !κ.blt b a)) st) : wpS (model prog w) A E s (bq left key arr base i) Q st := by
  unfold bq
  rw [elem'_eq, hx]
  refine wpS_bind (wpS_pure ?_)
  cases left with
  | true => exact w_lt2 hO hk ha hb (by simpa using h)
  | false =>
    simp only [Bool.false_eq_true, if_false] at h ⊢
    exact wpS_bind (w_lt2 hO hk hb ha (wpS_pure h))
def srch (left : Bool) (key : Keyed) (arr : Array Keyed) (base n l h : Nat) : StateT SortSt Sem (Option Nat) := do
  let c ← forIn [0:n] ((none, l, h) : Option (Option Nat) × Nat × Nat) fun _ c =>
    if c.snd.fst ≥ c.snd.snd then pure (ForInStep.done (none, c.snd.fst, c.snd.snd))
    else do
      let o ← bq left key arr base (c.snd.fst + (c.snd.snd - c.snd.fst) / 2)
      match o with
      | some mo => if mo = true then pure (ForInStep.yield (none, c.snd.fst + (c.snd.snd - c.snd.fst) / 2 + 1, c.snd.snd)) else pure (ForInStep.yield (none, c.snd.fst, c.snd.fst + (c.snd.snd - c.snd.fst) / 2))
      | _ => pure (ForInStep.done (some none, c.snd.fst, c.snd.snd))
  match c.fst with
  | some r => pure r
  | none => pure (some c.snd.snd)
theorem w_srch {st : SortSt} {left : Bool} {key : Keyed} {arr : Array Keyed} {base n l h : Nat} {b : Nat → Bool} {Q : Option Nat → SortSt → Prop}
    (hb : ∀ i (R : Option Bool → SortSt → Prop), i < n → R (some (b i)) st → wpS (model prog w) A E s (bq left key arr base i) R st)
    (hm : ∀ i j, i ≤ j → j < n → b j = true → b i = true) (hlh : l ≤ h) (hn : h ≤ n) (h1 : ∀ i, i < l → b i = true) (h2 : ∀ i, h ≤ i → i < n → b i = false)
    (hq : ∀ k, k ≤ n → (∀ i, i < k → b i = true) → (∀ i, k ≤ i → i < n → b i = false) → Q (some k) st) : wpS (model prog w) A E s (srch left key arr base n l h) Q st := by
  unfold srch
  refine wpS_bind (wpS_mono (wpS_forRange (I := fun x c st2 => st2 = st ∧ ∃ l h, c = (none, l, h) ∧ l ≤ h ∧ h ≤ n ∧ h - l ≤ n - x ∧ (∀ i, i < l → b i = true) ∧ ∀ i, h ≤ i → i < n → b i = false)
    (Q := fun c st2 => st2 = st ∧ ∃ k, c.1 = none ∧ c.2.2 = k ∧ k ≤ n ∧ (∀ i, i < k → b i = true) ∧ ∀ i, k ≤ i → i < n → b i = false) ?sp ?fi ⟨rfl, l, h, rfl, hlh, hn, by omega, h1, h2⟩) ?po)
  case po =>
    rintro ⟨o, x, y⟩ st2 ⟨rfl, k, e1, rfl, g1, g2, g3⟩
    dsimp only at e1 g1 g2 g3 ⊢
    subst e1
    exact wpS_pure (hq y g1 g2 g3)
  case fi =>
    rintro c st2 ⟨rfl, l, h, rfl, g1, g2, g3, g4, g5⟩
    obtain rfl : l = h := by omega
    exact ⟨rfl, l, rfl, rfl, g2, g4, g5⟩
  case sp =>
    rintro x c st2 _ hx ⟨rfl, l, h, rfl, g1, g2, g3, g4, g5⟩
    dsimp only
    by_cases hge : l ≥ h
    · rw [if_pos hge]
      obtain rfl : l = h := by omega
      exact wpS_pure ⟨rfl, l, rfl, rfl, g2, g4, g5⟩
    · rw [if_neg hge]
      refine wpS_bind (hb (l + (h - l) / 2) _ (by omega) ?_)
      dsimp only
      cases hq2 : b (l + (h - l) / 2) with
      | true =>
        simp only [if_true]
        exact wpS_pure ⟨rfl, l + (h - l) / 2 + 1, h, rfl, by omega, by omega, by omega, fun i hi => hm i (l + (h - l) / 2) (by omega) (by omega) hq2, g5⟩
      | false =>
        simp only [Bool.false_eq_true, if_false]
        refine wpS_pure ⟨rfl, l, l + (h - l) / 2, rfl, by omega, by omega, by omega, g4, fun i hi hi2 => ?_⟩
        cases hbi : b i with
        | false => rfl
        | true => rw [hm _ i hi hi2 hbi] at hq2; cases hq2
theorem w_gal {st : SortSt} {left : Bool} {key : Keyed} {arr : Array Keyed} {base n hint : Nat} {b : Nat → Bool} {Q : Option Nat → SortSt → Prop} (hh : hint < n)
    (hb : ∀ i (R : Option Bool → SortSt → Prop), i < n → R (some (b i)) st → wpS (model prog w) A E s (bq left key arr base i) R st)
    (hm : ∀ i j, i ≤ j → j < n → b j = true → b i = true)
    (h : ∀ k, k ≤ n → (∀ i, i < k → b i = true) → (∀ i, k ≤ i → i < n → b i = false) → Q (some k) st) : wpS (model prog w) A E s (gal' left key arr base n hint) Q st := by
  rw [gal'_eq]
  dsimp only
  refine wpS_bind (hb hint _ hh ?_)
  dsimp only
  cases h0 : b hint with
  | true =>
    rw [if_pos rfl]
    refine wpS_bind (wpS_mono (wpS_forRange (I := fun x c st2 => st2 = st ∧ ∃ la po, c = (none, la, po) ∧ la < po ∧ x + 1 ≤ po ∧ hint + la < n ∧ b (hint + la) = true)
      (Q := fun c st2 => st2 = st ∧ ∃ la po, c = (none, la, po) ∧ la < po ∧ hint + la < n ∧ b (hint + la) = true ∧ (n - hint ≤ po ∨ (hint + po < n ∧ b (hint + po) = false))) ?sp ?fi ⟨rfl, 0, 1, rfl, by omega, by omega, hh, h0⟩) ?po)
    case fi =>
      rintro c st2 ⟨rfl, la, po, rfl, g1, g2, g3, g4⟩
      exact ⟨rfl, la, po, rfl, g1, g3, g4, .inl (by omega)⟩
    case sp =>
      rintro x c st2 _ hx ⟨rfl, la, po, rfl, g1, g2, g3, g4⟩
      dsimp only
      by_cases hge : po ≥ n - hint
      · rw [if_pos hge]
        exact wpS_pure ⟨rfl, la, po, rfl, g1, g3, g4, .inl hge⟩
      · rw [if_neg hge]
        refine wpS_bind (hb (hint + po) _ (by omega) ?_)
        dsimp only
        cases hq2 : b (hint + po) with
        | true =>
          simp only [Bool.not_true, Bool.false_eq_true, if_false]
          exact wpS_pure ⟨rfl, po, 2 * po + 1, rfl, by omega, by omega, by omega, hq2⟩
        | false =>
          simp only [Bool.not_false, if_true]
          exact wpS_pure ⟨rfl, la, po, rfl, g1, g3, g4, .inr ⟨by omega, hq2⟩⟩
    case po =>
      rintro c st2 ⟨rfl, la, po, rfl, g1, g3, g4, g5⟩
      dsimp only
      refine w_eq (m' := srch left key arr base n (hint + la + 1) (hint + min po (n - hint))) (bnd rfl fun c => by obtain ⟨r, x, y⟩ := c; cases r <;> rfl) ?_
      refine w_srch hb hm (by omega) (by omega) (fun i hi => hm i (hint + la) (by omega) g3 g4) (fun i hi hi2 => ?_) h
      rcases g5 with g5 | ⟨g5, g6⟩
      · omega
      · cases hbi : b i with
        | false => rfl
        | true => rw [hm (hint + po) i (by omega) hi2 hbi] at g6; cases g6
  | false =>
    rw [if_neg Bool.false_ne_true]
    refine wpS_bind (wpS_mono (wpS_forRange (I := fun x c st2 => st2 = st ∧ ∃ la po, c = (none, la, po) ∧ la < po ∧ x + 1 ≤ po ∧ la ≤ hint ∧ b (hint - la) = false)
      (Q := fun c st2 => st2 = st ∧ ∃ la po, c = (none, la, po) ∧ la < po ∧ la ≤ hint ∧ b (hint - la) = false ∧ (hint + 1 ≤ po ∨ (po ≤ hint ∧ b (hint - po) = true))) ?sp ?fi ⟨rfl, 0, 1, rfl, by omega, by omega, by omega, h0⟩) ?po)
    case fi =>
      rintro c st2 ⟨rfl, la, po, rfl, g1, g2, g3, g4⟩
      exact ⟨rfl, la, po, rfl, g1, g3, g4, .inl (by omega)⟩
    case sp =>
      rintro x c st2 _ hx ⟨rfl, la, po, rfl, g1, g2, g3, g4⟩
      dsimp only
      by_cases hge : po ≥ hint + 1
      · rw [if_pos hge]
        exact wpS_pure ⟨rfl, la, po, rfl, g1, g3, g4, .inl hge⟩
      · rw [if_neg hge]
        refine wpS_bind (hb (hint - po) _ (by omega) ?_)
        dsimp only
        cases hq2 : b (hint - po) with
        | true =>
          simp only [if_true]
          exact wpS_pure ⟨rfl, la, po, rfl, g1, g3, g4, .inr ⟨by omega, hq2⟩⟩
        | false =>
          simp only [Bool.false_eq_true, if_false]
          exact wpS_pure ⟨rfl, po, 2 * po + 1, rfl, by omega, by omega, by omega, hq2⟩
    case po =>
      rintro c st2 ⟨rfl, la, po, rfl, g1, g3, g4, g5⟩
      dsimp only
      refine w_eq (m' := srch left key arr base n (hint + 1 - min po (hint + 1)) (hint - la)) (bnd rfl fun c => by obtain ⟨r, x, y⟩ := c; cases r <;> rfl) ?_
      refine w_srch hb hm (by omega) (by omega) (fun i hi => ?_) (fun i hi hi2 => ?_) h
      · rcases g5 with g5 | ⟨g5, g6⟩
        · omega
        · exact hm i (hint - po) (by omega) (by omega) g6
      · cases hbi : b i with
        | false => rfl
        | true => rw [hm (hint - la) i (by omega) hi2 hbi] at g4; cases g4
end
end SR

set_option autoImplicit false
set_option linter.all false
set_option maxRecDepth 100000
namespace SR
open PySem PyProof.Rows
/-- what is told so far, and the two rests -/
structure MI (R : Keyed → Keyed → Prop) (Z o ra rb : List Keyed) : Prop where
  so : o.Pairwise R
  be : ∀ x ∈ o, ∀ y, y ∈ ra ∨ y ∈ rb → R x y
  pm : (o ++ (ra ++ rb)).Perm Z
  sa : ra.Pairwise R
  sb : rb.Pairwise R
theorem MI.sw {R : Keyed → Keyed → Prop} {Z o ra rb : List Keyed} (h : MI R Z o ra rb) : MI R Z o rb ra :=
  ⟨h.so, fun x hx y hy => h.be x hx y hy.symm, ((List.perm_append_comm (l₁ := rb) (l₂ := ra)).append_left o).trans h.pm, h.sb, h.sa⟩
theorem MI.blk {R : Keyed → Keyed → Prop} {Z o u ra rb : List Keyed} (h : MI R Z o (u ++ ra) rb) (hu : ∀ x ∈ u, ∀ y ∈ rb, R x y) : MI R Z (o ++ u) ra rb := by
  obtain ⟨s1, s2, s3⟩ := List.pairwise_append.mp h.sa
  refine ⟨List.pairwise_append.mpr ⟨h.so, s1, fun x hx y hy => h.be x hx y (.inl (List.mem_append_left _ hy))⟩, fun x hx y hy => ?_, ?_, s2, h.sb⟩
  · rcases List.mem_append.mp hx with g | g
    · exact h.be x g y (hy.imp_left (List.mem_append_right _))
    · rcases hy with hy | hy
      · exact s3 x g y hy
      · exact hu x g y hy
  · have := h.pm
    rw [List.append_assoc] at this ⊢
    exact this
def Fi (R : Keyed → Keyed → Prop) (Z : List Keyed) (r : Array Keyed) : Prop := r.toList.Perm Z ∧ r.toList.Pairwise R
theorem MI.fin {R : Keyed → Keyed → Prop} {Z o ra : List Keyed} (h : MI R Z o ra []) : (o ++ ra).Perm Z ∧ (o ++ ra).Pairwise R := by
  refine ⟨?_, List.pairwise_append.mpr ⟨h.so, h.sa, fun x hx y hy => h.be x hx y (.inl hy)⟩⟩
  have := h.pm
  rw [List.append_nil] at this
  exact this
theorem ext_from (a : Array Keyed) (i : Nat) : (a.extract i a.size).toList = a.toList.drop i := by
  rw [Array.toList_extract, List.extract_eq_take_drop]
  exact List.take_of_length_le (by rw [List.length_drop, Array.length_toList]; exact Nat.le_refl _)
theorem ext_mid (a : Array Keyed) (i k : Nat) : (a.extract i (i + k)).toList = (a.toList.drop i).take k := by
  rw [Array.toList_extract, List.extract_eq_take_drop, Nat.add_sub_cancel_left]
theorem drop_cons {a : Array Keyed} {i : Nat} (h : i < a.size) : a.toList.drop i = a[i] :: a.toList.drop (i + 1) := by
  rw [List.drop_eq_getElem_cons (by rw [Array.length_toList]; exact h), Array.getElem_toList]
theorem split_at (a : Array Keyed) (i k : Nat) : a.toList.drop i = (a.toList.drop i).take k ++ a.toList.drop (i + k) := by
  rw [← List.drop_drop, List.take_append_drop]
theorem MI.pushA {R : Keyed → Keyed → Prop} {Z : List Keyed} {o a : Array Keyed} {i : Nat} {rb : List Keyed} (h : MI R Z o.toList (a.toList.drop i) rb) (hi : i < a.size) (hu : ∀ y ∈ rb, R a[i] y) : MI R Z (o.push a[i]).toList (a.toList.drop (i + 1)) rb := by
  rw [drop_cons hi, ← List.singleton_append] at h
  have := h.blk fun x hx y hy => by rw [List.mem_singleton.mp hx]; exact hu y hy
  rw [Array.toList_push]
  exact this
theorem MI.blkA {R : Keyed → Keyed → Prop} {Z : List Keyed} {o a : Array Keyed} {i k : Nat} {rb : List Keyed} (h : MI R Z o.toList (a.toList.drop i) rb) (hu : ∀ x ∈ (a.toList.drop i).take k, ∀ y ∈ rb, R x y) : MI R Z (o ++ a.extract i (i + k)).toList (a.toList.drop (i + k)) rb := by
  rw [split_at a i k] at h
  rw [Array.toList_append, ext_mid]
  exact h.blk hu
theorem MI.doneA {R : Keyed → Keyed → Prop} {Z : List Keyed} {o a b : Array Keyed} {i j : Nat} (h : MI R Z o.toList (a.toList.drop i) (b.toList.drop j)) (hj : b.size ≤ j) : Fi R Z (o ++ a.extract i a.size ++ b.extract j b.size) := by
  unfold Fi
  rw [List.drop_eq_nil_of_le (as := b.toList) (by rw [Array.length_toList]; exact hj)] at h
  rw [Array.toList_append, Array.toList_append, ext_from, ext_from, List.drop_eq_nil_of_le (as := b.toList) (by rw [Array.length_toList]; exact hj), List.append_nil]
  exact h.fin
theorem MI.doneB {R : Keyed → Keyed → Prop} {Z : List Keyed} {o a b : Array Keyed} {i j : Nat} (h : MI R Z o.toList (a.toList.drop i) (b.toList.drop j)) (hi : a.size ≤ i) : Fi R Z (o ++ a.extract i a.size ++ b.extract j b.size) := by
  unfold Fi
  rw [List.drop_eq_nil_of_le (as := a.toList) (by rw [Array.length_toList]; exact hi)] at h
  rw [Array.toList_append, Array.toList_append, ext_from, ext_from, List.drop_eq_nil_of_le (as := a.toList) (by rw [Array.length_toList]; exact hi), List.append_nil]
  exact h.sw.fin
theorem MI.lastA {R : Keyed → Keyed → Prop} {Z : List Keyed} {o a b : Array Keyed} {i j : Nat} (h : MI R Z o.toList (a.toList.drop i) (b.toList.drop j)) (hi : i + 1 = a.size) (hl : ∀ y ∈ b.toList, ∀ x, a.toList.getLast? = some x → R y x) : Fi R Z (o ++ b.extract j b.size ++ a.extract i a.size) := by
  unfold Fi
  have e : a.toList.drop i = [a[i]'(by omega)] := by
    rw [drop_cons (by omega), List.drop_eq_nil_of_le (by rw [Array.length_toList]; omega)]
  have el : a.toList.getLast? = some (a[i]'(by omega)) := by
    rw [List.getLast?_eq_getElem?, Array.length_toList, show a.size - 1 = i by omega, Array.getElem?_toList, getElem?_pos a i (by omega)]
  rw [Array.toList_append, Array.toList_append, ext_from, ext_from]
  have h2 : MI R Z (o.toList ++ b.toList.drop j) (a.toList.drop i) [] := by
    have h3 := h.sw
    rw [show b.toList.drop j = b.toList.drop j ++ [] from (List.append_nil _).symm] at h3
    refine (h3.blk fun x hx y hy => ?_).sw
    rw [e, List.mem_singleton] at hy
    rw [hy]
    exact hl x (List.mem_of_mem_drop hx) _ el
  exact h2.fin
def setG (g : Nat) : StateT SortSt Sem Unit := modify fun s => SortSt.mk' (kindOf s) (arrOf s) (pendingOf s) g (failedOf s)
def mLo' : Array Keyed → Array Keyed → StateT SortSt Sem (Array Keyed) := sortPriv% PySem.Builtin.mergeLo
theorem mLo'_eq (a b : Array Keyed) : mLo' a b = (do
  rule "list.sort.merge-lo"
  let tot := a.size + b.size
  let dn (o : Array Keyed) (i j : Nat) := o ++ a.extract i a.size ++ b.extract j b.size
  let la (o : Array Keyed) (i j : Nat) := o ++ b.extract j b.size ++ a.extract i a.size
  let mut o : Array Keyed := #[← elem' b 0]
  let mut i := 0
  let mut j := 1
  if j == b.size then return dn o i j
  if i + 1 == a.size then return la o i j
  let mut g := gallopOf (← get)
  for _ in [0:tot] do
    let mut p := 0
    let mut q := 0
    for _ in [0:tot] do
      let some t ← lt' (← elem' b j) (← elem' a i) | return dn o i j
      if t then
        o := o.push (← elem' b j); j := j + 1; q := q + 1; p := 0
        if j == b.size then return dn o i j
        if q ≥ g then break
      else
        o := o.push (← elem' a i); i := i + 1; p := p + 1; q := 0
        if i + 1 == a.size then return la o i j
        if p ≥ g then break
    rule "list.sort.gallop"
    g := g + 1
    for _ in [0:tot] do
      if g > 1 then g := g - 1
      setG g
      let some k ← gal' false (← elem' b j) a i (a.size - i) 0 | return dn o i j
      p := k
      if k > 0 then
        o := o ++ a.extract i (i + k); i := i + k
        if i + 1 == a.size then return la o i j
        if i == a.size then return dn o i j
      o := o.push (← elem' b j); j := j + 1
      if j == b.size then return dn o i j
      let some k ← gal' true (← elem' a i) b j (b.size - j) 0 | return dn o i j
      q := k
      if k > 0 then
        o := o ++ b.extract j (j + k); j := j + k
        if j == b.size then return dn o i j
      o := o.push (← elem' a i); i := i + 1
      if i + 1 == a.size then return la o i j
      if p < 7 && q < 7 then break
    g := g + 1
    setG g
  unsupported "internal:list.sort.merge-bound") := rfl
/-- the key -/
def kf (κ : KeyKind) (p : Keyed) : κ.α := (κ.keyOf p.1).getD κ.dflt
def Le (κ : KeyKind) (x y : Keyed) : Prop := κ.kle (kf κ x) (kf κ y)
def Hk (κ : KeyKind) (x : Keyed) : Prop := ∃ c, κ.keyOf x.1 = some c
structure Ev (st st' : SortSt) : Prop where
  knd : kindOf st' = kindOf st
  arr : arrOf st' = arrOf st
  pen : pendingOf st' = pendingOf st
  ffl : failedOf st' = failedOf st
theorem Ev.r {st : SortSt} : Ev st st := ⟨rfl, rfl, rfl, rfl⟩
theorem Ev.t {a b c : SortSt} (h : Ev a b) (h' : Ev b c) : Ev a c := ⟨h'.knd.trans h.knd, h'.arr.trans h.arr, h'.pen.trans h.pen, h'.ffl.trans h.ffl⟩
section
variable {prog : Program} {w : World} {A : Around} {E : Value → Shared → Prop} {s : Shared} {z : Array Keyed} {κ : KeyKind}
theorem w_el {st : SortSt} {a : Array Keyed} {i : Nat} {Q : Keyed → SortSt → Prop} (hi : i < a.size) (h : Q a[i] st) : wpS (model prog w) A E s (elem' a i) Q st := by
  rw [elem'_eq, getElem?_pos a i hi]
  exact wpS_pure h
theorem w_setG {st : SortSt} {g : Nat} {Q : Unit → SortSt → Prop} (h : ∀ st', Ev st st' → Q () st') : wpS (model prog w) A E s (setG g) Q st := by
  unfold setG
  exact wpS_modify (h _ ⟨rfl, rfl, rfl, rfl⟩)
theorem kf_some {x : Keyed} {c : κ.α} (h : κ.keyOf x.1 = some c) : kf κ x = c := by unfold kf; rw [h]; rfl
theorem w_lt3 {st : SortSt} {x y : Keyed} {Q : Option Bool → SortSt → Prop} (hO : κ.OneLt) (hk : kindOf st = oneType') (hx : Hk κ x) (hy : Hk κ y) (h : Q (some (κ.blt (kf κ x) (kf κ y))) st) : wpS (model prog w) A E s (lt' x y) Q st := by
  obtain ⟨c, hc⟩ := hx
  obtain ⟨d, hd⟩ := hy
  rw [kf_some hc, kf_some hd] at h
  exact w_lt2 hO hk hc hd h
/-- how many of a stretch go ahead of a key -/
theorem w_galR {st : SortSt} {key : Keyed} {a : Array Keyed} {i n hint : Nat} {Q : Option Nat → SortSt → Prop} (hO : κ.OneLt) (hk : kindOf st = oneType') (hin : i + n ≤ a.size) (hh : hint < n) (hka : ∀ x ∈ a.toList, Hk κ x) (hkk : Hk κ key) (hs : ((a.toList.drop i).take n).Pairwise (Le κ))
    (h : ∀ k, k ≤ n → (∀ x ∈ (a.toList.drop i).take k, Le κ x key) → (∀ x ∈ (a.toList.drop (i + k)).take (n - k), Le κ key x) → Q (some k) st) : wpS (model prog w) A E s (gal' false key a i n hint) Q st := by
  have get : ∀ t, t < n → ((a.toList.drop i).take n)[t]? = a[i + t]? := fun t ht => by
    rw [List.getElem?_take_of_lt ht, List.getElem?_drop, Array.getElem?_toList]
  have hsz : ∀ t, t < n → i + t < a.size := fun t ht => by omega
  have hmem : ∀ t (ht : t < n), Hk κ (a[i + t]'(hsz t ht)) := fun t ht => hka _ (by simp)
  have hpw : ∀ p q (hq : q < n) (hpq : p ≤ q), Le κ (a[i + p]'(hsz p (by omega))) (a[i + q]'(hsz q hq)) := fun p q hq hpq => by
    rcases Nat.lt_or_eq_of_le hpq with g | g
    · rw [List.pairwise_iff_getElem] at hs
      have hl : ((a.toList.drop i).take n).length = n := by rw [List.length_take, List.length_drop, Array.length_toList]; omega
      have := hs p q (by omega) (by omega) g
      simpa using this
    · subst g; exact KeyOrd.kle_refl _
  refine w_gal (b := fun t => if ht : t < n then !κ.blt (kf κ key) (kf κ (a[i + t]'(hsz t ht))) else false) hh (fun t R ht hR => ?_) (fun p q hpq hq hb => ?_) (fun k hkn h1 h2 => h k hkn (fun x hx => ?_) (fun x hx => ?_))
  · obtain ⟨c, hc⟩ := hmem t ht
    obtain ⟨d, hd⟩ := hkk
    refine w_bq hO hk (getElem?_pos a (i + t) (hsz t ht)) hc hd ?_
    simp only [Bool.false_eq_true, if_false]
    rw [dif_pos ht, kf_some hc, kf_some hd] at hR
    exact hR
  · rw [dif_pos hq] at hb
    rw [dif_pos (by omega)]
    have h3 : κ.kle (kf κ (a[i + q]'(hsz q hq))) (kf κ key) := by simpa [KeyOrd.kle] using hb
    have h4 := KeyOrd.kle_trans (hpw p q hq hpq) h3
    simpa [KeyOrd.kle] using h4
  · obtain ⟨t, ht⟩ := List.mem_iff_getElem?.mp hx
    have htk : t < k := by
      have := (List.getElem?_eq_some_iff.mp ht).1
      rw [List.length_take] at this; omega
    rw [List.getElem?_take_of_lt htk, List.getElem?_drop, Array.getElem?_toList, getElem?_pos a (i + t) (hsz t (by omega))] at ht
    have h3 := h1 t htk
    rw [dif_pos (by omega)] at h3
    rw [← Option.some.inj ht]
    show κ.kle _ _
    simpa [KeyOrd.kle] using h3
  · obtain ⟨t, ht⟩ := List.mem_iff_getElem?.mp hx
    have htk : t < n - k := by
      have := (List.getElem?_eq_some_iff.mp ht).1
      rw [List.length_take] at this; omega
    rw [List.getElem?_take_of_lt htk, List.getElem?_drop, Array.getElem?_toList, show i + k + t = i + (k + t) by omega, getElem?_pos a (i + (k + t)) (hsz (k + t) (by omega))] at ht
    have h3 := h2 (k + t) (by omega) (by omega)
    rw [dif_pos (by omega)] at h3
    rw [← Option.some.inj ht]
    exact KeyOrd.kle_of_klt (by simpa [KeyOrd.klt] using h3)
theorem w_galL {st : SortSt} {key : Keyed} {a : Array Keyed} {i n hint : Nat} {Q : Option Nat → SortSt → Prop} (hO : κ.OneLt) (hk : kindOf st = oneType') (hin : i + n ≤ a.size) (hh : hint < n) (hka : ∀ x ∈ a.toList, Hk κ x) (hkk : Hk κ key) (hs : ((a.toList.drop i).take n).Pairwise (Le κ))
    (h : ∀ k, k ≤ n → (∀ x ∈ (a.toList.drop i).take k, Le κ x key) → (∀ x ∈ (a.toList.drop (i + k)).take (n - k), Le κ key x) → Q (some k) st) : wpS (model prog w) A E s (gal' true key a i n hint) Q st := by
  have hsz : ∀ t, t < n → i + t < a.size := fun t ht => by omega
  have hmem : ∀ t (ht : t < n), Hk κ (a[i + t]'(hsz t ht)) := fun t ht => hka _ (by simp)
  have hpw : ∀ p q (hq : q < n) (hpq : p ≤ q), Le κ (a[i + p]'(hsz p (by omega))) (a[i + q]'(hsz q hq)) := fun p q hq hpq => by
    rcases Nat.lt_or_eq_of_le hpq with g | g
    · rw [List.pairwise_iff_getElem] at hs
      have hl : ((a.toList.drop i).take n).length = n := by rw [List.length_take, List.length_drop, Array.length_toList]; omega
      have := hs p q (by omega) (by omega) g
      simpa using this
    · subst g; exact KeyOrd.kle_refl _
  refine w_gal (b := fun t => if ht : t < n then κ.blt (kf κ (a[i + t]'(hsz t ht))) (kf κ key) else false) hh (fun t R ht hR => ?_) (fun p q hpq hq hb => ?_) (fun k hkn h1 h2 => h k hkn (fun x hx => ?_) (fun x hx => ?_))
  · obtain ⟨c, hc⟩ := hmem t ht
    obtain ⟨d, hd⟩ := hkk
    refine w_bq hO hk (getElem?_pos a (i + t) (hsz t ht)) hc hd ?_
    simp only [if_true]
    rw [dif_pos ht, kf_some hc, kf_some hd] at hR
    exact hR
  · rw [dif_pos hq] at hb
    rw [dif_pos (by omega)]
    exact KeyOrd.klt_of_kle_of_klt (hpw p q hq hpq) hb
  · obtain ⟨t, ht⟩ := List.mem_iff_getElem?.mp hx
    have htk : t < k := by
      have := (List.getElem?_eq_some_iff.mp ht).1
      rw [List.length_take] at this; omega
    rw [List.getElem?_take_of_lt htk, List.getElem?_drop, Array.getElem?_toList, getElem?_pos a (i + t) (hsz t (by omega))] at ht
    have h3 := h1 t htk
    rw [dif_pos (by omega)] at h3
    rw [← Option.some.inj ht]
    exact KeyOrd.kle_of_klt h3
  · obtain ⟨t, ht⟩ := List.mem_iff_getElem?.mp hx
    have htk : t < n - k := by
      have := (List.getElem?_eq_some_iff.mp ht).1
      rw [List.length_take] at this; omega
    rw [List.getElem?_take_of_lt htk, List.getElem?_drop, Array.getElem?_toList, show i + k + t = i + (k + t) by omega, getElem?_pos a (i + (k + t)) (hsz (k + t) (by omega))] at ht
    have h3 := h2 (k + t) (by omega) (by omega)
    rw [dif_pos (by omega)] at h3
    rw [← Option.some.inj ht]
    exact h3
end
end SR

set_option autoImplicit false
set_option linter.all false
set_option maxRecDepth 100000
namespace SR
open PySem PyProof.Rows
section
variable {prog : Program} {w : World} {A : Around} {E : Value → Shared → Prop} {s : Shared} {κ : KeyKind}
theorem Le.tr {x y t : Keyed} (h : Le κ x y) (h' : Le κ y t) : Le κ x t := KeyOrd.kle_trans h h'
theorem head_le {l : List Keyed} {x : Keyed} (h : (x :: l).Pairwise (Le κ)) : ∀ y ∈ x :: l, Le κ x y := fun y hy => by
  rcases List.mem_cons.mp hy with g | g
  · rw [g]; exact KeyOrd.kle_refl _
  · exact (List.pairwise_cons.mp h).1 y g
theorem le_drop {a : Array Keyed} {i : Nat} (hi : i < a.size) (h : (a.toList.drop i).Pairwise (Le κ)) : ∀ y ∈ a.toList.drop i, Le κ a[i] y := by
  rw [drop_cons hi] at h ⊢
  exact head_le h
structure GL (κ : KeyKind) (a b o : Array Keyed) (i j : Nat) : Prop where
  mi : MI (Le κ) (a.toList ++ b.toList) o.toList (a.toList.drop i) (b.toList.drop j)
  hi : i + 1 < a.size
  hj : j < b.size
theorem w_mLo {st : SortSt} {a b : Array Keyed} {Q : Array Keyed → SortSt → Prop} (hO : κ.OneLt) (hk : kindOf st = oneType') (ha : 0 < a.size) (hb : 0 < b.size) (hka : ∀ x ∈ a.toList, Hk κ x) (hkb : ∀ x ∈ b.toList, Hk κ x)
    (sa : a.toList.Pairwise (Le κ)) (sb : b.toList.Pairwise (Le κ)) (h0 : ∀ y ∈ a.toList, Le κ b[0] y) (hl : ∀ y ∈ b.toList, ∀ x, a.toList.getLast? = some x → Le κ y x)
    (h : ∀ r st', Ev st st' → Fi (Le κ) (a.toList ++ b.toList) r → Q r st') : wpS (model prog w) A E s (mLo' a b) Q st := by
  rw [mLo'_eq]
  dsimp only
  refine wpS_bind (wpS_lift (wpAny_rule ⟨rfl, ?_⟩))
  refine wpS_bind (w_el hb ?_)
  have m0 : MI (Le κ) (a.toList ++ b.toList) #[b[0]].toList (a.toList.drop 0) (b.toList.drop 1) := by
    have m : MI (Le κ) (a.toList ++ b.toList) (#[] : Array Keyed).toList (b.toList.drop 0) (a.toList.drop 0) := (⟨List.Pairwise.nil, fun x hx => (nomatch hx), List.Perm.refl _, by simpa using sa, by simpa using sb⟩ : MI (Le κ) (a.toList ++ b.toList) [] (a.toList.drop 0) (b.toList.drop 0)).sw
    exact (m.pushA hb (fun y hy => h0 y (List.mem_of_mem_drop hy))).sw
  have mema : ∀ {i : Nat} (g : i < a.size), Hk κ a[i] := fun g => hka _ (by simp)
  have memb : ∀ {i : Nat} (g : i < b.size), Hk κ b[i] := fun g => hkb _ (by simp)
  by_cases hb1 : 1 = b.size
  · rw [if_pos (by simpa using hb1)]
    exact wpS_pure (h _ st Ev.r (m0.doneA (by omega)))
  rw [if_neg (by simpa using hb1)]
  by_cases ha1 : 0 + 1 = a.size
  · rw [if_pos (by simpa using ha1)]
    exact wpS_pure (h _ st Ev.r (m0.lastA ha1 hl))
  rw [if_neg (by simpa using ha1)]
  refine wpS_bind (wpS_get ?_)
  refine wpS_bind (wpS_mono (wpS_forRange (I := fun x c st' => Ev st st' ∧ ∃ o i j g, c = (none, o, i, j, g) ∧ GL κ a b o i j ∧ x ≤ i + j)
    (Q := fun c st' => Ev st st' ∧ ∃ r, c.1 = some r ∧ Fi (Le κ) (a.toList ++ b.toList) r) ?sp ?fi ⟨Ev.r, _, 0, 1, _, rfl, ⟨m0, by omega, by omega⟩, by omega⟩) ?po)
  case po =>
    rintro ⟨o, rest⟩ st' ⟨he, r, e1, hf⟩
    dsimp only at e1 ⊢
    subst e1
    exact wpS_pure (h r st' he hf)
  case fi =>
    rintro c st' ⟨he, o, i, j, g, rfl, hg, hx⟩
    have := hg.hi
    have := hg.hj
    omega
  case sp =>
    rintro x c st1 _ hx ⟨he1, o0, i0, j0, g0, rfl, hg0, hxx⟩
    dsimp only
    refine wpS_bind (wpS_mono (wpS_forRange (I := fun x c st' => Ev st st' ∧ ∃ o i j p q, c = (none, o, i, j, p, q) ∧ GL κ a b o i j ∧ i0 + j0 + x ≤ i + j)
      (Q := fun c st' => Ev st st' ∧ ((∃ r, c.1 = some r ∧ Fi (Le κ) (a.toList ++ b.toList) r) ∨ (c.1 = none ∧ GL κ a b c.2.1 c.2.2.1 c.2.2.2.1 ∧ i0 + j0 + 1 ≤ c.2.2.1 + c.2.2.2.1))) ?sp1 ?fi1 ⟨he1, o0, i0, j0, 0, 0, rfl, hg0, by omega⟩) ?po1)
    case fi1 =>
      rintro c st' ⟨he, o, i, j, p, q, rfl, hg, hx2⟩
      exact ⟨he, .inr ⟨rfl, hg, by dsimp only; omega⟩⟩
    case sp1 =>
      rintro x1 c st2 _ hx1 ⟨he2, o, i, j, p, q, rfl, hg, hx2⟩
      have hi := hg.hi
      have hj := hg.hj
      dsimp only
      refine wpS_bind (w_el hj (wpS_bind (w_el (by omega) ?_)))
      refine wpS_bind (w_lt3 hO (he2.knd.trans hk) (memb hj) (mema (by omega)) ?_)
      dsimp only
      cases ht : κ.blt (kf κ b[j]) (kf κ (a[i]'(by omega))) with
      | true =>
        rw [if_pos rfl]
        refine wpS_bind (w_el hj ?_)
        have m1 := (hg.mi.sw.pushA hj fun y hy => Le.tr (KeyOrd.kle_of_klt ht) (le_drop (by omega) hg.mi.sa y hy)).sw
        by_cases hb2 : j + 1 = b.size
        · rw [if_pos (by simpa using hb2)]
          exact wpS_pure ⟨he2, .inl ⟨_, rfl, m1.doneA (by omega)⟩⟩
        · rw [if_neg (by simpa using hb2)]
          have g1 : GL κ a b (o.push b[j]) i (j + 1) := ⟨m1, hi, by omega⟩
          split
          · exact wpS_pure ⟨he2, .inr ⟨rfl, g1, by dsimp only; omega⟩⟩
          · exact wpS_pure ⟨he2, _, _, _, _, _, rfl, g1, by omega⟩
      | false =>
        rw [if_neg Bool.false_ne_true]
        refine wpS_bind (w_el (by omega) ?_)
        have m1 := hg.mi.pushA (by omega) fun y hy => Le.tr (show Le κ _ b[j] from ht) (le_drop hj hg.mi.sb y hy)
        by_cases ha2 : i + 1 + 1 = a.size
        · rw [if_pos (by simpa using ha2)]
          exact wpS_pure ⟨he2, .inl ⟨_, rfl, m1.lastA ha2 hl⟩⟩
        · rw [if_neg (by simpa using ha2)]
          have g1 : GL κ a b (o.push (a[i]'(by omega))) (i + 1) j := ⟨m1, by omega, hj⟩
          split
          · exact wpS_pure ⟨he2, .inr ⟨rfl, g1, by dsimp only; omega⟩⟩
          · exact wpS_pure ⟨he2, _, _, _, _, _, rfl, g1, by omega⟩
    case po1 =>
      rintro ⟨r1, o1, i1, j1, p1, q1⟩ st2 ⟨he2, ⟨r, e1, hf⟩ | ⟨e1, hg1, hx2⟩⟩
      · dsimp only at e1 ⊢
        subst e1
        exact wpS_pure ⟨he2, r, rfl, hf⟩
      · dsimp only at e1 hg1 hx2 ⊢
        subst e1
        dsimp only
        refine wpS_bind (wpS_lift (wpAny_rule ⟨rfl, ?_⟩))
        refine wpS_bind (wpS_mono (wpS_forRange (I := fun x c st' => Ev st st' ∧ ∃ o i j g p q, c = (none, o, i, j, g, p, q) ∧ GL κ a b o i j ∧ i1 + j1 ≤ i + j)
          (Q := fun c st' => Ev st st' ∧ ((∃ r, c.1 = some r ∧ Fi (Le κ) (a.toList ++ b.toList) r) ∨ (c.1 = none ∧ GL κ a b c.2.1 c.2.2.1 c.2.2.2.1 ∧ i1 + j1 ≤ c.2.2.1 + c.2.2.2.1))) ?sp2 ?fi2 ⟨he2, o1, i1, j1, _, _, _, rfl, hg1, by omega⟩) ?po2)
        case fi2 =>
          rintro c st' ⟨he, o, i, j, g, p, q, rfl, hg, hx2⟩
          exact ⟨he, .inr ⟨rfl, hg, hx2⟩⟩
        case po2 =>
          rintro ⟨r2, o2, i2, j2, g2, p2, q2⟩ st3 ⟨he3, ⟨r, e1, hf⟩ | ⟨e1, hg2, hx3⟩⟩
          · dsimp only at e1 ⊢
            subst e1
            exact wpS_pure ⟨he3, r, rfl, hf⟩
          · dsimp only at e1 hg2 hx3 ⊢
            subst e1
            dsimp only
            exact wpS_bind (w_setG fun st4 he4 => wpS_pure ⟨he3.t he4, o2, i2, j2, _, rfl, hg2, by omega⟩)
        case sp2 =>
          rintro x2 c st3 _ hx3 ⟨he3, o, i, j, g, p, q, rfl, hg, hxx2⟩
          have hi := hg.hi
          have hj := hg.hj
          dsimp only
          by_cases hgg : g > 1
          case' pos => rw [if_pos hgg]
          case' neg => rw [if_neg hgg]
          all_goals
            refine wpS_bind (w_setG fun st4 he4 => ?_)
            have he5 := he3.t he4
            refine wpS_bind (w_el hj ?_)
            refine wpS_bind (w_galR hO (he5.knd.trans hk) (show i + (a.size - i) ≤ a.size by omega) (by omega) hka (memb hj) (hg.mi.sa.sublist (List.take_sublist _ _)) fun k hkn k1 k2 => ?_)
            dsimp only
            have k2' : ∀ x ∈ a.toList.drop (i + k), Le κ b[j] x := fun x hx => k2 x (by rw [List.take_of_length_le (by rw [List.length_drop, Array.length_toList]; omega)]; exact hx)
            have m1 := hg.mi.blkA (k := k) fun x hx y hy => Le.tr (k1 x hx) (le_drop hj hg.mi.sb y hy)
            by_cases hkp : k > 0
            case pos =>
              rw [if_pos hkp]
              by_cases ha2 : i + k + 1 = a.size
              · rw [if_pos (by simpa using ha2)]
                exact wpS_pure ⟨he5, .inl ⟨_, rfl, m1.lastA ha2 hl⟩⟩
              rw [if_neg (by simpa using ha2)]
              by_cases ha3 : i + k = a.size
              · rw [if_pos (by simpa using ha3)]
                exact wpS_pure ⟨he5, .inl ⟨_, rfl, m1.doneB (by omega)⟩⟩
              rw [if_neg (by simpa using ha3)]
              have hik : i + k + 1 < a.size := by omega
              have hio : i ≤ i + k := by omega
              generalize o ++ a.extract i (i + k) = o5 at m1 ⊢
              generalize i + k = i5 at m1 k2' hik hio ⊢
              refine wpS_bind (w_el hj ?_)
              have m2 := (m1.sw.pushA hj fun y hy => k2' y hy).sw
              by_cases hb2 : j + 1 = b.size
              · rw [if_pos (by simpa using hb2)]
                exact wpS_pure ⟨he5, .inl ⟨_, rfl, m2.doneA (by omega)⟩⟩
              rw [if_neg (by simpa using hb2)]
              generalize o5.push b[j] = o6 at m2 ⊢
              refine wpS_bind (w_el (by omega) ?_)
              refine wpS_bind (w_galL hO (he5.knd.trans hk) (show j + 1 + (b.size - (j + 1)) ≤ b.size by omega) (by omega) hkb (mema (by omega)) (m2.sb.sublist (List.take_sublist _ _)) fun e hen e1 e2 => ?_)
              dsimp only
              have e2' : ∀ x ∈ b.toList.drop (j + 1 + e), Le κ (a[i5]'(by omega)) x := fun x hx => e2 x (by rw [List.take_of_length_le (by rw [List.length_drop, Array.length_toList]; omega)]; exact hx)
              have m3 := (m2.sw.blkA (k := e) fun x hx y hy => Le.tr (e1 x hx) (le_drop (by omega) m2.sa y hy)).sw
              by_cases hep : e > 0
              case pos =>
                rw [if_pos hep]
                by_cases hb3 : j + 1 + e = b.size
                · rw [if_pos (by simpa using hb3)]
                  exact wpS_pure ⟨he5, .inl ⟨_, rfl, m3.doneA (by omega)⟩⟩
                rw [if_neg (by simpa using hb3)]
                refine wpS_bind (w_el (by omega) ?_)
                have m4 := m3.pushA (by omega) fun y hy => e2' y hy
                by_cases ha4 : i5 + 1 + 1 = a.size
                · rw [if_pos (by simpa using ha4)]
                  exact wpS_pure ⟨he5, .inl ⟨_, rfl, m4.lastA ha4 hl⟩⟩
                rw [if_neg (by simpa using ha4)]
                split
                · exact wpS_pure ⟨he5, .inr ⟨rfl, ⟨m4, by dsimp only; omega, by dsimp only; omega⟩, by dsimp only; omega⟩⟩
                · exact wpS_pure ⟨he5, _, _, _, _, _, _, rfl, ⟨m4, by omega, by omega⟩, by omega⟩
              case neg =>
                rw [if_neg hep]
                obtain rfl : e = 0 := by omega
                refine wpS_bind (w_el (by omega) ?_)
                have m4 := m2.pushA (by omega) fun y hy => e2' y hy
                by_cases ha4 : i5 + 1 + 1 = a.size
                · rw [if_pos (by simpa using ha4)]
                  exact wpS_pure ⟨he5, .inl ⟨_, rfl, m4.lastA ha4 hl⟩⟩
                rw [if_neg (by simpa using ha4)]
                split
                · exact wpS_pure ⟨he5, .inr ⟨rfl, ⟨m4, by dsimp only; omega, by dsimp only; omega⟩, by dsimp only; omega⟩⟩
                · exact wpS_pure ⟨he5, _, _, _, _, _, _, rfl, ⟨m4, by omega, by omega⟩, by omega⟩
            case neg =>
              rw [if_neg hkp]
              obtain rfl : k = 0 := by omega
              have k2'' : ∀ x ∈ a.toList.drop i, Le κ b[j] x := k2'
              refine wpS_bind (w_el hj ?_)
              have m2 := (hg.mi.sw.pushA hj fun y hy => k2'' y hy).sw
              by_cases hb2 : j + 1 = b.size
              · rw [if_pos (by simpa using hb2)]
                exact wpS_pure ⟨he5, .inl ⟨_, rfl, m2.doneA (by omega)⟩⟩
              rw [if_neg (by simpa using hb2)]
              generalize o.push b[j] = o6 at m2 ⊢
              refine wpS_bind (w_el (by omega) ?_)
              refine wpS_bind (w_galL hO (he5.knd.trans hk) (show j + 1 + (b.size - (j + 1)) ≤ b.size by omega) (by omega) hkb (mema (by omega)) (m2.sb.sublist (List.take_sublist _ _)) fun e hen e1 e2 => ?_)
              dsimp only
              have e2' : ∀ x ∈ b.toList.drop (j + 1 + e), Le κ (a[i]'(by omega)) x := fun x hx => e2 x (by rw [List.take_of_length_le (by rw [List.length_drop, Array.length_toList]; omega)]; exact hx)
              have m3 := (m2.sw.blkA (k := e) fun x hx y hy => Le.tr (e1 x hx) (le_drop (by omega) m2.sa y hy)).sw
              by_cases hep : e > 0
              case pos =>
                rw [if_pos hep]
                by_cases hb3 : j + 1 + e = b.size
                · rw [if_pos (by simpa using hb3)]
                  exact wpS_pure ⟨he5, .inl ⟨_, rfl, m3.doneA (by omega)⟩⟩
                rw [if_neg (by simpa using hb3)]
                refine wpS_bind (w_el (by omega) ?_)
                have m4 := m3.pushA (by omega) fun y hy => e2' y hy
                by_cases ha4 : i + 1 + 1 = a.size
                · rw [if_pos (by simpa using ha4)]
                  exact wpS_pure ⟨he5, .inl ⟨_, rfl, m4.lastA ha4 hl⟩⟩
                rw [if_neg (by simpa using ha4)]
                split
                · exact wpS_pure ⟨he5, .inr ⟨rfl, ⟨m4, by dsimp only; omega, by dsimp only; omega⟩, by dsimp only; omega⟩⟩
                · exact wpS_pure ⟨he5, _, _, _, _, _, _, rfl, ⟨m4, by omega, by omega⟩, by omega⟩
              case neg =>
                rw [if_neg hep]
                obtain rfl : e = 0 := by omega
                refine wpS_bind (w_el (by omega) ?_)
                have m4 := m2.pushA (by omega) fun y hy => e2' y hy
                by_cases ha4 : i + 1 + 1 = a.size
                · rw [if_pos (by simpa using ha4)]
                  exact wpS_pure ⟨he5, .inl ⟨_, rfl, m4.lastA ha4 hl⟩⟩
                rw [if_neg (by simpa using ha4)]
                split
                · exact wpS_pure ⟨he5, .inr ⟨rfl, ⟨m4, by dsimp only; omega, by dsimp only; omega⟩, by dsimp only; omega⟩⟩
                · exact wpS_pure ⟨he5, _, _, _, _, _, _, rfl, ⟨m4, by omega, by omega⟩, by omega⟩
end
end SR

set_option autoImplicit false
set_option linter.all false
set_option maxRecDepth 100000
namespace SR
open PySem PyProof.Rows
/-- the other way about -/
def Ge (κ : KeyKind) (x y : Keyed) : Prop := Le κ y x
def rt (a : Array Keyed) (n : Nat) : List Keyed := (a.toList.take n).reverse
theorem rt_cons {a : Array Keyed} {n : Nat} (h : n < a.size) : rt a (n + 1) = a[n] :: rt a n := by
  unfold rt
  rw [List.take_add_one, Array.getElem?_toList, getElem?_pos a n h]
  simp
theorem rt_split {a : Array Keyed} {k n : Nat} (h : k ≤ n) : rt a n = ((a.toList.drop k).take (n - k)).reverse ++ rt a k := by
  unfold rt
  rw [← List.reverse_append]
  congr 1
  rw [show n = k + (n - k) by omega, List.take_add, Nat.add_sub_cancel_left]
theorem ext_rev {a : Array Keyed} {k n : Nat} : (a.extract k n).reverse.toList = ((a.toList.drop k).take (n - k)).reverse := by
  rw [Array.toList_reverse, Array.toList_extract, List.extract_eq_take_drop]
theorem MI.pushT {R : Keyed → Keyed → Prop} {Z : List Keyed} {o a : Array Keyed} {n : Nat} {rb : List Keyed} (h : MI R Z o.toList (rt a (n + 1)) rb) (hn : n < a.size) (hu : ∀ y ∈ rb, R a[n] y) : MI R Z (o.push a[n]).toList (rt a n) rb := by
  rw [rt_cons hn, ← List.singleton_append] at h
  have := h.blk fun x hx y hy => by rw [List.mem_singleton.mp hx]; exact hu y hy
  rw [Array.toList_push]
  exact this
theorem MI.blkT {R : Keyed → Keyed → Prop} {Z : List Keyed} {o a : Array Keyed} {k n : Nat} {rb : List Keyed} (h : MI R Z o.toList (rt a n) rb) (hk : k ≤ n) (hu : ∀ x ∈ (a.toList.drop k).take (n - k), ∀ y ∈ rb, R x y) : MI R Z (o ++ (a.extract k n).reverse).toList (rt a k) rb := by
  rw [rt_split hk] at h
  rw [Array.toList_append, ext_rev]
  exact h.blk fun x hx y hy => hu x (List.mem_reverse.mp hx) y hy
theorem fi_rev {κ : KeyKind} {Z : List Keyed} {r : Array Keyed} {l : List Keyed} (e : r.toList.reverse = l) (h : l.Perm Z ∧ l.Pairwise (Ge κ)) : Fi (Le κ) Z r := by
  have e2 : r.toList = l.reverse := by rw [← e, List.reverse_reverse]
  unfold Fi
  rw [e2]
  exact ⟨(List.reverse_perm l).trans h.1, List.pairwise_reverse.mpr h.2⟩
theorem ext_to (a : Array Keyed) (n : Nat) : (a.extract 0 n).toList = a.toList.take n := by
  rw [Array.toList_extract, List.extract_eq_take_drop, List.drop_zero, Nat.sub_zero]
theorem MI.doneT {κ : KeyKind} {Z : List Keyed} {o a b : Array Keyed} {m : Nat} (h : MI (Ge κ) Z o.toList (rt a 0) (rt b m)) : Fi (Le κ) Z (a.extract 0 0 ++ b.extract 0 m ++ o.reverse) := by
  refine fi_rev (l := o.toList ++ rt b m) ?_ ?_
  · rw [Array.toList_append, Array.toList_append, ext_to, ext_to, Array.toList_reverse]
    simp [rt]
  · have h2 : MI (Ge κ) Z o.toList [] (rt b m) := h
    exact h2.sw.fin
theorem MI.doneT2 {κ : KeyKind} {Z : List Keyed} {o a b : Array Keyed} {n : Nat} (h : MI (Ge κ) Z o.toList (rt a n) (rt b 0)) : Fi (Le κ) Z (a.extract 0 n ++ b.extract 0 0 ++ o.reverse) := by
  refine fi_rev (l := o.toList ++ rt a n) ?_ ?_
  · rw [Array.toList_append, Array.toList_append, ext_to, ext_to, Array.toList_reverse]
    simp [rt]
  · have h2 : MI (Ge κ) Z o.toList (rt a n) [] := h
    exact h2.fin
theorem MI.firstT {κ : KeyKind} {Z : List Keyed} {o a b : Array Keyed} {n : Nat} (hb : 0 < b.size) (h : MI (Ge κ) Z o.toList (rt a n) (rt b 1)) (h0 : ∀ y ∈ a.toList, Le κ b[0] y) : Fi (Le κ) Z (b.extract 0 1 ++ a.extract 0 n ++ o.reverse) := by
  refine fi_rev (l := o.toList ++ rt a n ++ rt b 1) ?_ ?_
  · rw [Array.toList_append, Array.toList_append, ext_to, ext_to, Array.toList_reverse]
    simp [rt]
  · have e1 : rt b 1 = [b[0]] := by rw [rt_cons hb]; rfl
    rw [show rt a n = rt a n ++ [] from (List.append_nil _).symm] at h
    have h2 := (h.blk fun x hx y hy => by
      rw [e1, List.mem_singleton] at hy
      rw [hy]
      exact h0 x (List.mem_of_mem_take (List.mem_reverse.mp hx))).sw
    exact h2.fin
def mHi' : Array Keyed → Array Keyed → StateT SortSt Sem (Array Keyed) := sortPriv% PySem.Builtin.mergeHi
theorem mHi'_eq (a b : Array Keyed) : mHi' a b = (do
  rule "list.sort.merge-hi"
  let tot := a.size + b.size
  let dn (o : Array Keyed) (i j : Nat) := a.extract 0 i ++ b.extract 0 j ++ o.reverse
  let fb (o : Array Keyed) (i j : Nat) := b.extract 0 j ++ a.extract 0 i ++ o.reverse
  let mut i := a.size - 1
  let mut j := b.size
  let mut o : Array Keyed := #[← elem' a i]
  if i == 0 then return dn o i j
  if j == 1 then return fb o i j
  let mut g := gallopOf (← get)
  for _ in [0:tot] do
    let mut p := 0
    let mut q := 0
    for _ in [0:tot] do
      let some t ← lt' (← elem' b (j - 1)) (← elem' a (i - 1)) | return dn o i j
      if t then
        i := i - 1; o := o.push (← elem' a i); p := p + 1; q := 0
        if i == 0 then return dn o i j
        if p ≥ g then break
      else
        j := j - 1; o := o.push (← elem' b j); q := q + 1; p := 0
        if j == 1 then return fb o i j
        if q ≥ g then break
    rule "list.sort.gallop"
    g := g + 1
    for _ in [0:tot] do
      if g > 1 then g := g - 1
      setG g
      let some y ← gal' false (← elem' b (j - 1)) a 0 i (i - 1) | return dn o i j
      let k := i - y
      p := k
      if k > 0 then
        o := o ++ (a.extract y i).reverse; i := y
        if i == 0 then return dn o i j
      j := j - 1; o := o.push (← elem' b j)
      if j == 1 then return fb o i j
      let some y ← gal' true (← elem' a (i - 1)) b 0 j (j - 1) | return dn o i j
      let k := j - y
      q := k
      if k > 0 then
        o := o ++ (b.extract y j).reverse; j := y
        if j == 1 then return fb o i j
        if j == 0 then return dn o i j
      i := i - 1; o := o.push (← elem' a i)
      if i == 0 then return dn o i j
      if p < 7 && q < 7 then break
    g := g + 1
    setG g
  unsupported "internal:list.sort.merge-bound") := rfl
section
variable {prog : Program} {w : World} {A : Around} {E : Value → Shared → Prop} {s : Shared} {κ : KeyKind}
structure GH (κ : KeyKind) (a b o : Array Keyed) (i j : Nat) : Prop where
  mi : MI (Ge κ) (a.toList ++ b.toList) o.toList (rt a i) (rt b j)
  hi : 1 ≤ i ∧ i ≤ a.size
  hj : 2 ≤ j ∧ j ≤ b.size
theorem ge_rt {a : Array Keyed} {i : Nat} (hi : i < a.size) (h : (rt a (i + 1)).Pairwise (Ge κ)) : ∀ y ∈ rt a (i + 1), Ge κ a[i] y := by
  rw [rt_cons hi] at h ⊢
  intro y hy
  rcases List.mem_cons.mp hy with g | g
  · rw [g]; exact KeyOrd.kle_refl _
  · exact (List.pairwise_cons.mp h).1 y g
theorem rt_mem {a : Array Keyed} {k : Nat} {x : Keyed} (h : x ∈ rt a k) : x ∈ (a.toList.drop 0).take k := by
  rw [List.drop_zero]; exact List.mem_reverse.mp h
theorem w_mHi {st : SortSt} {a b : Array Keyed} {Q : Array Keyed → SortSt → Prop} (hO : κ.OneLt) (hk : kindOf st = oneType') (ha : 0 < a.size) (hb : 0 < b.size) (hka : ∀ x ∈ a.toList, Hk κ x) (hkb : ∀ x ∈ b.toList, Hk κ x)
    (sa : a.toList.Pairwise (Le κ)) (sb : b.toList.Pairwise (Le κ)) (h0 : ∀ y ∈ a.toList, Le κ b[0] y) (hl : ∀ y ∈ b.toList, ∀ x, a.toList.getLast? = some x → Le κ y x)
    (h : ∀ r st', Ev st st' → Fi (Le κ) (a.toList ++ b.toList) r → Q r st') : wpS (model prog w) A E s (mHi' a b) Q st := by
  rw [mHi'_eq]
  dsimp only
  refine wpS_bind (wpS_lift (wpAny_rule ⟨rfl, ?_⟩))
  refine wpS_bind (w_el (by omega) ?_)
  have pr : ∀ (l : Array Keyed), l.toList.Pairwise (Le κ) → (rt l l.size).Pairwise (Ge κ) := fun l hl => by
    unfold rt
    rw [List.take_of_length_le (by rw [Array.length_toList]; exact Nat.le_refl _)]
    exact List.pairwise_reverse.mpr hl
  have m0 : MI (Ge κ) (a.toList ++ b.toList) #[a[a.size - 1]'(by omega)].toList (rt a (a.size - 1)) (rt b b.size) := by
    have m : MI (Ge κ) (a.toList ++ b.toList) (#[] : Array Keyed).toList (rt a (a.size - 1 + 1)) (rt b b.size) := by
      refine ⟨List.Pairwise.nil, fun x hx => (nomatch hx), ?_, by rw [show a.size - 1 + 1 = a.size by omega]; exact pr a sa, pr b sb⟩
      rw [show a.size - 1 + 1 = a.size by omega]
      show (rt a a.size ++ rt b b.size).Perm _
      unfold rt
      rw [List.take_of_length_le (by rw [Array.length_toList]; exact Nat.le_refl _), List.take_of_length_le (by rw [Array.length_toList]; exact Nat.le_refl _)]
      exact (List.reverse_perm _).append (List.reverse_perm _)
    refine m.pushT (by omega) fun y hy => ?_
    refine hl y (List.mem_of_mem_take (List.mem_reverse.mp hy)) _ ?_
    rw [List.getLast?_eq_getElem?, Array.length_toList, Array.getElem?_toList, getElem?_pos a (a.size - 1) (by omega)]
  generalize #[a[a.size - 1]'(by omega)] = o0 at m0 ⊢
  have mema : ∀ {i : Nat} (g : i < a.size), Hk κ a[i] := fun g => hka _ (by simp)
  have memb : ∀ {i : Nat} (g : i < b.size), Hk κ b[i] := fun g => hkb _ (by simp)
  by_cases ha1 : a.size - 1 = 0
  · rw [if_pos (by simpa using ha1)]
    refine wpS_pure (h _ st Ev.r ?_)
    rw [ha1] at m0 ⊢
    exact m0.doneT
  rw [if_neg (by simpa using ha1)]
  by_cases hb1 : b.size = 1
  · rw [if_pos (by simpa using hb1)]
    refine wpS_pure (h _ st Ev.r ?_)
    rw [hb1] at m0 ⊢
    exact m0.firstT hb h0
  rw [if_neg (by simpa using hb1)]
  refine wpS_bind (wpS_get ?_)
  refine wpS_bind (wpS_mono (wpS_forRange (I := fun x c st' => Ev st st' ∧ ∃ o i j g, c = (none, i, j, o, g) ∧ GH κ a b o i j ∧ i + j + x ≤ a.size + b.size)
    (Q := fun c st' => Ev st st' ∧ ∃ r, c.1 = some r ∧ Fi (Le κ) (a.toList ++ b.toList) r) ?sp ?fi ⟨Ev.r, _, _, _, _, rfl, ⟨m0, by omega, by omega⟩, by omega⟩) ?po)
  case po =>
    rintro ⟨o, rest⟩ st' ⟨he, r, e1, hf⟩
    dsimp only at e1 ⊢
    subst e1
    exact wpS_pure (h r st' he hf)
  case fi =>
    rintro c st' ⟨he, o, i, j, g, rfl, hg, hx⟩
    have := hg.hi
    have := hg.hj
    omega
  case sp =>
    rintro x c st1 _ hx ⟨he1, o0, i0, j0, g0, rfl, hg0, hxx⟩
    dsimp only
    refine wpS_bind (wpS_mono (wpS_forRange (I := fun x c st' => Ev st st' ∧ ∃ o i j p q, c = (none, i, j, o, p, q) ∧ GH κ a b o i j ∧ i + j + x ≤ i0 + j0)
      (Q := fun c st' => Ev st st' ∧ ((∃ r, c.1 = some r ∧ Fi (Le κ) (a.toList ++ b.toList) r) ∨ (c.1 = none ∧ GH κ a b c.2.2.2.1 c.2.1 c.2.2.1 ∧ c.2.1 + c.2.2.1 + 1 ≤ i0 + j0))) ?sp1 ?fi1 ⟨he1, o0, i0, j0, 0, 0, rfl, hg0, by omega⟩) ?po1)
    case fi1 =>
      rintro c st' ⟨he, o, i, j, p, q, rfl, hg, hx2⟩
      exact ⟨he, .inr ⟨rfl, hg, by dsimp only; omega⟩⟩
    case sp1 =>
      rintro x1 c st2 _ hx1 ⟨he2, o, i, j, p, q, rfl, hg, hx2⟩
      obtain ⟨i, rfl⟩ : ∃ i', i = i' + 1 := ⟨i - 1, by have := hg.hi; omega⟩
      obtain ⟨j, rfl⟩ : ∃ j', j = j' + 1 := ⟨j - 1, by have := hg.hj; omega⟩
      have hi := hg.hi
      have hj := hg.hj
      dsimp only
      simp only [Nat.add_sub_cancel]
      refine wpS_bind (w_el (by omega) (wpS_bind (w_el (by omega) ?_)))
      refine wpS_bind (w_lt3 hO (he2.knd.trans hk) (memb (by omega)) (mema (by omega)) ?_)
      dsimp only
      cases ht : κ.blt (kf κ (b[j]'(by omega))) (kf κ (a[i]'(by omega))) with
      | true =>
        rw [if_pos rfl]
        refine wpS_bind (w_el (by omega) ?_)
        have m1 := hg.mi.pushT (by omega) fun y hy => Le.tr (ge_rt (by omega) hg.mi.sb y hy) (KeyOrd.kle_of_klt ht)
        by_cases ha2 : i = 0
        · rw [if_pos (by simpa using ha2)]
          subst ha2
          exact wpS_pure ⟨he2, .inl ⟨_, rfl, m1.doneT⟩⟩
        · rw [if_neg (by simpa using ha2)]
          have g1 : GH κ a b (o.push (a[i]'(by omega))) i (j + 1) := ⟨m1, by omega, by omega⟩
          split
          · exact wpS_pure ⟨he2, .inr ⟨rfl, g1, by dsimp only; omega⟩⟩
          · exact wpS_pure ⟨he2, _, _, _, _, _, rfl, g1, by omega⟩
      | false =>
        rw [if_neg Bool.false_ne_true]
        refine wpS_bind (w_el (by omega) ?_)
        have m1 := (hg.mi.sw.pushT (by omega) fun y hy => Le.tr (ge_rt (by omega) hg.mi.sa y hy) (show Le κ _ _ from ht)).sw
        by_cases hb2 : j = 1
        · rw [if_pos (by simpa using hb2)]
          subst hb2
          exact wpS_pure ⟨he2, .inl ⟨_, rfl, m1.firstT hb h0⟩⟩
        · rw [if_neg (by simpa using hb2)]
          have g1 : GH κ a b (o.push (b[j]'(by omega))) (i + 1) j := ⟨m1, by omega, by omega⟩
          split
          · exact wpS_pure ⟨he2, .inr ⟨rfl, g1, by dsimp only; omega⟩⟩
          · exact wpS_pure ⟨he2, _, _, _, _, _, rfl, g1, by omega⟩
    case po1 =>
      rintro ⟨r1, i1, j1, o1, p1, q1⟩ st2 ⟨he2, ⟨r, e1, hf⟩ | ⟨e1, hg1, hx2⟩⟩
      · dsimp only at e1 ⊢
        subst e1
        exact wpS_pure ⟨he2, r, rfl, hf⟩
      · dsimp only at e1 hg1 hx2 ⊢
        subst e1
        dsimp only
        refine wpS_bind (wpS_lift (wpAny_rule ⟨rfl, ?_⟩))
        refine wpS_bind (wpS_mono (wpS_forRange (I := fun x c st' => Ev st st' ∧ ∃ o i j g p q, c = (none, i, j, o, g, p, q) ∧ GH κ a b o i j ∧ i + j ≤ i1 + j1)
          (Q := fun c st' => Ev st st' ∧ ((∃ r, c.1 = some r ∧ Fi (Le κ) (a.toList ++ b.toList) r) ∨ (c.1 = none ∧ GH κ a b c.2.2.2.1 c.2.1 c.2.2.1 ∧ c.2.1 + c.2.2.1 ≤ i1 + j1))) ?sp2 ?fi2 ⟨he2, o1, i1, j1, _, _, _, rfl, hg1, by omega⟩) ?po2)
        case fi2 =>
          rintro c st' ⟨he, o, i, j, g, p, q, rfl, hg, hx2⟩
          exact ⟨he, .inr ⟨rfl, hg, hx2⟩⟩
        case po2 =>
          rintro ⟨r2, i2, j2, o2, g2, p2, q2⟩ st3 ⟨he3, ⟨r, e1, hf⟩ | ⟨e1, hg2, hx3⟩⟩
          · dsimp only at e1 ⊢
            subst e1
            exact wpS_pure ⟨he3, r, rfl, hf⟩
          · dsimp only at e1 hg2 hx3 ⊢
            subst e1
            dsimp only
            exact wpS_bind (w_setG fun st4 he4 => wpS_pure ⟨he3.t he4, o2, i2, j2, _, rfl, hg2, by omega⟩)
        case sp2 =>
          rintro x2 c st3 _ hx3 ⟨he3, o, i, j, g, p, q, rfl, hg, hxx2⟩
          obtain ⟨j, rfl⟩ : ∃ j', j = j' + 1 := ⟨j - 1, by have := hg.hj; omega⟩
          have hi := hg.hi
          have hj := hg.hj
          dsimp only
          simp only [Nat.add_sub_cancel]
          by_cases hgg : g > 1
          case' pos => rw [if_pos hgg]
          case' neg => rw [if_neg hgg]
          all_goals
            refine wpS_bind (w_setG fun st4 he4 => ?_)
            have he5 := he3.t he4
            refine wpS_bind (w_el (by omega) ?_)
            refine wpS_bind (w_galR hO (he5.knd.trans hk) (show 0 + i ≤ a.size by omega) (by omega) hka (memb (by omega)) (by rw [List.drop_zero]; exact sa.sublist (List.take_sublist _ _)) fun y hyn k1 k2 => ?_)
            dsimp only
            rw [Nat.zero_add] at k2
            have m1 := hg.mi.blkT hyn fun x hx u hu => Le.tr (ge_rt (by omega) hg.mi.sb u hu) (k2 x hx)
            have k1' : ∀ x ∈ rt a y, Le κ x (b[j]'(by omega)) := fun x hx => k1 x (rt_mem hx)
            by_cases hkp : i - y > 0
            case pos =>
              rw [if_pos hkp]
              by_cases ha2 : y = 0
              · rw [if_pos (by simpa using ha2)]
                subst ha2
                exact wpS_pure ⟨he5, .inl ⟨_, rfl, m1.doneT⟩⟩
              rw [if_neg (by simpa using ha2)]
              obtain ⟨y, rfl⟩ : ∃ y', y = y' + 1 := ⟨y - 1, by omega⟩
              generalize o ++ (a.extract (y + 1) i).reverse = o5 at m1 ⊢
              refine wpS_bind (w_el (by omega) ?_)
              have m2 := (m1.sw.pushT (by omega) fun u hu => k1' u hu).sw
              by_cases hb2 : j = 1
              · rw [if_pos (by simpa using hb2)]
                subst hb2
                exact wpS_pure ⟨he5, .inl ⟨_, rfl, m2.firstT hb h0⟩⟩
              rw [if_neg (by simpa using hb2)]
              generalize o5.push (b[j]'(by omega)) = o6 at m2 ⊢
              simp only [Nat.add_sub_cancel]
              refine wpS_bind (w_el (by omega) ?_)
              refine wpS_bind (w_galL hO (he5.knd.trans hk) (show 0 + j ≤ b.size by omega) (by omega) hkb (mema (by omega)) (by rw [List.drop_zero]; exact sb.sublist (List.take_sublist _ _)) fun e hen e1 e2 => ?_)
              dsimp only
              rw [Nat.zero_add] at e2
              have m3 := (m2.sw.blkT hen fun x hx u hu => Le.tr (ge_rt (by omega) m2.sa u hu) (e2 x hx)).sw
              have e1' : ∀ x ∈ rt b e, Le κ x (a[y]'(by omega)) := fun x hx => e1 x (rt_mem hx)
              by_cases hep : j - e > 0
              case pos =>
                rw [if_pos hep]
                by_cases hb3 : e = 1
                · rw [if_pos (by simpa using hb3)]
                  subst hb3
                  exact wpS_pure ⟨he5, .inl ⟨_, rfl, m3.firstT hb h0⟩⟩
                rw [if_neg (by simpa using hb3)]
                by_cases hb4 : e = 0
                · rw [if_pos (by simpa using hb4)]
                  subst hb4
                  exact wpS_pure ⟨he5, .inl ⟨_, rfl, m3.doneT2⟩⟩
                rw [if_neg (by simpa using hb4)]
                refine wpS_bind (w_el (by omega) ?_)
                have m4 := m3.pushT (by omega) fun u hu => e1' u hu
                by_cases ha4 : y = 0
                · rw [if_pos (by simpa using ha4)]
                  subst ha4
                  exact wpS_pure ⟨he5, .inl ⟨_, rfl, m4.doneT⟩⟩
                rw [if_neg (by simpa using ha4)]
                split
                · exact wpS_pure ⟨he5, .inr ⟨rfl, ⟨m4, by dsimp only; omega, by dsimp only; omega⟩, by dsimp only; omega⟩⟩
                · exact wpS_pure ⟨he5, _, _, _, _, _, _, rfl, ⟨m4, by omega, by omega⟩, by omega⟩
              case neg =>
                rw [if_neg hep]
                obtain rfl : e = j := by omega
                refine wpS_bind (w_el (by omega) ?_)
                have m4 := m2.pushT (by omega) fun u hu => e1' u hu
                by_cases ha4 : y = 0
                · rw [if_pos (by simpa using ha4)]
                  subst ha4
                  exact wpS_pure ⟨he5, .inl ⟨_, rfl, m4.doneT⟩⟩
                rw [if_neg (by simpa using ha4)]
                split
                · exact wpS_pure ⟨he5, .inr ⟨rfl, ⟨m4, by dsimp only; omega, by dsimp only; omega⟩, by dsimp only; omega⟩⟩
                · exact wpS_pure ⟨he5, _, _, _, _, _, _, rfl, ⟨m4, by omega, by omega⟩, by omega⟩
            case neg =>
              rw [if_neg hkp]
              obtain rfl : y = i := by omega
              obtain ⟨y, rfl⟩ : ∃ y', y = y' + 1 := ⟨y - 1, by omega⟩
              refine wpS_bind (w_el (by omega) ?_)
              have m2 := (hg.mi.sw.pushT (by omega) fun u hu => k1' u hu).sw
              by_cases hb2 : j = 1
              · rw [if_pos (by simpa using hb2)]
                subst hb2
                exact wpS_pure ⟨he5, .inl ⟨_, rfl, m2.firstT hb h0⟩⟩
              rw [if_neg (by simpa using hb2)]
              generalize o.push (b[j]'(by omega)) = o6 at m2 ⊢
              simp only [Nat.add_sub_cancel]
              refine wpS_bind (w_el (by omega) ?_)
              refine wpS_bind (w_galL hO (he5.knd.trans hk) (show 0 + j ≤ b.size by omega) (by omega) hkb (mema (by omega)) (by rw [List.drop_zero]; exact sb.sublist (List.take_sublist _ _)) fun e hen e1 e2 => ?_)
              dsimp only
              rw [Nat.zero_add] at e2
              have m3 := (m2.sw.blkT hen fun x hx u hu => Le.tr (ge_rt (by omega) m2.sa u hu) (e2 x hx)).sw
              have e1' : ∀ x ∈ rt b e, Le κ x (a[y]'(by omega)) := fun x hx => e1 x (rt_mem hx)
              by_cases hep : j - e > 0
              case pos =>
                rw [if_pos hep]
                by_cases hb3 : e = 1
                · rw [if_pos (by simpa using hb3)]
                  subst hb3
                  exact wpS_pure ⟨he5, .inl ⟨_, rfl, m3.firstT hb h0⟩⟩
                rw [if_neg (by simpa using hb3)]
                by_cases hb4 : e = 0
                · rw [if_pos (by simpa using hb4)]
                  subst hb4
                  exact wpS_pure ⟨he5, .inl ⟨_, rfl, m3.doneT2⟩⟩
                rw [if_neg (by simpa using hb4)]
                refine wpS_bind (w_el (by omega) ?_)
                have m4 := m3.pushT (by omega) fun u hu => e1' u hu
                by_cases ha4 : y = 0
                · rw [if_pos (by simpa using ha4)]
                  subst ha4
                  exact wpS_pure ⟨he5, .inl ⟨_, rfl, m4.doneT⟩⟩
                rw [if_neg (by simpa using ha4)]
                split
                · exact wpS_pure ⟨he5, .inr ⟨rfl, ⟨m4, by dsimp only; omega, by dsimp only; omega⟩, by dsimp only; omega⟩⟩
                · exact wpS_pure ⟨he5, _, _, _, _, _, _, rfl, ⟨m4, by omega, by omega⟩, by omega⟩
              case neg =>
                rw [if_neg hep]
                obtain rfl : e = j := by omega
                refine wpS_bind (w_el (by omega) ?_)
                have m4 := m2.pushT (by omega) fun u hu => e1' u hu
                by_cases ha4 : y = 0
                · rw [if_pos (by simpa using ha4)]
                  subst ha4
                  exact wpS_pure ⟨he5, .inl ⟨_, rfl, m4.doneT⟩⟩
                rw [if_neg (by simpa using ha4)]
                split
                · exact wpS_pure ⟨he5, .inr ⟨rfl, ⟨m4, by dsimp only; omega, by dsimp only; omega⟩, by dsimp only; omega⟩⟩
                · exact wpS_pure ⟨he5, _, _, _, _, _, _, rfl, ⟨m4, by omega, by omega⟩, by omega⟩
end
end SR

set_option autoImplicit false
set_option linter.all false
set_option maxRecDepth 100000
namespace SR
open PySem PyProof.Rows
theorem fold_get (base : Nat) : ∀ (l : List Keyed) (n : Nat) (a : Array Keyed) (t : Nat), base + n + l.length ≤ a.size →
    ((l.zipIdx n).foldl (fun a (p, j) => a.setIfInBounds (base + j) p) a)[t]? = if base + n ≤ t ∧ t < base + n + l.length then l[t - (base + n)]? else a[t]?
  | [], n, a, t, h => by
    rw [if_neg (by simp only [List.length_nil]; omega)]
    rfl
  | p :: l, n, a, t, h => by
    rw [List.length_cons] at h ⊢
    rw [List.zipIdx_cons, List.foldl_cons]
    have ih := fold_get base l (n + 1) (a.setIfInBounds (base + n) p) t (by rw [Array.size_setIfInBounds]; omega)
    rw [show (List.foldl (fun a x => a.setIfInBounds (base + x.2) x.1) (a.setIfInBounds (base + n) p) (l.zipIdx (n + 1)))[t]? = _ from ih, Array.getElem?_setIfInBounds]
    by_cases h1 : t = base + n
    · subst h1
      rw [if_neg (by omega), if_pos rfl, if_pos (by omega), if_pos (by omega), Nat.sub_self]
      rfl
    · by_cases h2 : base + n ≤ t ∧ t < base + n + (l.length + 1)
      · rw [if_pos (by omega), if_pos h2, show t - (base + n) = t - (base + (n + 1)) + 1 by omega]
        rfl
      · rw [if_neg (by omega), if_neg (by omega), if_neg h2]
theorem fold_list (base : Nat) (l : List Keyed) (a : Array Keyed) (h : base + l.length ≤ a.size) :
    (l.zipIdx.foldl (fun a (p, j) => a.setIfInBounds (base + j) p) a).toList = a.toList.take base ++ (l ++ a.toList.drop (base + l.length)) := by
  apply List.ext_getElem?
  intro t
  have e := fold_get base l 0 a t (by omega)
  rw [Array.getElem?_toList, show (l.zipIdx.foldl (fun a (p, j) => a.setIfInBounds (base + j) p) a)[t]? = _ from e]
  have hl : (a.toList.take base).length = base := by rw [List.length_take, Array.length_toList]; omega
  by_cases h1 : t < base
  · rw [if_neg (by omega), List.getElem?_append_left (by omega), List.getElem?_take_of_lt h1, Array.getElem?_toList]
  · rw [List.getElem?_append_right (by omega), hl]
    by_cases h2 : t < base + l.length
    · rw [if_pos (by omega), List.getElem?_append_left (by omega)]
      rfl
    · rw [if_neg (by omega), List.getElem?_append_right (by omega), List.getElem?_drop, Array.getElem?_toList]
      congr 1
      omega
/-- a stretch -/
def sg (xs : Array Keyed) (l n : Nat) : List Keyed := (xs.toList.drop l).take n
section
variable {κ : KeyKind}
theorem KK_kf {xs : Array Keyed} {i : Nat} (h : i < xs.size) : KK κ xs i = kf κ xs[i] := by
  unfold KK kf
  rw [getElem?_pos xs i h]
theorem sg_get {xs : Array Keyed} {l n t : Nat} (h : l + n ≤ xs.size) (ht : t < n) : (sg xs l n)[t]? = some (xs[l + t]'(by omega)) := by
  unfold sg
  rw [List.getElem?_take_of_lt ht, List.getElem?_drop, Array.getElem?_toList, getElem?_pos xs (l + t) (by omega)]
theorem sg_len {xs : Array Keyed} {l n : Nat} (h : l + n ≤ xs.size) : (sg xs l n).length = n := by
  unfold sg
  rw [List.length_take, List.length_drop, Array.length_toList]
  omega
theorem up_sg {xs : Array Keyed} {l n : Nat} (h : l + n ≤ xs.size) : Up κ xs l (l + n) ↔ (sg xs l n).Pairwise (Le κ) := by
  rw [List.pairwise_iff_getElem]
  constructor
  · intro hu i j hi hj hij
    rw [sg_len h] at hi hj
    have e1 := sg_get h hi
    have e2 := sg_get h hj
    rw [List.getElem?_eq_getElem (by rw [sg_len h]; omega)] at e1 e2
    rw [Option.some.inj e1, Option.some.inj e2]
    have := hu (l + i) (l + j) (by omega) (by omega) (by omega)
    rw [KK_kf (by omega), KK_kf (by omega)] at this
    exact this
  · intro hp i j h1 h2 h3
    rw [KK_kf (by omega), KK_kf (by omega)]
    rcases Nat.lt_or_eq_of_le h2 with g | g
    · have := hp (i - l) (j - l) (by rw [sg_len h]; omega) (by rw [sg_len h]; omega) (by omega)
      have e1 := sg_get h (t := i - l) (by omega)
      have e2 := sg_get h (t := j - l) (by omega)
      rw [List.getElem?_eq_getElem (by rw [sg_len h]; omega)] at e1 e2
      rw [Option.some.inj e1, Option.some.inj e2] at this
      simp only [show l + (i - l) = i by omega, show l + (j - l) = j by omega] at this
      exact this
    · subst g; exact KeyOrd.kle_refl _
theorem sg_app {xs : Array Keyed} {l m n : Nat} : sg xs l (m + n) = sg xs l m ++ sg xs (l + m) n := by
  unfold sg
  rw [List.take_add, List.drop_drop]
theorem ext_sg {xs : Array Keyed} {l n : Nat} : (xs.extract l (l + n)).toList = sg xs l n := ext_mid xs l n
/-- the merged stretch in its place -/
theorem merged {xs ys : Array Keyed} {sa k nx ny nr : Nat} {M : List Keyed} (hsz : sa + k + nx + ny + nr ≤ xs.size) (hy : ys.toList = xs.toList.take (sa + k) ++ (M ++ xs.toList.drop (sa + k + nx + ny)))
    (hM : M.Perm (sg xs (sa + k) nx ++ sg xs (sa + k + nx) ny)) (hMs : M.Pairwise (Le κ)) (hA : (sg xs sa (k + nx)).Pairwise (Le κ)) (hB : (sg xs (sa + k + nx) (ny + nr)).Pairwise (Le κ))
    (h1 : ∀ x ∈ sg xs sa k, ∀ y ∈ sg xs (sa + k + nx) ny, Le κ x y) (h1b : ∀ x ∈ sg xs sa k, ∀ y ∈ sg xs (sa + k + nx + ny) nr, Le κ x y) (h2 : ∀ x ∈ sg xs (sa + k) nx, ∀ y ∈ sg xs (sa + k + nx + ny) nr, Le κ x y) :
    ys.Perm xs ∧ Up κ ys sa (sa + (k + nx + ny + nr)) ∧ ∀ t, t < sa ∨ sa + k + nx + ny + nr ≤ t → ys[t]? = xs[t]? := by
  have hMl : M.length = nx + ny := by
    rw [hM.length_eq, List.length_append, sg_len (by omega), sg_len (by omega)]
  have ex : xs.toList = xs.toList.take (sa + k) ++ ((sg xs (sa + k) nx ++ sg xs (sa + k + nx) ny) ++ xs.toList.drop (sa + k + nx + ny)) := by
    have e1 : xs.toList.drop (sa + k) = sg xs (sa + k) (nx + ny) ++ xs.toList.drop (sa + k + (nx + ny)) := split_at xs (sa + k) (nx + ny)
    rw [← sg_app, show sa + k + nx + ny = sa + k + (nx + ny) by omega, ← e1, List.take_append_drop]
  have hper : ys.Perm xs := by
    rw [Array.perm_iff_toList_perm, hy]
    conv => rhs; rw [ex]
    exact (hM.append_right _).append_left _
  have hys : ys.size = xs.size := hper.size_eq
  have hlt : (xs.toList.take (sa + k)).length = sa + k := by rw [List.length_take, Array.length_toList]; omega
  have low : ∀ t, t < sa + k → ys[t]? = xs[t]? := fun t ht => by
    rw [← Array.getElem?_toList, hy, List.getElem?_append_left (by omega), List.getElem?_take_of_lt ht, Array.getElem?_toList]
  have high : ∀ t, sa + k + nx + ny ≤ t → ys[t]? = xs[t]? := fun t ht => by
    rw [← Array.getElem?_toList, hy, List.getElem?_append_right (by omega), hlt, List.getElem?_append_right (by omega), hMl, List.getElem?_drop, Array.getElem?_toList]
    congr 1
    omega
  refine ⟨hper, ?_, fun t ht => ?_⟩
  · rw [up_sg (by omega)]
    have e2 : sg ys sa (k + nx + ny + nr) = sg xs sa k ++ (M ++ sg xs (sa + k + nx + ny) nr) := by
      apply List.ext_getElem?
      intro t
      have hk1 : (sg xs sa k).length = k := sg_len (by omega)
      by_cases hT : t < k + nx + ny + nr
      · have eL : (sg ys sa (k + nx + ny + nr))[t]? = ys[sa + t]? := by
          unfold sg
          rw [List.getElem?_take_of_lt hT, List.getElem?_drop, Array.getElem?_toList]
        rw [eL]
        by_cases t1 : t < k
        · rw [low _ (by omega), List.getElem?_append_left (by omega)]
          unfold sg
          rw [List.getElem?_take_of_lt t1, List.getElem?_drop, Array.getElem?_toList]
        · rw [List.getElem?_append_right (by omega), hk1]
          by_cases t2 : t < k + nx + ny
          · rw [List.getElem?_append_left (by omega), ← Array.getElem?_toList, hy, List.getElem?_append_right (by omega), hlt, List.getElem?_append_left (by omega)]
            congr 1
            omega
          · rw [high _ (by omega), List.getElem?_append_right (by omega), hMl]
            unfold sg
            rw [List.getElem?_take_of_lt (by omega), List.getElem?_drop, Array.getElem?_toList]
            congr 1
            omega
      · rw [List.getElem?_eq_none (by rw [sg_len (by omega)]; omega), List.getElem?_eq_none]
        rw [List.length_append, List.length_append, hk1, hMl, sg_len (by omega)]
        omega
    rw [e2]
    rw [sg_app] at hA hB
    obtain ⟨a1, a2, a3⟩ := List.pairwise_append.mp hA
    obtain ⟨b1, b2, b3⟩ := List.pairwise_append.mp hB
    refine List.pairwise_append.mpr ⟨a1, List.pairwise_append.mpr ⟨hMs, b2, fun x hx y hyy => ?_⟩, fun x hx y hyy => ?_⟩
    · rcases List.mem_append.mp (hM.mem_iff.mp hx) with g | g
      · exact h2 x g y hyy
      · exact b3 x g y hyy
    · rcases List.mem_append.mp hyy with g | g
      · rcases List.mem_append.mp (hM.mem_iff.mp g) with g | g
        · exact a3 x hx y g
        · exact h1 x hx y g
      · exact h1b x hx y g
  · rcases ht with g | g
    · exact low t (by omega)
    · exact high t (by omega)
end
end SR

set_option autoImplicit false
set_option linter.all false
set_option maxRecDepth 100000
namespace SR
open PySem PyProof.Rows
theorem mAt_eq (i : Nat) : mergeAt' i = (do
  let s ← get
  let (some (sa, na, pw), some (sb, nb, _)) := ((pendingOf s)[i]?, (pendingOf s)[i + 1]?) | unsupported "internal:list.sort.pending"
  set (setPending s (((pendingOf s).setIfInBounds i (sa, na + nb, pw)).eraseIdxIfInBounds (i + 1)))
  let some k ← gal' false (← elem' (arrOf s) sb) (arrOf s) sa na 0 | return false
  let (sa, na) := (sa + k, na - k)
  if na == 0 then return true
  let some nb ← gal' true (← elem' (arrOf s) (sa + na - 1)) (arrOf s) sb nb (nb - 1) | return false
  if nb == 0 then return true
  let x := (arrOf s).extract sa sb
  let y := (arrOf s).extract sb (sb + nb)
  let m ← if na ≤ nb then mLo' x y else mHi' x y
  modify fun s => setArr s (m.toList.zipIdx.foldl (fun a (p, j) => a.setIfInBounds (sa + j) p) (arrOf s))
  return (failedOf (← get)).isNone) := rfl
section
variable {prog : Program} {w : World} {A : Around} {E : Value → Shared → Prop} {s : Shared} {z : Array Keyed} {κ : KeyKind}
theorem w_set {st st2 : SortSt} {Q : PUnit → SortSt → Prop} (h : Q ⟨⟩ st2) : wpS (model prog w) A E s (set st2 : StateT SortSt Sem PUnit) Q st := by
  unfold wpS; rw [StateT.run_set]; exact wpAny_pure ⟨rfl, h⟩
theorem w_mAt {st : SortSt} {i sa na pw sb nb pv : Nat} {Q : Bool → SortSt → Prop} (hO : κ.OneLt) (hz : KeysOf κ z) (hB : SB z st) (e1 : (pendingOf st)[i]? = some (sa, na, pw)) (e2 : (pendingOf st)[i + 1]? = some (sb, nb, pv))
    (hab : sb = sa + na) (hn : sb + nb ≤ z.size) (hna : 1 ≤ na) (hnb : 1 ≤ nb) (ua : Up κ (arrOf st) sa (sa + na)) (ub : Up κ (arrOf st) sb (sb + nb))
    (h : ∀ st', SB z st' → pendingOf st' = ((pendingOf st).setIfInBounds i (sa, na + nb, pw)).eraseIdxIfInBounds (i + 1) → Up κ (arrOf st') sa (sa + (na + nb)) → (∀ t, t < sa ∨ sa + (na + nb) ≤ t → (arrOf st')[t]? = (arrOf st)[t]?) → Q true st') :
    wpS (model prog w) A E s (mergeAt' i) Q st := by
  rw [mAt_eq]
  refine wpS_bind (wpS_get ?_)
  rw [e1, e2]
  dsimp only
  have hsz : (arrOf st).size = z.size := hB.sz
  have hK : ∀ x ∈ (arrOf st).toList, Hk κ x := fun x hx => hz x ((Array.perm_iff_toList_perm.mp hB.prm).mem_iff.mp hx)
  have hkn : kindOf st = oneType' := hB.knd
  have hfl : failedOf st = none := hB.ffl
  generalize hP : ((pendingOf st).setIfInBounds i (sa, na + nb, pw)).eraseIdxIfInBounds (i + 1) = P at h ⊢
  refine wpS_bind (w_set ?_)
  subst hab
  have pa := (up_sg (κ := κ) (xs := arrOf st) (l := sa) (n := na) (by omega)).mp ua
  have pb := (up_sg (κ := κ) (xs := arrOf st) (l := sa + na) (n := nb) (by omega)).mp ub
  have hSB : ∀ ys : Array Keyed, ys.Perm (arrOf st) → ∀ st2 : SortSt, kindOf st2 = oneType' → failedOf st2 = none → arrOf st2 = ys → SB z st2 := fun ys hp st2 g1 g2 g3 => ⟨by rw [g3]; exact hp.trans hB.prm, g1, g2⟩
  have hplain : (∀ x ∈ sg (arrOf st) sa na, ∀ y ∈ sg (arrOf st) (sa + na) nb, Le κ x y) → Q true (setPending st P) := fun hle => by
    refine h _ (hSB _ (Array.Perm.refl _) _ hkn hfl rfl) rfl ?_ (fun t _ => rfl)
    show Up κ (arrOf st) sa (sa + (na + nb))
    rw [up_sg (by omega), sg_app]
    exact List.pairwise_append.mpr ⟨pa, pb, hle⟩
  generalize hX : arrOf st = xs at hsz hK pa pb hSB hplain h ⊢
  have hbf : ∀ y ∈ sg xs (sa + na) nb, Le κ (xs[sa + na]'(by omega)) y := fun y hy => by
    have e := sg_app (xs := xs) (l := sa + na) (m := 1) (n := nb - 1)
    rw [show 1 + (nb - 1) = nb by omega] at e
    rw [e] at pb hy
    have e3 : sg xs (sa + na) 1 = [xs[sa + na]'(by omega)] := by
      unfold sg
      rw [drop_cons (by omega)]
      rfl
    rw [e3, List.singleton_append] at pb hy
    exact head_le pb y hy
  have hal : ∀ y ∈ sg xs sa na, Le κ y (xs[sa + na - 1]'(by omega)) := fun y hy => by
    have e := sg_app (xs := xs) (l := sa) (m := na - 1) (n := 1)
    rw [show na - 1 + 1 = na by omega] at e
    rw [e] at pa hy
    have e3 : sg xs (sa + (na - 1)) 1 = [xs[sa + na - 1]'(by omega)] := by
      unfold sg
      rw [drop_cons (by omega)]
      simp only [show sa + (na - 1) = sa + na - 1 by omega]
      rfl
    rw [e3] at pa hy
    rcases List.mem_append.mp hy with g | g
    · exact (List.pairwise_append.mp pa).2.2 y g _ (List.mem_singleton.mpr rfl)
    · rw [List.mem_singleton.mp g]; exact KeyOrd.kle_refl _
  refine wpS_bind (w_el (by omega) ?_)
  refine wpS_bind (w_galR hO hkn (show sa + na ≤ xs.size by omega) (by omega) hK (hK _ (by simp)) pa fun k hkn2 k1 k2 => ?_)
  dsimp only
  by_cases hk0 : na - k = 0
  · rw [if_pos (by simpa using hk0)]
    obtain rfl : k = na := by omega
    exact wpS_pure (hplain fun x hx y hy => Le.tr (k1 x hx) (hbf y hy))
  rw [if_neg (by simpa using hk0)]
  have hix : sa + k + (na - k) - 1 = sa + na - 1 := by omega
  rw [hix]
  refine wpS_bind (w_el (by omega) ?_)
  refine wpS_bind (w_galL hO hkn (show sa + na + nb ≤ xs.size by omega) (by omega) hK (hK _ (by simp)) pb fun e hen f1 f2 => ?_)
  dsimp only
  by_cases he0 : e = 0
  · rw [if_pos (by simpa using he0)]
    subst he0
    exact wpS_pure (hplain fun x hx y hy => Le.tr (hal x hx) (f2 y hy))
  rw [if_neg (by simpa using he0)]
  have exX : (xs.extract (sa + k) (sa + na)).toList = sg xs (sa + k) (na - k) := by
    rw [show sa + na = sa + k + (na - k) by omega]; exact ext_sg
  have exY : (xs.extract (sa + na) (sa + na + e)).toList = sg xs (sa + na) e := ext_sg
  have sX : (xs.extract (sa + k) (sa + na)).size = na - k := by rw [Array.size_extract]; omega
  have sY : (xs.extract (sa + na) (sa + na + e)).size = e := by rw [Array.size_extract]; omega
  have hYsub : ∀ y ∈ sg xs (sa + na) e, y ∈ sg xs (sa + na) nb := fun y hy => by
    have e4 := sg_app (xs := xs) (l := sa + na) (m := e) (n := nb - e)
    rw [show e + (nb - e) = nb by omega] at e4
    rw [e4]
    exact List.mem_append_left _ hy
  have hXsub : ∀ x ∈ sg xs (sa + k) (na - k), x ∈ sg xs sa na := fun y hy => by
    have e4 := sg_app (xs := xs) (l := sa) (m := k) (n := na - k)
    rw [show k + (na - k) = na by omega] at e4
    rw [e4]
    exact List.mem_append_right _ hy
  have hA1 : ∀ x ∈ sg xs sa k, x ∈ sg xs sa na := fun y hy => by
    have e4 := sg_app (xs := xs) (l := sa) (m := k) (n := na - k)
    rw [show k + (na - k) = na by omega] at e4
    rw [e4]
    exact List.mem_append_left _ hy
  have kX : ∀ x ∈ (xs.extract (sa + k) (sa + na)).toList, Hk κ x := fun x hx => by
    rw [exX] at hx
    exact hK x (List.mem_of_mem_drop (List.mem_of_mem_take hx))
  have kY : ∀ x ∈ (xs.extract (sa + na) (sa + na + e)).toList, Hk κ x := fun x hx => by
    rw [exY] at hx
    exact hK x (List.mem_of_mem_drop (List.mem_of_mem_take hx))
  have pX : (xs.extract (sa + k) (sa + na)).toList.Pairwise (Le κ) := by
    rw [exX]
    have e4 := sg_app (xs := xs) (l := sa) (m := k) (n := na - k)
    rw [show k + (na - k) = na by omega] at e4
    rw [e4] at pa
    exact (List.pairwise_append.mp pa).2.1
  have pY : (xs.extract (sa + na) (sa + na + e)).toList.Pairwise (Le κ) := by
    rw [exY]
    have e4 := sg_app (xs := xs) (l := sa + na) (m := e) (n := nb - e)
    rw [show e + (nb - e) = nb by omega] at e4
    rw [e4] at pb
    exact (List.pairwise_append.mp pb).1
  have h00 : ∀ y ∈ (xs.extract (sa + k) (sa + na)).toList, Le κ ((xs.extract (sa + na) (sa + na + e))[0]'(by omega)) y := fun y hy => by
    rw [exX] at hy
    rw [Array.getElem_extract]
    exact k2 y hy
  have hll : ∀ y ∈ (xs.extract (sa + na) (sa + na + e)).toList, ∀ x, (xs.extract (sa + k) (sa + na)).toList.getLast? = some x → Le κ y x := fun y hy x hx => by
    rw [exY] at hy
    rw [List.getLast?_eq_getElem?, Array.length_toList, sX, Array.getElem?_toList, getElem?_pos _ _ (by omega), Array.getElem_extract] at hx
    simp only [show sa + k + (na - k - 1) = sa + na - 1 by omega] at hx
    rw [← Option.some.inj hx]
    exact f1 y hy
  have fin : ∀ (r : Array Keyed) (st2 : SortSt), Ev (setPending st P) st2 → Fi (Le κ) ((xs.extract (sa + k) (sa + na)).toList ++ (xs.extract (sa + na) (sa + na + e)).toList) r →
      Q true (setArr st2 (List.foldl (fun a x => a.setIfInBounds (sa + k + x.snd) x.fst) (arrOf st2) r.toList.zipIdx)) := fun r st2 hev hfi => by
    rw [exX, exY] at hfi
    have harr : arrOf st2 = xs := hev.arr.trans hX
    have hrl : r.toList.length = na - k + e := by
      rw [hfi.1.length_eq, List.length_append, sg_len (by omega), sg_len (by omega)]
    have e5 := fold_list (sa + k) r.toList (arrOf st2) (by rw [harr, hrl]; omega)
    rw [harr, hrl] at e5
    have hm := merged (κ := κ) (xs := xs) (ys := List.foldl (fun a x => a.setIfInBounds (sa + k + x.snd) x.fst) (arrOf st2) r.toList.zipIdx) (sa := sa) (k := k) (nx := na - k) (ny := e) (nr := nb - e) (M := r.toList) (by omega)
      (by rw [harr, show sa + k + (na - k) + e = sa + k + (na - k + e) by omega]; exact e5)
      (by rw [show sa + k + (na - k) = sa + na by omega]; exact hfi.1) hfi.2 (by rw [show k + (na - k) = na by omega]; exact pa) (by rw [show sa + k + (na - k) = sa + na by omega, show e + (nb - e) = nb by omega]; exact pb)
      (by rw [show sa + k + (na - k) = sa + na by omega]; exact fun x hx y hy => Le.tr (k1 x hx) (hbf y (hYsub y hy)))
      (by rw [show sa + k + (na - k) = sa + na by omega]; exact fun x hx y hy => Le.tr (hal x (hA1 x hx)) (f2 y hy))
      (by rw [show sa + k + (na - k) = sa + na by omega]; exact fun x hx y hy => Le.tr (hal x (hXsub x hx)) (f2 y hy))
    obtain ⟨m1, m2, m3⟩ := hm
    rw [show k + (na - k) + e + (nb - e) = na + nb by omega] at m2
    refine h _ (hSB _ m1 _ (hev.knd.trans hkn) (hev.ffl.trans hfl) rfl) hev.pen m2 fun t ht => m3 t (by omega)
  by_cases hcmp : na - k ≤ e
  · rw [if_pos hcmp]
    refine wpS_bind (w_mLo hO hkn (by omega) (by omega) kX kY pX pY h00 hll fun r st2 hev hfi => ?_)
    refine wpS_bind (wpS_modify (wpS_bind (wpS_get ?_)))
    have hf2 : failedOf st2 = none := hev.ffl.trans hfl
    rw [hf2]
    exact wpS_pure (fin r st2 hev hfi)
  · rw [if_neg hcmp]
    refine wpS_bind (w_mHi hO hkn (by omega) (by omega) kX kY pX pY h00 hll fun r st2 hev hfi => ?_)
    refine wpS_bind (wpS_modify (wpS_bind (wpS_get ?_)))
    have hf2 : failedOf st2 = none := hev.ffl.trans hfl
    rw [hf2]
    exact wpS_pure (fin r st2 hev hfi)
end
end SR

set_option autoImplicit false
set_option linter.all false
set_option maxRecDepth 100000
namespace SR
open PySem PyProof.Rows
/-- the stretches that are pending, side by side from s to e -/
def Stk (κ : KeyKind) (xs : Array Keyed) : Nat → List (Nat × Nat × Nat) → Nat → Prop
  | s, [], e => s = e
  | s, t :: r, e => t.1 = s ∧ 1 ≤ t.2.1 ∧ Up κ xs s (s + t.2.1) ∧ Stk κ xs (s + t.2.1) r e
section
variable {κ : KeyKind}
theorem Stk.le {xs : Array Keyed} : ∀ {l : List (Nat × Nat × Nat)} {s e : Nat}, Stk κ xs s l e → s + l.length ≤ e
  | [], s, e, h => by have : s = e := h; rw [this]; exact Nat.le_refl _
  | t :: r, s, e, h => by
    have := Stk.le h.2.2.2
    have := h.2.1
    rw [List.length_cons]
    omega
theorem up_keep {xs ys : Array Keyed} {l r : Nat} (h : Up κ xs l r) (he : ∀ k, l ≤ k → k < r → ys[k]? = xs[k]?) : Up κ ys l r := fun i j h1 h2 h3 => by
  rw [KK_congr (he i h1 (by omega)), KK_congr (he j (by omega) h3)]
  exact h i j h1 h2 h3
theorem Stk.keep {xs ys : Array Keyed} : ∀ {l : List (Nat × Nat × Nat)} {s e : Nat}, Stk κ xs s l e → (∀ k, s ≤ k → k < e → ys[k]? = xs[k]?) → Stk κ ys s l e
  | [], s, e, h, _ => h
  | t :: r, s, e, h, he => by
    have h2 := Stk.le h.2.2.2
    have h3 := h.2.1
    exact ⟨h.1, h.2.1, up_keep h.2.2.1 fun k k1 k2 => he k k1 (by omega), h.2.2.2.keep fun k k1 k2 => he k (by omega) k2⟩
theorem Stk.snoc {xs : Array Keyed} {n p : Nat} (hn : 1 ≤ n) : ∀ {l : List (Nat × Nat × Nat)} {s e : Nat}, Stk κ xs s l e → Up κ xs e (e + n) → Stk κ xs s (l ++ [(e, n, p)]) (e + n)
  | [], s, e, h, hu => by
    have : s = e := h
    subst this
    exact ⟨rfl, hn, hu, rfl⟩
  | t :: r, s, e, h, hu => ⟨h.1, h.2.1, h.2.2.1, h.2.2.2.snoc hn hu⟩
theorem Stk.like {xs : Array Keyed} : ∀ {l l' : List (Nat × Nat × Nat)} {s e : Nat}, Stk κ xs s l e → l'.map (fun t => (t.1, t.2.1)) = l.map (fun t => (t.1, t.2.1)) → Stk κ xs s l' e
  | [], [], s, e, h, _ => h
  | [], _ :: _, s, e, h, he => by simp at he
  | _ :: _, [], s, e, h, he => by simp at he
  | t :: r, t' :: r', s, e, h, he => by
    rw [List.map_cons, List.map_cons] at he
    obtain ⟨e1, e2⟩ := List.cons.inj he
    have e3 : t'.1 = t.1 := (Prod.mk.inj e1).1
    have e4 : t'.2.1 = t.2.1 := (Prod.mk.inj e1).2
    refine ⟨e3.trans h.1, by rw [e4]; exact h.2.1, by rw [e4]; exact h.2.2.1, ?_⟩
    rw [e4]
    exact h.2.2.2.like e2
theorem Stk.two {xs : Array Keyed} {a b : Nat × Nat × Nat} {v : List (Nat × Nat × Nat)} : ∀ {u : List (Nat × Nat × Nat)} {s e : Nat}, Stk κ xs s (u ++ a :: b :: v) e → s ≤ a.1 ∧ b.1 = a.1 + a.2.1 ∧ b.1 + b.2.1 ≤ e ∧ 1 ≤ a.2.1 ∧ 1 ≤ b.2.1 ∧ Up κ xs a.1 (a.1 + a.2.1) ∧ Up κ xs b.1 (b.1 + b.2.1)
  | [], s, e, h => by
    obtain ⟨rfl, h1, h2, h3, h4, h5, h6⟩ := h
    have := Stk.le h6
    rw [← h3] at h5
    exact ⟨Nat.le_refl _, h3, by omega, h1, h4, h2, h5⟩
  | t :: u, s, e, h => by
    have h2 := Stk.two (u := u) h.2.2.2
    have := h.2.1
    exact ⟨by omega, h2.2⟩
theorem Stk.join {xs ys : Array Keyed} {a b : Nat × Nat × Nat} {p : Nat} {v : List (Nat × Nat × Nat)} : ∀ {u : List (Nat × Nat × Nat)} {s e : Nat}, Stk κ xs s (u ++ a :: b :: v) e → Up κ ys a.1 (a.1 + (a.2.1 + b.2.1)) → (∀ t, t < a.1 ∨ a.1 + (a.2.1 + b.2.1) ≤ t → ys[t]? = xs[t]?) →
    Stk κ ys s (u ++ (a.1, a.2.1 + b.2.1, p) :: v) e
  | [], s, e, h, hu, hk => by
    obtain ⟨rfl, h1, h2, h3, h4, h5, h6⟩ := h
    refine ⟨rfl, by dsimp only; omega, hu, ?_⟩
    dsimp only
    rw [show a.1 + (a.2.1 + b.2.1) = a.1 + a.2.1 + b.2.1 by omega]
    exact h6.keep fun k k1 k2 => hk k (.inr (by omega))
  | t :: u, s, e, h, hu, hk => by
    have h2 := Stk.two (u := u) h.2.2.2
    exact ⟨h.1, h.2.1, up_keep h.2.2.1 fun k k1 k2 => hk k (.inl (by omega)), Stk.join (u := u) h.2.2.2 hu hk⟩
end
section
variable {prog : Program} {w : World} {A : Around} {E : Value → Shared → Prop} {s : Shared} {z : Array Keyed} {κ : KeyKind}
/-- two that stand side by side are made one -/
theorem w_join {st : SortSt} {i lo : Nat} {Q : Bool → SortSt → Prop} (hO : κ.OneLt) (hz : KeysOf κ z) (hB : SB z st) (hlo : lo ≤ z.size) (hS : Stk κ (arrOf st) 0 (pendingOf st).toList lo) (hi : i + 1 < (pendingOf st).size)
    (h : ∀ st', SB z st' → Stk κ (arrOf st') 0 (pendingOf st').toList lo → (pendingOf st').size + 1 = (pendingOf st).size → (∀ t, lo ≤ t → (arrOf st')[t]? = (arrOf st)[t]?) → Q true st') : wpS (model prog w) A E s (mergeAt' i) Q st := by
  have hsp : (pendingOf st).toList = (pendingOf st).toList.take i ++ (pendingOf st)[i] :: (pendingOf st)[i + 1] :: (pendingOf st).toList.drop (i + 2) := by
    conv => lhs; rw [← List.take_append_drop i (pendingOf st).toList]
    congr 1
    rw [List.drop_eq_getElem_cons (by rw [Array.length_toList]; omega), List.drop_eq_getElem_cons (by rw [Array.length_toList]; omega)]
    simp
  have hS2 := hS
  rw [hsp] at hS2
  obtain ⟨_, g2, g3, g4, g5, g6, g7⟩ := hS2.two
  refine w_mAt (κ := κ) (i := i) (sa := (pendingOf st)[i].1) (na := (pendingOf st)[i].2.1) (pw := (pendingOf st)[i].2.2) (sb := (pendingOf st)[i + 1].1) (nb := (pendingOf st)[i + 1].2.1) (pv := (pendingOf st)[i + 1].2.2) hO hz hB (getElem?_pos _ i (by omega)) (getElem?_pos _ (i + 1) hi) g2 (by omega) g4 g5 g6 g7 fun st' b1 b2 b3 b4 => ?_
  have hj := hS2.join (p := (pendingOf st)[i].2.2) b3 b4
  have hl : (pendingOf st').toList = (pendingOf st).toList.take i ++ ((pendingOf st)[i].1, (pendingOf st)[i].2.1 + (pendingOf st)[i + 1].2.1, (pendingOf st)[i].2.2) :: (pendingOf st).toList.drop (i + 2) := by
    rw [b2, Array.eraseIdxIfInBounds_eq, dif_pos (by rw [Array.size_setIfInBounds]; omega), Array.toList_eraseIdx, Array.toList_setIfInBounds]
    apply List.ext_getElem?
    intro t
    have hlt : ((pendingOf st).toList.take i).length = i := by rw [List.length_take, Array.length_toList]; omega
    rw [List.getElem?_eraseIdx]
    by_cases t1 : t < i
    · rw [if_pos (by omega), List.getElem?_append_left (by omega), List.getElem?_take_of_lt t1, List.getElem?_set_ne (by omega)]
    · rw [List.getElem?_append_right (by omega), hlt]
      by_cases t2 : t = i
      · subst t2
        rw [if_pos (by omega), Nat.sub_self, List.getElem?_set_self (by rw [Array.length_toList]; omega)]
        rfl
      · rw [if_neg (by omega), show t - i = t - i - 1 + 1 by omega, List.getElem?_cons_succ, List.getElem?_drop, List.getElem?_set_ne (by omega)]
        congr 1
        omega
  refine h st' b1 (by rw [hl]; exact hj) ?_ fun t ht => b4 t (.inr (by omega))
  have := congrArg List.length hl
  rw [Array.length_toList, List.length_append, List.length_cons, List.length_take, List.length_drop, Array.length_toList] at this
  omega
theorem two_back (b : Bool) (n : Nat) (hn : 1 < n) : (if b = true then n - 2 - 1 else n - 2) + 1 < n := by
  cases b
  · rw [if_neg Bool.false_ne_true]; omega
  · rw [if_pos rfl]; omega
theorem mod_like (p : Array (Nat × Nat × Nat)) (i v : Nat) : ((p.modify i fun x => (x.1, x.2.1, v)).toList).map (fun t => (t.1, t.2.1)) = p.toList.map (fun t => (t.1, t.2.1)) := by
  apply List.ext_getElem?
  intro t
  rw [List.getElem?_map, List.getElem?_map, Array.getElem?_toList, Array.getElem?_toList, Array.getElem?_modify]
  split
  · cases p[t]? <;> rfl
  · rfl
theorem w_sort {st : SortSt} {Q : Unit → SortSt → Prop} (hO : κ.OneLt) (hz : KeysOf κ z) (hB : SB z st) (hp : pendingOf st = #[]) (h2 : 2 ≤ z.size)
    (h : ∀ st', SB z st' → Up κ (arrOf st') 0 z.size → Q () st') : wpS (model prog w) A E s sortRuns' Q st := by
  rw [sortRuns'_eq]
  refine wpS_bind (wpS_get ?_)
  dsimp only
  simp only [hB.sz]
  generalize minRun' z.size z.size 0 = mr
  refine wpS_bind (wpS_mono (wpS_forRange
    (I := fun x c st' => ∃ lo, c = (none, lo) ∧ SB z st' ∧ x ≤ lo ∧ lo ≤ z.size ∧ Stk κ (arrOf st') 0 (pendingOf st').toList lo)
    (Q := fun c st' => c = (none, z.size) ∧ SB z st' ∧ Stk κ (arrOf st') 0 (pendingOf st').toList z.size) ?sp ?fi ⟨0, rfl, hB, by omega, by omega, by rw [hp]; rfl⟩) ?po)
  case fi =>
    rintro c st' ⟨lo, rfl, hB', g1, g2, g3⟩
    obtain rfl : lo = z.size := by omega
    exact ⟨rfl, hB', g3⟩
  case sp =>
    rintro x c st1 _ hx ⟨lo, rfl, hB1, g1, g2, g3⟩
    dsimp only
    by_cases hge : lo ≥ z.size
    · rw [if_pos hge]
      obtain rfl : lo = z.size := by omega
      exact wpS_pure ⟨rfl, hB1, g3⟩
    rw [if_neg hge]
    refine wpS_bind (w_run hO hz (by omega) (by omega) hB1 fun m st2 hB2 hk2 hm1 hm2 hu2 => ?_)
    dsimp only
    by_cases hlt : m < mr
    case' pos =>
      rw [if_pos hlt]
      refine wpS_bind (wpS_lift (wpAny_rule ⟨rfl, ?_⟩))
      refine wpS_bind (w_ins hO hz (by omega) hm1 (by omega) hB2 hu2 fun st3 hB3 hk3 hu3 => ?_)
      simp only [Bool.not_true, Bool.false_eq_true, if_false]
      have hn1 : 1 ≤ min (z.size - lo) mr := by omega
      have hn2 : lo + min (z.size - lo) mr ≤ z.size := by omega
      have hk4 := hk2.tr hk3
      generalize min (z.size - lo) mr = n at hn1 hn2 hu3 ⊢
    case' neg =>
      rw [if_neg hlt]
      have hB3 := hB2
      have hk4 := hk2
      have hu3 := hu2
      have hn1 := hm1
      have hn2 : lo + m ≤ z.size := by omega
      obtain ⟨st3, e3⟩ : ∃ st3, st3 = st2 := ⟨_, rfl⟩
      rw [← e3] at hB3 hk4 hu3 ⊢
      generalize m = n at hn1 hn2 hu3 ⊢
    all_goals
      have hS3 : Stk κ (arrOf st3) 0 (pendingOf st3).toList lo := by
        rw [hk4.pen]
        exact g3.keep fun k _ k2 => hk4.low k k2
      refine wpS_bind (wpS_get ?_)
      cases hbk : (pendingOf st3).back? with
      | none =>
        dsimp only
        refine wpS_bind (wpS_modify (wpS_pure ⟨lo + n, rfl, ⟨hB3.prm, hB3.knd, hB3.ffl⟩, by omega, hn2, ?_⟩))
        show Stk κ (arrOf st3) 0 ((pendingOf st3).push (lo, n, 0)).toList (lo + n)
        rw [Array.toList_push]
        exact hS3.snoc hn1 hu3
      | some t =>
        obtain ⟨s1, n1, p1⟩ := t
        dsimp only
        refine wpS_bind (wpS_mono (wpS_forRange (I := fun _ c st' => c = (none, ()) ∧ SB z st' ∧ Stk κ (arrOf st') 0 (pendingOf st').toList lo ∧ Up κ (arrOf st') lo (lo + n))
          (Q := fun c st' => c = (none, ()) ∧ SB z st' ∧ Stk κ (arrOf st') 0 (pendingOf st').toList lo ∧ Up κ (arrOf st') lo (lo + n)) ?isp (fun _ _ hh => hh) ⟨rfl, hB3, hS3, hu3⟩) ?ipo)
        case isp =>
          rintro x1 c st4 _ _ ⟨rfl, hB4, hS4, hu4⟩
          refine wpS_bind (wpS_get ?_)
          by_cases hs1 : (pendingOf st4).size > 1
          · rw [if_pos hs1, getElem?_pos (pendingOf st4) ((pendingOf st4).size - 2) (by omega)]
            generalize (pendingOf st4)[(pendingOf st4).size - 2]'(by omega) = t
            obtain ⟨t1, t2, ol⟩ := t
            dsimp only
            split
            · exact wpS_pure ⟨rfl, hB4, hS4, hu4⟩
            · refine wpS_bind (w_join hO hz hB4 g2 hS4 (by omega) fun st5 b1 b2 b3 b4 => ?_)
              simp only [Bool.not_true, Bool.false_eq_true, if_false]
              exact wpS_pure ⟨rfl, b1, b2, up_keep hu4 fun k k1 _ => b4 k k1⟩
          · rw [if_neg hs1]
            exact wpS_pure ⟨rfl, hB4, hS4, hu4⟩
        case ipo =>
          rintro c st4 ⟨rfl, hB4, hS4, hu4⟩
          dsimp only
          refine wpS_bind (wpS_modify (wpS_bind (wpS_modify (wpS_pure ⟨lo + n, rfl, ⟨hB4.prm, hB4.knd, hB4.ffl⟩, by omega, hn2, ?_⟩))))
          show Stk κ (arrOf st4) 0 (((pendingOf st4).modify _ _).push (lo, n, 0)).toList (lo + n)
          rw [Array.toList_push]
          exact (hS4.like (mod_like _ _ _)).snoc hn1 hu4
  case po =>
    rintro c st1 ⟨rfl, hB1, hS1⟩
    dsimp only
    have hl1 := Stk.le hS1
    rw [Array.length_toList] at hl1
    refine wpS_bind (wpS_mono (wpS_forRange (I := fun x c st' => c = (none, ()) ∧ SB z st' ∧ Stk κ (arrOf st') 0 (pendingOf st').toList z.size ∧ (pendingOf st').size ≤ max 1 (z.size - x))
      (Q := fun c st' => c = (none, ()) ∧ SB z st' ∧ Stk κ (arrOf st') 0 (pendingOf st').toList z.size ∧ (pendingOf st').size ≤ 1) ?fsp ?ffi ⟨rfl, hB1, hS1, by omega⟩) ?fpo)
    case ffi =>
      rintro c st2 ⟨rfl, hB2, hS2, hl2⟩
      exact ⟨rfl, hB2, hS2, by omega⟩
    case fsp =>
      rintro x c st2 _ hx ⟨rfl, hB2, hS2, hl2⟩
      refine wpS_bind (wpS_get ?_)
      by_cases hs1 : (pendingOf st2).size ≤ 1
      · rw [if_pos hs1]
        exact wpS_pure ⟨rfl, hB2, hS2, hs1⟩
      rw [if_neg hs1]
      refine wpS_bind (w_join hO hz hB2 (Nat.le_refl _) hS2 ?_ fun st5 b1 b2 b3 b4 => ?_)
      · exact two_back _ _ (by omega)
      · simp only [Bool.not_true, Bool.false_eq_true, if_false]
        exact wpS_pure ⟨rfl, b1, b2, by omega⟩
    case fpo =>
      rintro c st2 ⟨rfl, hB2, hS2, hl2⟩
      dsimp only
      refine wpS_pure (h st2 hB2 ?_)
      rw [← Array.length_toList] at hl2
      cases hq : (pendingOf st2).toList with
      | nil =>
        rw [hq] at hS2
        have : 0 = z.size := hS2
        omega
      | cons t r =>
        rw [hq] at hS2 hl2
        rw [List.length_cons] at hl2
        obtain rfl : r = [] := List.length_eq_zero_iff.mp (by omega)
        obtain ⟨_, _, hu, he⟩ := hS2
        have e5 : 0 + t.2.1 = z.size := he
        rw [e5] at hu
        exact hu
end
end SR

set_option autoImplicit false
set_option linter.all false
set_option maxRecDepth 100000
set_option maxHeartbeats 200000
namespace SR
open PySem PyProof.Rows PySem.Spec
section
variable {prog : Program} {w : World} {A : Around} {E : Value → Shared → Prop} {s : Shared}
theorem two_of {α : Type} : ∀ {l : List α}, 2 ≤ l.length → ∃ a b r, l = a :: b :: r
  | [], h => by simp at h
  | [_], h => by simp at h
  | a :: b :: r, _ => ⟨a, b, r, rfl⟩
theorem sort_big {κ : KeyKind} (hO : κ.OneLt) {l : Addr} {vs : List Value} {n : Nat} {P : Fin → Shared → Prop} (ob : s.heap.get? l = some (seqObj "list" vs.toArray n)) (hks : KeysOf κ (pairsOf vs)) (hkk : keyKind' vs.toArray = pure oneType') (h2 : 2 ≤ vs.length) (hmx : vs.length ≤ sizeLine)
    (h : ∀ st' : SortSt, (arrOf st').Perm (pairsOf vs) → SortedToK κ (arrOf st') (pairsOf vs).size → P (.done (.ret .none)) { s with heap := sortedHeap s.heap l vs ((arrOf st').map (·.2)) }) :
    wpAny (model prog w) A (Builtin.«list.sort» ⟨[.ref l], []⟩) P E s := by
  rw [list_sort_plain]
  have hlt : l < s.heap.objs.size := Heap.lt_size ob
  have hsz : vs.toArray.size = vs.length := by simp
  refine wpAny_bind (listItems_at ob rfl (wpAny_bind (listUpdate_at ob rfl ?_ (hsz := by rw [hsz]; exact hmx))))
  obtain ⟨ep, ob1⟩ : ∃ ep, (s.heap.update l (Obj.mapSeq fun _ => #[])).get? l = some (seqObj "list" #[] ep) := ⟨_, get?_update_seq ob (fun _ => #[])⟩
  refine wpAny_bind (seqEpoch_at ob1 rfl (wpAny_bind (wpAny_newTuple (wpAny_bind (wpAny_newList (wpAny_holding ?_))))))
  have ob2 : (((s.heap.update l (Obj.mapSeq fun _ => #[])).push (seqObj "tuple" vs.toArray 0)).push (seqObj "list" #[] 0)).get? l = some (seqObj "list" #[] ep) := by
    have n1 : l ≠ (s.heap.update l (Obj.mapSeq fun _ => #[])).objs.size := by rw [Heap.size_update]; exact Nat.ne_of_lt hlt
    have n2 : l ≠ ((s.heap.update l (Obj.mapSeq fun _ => #[])).push (seqObj "tuple" vs.toArray 0)).objs.size := by rw [size_push', Heap.size_update]; exact Nat.ne_of_lt (Nat.lt_succ_of_lt hlt)
    rw [Heap.get?_push_ne _ _ _ n2, Heap.get?_push_ne _ _ _ n1]
    exact ob1
  show wpAny (model prog w) A _ P E { s with heap := ((s.heap.update l (Obj.mapSeq fun _ => #[])).push (seqObj "tuple" vs.toArray 0)).push (seqObj "list" #[] 0) }
  dsimp only
  have hnb : ¬ vs.toArray.size < 2 := by omega
  rw [if_neg hnb, if_neg hnb, hkk]
  refine wpAny_bind (wpAny_pure (wpAny_bind (wpAny_mono (w_sort (κ := κ) hO (z := pairsOf vs) (st := SortSt.mk' oneType' (vs.toArray.zip vs.toArray) #[] 7 none)
    (Q := fun _ st' => SB (pairsOf vs) st' ∧ Up κ (arrOf st') 0 (pairsOf vs).size) hks ⟨Array.Perm.refl _, rfl, rfl⟩ rfl (by rw [pairsOf_size]; exact h2) fun st' a1 a2 => ⟨a1, a2⟩) ?_ fun _ _ e => e)))
  rintro ⟨⟨⟩, st'⟩ s' ⟨rfl, hB, hu⟩
  dsimp only
  have hpm := hB.prm
  refine wpAny_bind (seqEpoch_at ob2 rfl (wpAny_bind (listUpdate_at ob2 rfl ?_ (hsz2 := ?_))))
  · rw [hB.ffl]
    simp only [bne_self_eq_false, Bool.false_eq_true, if_false]
    exact wpAny_pure (h st' hpm fun i j hij hj => hu i j (Nat.zero_le _) hij hj)
  · refine Nat.le_trans (Nat.le_of_eq ((Array.size_map ..).trans (hpm.size_eq.trans (pairsOf_size _)))) ?_
    rw [sizeLine_eq] at hmx ⊢
    omega
theorem sorted_big {l : Addr} {vs : List Value} {ss : List Str} {Q : Value → Shared → Prop} (hl : s.heap.IsList l vs.toArray) (hS : StrsAre vs ss) (h2 : 2 ≤ vs.length) (hmx : vs.length ≤ sizeLine)
    (h : ∀ (out : Array Value) (ss' : List Str), StrsAre out.toList ss' → ss'.Perm ss → sortedS ss' = true → Q (.ref (s.heap.objs.size + 1)) { s with heap := sortedAll s.heap vs out }) :
    wpAny (model prog w) A (call (.builtin "sorted") [.ref l]) Q E s := by
  have hkk : keyKind' vs.toArray = pure oneType' := by
    obtain ⟨v1, v2, r, e⟩ := two_of h2
    have hS2 := hS
    rw [e] at hS2 ⊢
    exact keyKind_strs hS2
  refine Calls.call_function_entry kind_sorted plain_sorted entry_sorted (args_sorted1 _) ?_
  unfold Builtin.«sorted»
  refine wpAny_bind (m := checkCount "sorted" 1 1 _) (wpAny_pure (wpAny_bind (collect_list hl (wpAny_bind (wpAny_newList ?_)) (hsz := by simpa using hmx))))
  have e1 : ((s.heap.push (seqObj "list" #[] 0)).update s.heap.objs.size (Obj.mapSeq (· ++ vs.toArray))).objs.size = s.heap.objs.size + 1 := by
    rw [Heap.size_update, size_push']
  have e2 : (((s.heap.push (seqObj "list" #[] 0)).update s.heap.objs.size (Obj.mapSeq (· ++ vs.toArray))).push (seqObj "list" vs.toArray 0)).get? (s.heap.objs.size + 1) = some (seqObj "list" vs.toArray 0) := by
    conv => lhs; rw [← e1]
    exact Heap.get?_push_size _ rfl
  show wpAny _ _ _ _ _ { s with heap := ((s.heap.push (seqObj "list" #[] 0)).update s.heap.objs.size (Obj.mapSeq (· ++ vs.toArray))).push (seqObj "list" vs.toArray 0) }
  rw [e1]
  refine wpAny_bind (wpAny_holding (wpAny_call_entry slot_list_sort ⟨_, e2, rfl⟩ entry_list_sort (sort_big strKind_oneLt e2 hS.keysOf hkk h2 hmx fun st' a1 a2 => ⟨_, rfl, wpAny_pure ⟨_, rfl, ?_⟩⟩) (args_list_sort _)))
  obtain ⟨ss', h1, h2, h3⟩ := sorted_out_str hS a1 a2
  exact h _ ss' h1 h2 h3
end
end SR

set_option Elab.async false
set_option linter.all false
set_option maxRecDepth 100000
/-! sorted(texts), however many -/
namespace L2
open PySem PyProof.Rows PySem.Spec
section
variable {X : Cx}
theorem call_sortedA : CallR X (.builtin "sorted") (fun xs H Q => ∃ (p : Addr) (ls : List (List Nat)), xs = [.ref p] ∧ SqL X.K H p (ls.map T) ∧ ∀ (ms : List (List Nat)) (D : Addr), H D = none → ms.Perm ls → ms.Pairwise (fun a b => ¬ b < a) → Q (.ref D) (upd H D (.lst (ms.map T)))) := by
  intro pins s σ H xs us Q I r h
  obtain ⟨p, ls, rfl, hq, q⟩ := h
  obtain ⟨u, rfl, ru⟩ := vals1 r
  cases ru
  obtain ⟨its, rv, pl, hz⟩ := I.list hq
  have hlen := rv.length
  rw [List.length_map] at hlen hz
  have key : ∀ (out : Array Value) (ss' : List Str), StrsAre out.toList ss' → ss'.Perm (ls.map tx) → sortedS ss' = true → EP X pins σ Q (.ref (s.heap.objs.size + 1)) { s with heap := sortedAll s.heap its out } := fun out ss' a1 a2 a3 => by
    obtain ⟨e, he⟩ := sortedAll_at s.heap its out
    have em : (ss'.map fun x => x.cps.toList).map tx = ss' := by
      rw [List.map_map]
      conv => rhs; rw [← List.map_id ss']
      exact List.map_congr_left fun x _ => tx_eta x
    have hp : (ss'.map fun x => x.cps.toList).Perm ls := by
      have y := a2.map fun x => x.cps.toList
      rw [List.map_map, show (fun x => x.cps.toList) ∘ tx = id from funext tx_cps, List.map_id] at y
      exact y
    refine ⟨.ref _, _, I.laid (t' := s.toks) (fun _ _ => sortedAll_old) (Nat.le_succ _) (o := .lst ((ss'.map fun x => x.cps.toList).map T)) ⟨?_, out.toList, e, strs_back a1, by simpa using he⟩, rfl, q _ _ (I.hok.fresh (Nat.le_succ _)) hp (sorted_pw _ (by rw [em]; exact a3))⟩
    rw [List.length_map, hp.length_eq]
    exact hz
  by_cases h64 : its.length < 64
  · exact sorted_strs pl.isList (strsAre_T rv) h64 key
  · exact SR.sorted_big pl.isList (strsAre_T rv) (by omega) (by rw [← hlen]; exact hz) key
end
end L2

set_option Elab.async false
set_option linter.all false
set_option maxRecDepth 100000
/-! xs.count(x), xs.index(x) of flat items -/
namespace L2
open PySem PyProof.Rows PySem.Spec
section
variable {X : Cx}
end
end L2

namespace L2
open PySem PyProof.Rows PySem.Spec
section
variable {X : Cx}
end
end L2

set_option Elab.async false
set_option linter.all false
set_option maxRecDepth 100000
set_option maxHeartbeats 400000
/-! ''.join(reversed(text)) -/
namespace L2
open PySem PySem.Spec PyProof.Rows
namespace RT
theorem slot_next : Slot "reversed" "__next__" "reversed.__next__" :=
  .of (owner := "reversed") (n := "__next__") (by rw [typeLookup_type, builtinLookup_eq_fast]; kernel_rfl) (by decide +kernel) (by decide +kernel) (by decide +kernel) (by first | exact .inl (by decide +kernel) | exact .inr (by decide +kernel)) (by rw [isSubtype_type]; kernel_rfl)
theorem entry_next : entryFor table "reversed.__next__" = some Builtin.«reversed.__next__» := entryFor_of_tree (by kernel_rfl)
theorem args_next (a : Value) : argsOk "reversed.__next__" ⟨[a], []⟩ := by unfold argsOk; kernel_rfl
theorem slot_iter : Slot "reversed" "__iter__" "reversed.__iter__" :=
  .of (owner := "reversed") (n := "__iter__") (by rw [typeLookup_type, builtinLookup_eq_fast]; kernel_rfl) (by decide +kernel) (by decide +kernel) (by decide +kernel) (by first | exact .inl (by decide +kernel) | exact .inr (by decide +kernel)) (by rw [isSubtype_type]; kernel_rfl)
theorem args_iter (a : Value) : argsOk "reversed.__iter__" ⟨[a], []⟩ := by unfold argsOk; kernel_rfl
theorem entry_iter : entryFor table "reversed.__iter__" = some Builtin.«dict_keyiterator.__iter__» :=
  entryFor_alias (id' := "dict_keyiterator.__iter__") (by kernel_rfl) (by first | rfl | decide +kernel | (unfold String.splitOn; simp +decide [String.splitOnAux])) (by decide +kernel) (by kernel_rfl)
theorem slot_hint : Slot "reversed" "__length_hint__" "reversed.__length_hint__" :=
  .of (owner := "reversed") (n := "__length_hint__") (by rw [typeLookup_type, builtinLookup_eq_fast]; kernel_rfl) (by decide +kernel) (by decide +kernel) (by decide +kernel) (by first | exact .inl (by decide +kernel) | exact .inr (by decide +kernel)) (by rw [isSubtype_type]; kernel_rfl)
theorem entry_hint : entryFor table "reversed.__length_hint__" = some Builtin.«reversed.__length_hint__» := entryFor_of_tree (by kernel_rfl)
theorem args_hint (a : Value) : argsOk "reversed.__length_hint__" ⟨[a], []⟩ := by unfold argsOk; kernel_rfl
theorem no_len : typeLookup (.type "reversed") "__len__" = pure none := by rw [typeLookup_type, builtinLookup_eq_fast]; kernel_rfl
theorem the_hint : typeLookup (.type "reversed") "__length_hint__" = pure (some (.builtin "reversed.__length_hint__")) := by rw [typeLookup_type, builtinLookup_eq_fast]; kernel_rfl
theorem str_norev : typeLookup (.type "str") "__reversed__" = pure none := by rw [typeLookup_type, builtinLookup_eq_fast]; kernel_rfl
def obj (x : Str) (t : Tok) (i : Int) : Obj := { cls := .type "reversed", data := .fields #[.str x t, rawInt i] }
def Is (h : Heap) (a : Addr) (x : Str) (t : Tok) (i : Int) : Prop := ∃ o, h.get? a = some o ∧ o.cls = .type "reversed" ∧ o.data = .fields #[.str x t, rawInt i]
section
variable {prog : Program} {w : World} {A : Around} {E : Value → Shared → Prop} {s : Shared}
theorem Is.ty {a : Addr} {x : Str} {t : Tok} {i : Int} (h : Is s.heap a x t i) : s.TypeIs (.ref a) "reversed" := let ⟨o, ho, hc, _⟩ := h; ⟨o, ho, hc⟩
theorem Is.at {h h' : Heap} {a : Addr} {x : Str} {t : Tok} {i : Int} (y : Is h a x t i) (e : ∀ o, h.get? a = some o → h'.get? a = some o) : Is h' a x t i := let ⟨o, ho, r⟩ := y; ⟨o, e _ ho, r⟩
theorem made {x : Str} {t : Tok} {Q : Value → Shared → Prop} (hz : x.length ≤ sizeLine) (h : ∀ tk, Q (.ref s.heap.objs.size) { s with heap := s.heap.push (obj x t ((x.length : Int) - 1)), toks := tk }) :
    codeAny (model prog w) A (.call (.builtin "reversed.__new__") ⟨[.type "reversed", .str x t], []⟩) (wants Q E) s := by
  refine codeAny_of_tree ?_
  show wpAny _ A.in1 (do checkBuiltinCall "reversed.__new__" ⟨[.type "reversed", .str x t], []⟩; again (.builtin "reversed.__new__" ⟨[.type "reversed", .str x t], []⟩)) _ _ s
  refine wpAny_bind (wpAny_of_eq (F.newCall_reversed_1 _) (wpAny_pure ⟨plainId_quiet F.plain_reversed_new _, codeAny_builtin F.entry_reversed_new ?_⟩))
  rw [Around.under_plainId F.plain_reversed_new _]
  unfold Builtin.«reversed.__new__»
  refine wpAny_bind (wpAny_of_eq (newClass_reversed _) ?_)
  try dsimp only
  refine wpAny_bind (wpAny_of_eq (a := ()) (by first | rfl | kernel_rfl) (wpAny_bind (wpAny_of_eq (a := ()) (by first | rfl | kernel_rfl) ?_)))
  try dsimp only
  refine wpAny_bind (wpAny_specialOf (typeIs_str s x t) str_norev ?_)
  try dsimp only
  refine wpAny_bind ?_
  wp_delta
  refine wpAny_bind (wpAny_isInstance (T := "str") (b := false) (typeIs_str s x t) (by rw [isSubtype_type]; kernel_rfl) ?_)
  simp only [Bool.false_eq_true, if_false]
  refine wpAny_bind (wpAny_specialOf (typeIs_str s x t) slot_str_getitem.lookup ?_)
  dsimp only
  rw [if_pos (by decide +kernel)]
  refine wpAny_pure ?_
  simp only [Bool.not_true, Bool.false_eq_true, if_false]
  have hn := line63
  refine wpAny_bind (len_str (by omega) (wpAny_bind (wpAny_of_eq (a := some ((x.length : Nat) : Int)) rfl ?_)))
  dsimp only
  refine wpAny_bind (m := Builtin.SmallTypes.newRecord (Value.type "reversed") [Value.str x t, rawInt ((x.length : Int) - 1)]) ?_
  show wpAny _ _ (newObj (Value.type "reversed") (.fields [Value.str x t, rawInt ((x.length : Int) - 1)].toArray)) _ _ _
  exact wpAny_newObj_type (wpAny_pure (h _)) (by size_fits)
theorem slot_init : Slot "reversed" "__init__" "object.__init__" :=
  .of (owner := "object") (n := "__init__") (by rw [typeLookup_type, builtinLookup_eq_fast]; kernel_rfl) (by decide +kernel) (by decide +kernel) (by decide +kernel) (by first | exact .inl (by decide +kernel) | exact .inr (by decide +kernel)) (by rw [isSubtype_type]; kernel_rfl)
theorem called : TypeCalled "reversed" "reversed.__new__" "object.__init__" :=
  ⟨by decide +kernel, by decide +kernel, ⟨_, _, F.mro_reversed⟩, F.made_reversed, by decide +kernel, F.sub_reversed_self, slot_init⟩
theorem call_rev {x : Str} {t : Tok} {Q : Value → Shared → Prop} (hz : x.length ≤ sizeLine) (h : ∀ tk, Q (.ref s.heap.objs.size) { s with heap := s.heap.push (obj x t ((x.length : Int) - 1)), toks := tk }) :
    wpAny (model prog w) A (call (.type "reversed") [.str x t]) Q E s := by
  refine callType_codes (Q₁ := fun o s₁ => s₁.TypeIs o "reversed" ∧ Q o s₁) called (F.typeCall_reversed_1 _) F.entry_object_init (made hz fun tk => ⟨⟨_, Heap.get?_push_size _ rfl, rfl⟩, h tk⟩) ?_
  rintro o s₁ h₁
  exact ⟨h₁.1, F.args_object_init_2 o _, object_init_meets called.init.lookup called.made (by decide) prog w A.in1 _ s₁ ⟨h₁.1, rfl, h₁.2⟩⟩
theorem next_item {a : Addr} {x : Str} {t : Tok} {i c : Nat} {Q : Option Value → Shared → Prop} (hz : x.length ≤ sizeLine) (hi : Is s.heap a x t (i : Int)) (hc : x.cps[i]? = some c)
    (hQ : ∀ h' tk t', Is h' a x t ((i : Int) - 1) → Heap.SameBut a s.heap h' → Q (some (.str ⟨#[c]⟩ t')) { s with heap := h', toks := tk }) : wpAny (model prog w) A (pyNext (.ref a)) Q E s := by
  obtain ⟨o, ho, hcl, hd⟩ := id hi
  have hlt : i < x.length := by
    rcases Nat.lt_or_ge i x.cps.size with z | z
    · exact z
    · rw [Array.getElem?_eq_none z] at hc; exact absurd hc (by simp)
  have hs : sizeLine = 16777216 := sizeLine_eq
  unfold pyNext
  refine wpAny_bind (wpAny_attempt (wpAny_callSpecial?_slot (name := Str.ofString "__next__") hi.ty slot_next (wpAny_call_entry slot_next hi.ty entry_next ?_ (args_next _))))
  unfold Builtin.«reversed.__next__»
  refine wpAny_bind (wpAny_of_eq (a := (Value.ref a, [])) rfl ?_)
  try dsimp only
  refine wpAny_bind (wpAny_field ho hd (x := .str x t) rfl (wpAny_bind (wpAny_field ho hd (x := rawInt (i : Int)) rfl ?_)))
  show wpAny _ _ (if (i : Int) < 0 then _ else _) _ _ s
  rw [if_neg (by omega)]
  refine wpAny_bind (wpAny_specialOf (typeIs_str s x t) slot_str_getitem.lookup ?_)
  rw [if_neg (by decide)]
  refine wpAny_bind (wpAny_mkInt (wpAny_bind (wpAny_attempt (getItem_str (c := c) ?_ ?_ ?_))))
  · have e1 : decide ((i : Int) < -(2 ^ 63 : Int)) = false := decide_eq_false (by omega)
    have e2 : decide ((i : Int) ≥ 2 ^ 63) = false := decide_eq_false (by omega)
    rw [e1, e2]; rfl
  · rw [show seqIndex? (i : Int) x.length = some i from by
      unfold seqIndex?
      simp only [show ¬ ((i : Int) < 0) from by omega, if_false]
      first | (rw [if_pos (by constructor <;> omega)]; simp) | (simp; omega)]
    exact hc
  dsimp only
  refine wpAny_bind (wpAny_field ho hd (x := rawInt (i : Int)) rfl ?_)
  show wpAny _ _ (setField (.ref a) 1 (rawInt ((i : Int) - 1)) >>= _) _ _ _
  refine wpAny_bind (wpAny_setField ho hd (by simp) ?_)
  refine wpAny_pure ⟨_, rfl, wpAny_pure (hQ _ _ _ ?_ (Heap.SameBut.update ..))⟩
  exact ⟨_, Heap.get?_update_self _ ho (Obj.isFreed_of_fields (Obj.data_mapFields hd _)), (Obj.cls_mapFields ..).trans hcl, by rw [Obj.data_mapFields hd]; simp⟩
theorem next_end {a : Addr} {x : Str} {t : Tok} {Q : Option Value → Shared → Prop} (hh : A.handled = none) (hi : Is s.heap a x t (-1)) (hQ : ∀ h', Heap.ExtBut a s.heap h' → Q none { s with heap := h' }) :
    wpAny (model prog w) A (pyNext (.ref a)) Q E s := by
  obtain ⟨o, ho, hcl, hd⟩ := id hi
  unfold pyNext
  refine wpAny_bind (wpAny_attempt (wpAny_callSpecial?_slot (name := Str.ofString "__next__") hi.ty slot_next (wpAny_call_entry slot_next hi.ty entry_next ?_ (args_next _))))
  unfold Builtin.«reversed.__next__»
  refine wpAny_bind (wpAny_of_eq (a := (Value.ref a, [])) rfl ?_)
  try dsimp only
  refine wpAny_bind (wpAny_field ho hd (x := .str x t) rfl (wpAny_bind (wpAny_field ho hd (x := rawInt (-1)) rfl ?_)))
  show wpAny _ _ (if (-1 : Int) < 0 then _ else _) _ _ s
  rw [if_pos (by decide)]
  refine wpAny_bind (wpAny_rule ?_)
  refine wpAny_bind (m := ((do setField (.ref a) 1 (rawInt (-1)); setField (.ref a) 0 .none) : Sem Unit)) (wpAny_bind (wpAny_setField ho hd (by simp) ?_))
  have h2 := Heap.get?_update_self (Obj.mapFields (·.setIfInBounds 1 (rawInt (-1)))) ho (Obj.isFreed_of_fields (Obj.data_mapFields hd _))
  refine wpAny_setField h2 (Obj.data_mapFields hd _) (by simp) ?_
  refine wpAny_bind ?_
  show wpAny _ _ (newExc (.type "StopIteration") [] >>= _) _ _ _
  refine wpAny_bind ?_
  simp only [newExc, newTuple]
  refine wpAny_bind (wpAny_newObj_type ?_ (by size_fits))
  refine wpAny_bind (m := firstArgMember _ _) (wpAny_of_eq (a := Value.none) (by first | rfl | (simp only [firstArgMember]; rfl)) ?_)
  refine wpAny_newObj_type ?_ (by size_fits)
  simp only [raiseNew]
  refine wpAny_bind (wpAny_handled ?_)
  first | rw [show A.in1.handled = none from hh] | rw [hh]
  refine wpAny_bind (wpAny_pure (wpAny_throw ?_))
  refine wpAny_bind (wpAny_isInstance (T := "StopIteration") (b := true) ⟨_, Heap.get?_push_size _ rfl, rfl⟩ isSubtype_stop ?_)
  refine wpAny_pure (hQ _ fun b ob hb eb => ?_)
  refine Heap.get?_push_of_some _ (Heap.get?_push_of_some _ ?_)
  exact (Heap.get?_update_other _ _ (Ne.symm hb)).trans ((Heap.get?_update_other _ _ (Ne.symm hb)).trans eb)
theorem iter_self {a : Addr} {x : Str} {t : Tok} {i : Int} {Q : Value → Shared → Prop} (hi : Is s.heap a x t i) (h : Q (.ref a) s) : wpAny (model prog w) A (pyIter (.ref a)) Q E s := by
  refine wpAny_pyIter_slot hi.ty slot_iter (wpAny_call_entry slot_iter hi.ty entry_iter ?_ (args_iter _))
  show wpAny _ _ (ret (.ref a)) _ _ s
  exact wpAny_pure ⟨_, rfl, "reversed", _, hi.ty, slot_next.lookup, h⟩
end
theorem walk {prog : Program} {w : World} {A : Around} (hh : A.handled = none) (I : Addr) (x : Str) (t : Tok) (hz : x.length ≤ sizeLine) :
    Walks prog w A I [I] [I] x.length (fun i v => ∃ c t', x.cps[x.length - 1 - i]? = some c ∧ v = .str ⟨#[c]⟩ t') (fun i h => i ≤ x.length ∧ Is h I x t ((x.length : Int) - 1 - (i : Int))) where
  sub := fun b hb => by simp at hb; simp [hb]
  frame := fun _ _ _ y hk => ⟨y.1, y.2.at fun o e => hk I (by simp) o e⟩
  item := fun i s Q E hi y hQ => by
    have e : (x.length : Int) - 1 - (i : Int) = ((x.length - 1 - i : Nat) : Int) := by omega
    have hit := y.2
    rw [e] at hit
    have hlt : x.length - 1 - i < x.cps.size := by show x.length - 1 - i < x.length; omega
    have hx : x.cps[x.length - 1 - i]? = some (x.cps[x.length - 1 - i]'hlt) := Array.getElem?_eq_getElem hlt
    refine next_item hz hit hx fun h' tk t' hit' hs' => ?_
    have e2 : ((x.length - 1 - i : Nat) : Int) - 1 = (x.length : Int) - 1 - ((i + 1 : Nat) : Int) := by omega
    rw [e2] at hit'
    exact hQ _ h' tk ⟨_, t', hx, rfl⟩ ⟨hi, hit'⟩ fun b o hb eo => hs'.extBut b o (fun h => hb (by simp [h])) eo
  done := fun s Q E y hQ => by
    have e : (x.length : Int) - 1 - (x.length : Int) = -1 := by omega
    have hit := y.2
    rw [e] at hit
    exact next_end hh hit fun h' he' => hQ h' s.toks fun b o hb eo => he' b o (fun h => hb (by simp [h])) eo
  self := fun _ _ _ _ y hQ => iter_self y.2 hQ
section
variable {prog : Program} {w : World} {A : Around} {E : Value → Shared → Prop} {s : Shared}
theorem hint {it : Addr} {x : Str} {t : Tok} {Q : Bool → Shared → Prop} (hz : x.length ≤ sizeLine) (hit : Is s.heap it x t ((x.length : Int) - 1)) (h : ∀ b tk, Q b { s with toks := tk }) : wpAny (model prog w) A (Builtin.List.listLengthHint (.ref it)) Q E s := by
  unfold Builtin.List.listLengthHint
  refine wpAny_bind (wpAny_specialOf hit.ty no_len ?_)
  show wpAny _ A (specialOf (Value.ref it) (Str.ofString "__length_hint__") >>= _) _ _ _
  refine wpAny_bind (wpAny_specialOf hit.ty the_hint ?_)
  generalize hid : ("reversed.__length_hint__" : String) = id0
  wp_delta
  rw [show splitId id0 = some ("reversed", "__length_hint__") from by subst hid; decide +kernel]
  subst hid
  refine wpAny_bind (wpAny_isInstance (T := "reversed") (b := true) hit.ty (by rw [isSubtype_type]; kernel_rfl) ?_)
  refine wpAny_ite_split (fun hab => absurd hab (by decide)) (fun _ => ?_)
  refine wpAny_ite_split (fun hab => absurd hab (by decide +kernel)) (fun _ => ?_)
  refine wpAny_bind (wpAny_rule ?_)
  refine wpAny_bind (wpAny_of_eq (slot_hint.bind _) ?_)
  dsimp only
  refine wpAny_bind (wpAny_attempt (wpAny_call_entry slot_hint hit.ty entry_hint ?_ (args_hint _)))
  unfold Builtin.«reversed.__length_hint__»
  refine wpAny_bind (wpAny_of_eq (a := Value.ref it) rfl ?_)
  obtain ⟨o, ho, hcl, hd⟩ := id hit
  refine wpAny_bind (wpAny_field ho hd (x := .str x t) rfl ?_)
  rw [if_neg (show ¬ ((Value.str x t == Value.none) = true) from Bool.false_ne_true)]
  have hs : sizeLine = 16777216 := sizeLine_eq
  refine wpAny_bind (len_str (by omega) (wpAny_bind (wpAny_of_eq (a := some ((x.length : Nat) : Int)) rfl ?_)))
  dsimp only
  refine wpAny_bind (wpAny_field ho hd (x := rawInt ((x.length : Int) - 1)) rfl ?_)
  show wpAny _ _ (if ((x.length : Nat) : Int) < (x.length : Int) - 1 + 1 then _ else _) _ _ _
  rw [if_neg (by omega)]
  refine wpAny_bind (wpAny_mkInt (wpAny_pure ⟨_, rfl, ?_⟩))
  show wpAny _ _ (asInt? (.int ((x.length : Int) - 1 + 1) _) >>= _) _ _ _
  refine wpAny_bind (wpAny_of_eq (a := some ((x.length : Int) - 1 + 1)) rfl ?_)
  have e1 : (!Builtin.List.listFitsIndex ((x.length : Int) - 1 + 1)) = false := by
    unfold Builtin.List.listFitsIndex
    have a1 : decide (-(2 ^ 63 : Int) ≤ (x.length : Int) - 1 + 1) = true := decide_eq_true (by omega)
    have a2 : decide ((x.length : Int) - 1 + 1 < 2 ^ 63) = true := decide_eq_true (by omega)
    rw [a1, a2]; rfl
  have e2 : Builtin.List.listTooLong ((x.length : Int) - 1 + 1).toNat = false := by
    unfold Builtin.List.listTooLong
    exact decide_eq_false (by omega)
  dsimp only
  rw [e1, e2, if_neg Bool.false_ne_true, if_neg (by omega), if_neg Bool.false_ne_true]
  exact wpAny_pure (h _ _)
theorem strs_of : ∀ {vs : List Value} {ss : List Str}, vs.length = ss.length → (∀ (i : Nat) (v : Value), vs[i]? = some v → ∃ (y : Str) (t' : Tok), ss[i]? = some y ∧ v = Value.str y t') → StrsAre vs ss
  | [], [], _, _ => .nil
  | [], _ :: _, e, _ => by simp at e
  | _ :: _, [], e, _ => by simp at e
  | v :: vs, y :: ss, e, h => by
    obtain ⟨y', t', e1, rfl⟩ := h 0 v rfl
    cases e1
    exact .cons _ _ (strs_of (by simpa using e) fun i u hu => h (i + 1) u (by simpa using hu))
theorem strs_rev {x : Str} {acc : Array Value} (h : ItemsOf (fun i v => ∃ c t', x.cps[x.length - 1 - i]? = some c ∧ v = Value.str { cps := #[c] } t') acc x.length) : StrsAre acc.toList (x.cps.toList.reverse.map fun c => ⟨#[c]⟩) := by
  have hx : x.cps.toList.length = x.length := by simp [Str.length]
  refine strs_of (by simp [h.1, Str.length]) fun i v hv => ?_
  have hi : i < x.length := by
    rw [← h.1]
    rcases Nat.lt_or_ge i acc.size with z | z
    · exact z
    · rw [List.getElem?_eq_none (by simpa using z)] at hv
      cases hv
  obtain ⟨c, t', e1, e2⟩ := h.2 i v (by simpa using hv)
  refine ⟨⟨#[c]⟩, t', ?_, e2⟩
  rw [List.getElem?_map, List.getElem?_reverse (by omega), hx, Array.getElem?_toList, e1]
  rfl
theorem extend_rev {R : Result → Shared → Prop} (hh : A.handled = none) {it : Addr} {x : Str} {t : Tok} (hz : x.length ≤ sizeLine) (hit : Is s.heap it x t ((x.length : Int) - 1)) (S : Addr) (res : Value)
    (h1 : S ≠ it) (hS : s.heap.get? S = some { cls := .type "list", data := .seq #[] })
    (hR : ∀ h' tk acc' c', (∀ b o, b ≠ S → b ≠ it → s.heap.get? b = some o → h'.get? b = some o) → h'.get? S = some { cls := .type "list", dict := none, data := .seq acc' c', slots := #[] } →
      StrsAre acc'.toList (x.cps.toList.reverse.map fun c => ⟨#[c]⟩) → R (.ok (.ret res)) { s with heap := h', toks := tk }) :
    wpAny (model prog w) A.in1 (Builtin.List.listExtendWith (.ref S) (.ref it) res)
      (fun fin s' => match fin with | .done f => R (.ok f) s' | .again c' => c'.quiet = true ∧ codeAny (model prog w) A c' R s') (fun e s' => R (.error e) s') s := by
  have W := (walk (prog := prog) (w := w) (A := A.in1) hh it x t hz).toS
  unfold Builtin.List.listExtendWith
  refine wpAny_bind (wpAny_typeOf hit.ty ?_)
  have g1 : Builtin.List.listSameRef (.ref S) (.ref it) = false := by simp [Builtin.List.listSameRef, h1]
  have g2 : (Value.type "reversed" == Value.type "list") = false := by decide
  have g3 : (Value.type "reversed" == Value.type "tuple") = false := by decide
  simp only [g1, g2, g3, Bool.or_false, Bool.false_eq_true, if_false]
  refine wpAny_bind (iter_self hit ?_)
  refine wpAny_bind (wpAny_holding (hint hz hit fun b tk0 => ?_))
  have last : ∀ (h0 : Heap) (c0 : Nat) (tk1 : Tok), (∀ b o, b ≠ S → s.heap.get? b = some o → h0.get? b = some o) → h0.get? S = some { cls := .type "list", data := .seq #[] c0 } →
      wpAny (model prog w) A.in1 (again (.builtin "list.extend.loop" ⟨[.ref S, .ref it, res], []⟩))
        (fun fin s' => match fin with | .done f => R (.ok f) s' | .again c' => c'.quiet = true ∧ codeAny (model prog w) A c' R s') (fun e s' => R (.error e) s') { s with heap := h0, toks := tk1 } := fun h0 c0 tk1 hk0 hS0 => by
    have e0 : (x.length : Int) - 1 - ((0 : Nat) : Int) = (x.length : Int) - 1 := by omega
    refine wpAny_pure ⟨plainId_quiet F.plain_extend_loop _, codeAny_extend_loopS W hz S (by simp [h1]) res x.length 0 _ #[] c0 rfl (Nat.zero_le _) ⟨Nat.zero_le _, by rw [e0]; exact hit.at fun o e => hk0 _ _ (Ne.symm h1) e⟩ hS0 (ItemsOf.nil _) fun s' acc' c' hm hS' hacc => ?_⟩
    rw [Moved.eq_with hm]
    refine hR s'.heap s'.toks acc' c' (fun b o hb hb2 e => hm.heap b o (by simp [hb, hb2]) (hk0 b o hb e)) hS' ?_
    exact strs_rev hacc
  refine wpAny_ite_split (fun _ => ?_) (fun _ => last s.heap 0 tk0 (fun _ _ _ e => e) hS)
  refine wpAny_bind (wpAny_rule ?_)
  refine wpAny_bind (m := ((do updateSeq S (fun z => z.push .none); updateSeq S (fun z => z.pop)) : Sem Unit)) (wpAny_bind (wpAny_updateSeq hS rfl ?_))
  have k1 := Heap.get?_update_self (Obj.mapSeq (fun z => z.push .none)) hS rfl
  refine wpAny_updateSeq k1 rfl ?_
  have k2 := Heap.get?_update_self (Obj.mapSeq (fun z => z.pop)) k1 rfl
  exact last _ _ tk0 (fun b o hb e => (Heap.get?_update_other _ _ (Ne.symm hb)).trans ((Heap.get?_update_other _ _ (Ne.symm hb)).trans e)) k2
theorem collect_rev {Q : List Value → Shared → Prop} (hh : A.handled = none) {it : Addr} {x : Str} {t : Tok} (hz : x.length ≤ sizeLine) (hit : Is s.heap it x t ((x.length : Int) - 1))
    (hQ : ∀ h' tk vs, (∀ b o, b ≠ it → s.heap.get? b = some o → h'.get? b = some o) → StrsAre vs (x.cps.toList.reverse.map fun c => ⟨#[c]⟩) → Q vs { s with heap := h', toks := tk }) :
    wpAny (model prog w) A (collect (.ref it)) Q E s := by
  obtain ⟨oi, hoi, ri⟩ := id hit
  unfold collect
  refine wpAny_bind (wpAny_runValue (codeAny_builtin F.entry_proto_collect ?_))
  rw [Around.under_plainId F.plain_proto_collect]
  refine wpAny_bind (m := newList []) (wpAny_newObj_type (wpAny_pure ⟨plainId_quiet F.plain_list_iadd _, codeAny_builtin F.entry_list_iadd ?_⟩))
  rw [Around.under_plainId F.plain_list_iadd]
  have hS : (s.heap.push { cls := .type "list", data := .seq #[] }).get? s.heap.objs.size = some { cls := .type "list", data := .seq #[] } := Heap.get?_push_size _ rfl
  have go : ∀ R : Result → Shared → Prop, (∀ h' tk acc c, (∀ b o, b ≠ it → s.heap.get? b = some o → h'.get? b = some o) → h'.get? s.heap.objs.size = some { cls := .type "list", dict := none, data := .seq acc c, slots := #[] } →
      StrsAre acc.toList (x.cps.toList.reverse.map fun c => ⟨#[c]⟩) → R (.ok (.ret (.ref s.heap.objs.size))) { s with heap := h', toks := tk }) →
      wpAny (model prog w) A.in1 (Builtin.List.listExtendWith (.ref s.heap.objs.size) (.ref it) (.ref s.heap.objs.size))
        (fun fin s' => match fin with | .done f => R (.ok f) s' | .again c' => c'.quiet = true ∧ codeAny (model prog w) A c' R s') (fun e s' => R (.error e) s') { s with heap := s.heap.push { cls := .type "list", data := .seq #[] } } := fun R hR =>
    extend_rev (A := A) (s := { s with heap := s.heap.push { cls := .type "list", data := .seq #[] } }) hh hz ⟨oi, Heap.get?_push_of_some _ hoi, ri⟩ s.heap.objs.size (.ref s.heap.objs.size)
      (Ne.symm (Nat.ne_of_lt (Heap.lt_size hoi))) hS (fun h' tk acc' c' hk hS' hacc => hR h' tk acc' c' (fun b o hb e => hk b o (Nat.ne_of_lt (Heap.lt_size e)) hb (Heap.get?_push_of_some _ e)) hS' hacc)
  refine go (fun r s' => match r with
    | .ok (.ret v) => wpAny (model prog w) A (match v with
      | .ref a => do
        match (← load a).data with
        | .seq xs _ => pure xs.toList
        | _ => unsupported "internal:collect"
      | _ => unsupported "internal:collect") Q E s'
    | .ok _ => False
    | .error e => E e s') fun h' tk acc c hk hS' hacc => ?_
  refine wpAny_bind (m := load s.heap.objs.size) (wpAny_load hS' (wpAny_pure ?_))
  exact hQ h' tk acc.toList hk hacc
theorem join_rev {Q : Value → Shared → Prop} (hh : A.handled = none) {it : Addr} {x y : Str} {t t0 : Tok} (hz : x.length ≤ sizeLine) (hit : Is s.heap it x t ((x.length : Int) - 1))
    (hok : ((x.cps.toList.reverse.map fun c => (⟨#[c]⟩ : Str)).map (·.length)).sum + (x.cps.toList.reverse.map fun c => (⟨#[c]⟩ : Str)).length * y.length ≤ 16777216)
    (hQ : ∀ h' tk t', (∀ b o, b ≠ it → s.heap.get? b = some o → h'.get? b = some o) → Q (.str (Txt.join y (x.cps.toList.reverse.map fun c => ⟨#[c]⟩)) t') { s with heap := h', toks := tk }) :
    wpAny (model prog w) A (call (.builtin "str.join") [.str y t0, .ref it]) Q E s := by
  refine wpAny_call (codeAny_call_builtin F.slot_str_join.plain F.entry_str_join (F.slot_str_join.check _ _ _ _ _ _ _ _ (typeIs_str _ _ _) (F.args_str_join_2 _ _) ?_))
  rw [join_tree_other]
  refine wpAny_bind (wpAny_typeOf hit.ty ?_)
  rw [if_neg (by decide)]
  refine wpAny_bind (wpAny_tryCatch (iter_self hit (wpAny_bind (collect_rev (A := A.in1) hh hz hit (fun h' tk vs hk hy => ?_)))))
  obtain ⟨lt, hv, ht⟩ := strsAre_values hy
  rw [hv]
  have hok' := joinOk_of hok
  unfold JoinOk at hok'
  rw [Bool.not_eq_true', ← ht] at hok'
  have g : Gives (joinTail y (strValues lt)) (joinMade y lt) := by
    have g0 := gives_joinTail y lt hok'
    cases lt with
    | nil => exact g0
    | cons p r => cases r with
      | nil => exact g0
      | cons q r' => exact g0
  refine g prog w A (wants Q E) { s with heap := h', toks := tk } (post_join lt ⟨joinFit_length hok', fun t' k => ?_⟩)
  rw [ht]
  exact hQ h' k t' hk
end
end RT
section
variable {X : Cx}
def tJT (t : TE) : TE := fun σ H Q => t σ H fun x H1 => ∃ a : List Nat, x = T a ∧ a.length ≤ sizeLine ∧ Q (T a.reverse) H1
theorem letters_flat : ∀ a : List Nat, (a.map fun c => [c]).flatten = a
  | [] => rfl
  | c :: a => by rw [List.map_cons, List.flatten_cons, letters_flat a]; rfl
theorem letters_sum : ∀ a : List Nat, ((a.map fun c => (⟨#[c]⟩ : Str)).map (·.length)).sum = a.length
  | [] => rfl
  | c :: a => by
    rw [List.map_cons, List.map_cons, List.sum_cons, letters_sum a, List.length_cons]
    show 1 + a.length = _
    omega
theorem pe_joinrevT {e : Expr} {t : TE} {j} {cp apos cpos p2 pos2 : Pos} (hc : X.calm = true) (g2 : Gl X "reversed") (m2 : X.mg "reversed" = none) (he : PE X e t) {x0 : Str} (hx : x0 = tx [])
    (b1 : attributeBase (.Constant (.str x0) j cp) "join" X.env (eval (.Constant (.str x0) j cp) X.env) = eval (.Constant (.str x0) j cp) X.env := by rfl)
    (b2 : (apos.endLine == cpos.line) = true := by rfl) (s1 : starEach [e] X.env = (false, eval e X.env) :: starEach [] X.env := by rfl)
    (hb2 : bootBuiltins "reversed" = some (.type "reversed") := by decide +kernel) :
    PE X (.Call (.Attribute (.Constant (.str x0) j cp) "join" apos) [.Call (.Name "reversed" p2) [e] [] pos2] [] cpos) (tJT t) := by
  intro pins s σ H Q I h
  subst hx
  refine wpAny_Call_method_late b1 rfl b2 rfl (Calls.Constant_str ?_)
  refine ⟨"str", "str.join", PySem.F.plainAttrs_str, PySem.F.slot_str_join, PySem.F.type_str_join, typeIs_str _ _ _, fun a z => (by cases z), ?_⟩
  refine Calls.callWith_builtin rfl (Calls.evalArgs_plain ?_)
  show wpAny _ _ (spliced ((false, eval (.Call (.Name "reversed" p2) [e] [] pos2) X.env) :: backTo cpos (starEach [] X.env))) _ _ _
  refine Calls.spliced_cons (thn (Q := fun u s1 => wpAny (model X.prog X.w) X.A (call (.builtin "str.join") [.str (tx []) s.toks, u]) (EP X pins σ Q) X.xe s1) ?_ fun u s1 z => Calls.spliced_nil z)
  have I0 : Inv X pins σ H { s with toks := s.toks + 1 } := I.tok _
  refine wpAny_Call_Name_kw (ld_blt I0 g2 m2 hb2 ?_ (by decide) (by decide))
  refine PyProof.Rows.callWith_type1 (arg1 (thn (he pins _ σ H _ I0 h) fun u s' ⟨v, H1, I1, r1, q1⟩ => ?_) s1) s1 rfl
  obtain ⟨a, rfl, hz, q⟩ := q1
  obtain ⟨tu, rfl⟩ := r1
  have hs : sizeLine = 16777216 := sizeLine_eq
  have hz2 : (tx a).length ≤ sizeLine := by rw [tx_len]; exact hz
  refine RT.call_rev hz2 fun tk => ?_
  have ea : (tx a).cps.toList.reverse = a.reverse := by simp [tx]
  refine RT.join_rev (I1.ok.hd hc) (it := s'.heap.objs.size) (x := tx a) hz2 ⟨_, Heap.get?_push_size _ rfl, rfl, rfl⟩ (by rw [ea, letters_sum, tx_len, List.length_nil, Nat.mul_zero, List.length_reverse]; omega) (fun h' tk' t' hk => ?_)
  refine ⟨T a.reverse, H1, I1.kept (t' := tk') fun b u eb => hk b u (Nat.ne_of_lt (Heap.lt_size eb)) (Heap.get?_push_of_some _ eb), ⟨t', ?_⟩, q⟩
  rw [ea]
  have e2 : (a.reverse.map fun c => (⟨#[c]⟩ : Str)) = (a.reverse.map fun c => [c]).map tx := by rw [List.map_map]; rfl
  rw [e2, join_tx, letters_flat]
end
end L2

set_option Elab.async false
set_option linter.all false
set_option maxRecDepth 100000
set_option maxHeartbeats 4000000
namespace K06
open PySem L2
def top (i : Nat) : Stmt := PySem.Challenge.pw_onceround_k06_whole_turned_and_mirrored.main.body.getD i (.Pass ⟨0, 0, 0, 0⟩)
abbrev s_row_windows : Stmt := top 1
abbrev s_ring_windows : Stmt := top 2
abbrev s_windows : Stmt := top 3
abbrev s_turned : Stmt := top 4
abbrev s_mirrored : Stmt := top 5
abbrev s__law_mix : Stmt := top 7
abbrev s__law_cell_at : Stmt := top 8
abbrev s__law_one : Stmt := top 9
abbrev s_law : Stmt := top 10
theorem sc_row_windows : FnScope ["text", "length"] ["text", "length"] (defScope s_row_windows) := ⟨rfl, rfl, rfl, by decide +kernel, rfl, by decide +kernel, by decide +kernel⟩
def csc_row_windows_0 : Scope := { kind := PySem.ScopeKind.function, names := [ (PySem.Str.ofString ".0", PySem.NameKind.local), (PySem.Str.ofString "place", PySem.NameKind.local), (PySem.Str.ofString "length", PySem.NameKind.free), (PySem.Str.ofString "text", PySem.NameKind.free)], isGenerator := false, isCoroutine := false, more := [] : PySem.Scope }
theorem cs_row_windows_0 : CompSc ["text", "length"] ["place", "text", "length"] (defScope s_row_windows) csc_row_windows_0 "place" := ⟨rfl, by decide +kernel, by decide +kernel, rfl, by decide +kernel, rfl, rfl, by decide +kernel, rfl, by decide +kernel, by decide +kernel⟩
theorem sc_ring_windows : FnScope ["text", "length", "size", "around"] ["text", "length"] (defScope s_ring_windows) := ⟨rfl, rfl, rfl, by decide +kernel, rfl, by decide +kernel, by decide +kernel⟩
def csc_ring_windows_0 : Scope := { kind := PySem.ScopeKind.function, names := [ (PySem.Str.ofString ".0", PySem.NameKind.local), (PySem.Str.ofString "place", PySem.NameKind.local), (PySem.Str.ofString "around", PySem.NameKind.free), (PySem.Str.ofString "length", PySem.NameKind.free)], isGenerator := false, isCoroutine := false, more := [] : PySem.Scope }
theorem cs_ring_windows_0 : CompSc ["text", "length", "size", "around"] ["place", "text", "length", "size", "around"] (defScope s_ring_windows) csc_ring_windows_0 "place" := ⟨rfl, by decide +kernel, by decide +kernel, rfl, by decide +kernel, rfl, rfl, by decide +kernel, rfl, by decide +kernel, by decide +kernel⟩
theorem sc_windows : FnScope ["text", "length", "ring"] ["text", "length", "ring"] (defScope s_windows) := ⟨rfl, rfl, rfl, by decide +kernel, rfl, by decide +kernel, by decide +kernel⟩
theorem sc_turned : FnScope ["text", "by", "start"] ["text", "by"] (defScope s_turned) := ⟨rfl, rfl, rfl, by decide +kernel, rfl, by decide +kernel, by decide +kernel⟩
theorem sc_mirrored : FnScope ["text"] ["text"] (defScope s_mirrored) := ⟨rfl, rfl, rfl, by decide +kernel, rfl, by decide +kernel, by decide +kernel⟩
theorem sc__law_mix : FnScope ["cell", "k", "m"] ["cell", "k"] (defScope s__law_mix) := ⟨rfl, rfl, rfl, by decide +kernel, rfl, by decide +kernel, by decide +kernel⟩
theorem sc__law_cell_at : FnScope ["script", "k"] ["script", "k"] (defScope s__law_cell_at) := ⟨rfl, rfl, rfl, by decide +kernel, rfl, by decide +kernel, by decide +kernel⟩
theorem sc__law_one : FnScope ["text", "one", "two", "length", "found", "k", "back", "rows", "at"] ["text", "one", "two", "length"] (defScope s__law_one) := ⟨rfl, rfl, rfl, by decide +kernel, rfl, by decide +kernel, by decide +kernel⟩
def csc__law_one_0 : Scope := { kind := PySem.ScopeKind.function, names := [ (PySem.Str.ofString ".0", PySem.NameKind.local), (PySem.Str.ofString "row", PySem.NameKind.local), (PySem.Str.ofString "mirrored", PySem.NameKind.globalImplicit)], isGenerator := false, isCoroutine := false, more := [] : PySem.Scope }
theorem cs__law_one_0 : CompSc ["text", "one", "two", "length", "found", "k", "back", "rows", "at"] ["row", "text", "one", "two", "length", "found", "k", "back", "rows", "at"] (defScope s__law_one) csc__law_one_0 "row" := ⟨rfl, by decide +kernel, by decide +kernel, rfl, by decide +kernel, rfl, rfl, by decide +kernel, rfl, by decide +kernel, by decide +kernel⟩
theorem sc_law : FnScope ["script", "kinds", "cells", "signs", "text", "cell", "part", "one", "two"] ["script"] (defScope s_law) := ⟨rfl, rfl, rfl, by decide +kernel, rfl, by decide +kernel, by decide +kernel⟩
def csc_law_0 : Scope := { kind := PySem.ScopeKind.function, names := [ (PySem.Str.ofString ".0", PySem.NameKind.local), (PySem.Str.ofString "k", PySem.NameKind.local), (PySem.Str.ofString "_law_mix", PySem.NameKind.globalImplicit), (PySem.Str.ofString "len", PySem.NameKind.globalImplicit), (PySem.Str.ofString "cells", PySem.NameKind.free), (PySem.Str.ofString "kinds", PySem.NameKind.free), (PySem.Str.ofString "script", PySem.NameKind.free)], isGenerator := false, isCoroutine := false, more := [] : PySem.Scope }
theorem cs_law_0 : CompSc ["script", "kinds", "cells", "signs", "text", "cell", "part", "one", "two"] ["k", "script", "kinds", "cells", "signs", "text", "cell", "part", "one", "two"] (defScope s_law) csc_law_0 "k" := ⟨rfl, by decide +kernel, by decide +kernel, rfl, by decide +kernel, rfl, rfl, by decide +kernel, rfl, by decide +kernel, by decide +kernel⟩
def csc_law_1 : Scope := { kind := PySem.ScopeKind.function, names := [(PySem.Str.ofString ".0", PySem.NameKind.local), (PySem.Str.ofString "sign", PySem.NameKind.local)], isGenerator := false, isCoroutine := false, more := [] : PySem.Scope }
theorem cs_law_1 : CompSc ["script", "kinds", "cells", "signs", "text", "cell", "part", "one", "two"] ["sign", "script", "kinds", "cells", "signs", "text", "cell", "part", "one", "two"] (defScope s_law) csc_law_1 "sign" := ⟨rfl, by decide +kernel, by decide +kernel, rfl, by decide +kernel, rfl, rfl, by decide +kernel, rfl, by decide +kernel, by decide +kernel⟩
structure Txt (mg : Str → Option Value) : Prop where
  b_isinstance : mg "isinstance" = none
  b_len : mg "len" = none
  b_range : mg "range" = none
  b_reversed : mg "reversed" = none
  b_sorted : mg "sorted" = none
  b_str : mg "str" = none
  b_sum : mg "sum" = none
section
variable {P : Program} {w : World} {K : PySem.W.Frag} {mg : Str → Option Value} {base : Heap}

/-! ### the law's own draws: only their bounds matter -/
def mixM (c k : Int) : Int := (c % 10 ^ 30 * 1000003 + (k + 1) * (k + 1) * 998244353) % 2305843009213693951
def mixZ (c k : Int) : Int := mixM c k * mixM c k % 2305843009213693921
def spMix : Sp := fun vs H Q _ => ∃ (c k : Int), vs = [.int c, .int k] ∧ (0 ≤ k ∧ k ≤ 1000) ∧ Q (.int (mixZ c k)) H
theorem ok__law_mix {f : Addr} {fd : FuncData} (F : Fun K "_law_mix" "_law_mix" s__law_mix f fd) (tt : Txt mg) : FnOk P w K mg base CX0 1 f fd ["cell", "k"] spMix := by
  refine F.ok sc__law_mix (fun vs H Q E h => ?_) (fun cdv A outer s H vs Q E hr h => ?_)
  · obtain ⟨c, k, rfl, _⟩ := h
    rfl
  · obtain ⟨c, k, rfl, hk, q⟩ := h
    have h1 : 0 ≤ mixM c k := Int.emod_nonneg _ (by decide)
    have h2 : mixM c k < 2305843009213693951 := Int.emod_lt_of_pos _ (by decide)
    unfold mixZ at q
    refine ⟨_, (pss_cons (ps_set (i := 2) sc__law_mix.nd rfl (Or.inl rfl) (pe_op op_mod (pe_op op_add (pe_op op_mul (pe_op op_mod (pv 0) (pe_op op_pow pe_int pe_int)) pe_int) (pe_op op_mul (pe_op op_mul (pe_op op_add (pv 1) pe_int) (pe_op op_add (pv 1) pe_int)) pe_int)) pe_int))
      (pss_one (ps_ret (pe_op op_mod (pe_op op_mul (pv 2) (pv 2)) pe_int)))), ?_⟩
    refine ⟨_, rfl, _, _, rfl, rfl, ⟨by decide, by decide, by decide⟩, _, _, rfl, rfl, (by show (0 : Int) < 10 ^ 30; decide), _, _, rfl, rfl, .inr ⟨by decide, by decide⟩, _, rfl, _, _, rfl, rfl, _, rfl, _, _, rfl, rfl, _, _, rfl, rfl, .inl ⟨by omega, by omega⟩, _, _, rfl, rfl, .inr ⟨by decide, by decide⟩, _, _, rfl, rfl, _, _, rfl, rfl, (by show (0 : Int) < 2305843009213693951; decide), ?_⟩
    exact ⟨.int (mixM c k), rfl, .int (mixM c k), rfl, mixM c k, mixM c k, rfl, rfl, .inl ⟨by omega, by omega⟩, _, _, rfl, rfl, (by show (0 : Int) < 2305843009213693921; decide), q⟩

def spCell (K : PySem.W.Frag) : Sp := fun vs H Q _ => ∃ (a : Addr) (ns : List Int) (k : Nat), vs = [.ref a, .int (k : Nat)] ∧ SqL K H a (ns.map V.int) ∧ Q (.int (ns.getD k 0)) H
theorem ok__law_cell_at {f : Addr} {fd : FuncData} (F : Fun K "_law_cell_at" "_law_cell_at" s__law_cell_at f fd) (tt : Txt mg) : FnOk P w K mg base CX0 1 f fd ["script", "k"] (spCell K) := by
  refine F.ok sc__law_cell_at (fun vs H Q E h => ?_) (fun cdv A outer s H vs Q E hr h => ?_)
  · obtain ⟨a, ns, k, rfl, _⟩ := h
    rfl
  · obtain ⟨a, ns, k, rfl, hS, q⟩ := h
    refine ⟨_, (pss_cons (ps_if (pt_cmpR op_lt (pv 1) (pe_callB call_len_seq (by rfl) tt.b_len PySem.boot_len (pa_cons (pv 0) pa_nil)) (nomark _)) (pss_one (ps_ret (pe_ix ix_list (pv 0) (pv 1) (fun _ _ => rfl)))) pss_nil)
      (pss_one (ps_ret pe_int))), ?_⟩
    refine ⟨_, rfl, _, rfl, a, _, rfl, .inl hS, _, _, rfl, rfl, _, rfl, ?_⟩  -- k < len(script)
    rw [List.length_map]
    refine ite2 (fun h0 => ?_) (fun h0 => ?_)
    · have h1 : k < ns.length := by have := of_decide_eq_true h0; omega
      rw [List.getD_eq_getElem?_getD, List.getElem?_eq_getElem h1] at q
      exact ⟨_, rfl, _, rfl, a, _, _, _, rfl, rfl, hS, atI_nat (by rw [List.getElem?_map, List.getElem?_eq_getElem h1]; rfl), q⟩  -- return script[k]
    · have h1 : ¬ k < ns.length := fun z => h0 (decide_eq_true (by omega))
      rw [List.getD_eq_getElem?_getD, List.getElem?_eq_none (by omega)] at q
      exact q  -- return 0

/-! ### windows -/
def spRowW : Sp := fun vs H Q _ => ∃ (t : List Nat) (n : Nat), vs = [T t, .int (n : Nat)] ∧ (t.length ≤ 5000 ∧ 1 ≤ n ∧ n ≤ 5000) ∧ ∀ D H', H D = none → Same H H' → H' D = some (.lst ((Wd.rowW t n).map T)) → Q (.ref D) H'
theorem ok_row_windows {f : Addr} {fd : FuncData} (F : Fun K "row_windows" "row_windows" s_row_windows f fd) (tt : Txt mg) : FnOk P w K mg base CX0 1 f fd ["text", "length"] spRowW := by
  refine F.ok sc_row_windows (fun vs H Q E h => ?_) (fun cdv A outer s H vs Q E hr h => ?_)
  · obtain ⟨t, n, rfl, _⟩ := h
    rfl
  · obtain ⟨t, n, rfl, hn, q⟩ := h
    have hs : sizeLine = 16777216 := sizeLine_eq
    refine ⟨_, (pss_one (ps_ret (pe_comp cs_row_windows_0 rfl (pi_range1 (by rfl) tt.b_range (pa_cons (pe_op op_add (pe_op op_sub (pe_callB call_len_T (by rfl) tt.b_len PySem.boot_len (pa_cons (pv 0) pa_nil)) (pv 1)) pe_int) pa_nil)) (fun cl C s' H' fp => (pe_slice sl_T (pv 1) (po_some (pv 0)) (po_some (pe_op op_add (pv 0) (pv 2)))))))), ?_⟩
    refine ⟨_, rfl, _, rfl, (by omega), _, rfl, _, _, rfl, rfl, _, _, rfl, rfl, _, rfl, by omega, by omega, ?_⟩
    have en : (((t.length : Nat) : Int) - ((n : Nat) : Int) + 1).toNat = t.length + 1 - n := by omega
    rw [en]
    refine comp_range (lo := 0) (n := t.length + 1 - n) (fun i => T (Wd.ringAt t n i)) (by omega) (fun i H4 hi s4 N hN => ?_) fun D H4 hD s4 hd4 => ?_
    · refine ⟨_, rfl, _, rfl, _, rfl, _, rfl, _, rfl, _, _, rfl, rfl, _, rfl, _, rfl, by omega, ?_⟩
      have e : cutL t (some (0 + (i : Int))) (some (0 + (i : Int) + ((n : Nat) : Int))) = Wd.ringAt t n i := by
        rw [show 0 + (i : Int) + ((n : Nat) : Int) = ((i + n : Nat) : Int) by omega, Int.zero_add, cutL_mid (by omega) (by omega), show i + n - i = n by omega]
        exact Wd.row_at (by omega)
      rw [e]
      exact hN H4 (Same.refl _)
    · exact q D H4 hD s4 (by rw [hd4, Wd.rowW, List.map_map]; rfl)
def spRingW : Sp := fun vs H Q _ => ∃ (t : List Nat) (n : Nat), vs = [T t, .int (n : Nat)] ∧ (t.length ≤ 5000 ∧ 1 ≤ n ∧ n ≤ 5000) ∧ ∀ D H', H D = none → Same H H' → H' D = some (.lst ((Wd.ringW t n).map T)) → Q (.ref D) H'
theorem ok_ring_windows {f : Addr} {fd : FuncData} (F : Fun K "ring_windows" "ring_windows" s_ring_windows f fd) (tt : Txt mg) : FnOk P w K mg base CX0 1 f fd ["text", "length"] spRingW := by
  refine F.ok sc_ring_windows (fun vs H Q E h => ?_) (fun cdv A outer s H vs Q E hr h => ?_)
  · obtain ⟨t, n, rfl, _⟩ := h
    rfl
  · obtain ⟨t, n, rfl, hn, q⟩ := h
    have hs : sizeLine = 16777216 := sizeLine_eq
    refine ⟨_, (pss_cons (ps_if (pt_cmpR op_eq_T (pv 0) (pe_strT [] (by decide +kernel)) (nomark _)) (pss_one (ps_ret (pe_lst pa_nil))) pss_nil)
      (pss_cons (ps_set (i := 2) sc_ring_windows.nd rfl (Or.inl rfl) (pe_callB call_len_T (by rfl) tt.b_len PySem.boot_len (pa_cons (pv 0) pa_nil)))
      (pss_cons (ps_set (i := 3) sc_ring_windows.nd rfl (Or.inr rfl) (pe_op op_mul_T (pv 0) (pe_op op_add (pe_op op_fdiv (pv 1) (pv 2)) pe_int)))
      (pss_one (ps_ret (pe_comp cs_ring_windows_0 rfl (pi_range1 (by rfl) tt.b_range (pa_cons (pv 2) pa_nil)) (fun cl C s' H' fp => (pe_slice sl_T (pv 4) (po_some (pv 0)) (po_some (pe_op op_add (pv 0) (pv 2))))))))))), ?_⟩
    refine ⟨_, rfl, _, rfl, _, rfl, _, rfl, ?_⟩  -- text == ''
    refine ite2 (fun h0 => ?_) (fun h0 => ?_)
    · have e : t = [] := of_decide_eq_true h0
      subst e
      exact ⟨(by show 0 ≤ sizeLine; omega), fun D hD => q D _ hD (fun b o e => by rw [upd_ne (ne_of_none e hD)]; exact e) upd_same⟩  -- return []
    · have hne : t ≠ [] := fun z => h0 (decide_eq_true z)
      have hp : 0 < t.length := List.length_pos_iff.mpr hne
      have hdv : ((n : Nat) : Int) / ((t.length : Nat) : Int) + 2 = ((n / t.length + 2 : Nat) : Int) := by rw [← Int.natCast_ediv]; rfl
      have hdm : n / t.length * t.length + n % t.length = n := by rw [Nat.mul_comm]; exact Nat.div_add_mod n t.length
      have hml := Nat.mod_lt n hp
      have hdl : n / t.length ≤ n := Nat.div_le_self _ _
      have hcl : (n / t.length + 2) * t.length = n / t.length * t.length + 2 * t.length := by rw [Nat.add_mul]
      refine ⟨_, rfl, _, rfl, (by omega), ?_⟩  -- size = len(text)
      refine ⟨_, rfl, _, rfl, _, rfl, _, _, rfl, rfl, ⟨by omega, by omega⟩, _, _, rfl, rfl, _, rfl, n / t.length + 2, congrArg V.int hdv, ⟨by omega, by omega⟩, ?_⟩  -- around = text * (length // size + 2)
      refine ⟨_, rfl, _, rfl, by omega, by omega, ?_⟩
      rw [Int.toNat_natCast]
      refine comp_range (lo := 0) (n := t.length) (fun i => T (Wd.ringAt t n i)) (by omega) (fun i H4 hi s4 N hN => ?_) fun D H4 hD s4 hd4 => ?_
      · refine ⟨_, rfl, _, rfl, _, rfl, _, rfl, _, rfl, _, _, rfl, rfl, _, rfl, _, rfl, (by rw [Wd.rep_len]; omega), ?_⟩
        have e : cutL (Wd.rep (n / t.length + 2) t) (some (0 + (i : Int))) (some (0 + (i : Int) + ((n : Nat) : Int))) = Wd.ringAt t n i := by
          rw [show 0 + (i : Int) + ((n : Nat) : Int) = ((i + n : Nat) : Int) by omega, Int.zero_add, cutL_mid (by rw [Wd.rep_len]; omega) (by omega), show i + n - i = n by omega]
          exact Wd.ring_at (by omega) hp
        rw [e]
        exact hN H4 (Same.refl _)
      · exact q D H4 hD s4 (by rw [hd4, Wd.ringW, List.map_map]; rfl)
def spWin : Sp := fun vs H Q _ => ∃ (t : List Nat) (n : Nat) (b : Bool), vs = [T t, .int (n : Nat), .bl b] ∧ (t.length ≤ 5000 ∧ 1 ≤ n ∧ n ≤ 5000) ∧ ∀ D H', H D = none → Same H H' → H' D = some (.lst ((Wd.win t n b).map T)) → Q (.ref D) H'
theorem ok_windows {f : Addr} {fd : FuncData} (F : Fun K "windows" "windows" s_windows f fd) (tt : Txt mg) (C_row_windows : Cal P w K mg base CX0 "row_windows" 1 ["text", "length"] spRowW) (C_ring_windows : Cal P w K mg base CX0 "ring_windows" 1 ["text", "length"] spRingW) :
    FnOk P w K mg base CX0 2 f fd ["text", "length", "ring"] spWin := by
  refine F.ok sc_windows (fun vs H Q E h => ?_) (fun cdv A outer s H vs Q E hr h => ?_)
  · obtain ⟨t, n, b, rfl, _⟩ := h
    rfl
  · obtain ⟨t, n, b, rfl, hn, q⟩ := h
    refine ⟨_, (pss_cons (ps_if (pt_val (pv 2)) (pss_one (ps_ret (pe_cal C_ring_windows hr pass0 (pa_cons (pv 0) (pa_cons (pv 1) pa_nil))))) pss_nil)
      (pss_one (ps_ret (pe_cal C_row_windows hr pass0 (pa_cons (pv 0) (pa_cons (pv 1) pa_nil)))))), ?_⟩
    refine ⟨_, rfl, _, rfl, ?_⟩  -- ring
    refine ite2 (fun h0 => ?_) (fun h0 => ?_)
    · rw [Wd.win, if_pos h0] at q
      exact ⟨_, rfl, _, rfl, t, n, rfl, hn, q⟩
    · rw [Wd.win, if_neg h0] at q
      exact ⟨_, rfl, _, rfl, t, n, rfl, hn, q⟩

def spTurn : Sp := fun vs H Q _ => ∃ (t : List Nat) (b : Int), vs = [T t, .int b] ∧ t.length ≤ 5000 ∧ Q (T (Wd.rotZ t b)) H
theorem ok_turned {f : Addr} {fd : FuncData} (F : Fun K "turned" "turned" s_turned f fd) (tt : Txt mg) : FnOk P w K mg base CX0 1 f fd ["text", "by"] spTurn := by
  refine F.ok sc_turned (fun vs H Q E h => ?_) (fun cdv A outer s H vs Q E hr h => ?_)
  · obtain ⟨t, b, rfl, _⟩ := h
    rfl
  · obtain ⟨t, b, rfl, hn, q⟩ := h
    have hs : sizeLine = 16777216 := sizeLine_eq
    refine ⟨_, (pss_cons (ps_if (pt_cmpR op_eq_T (pv 0) (pe_strT [] (by decide +kernel)) (nomark _)) (pss_one (ps_ret (pv 0))) pss_nil)
      (pss_cons (ps_set (i := 2) sc_turned.nd rfl (Or.inl rfl) (pe_op op_mod (pv 1) (pe_callB call_len_T (by rfl) tt.b_len PySem.boot_len (pa_cons (pv 0) pa_nil))))
      (pss_one (ps_ret (pe_op op_add_T (pe_slice sl_T (pv 0) (po_some (pv 2)) po_none) (pe_slice sl_T (pv 0) po_none (po_some (pv 2)))))))), ?_⟩
    refine ⟨_, rfl, _, rfl, _, rfl, _, rfl, ?_⟩  -- text == ''
    refine ite2 (fun h0 => ?_) (fun h0 => ?_)
    · have e : t = [] := of_decide_eq_true h0
      subst e
      rw [Wd.rotZ_nil] at q
      exact ⟨_, rfl, q⟩
    · have hne : t ≠ [] := fun z => h0 (decide_eq_true z)
      have hp : 0 < t.length := List.length_pos_iff.mpr hne
      have m0 := Int.emod_nonneg b (show ((t.length : Nat) : Int) ≠ 0 by omega)
      have m1 := Int.emod_lt_of_pos b (show (0 : Int) < ((t.length : Nat) : Int) by omega)
      refine ⟨_, rfl, _, rfl, _, rfl, (by omega), _, _, rfl, rfl, (by show (0 : Int) < ((t.length : Nat) : Int); omega), ?_⟩
      obtain ⟨m, hm⟩ := Int.eq_ofNat_of_zero_le m0
      have hm' : b % ((t.length : Nat) : Int) = (m : Int) := hm
      have e1 : cutL t (some (b % ((t.length : Nat) : Int))) none = t.drop m := by rw [hm']; exact cutL_from (by omega)
      have e2 : cutL t none (some (b % ((t.length : Nat) : Int))) = t.take m := by rw [hm']; exact cutL_to (by omega)
      have e3 : Wd.rotZ t b = t.drop m ++ t.take m := by rw [Wd.rotZ, hm', Int.toNat_natCast]; rfl
      rw [e3] at q
      exact ⟨_, rfl, _, rfl, _, rfl, _, rfl, (by omega), _, rfl, _, rfl, _, rfl, _, rfl, (by omega), _, rfl, _, rfl, (by rw [e1, e2, List.length_drop, List.length_take]; omega), (by rw [e1, e2]; exact q)⟩
def spMir : Sp := fun vs H Q _ => ∃ (t : List Nat), vs = [T t] ∧ t.length ≤ 5000 ∧ Q (T t.reverse) H
theorem ok_mirrored {f : Addr} {fd : FuncData} (F : Fun K "mirrored" "mirrored" s_mirrored f fd) (tt : Txt mg) : FnOk P w K mg base CX0 1 f fd ["text"] spMir := by
  refine F.ok sc_mirrored (fun vs H Q E h => ?_) (fun cdv A outer s H vs Q E hr h => ?_)
  · obtain ⟨t, rfl, _⟩ := h
    rfl
  · obtain ⟨t, rfl, hn, q⟩ := h
    have hs : sizeLine = 16777216 := sizeLine_eq
    refine ⟨_, (pss_one (ps_ret (pe_joinrevT rfl (by rfl) tt.b_reversed (pv 0) (by decide +kernel)))), ?_⟩
    exact ⟨_, rfl, t, rfl, (by omega), q⟩
def spOne : Sp := fun vs H Q _ => ∃ (t : List Nat) (a b : Int) (n : Nat), vs = [T t, .int a, .int b, .int (n : Nat)] ∧ (t.length ≤ 5000 ∧ 1 ≤ n ∧ n ≤ 5000) ∧ ∀ H', Same H H' → Q (.bl true) H'
theorem cutV_from {ls : List (List Nat)} {k : Nat} (h : k ≤ ls.length) : cutV (ls.map T) (some (k : Int)) none = (ls.drop k).map T := by
  unfold cutV
  rw [HT.sIx_nat, HT.sIx_none, List.length_map, Nat.min_eq_left h, ← List.map_drop, ← List.map_take, List.take_of_length_le (by rw [List.length_drop]; omega)]
theorem cutV_to {ls : List (List Nat)} {k : Nat} (h : k ≤ ls.length) : cutV (ls.map T) none (some (k : Int)) = (ls.take k).map T := by
  unfold cutV
  rw [HT.sIx_nat, HT.sIx_none, List.length_map, Nat.min_eq_left h, List.drop_zero, Nat.sub_zero, List.map_take]
theorem ok__law_one {f : Addr} {fd : FuncData} (F : Fun K "_law_one" "_law_one" s__law_one f fd) (tt : Txt mg) (C_turned : Cal P w K mg base CX0 "turned" 1 ["text", "by"] spTurn) (C_mirrored : Cal P w K mg base CX0 "mirrored" 1 ["text"] spMir)
    (C_windows : Cal P w K mg base CX0 "windows" 2 ["text", "length", "ring"] spWin) : FnOk P w K mg base CX0 3 f fd ["text", "one", "two", "length"] spOne := by
  refine F.ok sc__law_one (fun vs H Q E h => ?_) (fun cdv A outer s H vs Q E hr h => ?_)
  · obtain ⟨t, a, b, n, rfl, _⟩ := h
    rfl
  · obtain ⟨t, a, b, n, rfl, hn, q⟩ := h
    have hs : sizeLine = 16777216 := sizeLine_eq
    have hu := Nat.lt_of_succ_lt (hu_of hr)
    refine ⟨_, (pss_cons (ps_set (i := 4) sc__law_one.nd rfl (Or.inl rfl) (pe_cal C_turned hr pass0 (pa_cons (pv 0) (pa_cons (pv 1) pa_nil))))
      (pss_cons (ps_if (PW.pt (pw_or (pt_not (pt_val (pe_callB call_isinst (by rfl) tt.b_isinstance PyProof.Rows.boot_isinstance (pa_cons (pv 4) (pa_cons (pe_bltn (v := .ty "str") (u := .type "str") (by rfl) tt.b_str (by decide +kernel) rfl) pa_nil))))) (pw_or1 (pt_cmpR op_ne_I (pe_callB call_len_T (by rfl) tt.b_len PySem.boot_len (pa_cons (pv 4) pa_nil)) (pe_callB call_len_T (by rfl) tt.b_len PySem.boot_len (pa_cons (pv 0) pa_nil)) (nomark _))))) (pss_one (ps_ret pe_bl)) pss_nil)
      (pss_cons (ps_for PassesOwn.never rfl (pi_range1 (by rfl) tt.b_range (pa_cons (pe_callB call_len_T (by rfl) tt.b_len PySem.boot_len (pa_cons (pv 0) pa_nil)) pa_nil)) (pg_name (i := 5) sc__law_one.nd rfl (Or.inl rfl)) (pss_one (ps_if (pt_cmpR op_ne_T (pe_ix ix_T (pv 4) (pv 5) (fun _ _ => rfl)) (pe_ix ix_T (pv 0) (pe_op op_mod (pe_op op_add (pv 5) (pv 1)) (pe_callB call_len_T (by rfl) tt.b_len PySem.boot_len (pa_cons (pv 0) pa_nil))) (fun _ _ => rfl)) (nomark _)) (pss_one (ps_ret pe_bl)) pss_nil)))
      (pss_cons (ps_if (PW.pt (pw_or (pt_cmpR op_ne_T (pe_cal C_turned hr pass0 (pa_cons (pv 4) (pa_cons (pv 2) pa_nil))) (pe_cal C_turned hr pass0 (pa_cons (pv 0) (pa_cons (pe_op op_add (pv 1) (pv 2)) pa_nil))) (nomark _)) (pw_or1 (pt_cmpR op_ne_T (pe_cal C_turned hr pass0 (pa_cons (pv 4) (pa_cons (pe_un un_neg (pv 1)) pa_nil))) (pv 0) (nomark _))))) (pss_one (ps_ret pe_bl)) pss_nil)
      (pss_cons (ps_set (i := 6) sc__law_one.nd rfl (Or.inl rfl) (pe_cal C_mirrored hr pass0 (pa_cons (pv 0) pa_nil)))
      (pss_cons (ps_if (PW.pt (pw_or (pt_not (pt_val (pe_callB call_isinst (by rfl) tt.b_isinstance PyProof.Rows.boot_isinstance (pa_cons (pv 6) (pa_cons (pe_bltn (v := .ty "str") (u := .type "str") (by rfl) tt.b_str (by decide +kernel) rfl) pa_nil))))) (pw_or (pt_cmpR op_ne_T (pe_cal C_mirrored hr pass0 (pa_cons (pv 6) pa_nil)) (pv 0) (nomark _)) (pw_or1 (pt_cmpR op_ne_I (pe_callB call_len_T (by rfl) tt.b_len PySem.boot_len (pa_cons (pv 6) pa_nil)) (pe_callB call_len_T (by rfl) tt.b_len PySem.boot_len (pa_cons (pv 0) pa_nil)) (nomark _)))))) (pss_one (ps_ret pe_bl)) pss_nil)
      (pss_cons (ps_for PassesOwn.never rfl (pi_range1 (by rfl) tt.b_range (pa_cons (pe_callB call_len_T (by rfl) tt.b_len PySem.boot_len (pa_cons (pv 0) pa_nil)) pa_nil)) (pg_name (i := 5) sc__law_one.nd rfl (Or.inl rfl)) (pss_one (ps_if (pt_cmpR op_ne_T (pe_ix ix_T (pv 6) (pv 5) (fun _ _ => rfl)) (pe_ix ix_T (pv 0) (pe_op op_sub (pe_op op_sub (pe_callB call_len_T (by rfl) tt.b_len PySem.boot_len (pa_cons (pv 0) pa_nil)) pe_int) (pv 5)) (fun _ _ => rfl)) (nomark _)) (pss_one (ps_ret pe_bl)) pss_nil)))
      (pss_cons (ps_set (i := 7) sc__law_one.nd rfl (Or.inl rfl) (pe_cal C_windows hr pass0 (pa_cons (pv 0) (pa_cons (pv 3) (pa_cons pe_bl pa_nil)))))
      (pss_cons (ps_if (pt_cmpR op_eq_I (pe_callB call_len_T (by rfl) tt.b_len PySem.boot_len (pa_cons (pv 0) pa_nil)) pe_int (nomark _)) (pss_one (ps_ret (pe_and (pe_cmpR (op_eq_LT hu) (pv 7) (pe_lst pa_nil) (nomark _)) (pe_and (pe_cmpR op_eq_T (pv 4) (pe_strT [] (by decide +kernel)) (nomark _)) (pe_one (pe_cmpR op_eq_T (pv 6) (pe_strT [] (by decide +kernel)) (nomark _))))))) pss_nil)
      (pss_cons (ps_set (i := 8) sc__law_one.nd rfl (Or.inl rfl) (pe_op op_mod (pv 1) (pe_callB call_len_T (by rfl) tt.b_len PySem.boot_len (pa_cons (pv 0) pa_nil))))
      (pss_cons (ps_if (pt_cmpR (op_ne_LT hu) (pe_cal C_windows hr pass0 (pa_cons (pv 4) (pa_cons (pv 3) (pa_cons pe_bl pa_nil)))) (pe_op op_catL (pe_slice sl_list (pv 7) (po_some (pv 8)) po_none) (pe_slice sl_list (pv 7) po_none (po_some (pv 8)))) (nomark _)) (pss_one (ps_ret pe_bl)) pss_nil)
      (pss_one (ps_ret (pe_cmpR (op_eq_LT hu) (pe_callB call_sortedA (by rfl) tt.b_sorted PyProof.Rows.boot_sorted (pa_cons (pe_comp cs__law_one_0 rfl (pi_list (pv 7)) (fun cl C s' H' fp => (pe_cal C_mirrored hr pass0 (pa_cons (pv 0) pa_nil)))) pa_nil)) (pe_callB call_sortedA (by rfl) tt.b_sorted PyProof.Rows.boot_sorted (pa_cons (pe_cal C_windows hr pass0 (pa_cons (pv 6) (pa_cons (pv 3) (pa_cons pe_bl pa_nil)))) pa_nil)) (nomark _))))))))))))))), ?_⟩
    have hl := Wd.rotZ_len t a
    refine ⟨_, rfl, _, rfl, t, a, rfl, (by omega), ?_⟩  -- found = turned(text, one)
    refine ⟨_, rfl, _, _, _, _, rfl, .str _, kit_same _, _, rfl, iteF ?_⟩  -- isinstance(found, str)
    refine ⟨_, rfl, _, rfl, (by omega), _, rfl, _, rfl, (by omega), _, rfl, _, rfl, _, rfl, ?_⟩  -- len(found) != len(text)
    refine iteNS (by rw [hl]) ?_
    refine ⟨_, rfl, _, rfl, (by omega), _, rfl, by omega, by omega, ?_⟩  -- for range(len(text))
    rw [Int.toNat_natCast]
    refine for_range (fun i σ H2 => H2 = H ∧ ∃ v1, σ = [some (T t), some (.int a), some (.int b), some (.int (n : Nat)), some (T (Wd.rotZ t a)), v1, none, none, none]) ⟨rfl, none, rfl⟩ ?_ ?_
    · rintro i σ H2 hi ⟨rfl, v1, rfl⟩
      have g0 := Int.emod_nonneg ((i : Int) + a) (show ((t.length : Nat) : Int) ≠ 0 by omega)
      have g1 := Int.emod_lt_of_pos ((i : Int) + a) (show (0 : Int) < ((t.length : Nat) : Int) by omega)
      obtain ⟨m, hm⟩ := Int.eq_ofNat_of_zero_le g0
      have hm' : ((i : Int) + a) % ((t.length : Nat) : Int) = (m : Int) := hm
      have hml : m < t.length := by omega
      have hc : t[m]? = some (t[m]'hml) := List.getElem?_eq_getElem hml
      have hc1 : atI (Wd.rotZ t a) (0 + (i : Int)) = some (t[m]'hml) := by
        rw [Int.zero_add]
        exact atI_nat (by rw [Wd.rotZ_get hi, hm', Int.toNat_natCast, hc])
      have hc2 : atI t ((0 + (i : Int) + a) % ((t.length : Nat) : Int)) = some (t[m]'hml) := by
        rw [Int.zero_add, hm']
        exact atI_nat hc
      refine ⟨_, rfl, _, rfl, _, rfl, _, rfl, (by omega), _, hc1, _, rfl, _, rfl, _, rfl, _, _, rfl, rfl, _, rfl, _, rfl, (by omega), _, _, rfl, rfl, (by show (0 : Int) < ((t.length : Nat) : Int); omega), _, rfl, _, rfl, (by omega), _, hc2, _, rfl, _, rfl, _, rfl, ?_⟩  -- found[k] != text[(k + one) % len(text)]
      refine iteNS rfl ?_
      exact ⟨rfl, _, rfl⟩
    · rintro σ H2 ⟨rfl, v1, rfl⟩
      refine ⟨_, rfl, _, rfl, Wd.rotZ t a, b, rfl, (by omega), _, rfl, _, rfl, _, rfl, _, _, rfl, rfl, t, a + b, rfl, (by omega), _, rfl, _, rfl, _, rfl, ?_⟩  -- turned(found, two) != turned(text, one + two)
      refine iteNS (Wd.rotZ_rotZ t a b) ?_
      refine ⟨_, rfl, _, rfl, _, rfl, Wd.rotZ t a, -a, rfl, (by omega), _, rfl, _, rfl, _, rfl, _, rfl, ?_⟩  -- turned(found, -one) != text
      refine iteNS (by rw [Wd.rotZ_rotZ, show a + -a = 0 by omega, Wd.rotZ_zero]) ?_
      refine ⟨_, rfl, t, rfl, (by omega), ?_⟩  -- back = mirrored(text)
      have hrl : t.reverse.length = t.length := List.length_reverse
      refine ⟨_, rfl, _, _, _, _, rfl, .str _, kit_same _, _, rfl, iteF ?_⟩  -- isinstance(back, str)
      refine ⟨_, rfl, t.reverse, rfl, (by omega), _, rfl, _, rfl, _, rfl, _, rfl, ?_⟩  -- mirrored(back) != text
      refine iteNS (List.reverse_reverse t) ?_
      refine ⟨_, rfl, _, rfl, (by omega), _, rfl, _, rfl, (by omega), _, rfl, _, rfl, _, rfl, ?_⟩  -- len(back) != len(text)
      refine iteNS (by rw [hrl]) ?_
      refine ⟨_, rfl, _, rfl, (by omega), _, rfl, by omega, by omega, ?_⟩  -- for range(len(text))
      rw [Int.toNat_natCast]
      refine for_range (fun i σ H3 => H3 = H2 ∧ ∃ v1, σ = [some (T t), some (.int a), some (.int b), some (.int (n : Nat)), some (T (Wd.rotZ t a)), v1, some (T t.reverse), none, none]) ⟨rfl, _, rfl⟩ ?_ ?_
      · rintro i σ H3 hi ⟨rfl, v1, rfl⟩
        have hml : t.length - 1 - i < t.length := by omega
        have hc : t[t.length - 1 - i]? = some (t[t.length - 1 - i]'hml) := List.getElem?_eq_getElem hml
        have hc1 : atI t.reverse (0 + (i : Int)) = some (t[t.length - 1 - i]'hml) := by
          rw [Int.zero_add]
          exact atI_nat (by rw [List.getElem?_reverse hi, hc])
        have hc2 : atI t (((t.length : Nat) : Int) - 1 - (0 + (i : Int))) = some (t[t.length - 1 - i]'hml) := by
          rw [show ((t.length : Nat) : Int) - 1 - (0 + (i : Int)) = ((t.length - 1 - i : Nat) : Int) by omega]
          exact atI_nat hc
        refine ⟨_, rfl, _, rfl, _, rfl, _, rfl, (by omega), _, hc1, _, rfl, _, rfl, _, rfl, (by omega), _, _, rfl, rfl, _, rfl, _, _, rfl, rfl, _, rfl, _, rfl, (by omega), _, hc2, _, rfl, _, rfl, _, rfl, ?_⟩  -- back[k] != text[len(text) - 1 - k]
        refine iteNS rfl ?_
        exact ⟨rfl, _, rfl⟩
      · rintro σ H3 ⟨rfl, v1, rfl⟩
        refine ⟨_, rfl, _, rfl, t, n, true, rfl, hn, fun D H1 hD s1 hd => ?_⟩  -- rows = windows(text, length, True)
        have hw : Wd.win t n true = Wd.ringW t n := if_pos rfl
        rw [hw] at hd
        refine ⟨_, rfl, _, rfl, (by omega), _, rfl, _, rfl, _, rfl, ?_⟩  -- len(text) == 0
        refine ite2 (fun h0 => ?_) (fun h0 => ?_)
        · have e0 : ((t.length : Nat) : Int) = 0 := of_decide_eq_true h0
          have e : t = [] := List.length_eq_zero_iff.mp (by omega)
          subst e
          rw [Wd.rotZ_nil]
          refine ⟨_, rfl, (by show 0 ≤ sizeLine; omega), fun p hp => ?_⟩
          refine ⟨D, p, [], [], rfl, rfl, SqL.of (by rw [upd_ne (ne_of_none hd hp)]; exact hd), SqL.of upd_same, _, rfl, iteT ?_⟩
          refine ⟨_, rfl, _, rfl, _, rfl, _, rfl, iteT ?_⟩
          refine ⟨_, rfl, _, rfl, _, rfl, ?_⟩
          exact q _ (s1.trans fun b o e => by rw [upd_ne (ne_of_none e hp)]; exact e)
        · have h0' : ¬ ((t.length : Nat) : Int) = 0 := fun z => h0 (decide_eq_true z)
          have ht : 0 < t.length := by omega
          have m0 := Int.emod_nonneg a (show ((t.length : Nat) : Int) ≠ 0 by omega)
          have m1 := Int.emod_lt_of_pos a (show (0 : Int) < ((t.length : Nat) : Int) by omega)
          refine ⟨_, rfl, _, rfl, _, rfl, (by omega), _, _, rfl, rfl, (by show (0 : Int) < ((t.length : Nat) : Int); omega), ?_⟩  -- at = one % len(text)
          obtain ⟨m, hm⟩ := Int.eq_ofNat_of_zero_le m0
          have hm' : a % ((t.length : Nat) : Int) = (m : Int) := hm
          have er : Wd.rotZ t a = Wd.rotN t m := by rw [Wd.rotZ, hm', Int.toNat_natCast]
          have hwl := Wd.ringW_len t n
          refine ⟨_, rfl, _, rfl, Wd.rotZ t a, n, true, rfl, ⟨by omega, by omega, by omega⟩, fun D2 H4 hD2 s2 hd2 => ?_⟩
          have hw2 : Wd.win (Wd.rotZ t a) n true = Wd.rotN (Wd.ringW t n) m := by rw [er]; exact (if_pos rfl).trans (Wd.ringW_rot (by omega))
          rw [hw2] at hd2
          have c1 : cutV ((Wd.ringW t n).map T) (some (a % ((t.length : Nat) : Int))) none = ((Wd.ringW t n).drop m).map T := by rw [hm']; exact cutV_from (by omega)
          have c2 : cutV ((Wd.ringW t n).map T) none (some (a % ((t.length : Nat) : Int))) = ((Wd.ringW t n).take m).map T := by rw [hm']; exact cutV_to (by omega)
          refine ⟨_, rfl, _, rfl, _, rfl, D, _, rfl, SqL.of (s2 D _ hd), fun p hp => ?_⟩
          dsimp only
          rw [c1]
          have hd3 : upd H4 p (.lst (((Wd.ringW t n).drop m).map T)) D = some (.lst ((Wd.ringW t n).map T)) := by rw [upd_ne (ne_of_none (s2 D _ hd) hp)]; exact s2 D _ hd
          refine ⟨_, rfl, _, rfl, _, rfl, D, _, rfl, SqL.of hd3, fun p2 hp2 => ?_⟩
          dsimp only
          rw [c2]
          generalize hH5 : upd (upd H4 p (.lst (((Wd.ringW t n).drop m).map T))) p2 (.lst (((Wd.ringW t n).take m).map T)) = H5
          have sA : Same (upd H4 p (.lst (((Wd.ringW t n).drop m).map T))) H5 := fun b o e => by rw [← hH5, upd_ne (ne_of_none e hp2)]; exact e
          have sB : Same H4 H5 := fun b o e => sA b o (by rw [upd_ne (ne_of_none e hp)]; exact e)
          have hp5 : H5 p = some (.lst (((Wd.ringW t n).drop m).map T)) := sA p _ upd_same
          have hp25 : H5 p2 = some (.lst (((Wd.ringW t n).take m).map T)) := by rw [← hH5]; exact upd_same
          refine ⟨p, p2, _, _, rfl, rfl, SqL.of hp5, SqL.of hp25, (by rw [List.length_map, List.length_map, List.length_drop, List.length_take]; omega), fun p3 hp3 => ?_⟩
          rw [← List.map_append]
          have sC : Same H5 (upd H5 p3 (.lst (((Wd.ringW t n).drop m ++ (Wd.ringW t n).take m).map T))) := fun b o e => by rw [upd_ne (ne_of_none e hp3)]; exact e
          refine ⟨D2, p3, _, _, rfl, rfl, SqL.of (sC D2 _ (sB D2 _ hd2)), SqL.of upd_same, _, rfl, ?_⟩  -- windows(found, length, True) != rows[at:] + rows[:at]
          refine iteNS rfl ?_
          generalize upd H5 p3 (.lst (((Wd.ringW t n).drop m ++ (Wd.ringW t n).take m).map T)) = H6 at sC
          have sD : Same H4 H6 := sB.trans sC
          have hd6 : H6 D = some (.lst ((Wd.ringW t n).map T)) := sD D _ (s2 D _ hd)
          refine ⟨_, rfl, D, rfl, ⟨_, SqL.of hd6⟩, ?_⟩
          refine comp_list (K := K) (xs := (Wd.ringW t n).map T) (fun i => T (Wd.ringAt t n i).reverse) (SqL.of hd6) (by rw [List.length_map]; omega) (fun i x H7 hx s7 N hN => ?_) fun D3 H7 hD3 s7 hd7 => ?_
          · rw [List.getElem?_map] at hx
            obtain ⟨z, hz, rfl⟩ := Option.map_eq_some_iff.mp hx
            have hi : i < t.length := by
              rcases Nat.lt_or_ge i t.length with y | y
              · exact y
              · rw [List.getElem?_eq_none (by omega)] at hz; cases hz
            rw [Wd.ringW_get hi] at hz
            cases hz
            have hll := Wd.ringAt_len t n i
            exact ⟨_, rfl, Wd.ringAt t n i, rfl, (by omega), hN H7 (Same.refl _)⟩
          · have hd7' : H7 D3 = some (.lst (((Wd.ringW t n).map List.reverse).map T)) := by
              rw [hd7, List.length_map, hwl, Wd.ringW, List.map_map, List.map_map]
              rfl
            refine ⟨D3, _, rfl, SqL.of hd7', fun ms D4 hD4 hp1 hw1 => ?_⟩
            refine ⟨_, rfl, _, rfl, t.reverse, n, true, rfl, ⟨by omega, by omega, by omega⟩, fun D5 H8 hD5 s8 hd8 => ?_⟩
            have hw3 : Wd.win t.reverse n true = Wd.ringW t.reverse n := if_pos rfl
            rw [hw3] at hd8
            refine ⟨D5, _, rfl, SqL.of hd8, fun ms2 D6 hD6 hp4 hw4 => ?_⟩
            have e : ms = ms2 := Wd.sorted_same ((hp1.trans (Wd.ringW_mirror ht hn.2.1)).trans hp4.symm) hw1 hw4
            have sE : Same H8 (upd H8 D6 (.lst (ms2.map T))) := fun b o e => by rw [upd_ne (ne_of_none e hD6)]; exact e
            refine ⟨D4, D6, ms, ms2, rfl, rfl, SqL.of (sE D4 _ (s8 D4 _ upd_same)), SqL.of upd_same, ?_⟩
            rw [decide_eq_true e]
            have sF : Same H7 (upd H7 D4 (.lst (ms.map T))) := fun b o e => by rw [upd_ne (ne_of_none e hD4)]; exact e
            exact q _ (s1.trans (s2.trans (sD.trans (s7.trans (sF.trans (s8.trans sE))))))
theorem abc_at {s : Int} (h0 : 0 ≤ s) (h1 : s < 6) : ∃ c, atI [97, 98, 99, 100, 101, 102] s = some c := by
  obtain ⟨m, hm⟩ := Int.eq_ofNat_of_zero_le h0
  have hm' : s = (m : Int) := hm
  subst hm'
  have key : ∀ m : Nat, m < 6 → ([97, 98, 99, 100, 101, 102] : List Nat)[m]? = some (97 + m) := by decide
  exact ⟨_, atI_nat (key m (by omega))⟩
def abcZ (s : Int) : Nat := (atI [97, 98, 99, 100, 101, 102] s).getD 97
theorem abcZ_at {s : Int} (h0 : 0 ≤ s) (h1 : s < 6) : atI [97, 98, 99, 100, 101, 102] s = some (abcZ s) := by
  obtain ⟨c, e⟩ := abc_at h0 h1
  rw [abcZ, e]
  rfl
theorem ones_len (g : Nat → Nat) (n : Nat) : ((List.range n).map fun i => [g i]).flatten.length = n := by
  induction n with
  | zero => rfl
  | succ n ih => rw [List.range_succ, List.map_append, List.flatten_append, List.length_append, ih]; rfl
theorem cutV_ints {ns : List Int} {lo hi : Option Int} : ∃ ms : List Int, cutV (ns.map V.int) lo hi = ms.map V.int := by
  refine ⟨(ns.drop (HT.sIx ns.length 0 lo)).take (HT.sIx ns.length ns.length hi - HT.sIx ns.length 0 lo), ?_⟩
  rw [cutV, List.length_map, List.map_take, List.map_drop]
theorem cutV_len_to {xs : List V} {k : Nat} : (cutV xs none (some (k : Int))).length ≤ k := by
  unfold cutV
  rw [HT.sIx_nat, HT.sIx_none, List.length_take]
  omega
theorem rep_ints (ns : List Int) : ∀ k : Nat, (List.replicate k (ns.map V.int)).flatten = ((List.replicate k ns).flatten).map V.int
  | 0 => rfl
  | k + 1 => by rw [List.replicate_succ, List.flatten_cons, rep_ints ns k, List.replicate_succ, List.flatten_cons, List.map_append]
/-- law's: a list of at most 63 ints is handed in, True comes out -/
def spLaw (K : PySem.W.Frag) : Sp := fun vs H Q _ => ∃ (a : Addr) (ns : List Int), vs = [.ref a] ∧ SqL K H a (ns.map V.int) ∧ ns.length ≤ 63 ∧ ∀ H', Q (.bl true) H'
theorem ok_law {f : Addr} {fd : FuncData} (F : Fun K "law" "law" s_law f fd) (tt : Txt mg) (C__law_mix : Cal P w K mg base CX0 "_law_mix" 1 ["cell", "k"] spMix) (C__law_cell_at : Cal P w K mg base CX0 "_law_cell_at" 1 ["script", "k"] (spCell K))
    (C__law_one : Cal P w K mg base CX0 "_law_one" 3 ["text", "one", "two", "length"] spOne) : FnOk P w K mg base CX0 4 f fd ["script"] (spLaw K) := by
  refine F.ok sc_law (fun vs H Q E h => ?_) (fun cdv A outer s H vs Q E hr h => ?_)
  · obtain ⟨a, ns, rfl, _⟩ := h
    rfl
  · obtain ⟨a, ns, rfl, hS, hlen, q⟩ := h
    have hs : sizeLine = 16777216 := sizeLine_eq
    refine ⟨_, (pss_cons (ps_set (i := 1) sc_law.nd rfl (Or.inr rfl) (pe_op op_add pe_int (pe_op op_mod (pe_cal C__law_cell_at hr pass0 (pa_cons (pv 0) (pa_cons pe_int pa_nil))) pe_int)))
      (pss_cons (ps_set (i := 2) sc_law.nd rfl (Or.inr rfl) (pe_slice sl_list (pe_op op_repL (pv 0) (pe_op op_add pe_int (pe_op op_mod (pe_op op_fdiv (pe_cal C__law_mix hr pass0 (pa_cons (pe_callB (call_sum rfl) (by rfl) tt.b_sum PyProof.Rows.boot_sum (pa_cons (pv 0) pa_nil)) (pa_cons pe_int pa_nil))) pe_int) pe_int))) po_none (po_some pe_int)))
      (pss_cons (ps_setComp (i := 3) cs_law_0 rfl (pi_range1 (by rfl) tt.b_range (pa_cons (pe_callB call_len_seq (by rfl) tt.b_len PySem.boot_len (pa_cons (pv 2) pa_nil)) pa_nil)) (fun cl C s' H' fp => (pe_op op_mod (pe_op op_fdiv (pe_cal C__law_mix hr pass0 (pa_cons (pe_ix (ix_list_K K rfl) (pv 3) (pv 0) (fun _ _ => rfl)) (pa_cons (pe_op op_add pe_int (pe_op op_fdiv (pv 0) (pe_callB (call_len_K K rfl) (by rfl) tt.b_len PySem.boot_len (pa_cons (pv 1) pa_nil)))) pa_nil))) pe_int) (pv 2))) sc_law.nd rfl rfl)
      (pss_cons (ps_set (i := 4) sc_law.nd rfl (Or.inl rfl) (pe_bm PySem.F.plainAttrs_str PySem.F.slot_str_join PySem.F.type_str_join mt_join (pe_strT [] (by decide +kernel)) (pa_cons (pe_comp cs_law_1 rfl (pi_list (pv 3)) (fun cl C s' H' fp => (pe_ix ix_T (pe_strT [97, 98, 99, 100, 101, 102] (by decide +kernel)) (pv 0) (fun _ _ => rfl)))) pa_nil)))
      (pss_cons (ps_for PassesOwn.never rfl (pi_list (pe_op op_catL (pe_lst (pa_cons pe_int pa_nil)) (pe_slice sl_list (pv 0) po_none (po_some pe_int)))) (pg_name (i := 5) sc_law.nd rfl (Or.inl rfl)) (pss_cons (ps_set (i := 6) sc_law.nd rfl (Or.inl rfl) (pe_slice sl_T (pv 4) po_none (po_some (pe_op op_mod (pe_op op_fdiv (pe_cal C__law_mix hr pass0 (pa_cons (pv 5) (pa_cons pe_int pa_nil))) pe_int) (pe_op op_add (pe_callB call_len_T (by rfl) tt.b_len PySem.boot_len (pa_cons (pv 4) pa_nil)) pe_int)))))
      (pss_cons (ps_set (i := 7) sc_law.nd rfl (Or.inl rfl) (pe_op op_sub (pe_op op_mod (pv 5) (pe_op op_mul pe_int (pe_op op_pow pe_int pe_int))) (pe_op op_pow pe_int pe_int)))
      (pss_cons (ps_set (i := 8) sc_law.nd rfl (Or.inl rfl) (pe_op op_sub (pe_op op_mod (pe_cal C__law_mix hr pass0 (pa_cons (pv 5) (pa_cons pe_int pa_nil))) pe_int) pe_int))
      (pss_cons (ps_if (pt_not (pt_val (pe_cal C__law_one hr pass0 (pa_cons (pv 6) (pa_cons (pv 7) (pa_cons (pv 8) (pa_cons (pe_op op_add pe_int (pe_op op_mod (pe_op op_fdiv (pe_cal C__law_mix hr pass0 (pa_cons (pv 5) (pa_cons pe_int pa_nil))) pe_int) pe_int)) pa_nil))))))) (pss_one (ps_ret pe_bl)) pss_nil)
      (pss_one (ps_if (pt_not (pt_val (pe_cal C__law_one hr pass0 (pa_cons (pv 4) (pa_cons (pv 8) (pa_cons (pv 7) (pa_cons (pe_op op_add pe_int (pe_op op_mod (pe_op op_fdiv (pe_cal C__law_mix hr pass0 (pa_cons (pv 5) (pa_cons pe_int pa_nil))) pe_int) pe_int)) pa_nil))))))) (pss_one (ps_ret pe_bl)) pss_nil)))))))
      (pss_one (ps_ret pe_bl))))))), ?_⟩
    refine ⟨_, rfl, a, ns, 0, rfl, hS, _, _, rfl, rfl, (by show (0 : Int) < 6; decide), _, _, rfl, rfl, ?_⟩  -- kinds = 1 + _law_cell_at(script, 0) % 6
    have k0 := Int.emod_nonneg (ns.getD 0 0) (show (6 : Int) ≠ 0 by decide)
    have k1 := Int.emod_lt_of_pos (ns.getD 0 0) (show (0 : Int) < 6 by decide)
    dsimp only
    generalize hkd : 1 + ns.getD 0 0 % 6 = kinds
    refine ⟨_, rfl, _, rfl, a, ns, rfl, hS, fun sm => ?_⟩
    have m0 := Int.emod_nonneg (mixZ sm 7 / 3) (show (3 : Int) ≠ 0 by decide)
    have m1 := Int.emod_lt_of_pos (mixZ sm 7 / 3) (show (0 : Int) < 3 by decide)
    obtain ⟨tm, htm⟩ := Int.eq_ofNat_of_zero_le (show 0 ≤ 1 + mixZ sm 7 / 3 % 3 by omega)
    have htm' : 1 + mixZ sm 7 / 3 % 3 = ((tm : Nat) : Int) := htm
    have htb : 1 ≤ tm ∧ tm ≤ 3 := ⟨by omega, by omega⟩
    have hmul : (ns.map V.int).length * tm ≤ 63 * 3 := by rw [List.length_map]; exact Nat.mul_le_mul (by omega) htb.2
    refine ⟨_, _, rfl, ⟨by decide, by decide⟩, _, _, rfl, rfl, ⟨by decide, by decide⟩, _, _, rfl, rfl, (by show (0 : Int) < 3; decide), _, _, rfl, rfl, a, tm, _, rfl, congrArg V.int htm', hS, ⟨by omega, by omega⟩, fun p hp => ?_⟩
    refine ⟨_, rfl, p, _, rfl, SqL.of upd_same, fun p2 hp2 => ?_⟩  -- cells = (script * ..)[:120]
    obtain ⟨cs, hcs⟩ : ∃ cs : List Int, cutV (List.replicate tm (ns.map V.int)).flatten none (some 120) = cs.map V.int := by
      rw [rep_ints]
      exact cutV_ints
    have hcl : cs.length ≤ 120 := by
      have := cutV_len_to (xs := (List.replicate tm (ns.map V.int)).flatten) (k := 120)
      have e := congrArg List.length hcs
      rw [List.length_map] at e
      rw [← e]
      exact this
    have hcp : 0 < cs.length → 0 < ns.length := by
      intro z
      have e := congrArg List.length hcs
      have e2 := cutV_length (List.replicate tm (ns.map V.int)).flatten none (some 120)
      rw [len_rep] at e2
      rcases Nat.eq_zero_or_pos ns.length with y | y
      · rw [List.length_map, y, Nat.mul_zero] at e2
        rw [List.length_map] at e
        omega
      · exact y
    rw [hcs]
    generalize hH2 : upd (upd H p (.lst (List.replicate tm (ns.map V.int)).flatten)) p2 (.lst (cs.map V.int)) = H2
    have s2 : Same H H2 := fun b o e => by
      have e1 : upd H p (.lst (List.replicate tm (ns.map V.int)).flatten) b = some o := by rw [upd_ne (ne_of_none e hp)]; exact e
      rw [← hH2, upd_ne (ne_of_none e1 hp2)]
      exact e1
    have hp2' : H2 p2 = some (.lst (cs.map V.int)) := by rw [← hH2]; exact upd_same
    have hS2 := s2.seq hS
    refine ⟨_, rfl, p2, _, rfl, .inl (SqL.of hp2'), _, rfl, by rw [List.length_map]; omega, by rw [List.length_map]; omega, ?_⟩
    rw [List.length_map, Int.toNat_natCast]
    refine comp_range (lo := 0) (n := cs.length) (fun i => .int (mixZ (cs.getD i 0) (5 + (0 + (i : Int)) / ((ns.length : Nat) : Int)) / 7 % kinds)) (by omega) (fun i H4 hi s4 N hN => ?_) fun D H4 hD s4 hd4 => ?_
    · have hns := hcp (by omega)
      have d0 : 0 ≤ (0 + (i : Int)) / ((ns.length : Nat) : Int) := Int.ediv_nonneg (by omega) (by omega)
      have d1 : (0 + (i : Int)) / ((ns.length : Nat) : Int) ≤ 0 + (i : Int) := Int.ediv_le_self _ (by omega)
      have hat : atI (cs.map V.int) (0 + (i : Int)) = some (.int (cs.getD i 0)) := by
        rw [Int.zero_add]
        exact atI_nat (by rw [List.getElem?_map, List.getD_eq_getElem?_getD, List.getElem?_eq_getElem hi]; rfl)
      refine ⟨_, rfl, _, rfl, p2, _, _, _, rfl, rfl, SqL.of (s4 p2 _ hp2'), hat, _, rfl, _, rfl, a, _, rfl, .inl (s4.seq hS2), _, _, rfl, rfl, ⟨by rw [List.length_map]; omega, by rw [List.length_map]; omega⟩, _, _, rfl, rfl, _, _, rfl, ⟨by rw [List.length_map]; omega, by rw [List.length_map]; omega⟩, ?_⟩
      rw [List.length_map]
      exact ⟨_, _, rfl, rfl, ⟨by decide, by decide⟩, _, rfl, _, _, rfl, rfl, (by show (0 : Int) < kinds; omega), hN H4 (Same.refl _)⟩
    · have hD4 : H4 D = some (.lst (((List.range cs.length).map fun i => mixZ (cs.getD i 0) (5 + (0 + (i : Int)) / ((ns.length : Nat) : Int)) / 7 % kinds).map V.int)) := by rw [hd4, List.map_map]; rfl
      have hsg : ∀ z ∈ ((List.range cs.length).map fun i => mixZ (cs.getD i 0) (5 + (0 + ((i : Nat) : Int)) / ((ns.length : Nat) : Int)) / 7 % kinds), 0 ≤ z ∧ z < 6 := fun z hz => by
        obtain ⟨i, _, rfl⟩ := List.mem_map.mp hz
        have g0 := Int.emod_nonneg (mixZ (cs.getD i 0) (5 + (0 + ((i : Nat) : Int)) / ((ns.length : Nat) : Int)) / 7) (show kinds ≠ 0 by omega)
        have g1 := Int.emod_lt_of_pos (mixZ (cs.getD i 0) (5 + (0 + ((i : Nat) : Int)) / ((ns.length : Nat) : Int)) / 7) (show 0 < kinds by omega)
        omega
      have hsl : ((List.range cs.length).map fun i => mixZ (cs.getD i 0) (5 + (0 + ((i : Nat) : Int)) / ((ns.length : Nat) : Int)) / 7 % kinds).length = cs.length := by rw [List.length_map, List.length_range]
      generalize ((List.range cs.length).map fun i => mixZ (cs.getD i 0) (5 + (0 + ((i : Nat) : Int)) / ((ns.length : Nat) : Int)) / 7 % kinds) = sg at hD4 hsg hsl
      -- text = ''.join(['abcdef'[sign] for sign in signs])
      refine ⟨rfl, _, rfl, D, rfl, ⟨_, SqL.of hD4⟩, ?_⟩
      refine comp_list (K := K) (xs := sg.map V.int) (fun i => T [abcZ (sg.getD i 0)]) (SqL.of hD4) (by rw [List.length_map]; omega) (fun i x H5 hx s5 N hN => ?_) fun D2 H5 hD2 s5 hd5 => ?_
      · rw [List.getElem?_map] at hx
        obtain ⟨z, hz, rfl⟩ := Option.map_eq_some_iff.mp hx
        have hz2 := hsg z (List.mem_of_getElem? hz)
        have e : sg.getD i 0 = z := by rw [List.getD_eq_getElem?_getD, hz]; rfl
        have hN' := hN H5 (Same.refl _)
        rw [e] at hN'
        exact ⟨_, rfl, _, rfl, _, rfl, (by show 6 ≤ sizeLine; omega), _, abcZ_at hz2.1 hz2.2, hN'⟩
      · rw [List.length_map] at hd5
        refine ⟨rfl, D2, (List.range sg.length).map fun i => [abcZ (sg.getD i 0)], rfl, SqL.of (by rw [hd5, List.map_map]; rfl), (by rw [ones_len]; omega), ?_⟩
        have htl := ones_len (fun i => abcZ (sg.getD i 0)) sg.length
        generalize ((List.range sg.length).map fun i => [abcZ (sg.getD i 0)]).flatten = text at htl
        -- [0] + script[:12]
        refine ⟨(by show 1 ≤ sizeLine; omega), fun p3 hp3 => ?_⟩
        have s3 : Same H (upd H5 p3 (.lst [.int 0])) := fun b o e => by
          have e1 := s5 b o (s4 b o (s2 b o e))
          rw [upd_ne (ne_of_none e1 hp3)]
          exact e1
        refine ⟨_, rfl, _, rfl, a, _, rfl, s3.seq hS, fun p4 hp4 => ?_⟩
        obtain ⟨ds, hds⟩ : ∃ ds : List Int, cutV (ns.map V.int) none (some 12) = ds.map V.int := cutV_ints
        have hdl : ds.length ≤ 12 := by
          have := cutV_len_to (xs := ns.map V.int) (k := 12)
          have e := congrArg List.length hds
          rw [List.length_map] at e
          rw [← e]
          exact this
        rw [hds]
        refine ⟨p3, p4, [.int 0], ds.map V.int, rfl, rfl, SqL.of (by rw [upd_ne (ne_of_none upd_same hp4)]; exact upd_same), SqL.of upd_same, (by rw [List.length_map]; show 1 + ds.length ≤ sizeLine; omega), fun c hc => ?_⟩
        generalize hH6 : upd (upd (upd H5 p3 (.lst [.int 0])) p4 (.lst (ds.map V.int))) c (.lst ([.int 0] ++ ds.map V.int)) = H6
        have hc6 : H6 c = some (.lst ([.int 0] ++ ds.map V.int)) := by rw [← hH6]; exact upd_same
        refine ⟨c, rfl, ⟨_, SqL.of hc6⟩, ?_⟩
        refine for_list (K := K) (a := c) (xs := [.int 0] ++ ds.map V.int) (fun i σ H7 => Same H6 H7 ∧ ∃ v1 v2 v3 v4, σ = [some (.ref a), some (.int kinds), some (.ref p2), some (.ref D), some (T text), v1, v2, v3, v4]) ⟨Same.refl _, none, none, none, none, rfl⟩
          (fun i σ H7 _ ⟨s7, _⟩ => SqL.of (s7 c _ hc6)) ?_ ?_
        · rintro i y σ H7 hi ⟨s7, v1, v2, v3, v4, rfl⟩
          obtain ⟨z, rfl⟩ : ∃ z, y = V.int z := by
            rcases List.mem_append.mp (List.mem_of_getElem? hi) with g | g
            · exact ⟨0, by simpa using g⟩
            · obtain ⟨z, _, e⟩ := List.mem_map.mp g
              exact ⟨z, e.symm⟩
          refine ⟨_, rfl, _, rfl, _, _, rfl, ⟨by decide, by decide⟩, _, _, rfl, rfl, ⟨by decide, by decide⟩, _, rfl, _, rfl, (by omega), _, _, rfl, rfl, _, _, rfl, rfl, (by show (0 : Int) < ((text.length : Nat) : Int) + 1; omega), _, rfl, _, rfl, (by omega), ?_⟩  -- part = text[:..]
          have hcut := cutL_length_le text none (some (mixZ z 4 / 3 % (((text.length : Nat) : Int) + 1)))
          dsimp only
          generalize cutL text none (some (mixZ z 4 / 3 % (((text.length : Nat) : Int) + 1))) = part at hcut
          refine ⟨_, rfl, _, _, rfl, rfl, ⟨by decide, by decide, by decide⟩, _, _, rfl, rfl, .inl ⟨by decide +kernel, by decide +kernel⟩, _, _, rfl, rfl, (by show (0 : Int) < 2 * 10 ^ 59; decide +kernel), _, _, rfl, rfl, ⟨by decide, by decide, by decide⟩, _, _, rfl, rfl, ?_⟩  -- one = cell % (2 * 10 ** 59) - 10 ** 59
          refine ⟨_, rfl, _, _, rfl, ⟨by decide, by decide⟩, _, _, rfl, rfl, (by show (0 : Int) < 41; decide), _, _, rfl, rfl, ?_⟩  -- two = _law_mix(cell, 6) % 41 - 20
          obtain ⟨n, hn, hn1, hn2⟩ : ∃ n : Nat, 1 + mixZ z 1 / 5 % 9 = ((n : Nat) : Int) ∧ 1 ≤ n ∧ n ≤ 24 := by
            have g0 := Int.emod_nonneg (mixZ z 1 / 5) (show (9 : Int) ≠ 0 by decide)
            have g1 := Int.emod_lt_of_pos (mixZ z 1 / 5) (show (0 : Int) < 9 by decide)
            exact ⟨(1 + mixZ z 1 / 5 % 9).toNat, by omega, by omega, by omega⟩
          obtain ⟨n2, hn', hn1', hn2'⟩ : ∃ n : Nat, 1 + mixZ z 2 / 5 % 4 = ((n : Nat) : Int) ∧ 1 ≤ n ∧ n ≤ 24 := by
            have g0 := Int.emod_nonneg (mixZ z 2 / 5) (show (4 : Int) ≠ 0 by decide)
            have g1 := Int.emod_lt_of_pos (mixZ z 2 / 5) (show (0 : Int) < 4 by decide)
            exact ⟨(1 + mixZ z 2 / 5 % 4).toNat, by omega, by omega, by omega⟩
          refine ⟨_, rfl, _, rfl, _, rfl, _, rfl, _, _, rfl, ⟨by decide, by decide⟩, _, _, rfl, rfl, ⟨by decide, by decide⟩, _, _, rfl, rfl, (by show (0 : Int) < 9; decide), _, _, rfl, rfl, part, _, _, n, (by rw [← hn]; rfl), ⟨by omega, by omega, by omega⟩, fun H8 s8 => ⟨_, rfl, iteF ?_⟩⟩  -- _law_one(part, one, two, ..)
          refine ⟨_, rfl, _, rfl, _, rfl, _, rfl, _, _, rfl, ⟨by decide, by decide⟩, _, _, rfl, rfl, ⟨by decide, by decide⟩, _, _, rfl, rfl, (by show (0 : Int) < 4; decide), _, _, rfl, rfl, text, _, _, n2, (by rw [← hn']; rfl), ⟨by omega, by omega, by omega⟩, fun H9 s9 => ⟨_, rfl, iteF ?_⟩⟩  -- _law_one(text, two, one, ..)
          exact ⟨(s7.trans s8).trans s9, _, _, _, _, rfl⟩
        · rintro σ H7 ⟨s7, v1, v2, v3, v4, rfl⟩
          exact q H7

end
theorem all_mk {l : PySem.W.OpenLaw} {w : World} {K : PySem.W.Frag} {h : Heap} {mg : Str → Option Value} {fa : Addr} (X : K.In h) (G : h.Ns mainGlobals mg) (hfa : mg "law" = some (.ref fa))
    {f_row_windows : Addr} {od_row_windows an_row_windows : Option Addr} {sl_row_windows : Array (Option Value)} {oc_row_windows kV_row_windows dc_row_windows pm_row_windows cd_row_windows ct_row_windows : Value}
    {f_ring_windows : Addr} {od_ring_windows an_ring_windows : Option Addr} {sl_ring_windows : Array (Option Value)} {oc_ring_windows kV_ring_windows dc_ring_windows pm_ring_windows cd_ring_windows ct_ring_windows : Value}
    {f_windows : Addr} {od_windows an_windows : Option Addr} {sl_windows : Array (Option Value)} {oc_windows kV_windows dc_windows pm_windows cd_windows ct_windows : Value}
    {f_turned : Addr} {od_turned an_turned : Option Addr} {sl_turned : Array (Option Value)} {oc_turned kV_turned dc_turned pm_turned cd_turned ct_turned : Value}
    {f_mirrored : Addr} {od_mirrored an_mirrored : Option Addr} {sl_mirrored : Array (Option Value)} {oc_mirrored kV_mirrored dc_mirrored pm_mirrored cd_mirrored ct_mirrored : Value}
    {f__law_mix : Addr} {od__law_mix an__law_mix : Option Addr} {sl__law_mix : Array (Option Value)} {oc__law_mix kV__law_mix dc__law_mix pm__law_mix cd__law_mix ct__law_mix : Value}
    {f__law_cell_at : Addr} {od__law_cell_at an__law_cell_at : Option Addr} {sl__law_cell_at : Array (Option Value)} {oc__law_cell_at kV__law_cell_at dc__law_cell_at pm__law_cell_at cd__law_cell_at ct__law_cell_at : Value}
    {f__law_one : Addr} {od__law_one an__law_one : Option Addr} {sl__law_one : Array (Option Value)} {oc__law_one kV__law_one dc__law_one pm__law_one cd__law_one ct__law_one : Value}
    {f_law : Addr} {od_law an_law : Option Addr} {sl_law : Array (Option Value)} {oc_law kV_law dc_law pm_law cd_law ct_law : Value}
    (a_row_windows : PySem.W.nsIn K mainGlobals "row_windows" = some (some (.ref f_row_windows))) (l_row_windows : K.lookup f_row_windows = some ⟨oc_row_windows, od_row_windows, .func (PySem.W.fnOf "row_windows" "row_windows" (defArgs s_row_windows) (defBody s_row_windows) (defScope s_row_windows) .none kV_row_windows dc_row_windows pm_row_windows an_row_windows cd_row_windows ct_row_windows), sl_row_windows⟩) (c_row_windows : PySem.W.codeIn K cd_row_windows "row_windows" = true) (k_row_windows : PySem.W.keepIn K (.ref f_row_windows) = true)
    (a_ring_windows : PySem.W.nsIn K mainGlobals "ring_windows" = some (some (.ref f_ring_windows))) (l_ring_windows : K.lookup f_ring_windows = some ⟨oc_ring_windows, od_ring_windows, .func (PySem.W.fnOf "ring_windows" "ring_windows" (defArgs s_ring_windows) (defBody s_ring_windows) (defScope s_ring_windows) .none kV_ring_windows dc_ring_windows pm_ring_windows an_ring_windows cd_ring_windows ct_ring_windows), sl_ring_windows⟩) (c_ring_windows : PySem.W.codeIn K cd_ring_windows "ring_windows" = true) (k_ring_windows : PySem.W.keepIn K (.ref f_ring_windows) = true)
    (a_windows : PySem.W.nsIn K mainGlobals "windows" = some (some (.ref f_windows))) (l_windows : K.lookup f_windows = some ⟨oc_windows, od_windows, .func (PySem.W.fnOf "windows" "windows" (defArgs s_windows) (defBody s_windows) (defScope s_windows) .none kV_windows dc_windows pm_windows an_windows cd_windows ct_windows), sl_windows⟩) (c_windows : PySem.W.codeIn K cd_windows "windows" = true) (k_windows : PySem.W.keepIn K (.ref f_windows) = true)
    (a_turned : PySem.W.nsIn K mainGlobals "turned" = some (some (.ref f_turned))) (l_turned : K.lookup f_turned = some ⟨oc_turned, od_turned, .func (PySem.W.fnOf "turned" "turned" (defArgs s_turned) (defBody s_turned) (defScope s_turned) .none kV_turned dc_turned pm_turned an_turned cd_turned ct_turned), sl_turned⟩) (c_turned : PySem.W.codeIn K cd_turned "turned" = true) (k_turned : PySem.W.keepIn K (.ref f_turned) = true)
    (a_mirrored : PySem.W.nsIn K mainGlobals "mirrored" = some (some (.ref f_mirrored))) (l_mirrored : K.lookup f_mirrored = some ⟨oc_mirrored, od_mirrored, .func (PySem.W.fnOf "mirrored" "mirrored" (defArgs s_mirrored) (defBody s_mirrored) (defScope s_mirrored) .none kV_mirrored dc_mirrored pm_mirrored an_mirrored cd_mirrored ct_mirrored), sl_mirrored⟩) (c_mirrored : PySem.W.codeIn K cd_mirrored "mirrored" = true) (k_mirrored : PySem.W.keepIn K (.ref f_mirrored) = true)
    (a__law_mix : PySem.W.nsIn K mainGlobals "_law_mix" = some (some (.ref f__law_mix))) (l__law_mix : K.lookup f__law_mix = some ⟨oc__law_mix, od__law_mix, .func (PySem.W.fnOf "_law_mix" "_law_mix" (defArgs s__law_mix) (defBody s__law_mix) (defScope s__law_mix) .none kV__law_mix dc__law_mix pm__law_mix an__law_mix cd__law_mix ct__law_mix), sl__law_mix⟩) (c__law_mix : PySem.W.codeIn K cd__law_mix "_law_mix" = true) (k__law_mix : PySem.W.keepIn K (.ref f__law_mix) = true)
    (a__law_cell_at : PySem.W.nsIn K mainGlobals "_law_cell_at" = some (some (.ref f__law_cell_at))) (l__law_cell_at : K.lookup f__law_cell_at = some ⟨oc__law_cell_at, od__law_cell_at, .func (PySem.W.fnOf "_law_cell_at" "_law_cell_at" (defArgs s__law_cell_at) (defBody s__law_cell_at) (defScope s__law_cell_at) .none kV__law_cell_at dc__law_cell_at pm__law_cell_at an__law_cell_at cd__law_cell_at ct__law_cell_at), sl__law_cell_at⟩) (c__law_cell_at : PySem.W.codeIn K cd__law_cell_at "_law_cell_at" = true) (k__law_cell_at : PySem.W.keepIn K (.ref f__law_cell_at) = true)
    (a__law_one : PySem.W.nsIn K mainGlobals "_law_one" = some (some (.ref f__law_one))) (l__law_one : K.lookup f__law_one = some ⟨oc__law_one, od__law_one, .func (PySem.W.fnOf "_law_one" "_law_one" (defArgs s__law_one) (defBody s__law_one) (defScope s__law_one) .none kV__law_one dc__law_one pm__law_one an__law_one cd__law_one ct__law_one), sl__law_one⟩) (c__law_one : PySem.W.codeIn K cd__law_one "_law_one" = true) (k__law_one : PySem.W.keepIn K (.ref f__law_one) = true)
    (a_law : PySem.W.nsIn K mainGlobals "law" = some (some (.ref f_law))) (l_law : K.lookup f_law = some ⟨oc_law, od_law, .func (PySem.W.fnOf "law" "law" (defArgs s_law) (defBody s_law) (defScope s_law) .none kV_law dc_law pm_law an_law cd_law ct_law), sl_law⟩) (c_law : PySem.W.codeIn K cd_law "law" = true) (k_law : PySem.W.keepIn K (.ref f_law) = true)
    (z_isinstance : PySem.W.nsIn K mainGlobals "isinstance" = some none)
    (z_len : PySem.W.nsIn K mainGlobals "len" = some none)
    (z_range : PySem.W.nsIn K mainGlobals "range" = some none)
    (z_reversed : PySem.W.nsIn K mainGlobals "reversed" = some none)
    (z_sorted : PySem.W.nsIn K mainGlobals "sorted" = some none)
    (z_str : PySem.W.nsIn K mainGlobals "str" = some none)
    (z_sum : PySem.W.nsIn K mainGlobals "sum" = some none) :
    ∃ fd : FuncData, (∀ (s : Shared) (v : Value), BindsTo s fd ⟨[v], []⟩ [("script", v)]) ∧ ∀ base : Heap, K.In base → base.Ns mainGlobals mg → FnOk l.prog w K mg base CX0 4 fa fd ["script"] (spLaw K) := by
  have e := hfa.symm.trans (PySem.W.mg_of X G a_law)
  cases e
  have tt : Txt mg := ⟨PySem.W.mg_none_of X G z_isinstance, PySem.W.mg_none_of X G z_len, PySem.W.mg_none_of X G z_range, PySem.W.mg_none_of X G z_reversed, PySem.W.mg_none_of X G z_sorted, PySem.W.mg_none_of X G z_str, PySem.W.mg_none_of X G z_sum⟩
  have F_row_windows := fun_mk (st := s_row_windows) l_row_windows c_row_windows k_row_windows
  have b_row_windows := F_row_windows.binds (ps := ["text", "length"]) fun _ _ _ _ _ _ us hl => match us, hl with | [_, _], _ => rfl
  have F_ring_windows := fun_mk (st := s_ring_windows) l_ring_windows c_ring_windows k_ring_windows
  have b_ring_windows := F_ring_windows.binds (ps := ["text", "length"]) fun _ _ _ _ _ _ us hl => match us, hl with | [_, _], _ => rfl
  have F_windows := fun_mk (st := s_windows) l_windows c_windows k_windows
  have b_windows := F_windows.binds (ps := ["text", "length", "ring"]) fun _ _ _ _ _ _ us hl => match us, hl with | [_, _, _], _ => rfl
  have F_turned := fun_mk (st := s_turned) l_turned c_turned k_turned
  have b_turned := F_turned.binds (ps := ["text", "by"]) fun _ _ _ _ _ _ us hl => match us, hl with | [_, _], _ => rfl
  have F_mirrored := fun_mk (st := s_mirrored) l_mirrored c_mirrored k_mirrored
  have b_mirrored := F_mirrored.binds (ps := ["text"]) fun _ _ _ _ _ _ us hl => match us, hl with | [_], _ => rfl
  have F__law_mix := fun_mk (st := s__law_mix) l__law_mix c__law_mix k__law_mix
  have b__law_mix := F__law_mix.binds (ps := ["cell", "k"]) fun _ _ _ _ _ _ us hl => match us, hl with | [_, _], _ => rfl
  have F__law_cell_at := fun_mk (st := s__law_cell_at) l__law_cell_at c__law_cell_at k__law_cell_at
  have b__law_cell_at := F__law_cell_at.binds (ps := ["script", "k"]) fun _ _ _ _ _ _ us hl => match us, hl with | [_, _], _ => rfl
  have F__law_one := fun_mk (st := s__law_one) l__law_one c__law_one k__law_one
  have b__law_one := F__law_one.binds (ps := ["text", "one", "two", "length"]) fun _ _ _ _ _ _ us hl => match us, hl with | [_, _, _, _], _ => rfl
  have F_law := fun_mk (st := s_law) l_law c_law k_law
  refine ⟨PySem.W.fnOf "law" "law" (defArgs s_law) (defBody s_law) (defScope s_law) .none kV_law dc_law pm_law an_law cd_law ct_law, fun s v => .of_eq rfl, fun base _ _ => ?_⟩
  have C_row_windows : Cal l.prog w K mg base CX0 "row_windows" 1 ["text", "length"] spRowW := ⟨⟨_, _, ok_row_windows F_row_windows tt, PySem.W.mg_of X G a_row_windows, F_row_windows.kp, b_row_windows⟩⟩
  have C_ring_windows : Cal l.prog w K mg base CX0 "ring_windows" 1 ["text", "length"] spRingW := ⟨⟨_, _, ok_ring_windows F_ring_windows tt, PySem.W.mg_of X G a_ring_windows, F_ring_windows.kp, b_ring_windows⟩⟩
  have C_windows : Cal l.prog w K mg base CX0 "windows" 2 ["text", "length", "ring"] spWin := ⟨⟨_, _, ok_windows F_windows tt C_row_windows C_ring_windows, PySem.W.mg_of X G a_windows, F_windows.kp, b_windows⟩⟩
  have C_turned : Cal l.prog w K mg base CX0 "turned" 1 ["text", "by"] spTurn := ⟨⟨_, _, ok_turned F_turned tt, PySem.W.mg_of X G a_turned, F_turned.kp, b_turned⟩⟩
  have C_mirrored : Cal l.prog w K mg base CX0 "mirrored" 1 ["text"] spMir := ⟨⟨_, _, ok_mirrored F_mirrored tt, PySem.W.mg_of X G a_mirrored, F_mirrored.kp, b_mirrored⟩⟩
  have C__law_mix : Cal l.prog w K mg base CX0 "_law_mix" 1 ["cell", "k"] spMix := ⟨⟨_, _, ok__law_mix F__law_mix tt, PySem.W.mg_of X G a__law_mix, F__law_mix.kp, b__law_mix⟩⟩
  have C__law_cell_at : Cal l.prog w K mg base CX0 "_law_cell_at" 1 ["script", "k"] (spCell K) := ⟨⟨_, _, ok__law_cell_at F__law_cell_at tt, PySem.W.mg_of X G a__law_cell_at, F__law_cell_at.kp, b__law_cell_at⟩⟩
  have C__law_one : Cal l.prog w K mg base CX0 "_law_one" 3 ["text", "one", "two", "length"] spOne := ⟨⟨_, _, ok__law_one F__law_one tt C_turned C_mirrored C_windows, PySem.W.mg_of X G a__law_one, F__law_one.kp, b__law_one⟩⟩
  exact ok_law F_law tt C__law_mix C__law_cell_at C__law_one
theorem walk {l : PySem.W.OpenLaw} {q : Program} {loose : List Str} {XP : (Str → Option Value) → Heap → Prop} {YP : World → Heap → Prop} {d : DefRec} {K : Params → PySem.W.Frag} (hn : l.most = some 63) (hdf : d.params.defaults = [])
    (hY : ∀ (w : World) (h : Heap), YP w h → (K w.params).In h)
    (F : ∀ (w : World) (mg : Str → Option Value) (fa : Addr) (h : Heap), (K w.params).In h → h.Ns mainGlobals mg → mg d.name = some (.ref fa) →
      ∃ fd : FuncData, (∀ (s : Shared) (u : Value), BindsTo s fd ⟨[u], []⟩ [("script", u)]) ∧ ∀ base : Heap, (K w.params).In base → base.Ns mainGlobals mg → FnOk l.prog w (K w.params) mg base CX0 4 fa fd ["script"] (spLaw (K w.params))) :
    PySem.W.WalkO q loose XP YP l.row.toRowW d [] (fun f vs => PySem.call f vs) :=
  L2.walk_of (n := 63) (k := 4) (x := "script") (CX := fun _ => CX0) (sp := fun w => spLaw (K w.params)) hn (by decide) hdf ⟨rfl, by decide, by decide⟩ hY F (fun _ _ a ns hl _ hS => ⟨a, ns, rfl, hS, hl, fun _ => rfl⟩) fun _ _ _ _ _ z => z
end K06
open PySem PySem.W PyProof.Rows
set_option maxRecDepth 100000 in
set_option maxHeartbeats 0 in
theorem PySem.Challenge.cw_onceround_k06_whole_turned_and_mirrored_holds : PySem.Challenge.rw_onceround_k06_whole_turned_and_mirrored.Holds := by
  w_on; o_law; k_head; (case hw => w_witness2)
  k_fill
  refine K06.walk (l := PySem.Challenge.rw_onceround_k06_whole_turned_and_mirrored) rfl rfl (fun w h Y => PySem.W.kIn_of Y) ?F
  case F =>
    intro w mg fa h KX G hmg
    refine' K06.all_mk KX G hmg ?a_row_windows ?l_row_windows ?c_row_windows ?k_row_windows ?a_ring_windows ?l_ring_windows ?c_ring_windows ?k_ring_windows ?a_windows ?l_windows ?c_windows ?k_windows ?a_turned ?l_turned ?c_turned ?k_turned ?a_mirrored ?l_mirrored ?c_mirrored ?k_mirrored ?a__law_mix ?l__law_mix ?c__law_mix ?k__law_mix ?a__law_cell_at ?l__law_cell_at ?c__law_cell_at ?k__law_cell_at ?a__law_one ?l__law_one ?c__law_one ?k__law_one ?a_law ?l_law ?c_law ?k_law ?z_isinstance ?z_len ?z_range ?z_reversed ?z_sorted ?z_str ?z_sum
    (case a_row_windows => k_is)
    (case l_row_windows => k_is)
    (case c_row_windows => k_is)
    (case k_row_windows => k_is)
    (case a_ring_windows => k_is)
    (case l_ring_windows => k_is)
    (case c_ring_windows => k_is)
    (case k_ring_windows => k_is)
    (case a_windows => k_is)
    (case l_windows => k_is)
    (case c_windows => k_is)
    (case k_windows => k_is)
    (case a_turned => k_is)
    (case l_turned => k_is)
    (case c_turned => k_is)
    (case k_turned => k_is)
    (case a_mirrored => k_is)
    (case l_mirrored => k_is)
    (case c_mirrored => k_is)
    (case k_mirrored => k_is)
    (case a__law_mix => k_is)
    (case l__law_mix => k_is)
    (case c__law_mix => k_is)
    (case k__law_mix => k_is)
    (case a__law_cell_at => k_is)
    (case l__law_cell_at => k_is)
    (case c__law_cell_at => k_is)
    (case k__law_cell_at => k_is)
    (case a__law_one => k_is)
    (case l__law_one => k_is)
    (case c__law_one => k_is)
    (case k__law_one => k_is)
    (case a_law => k_is)
    (case l_law => k_is)
    (case c_law => k_is)
    (case k_law => k_is)
    (case z_isinstance => k_is)
    (case z_len => k_is)
    (case z_range => k_is)
    (case z_reversed => k_is)
    (case z_sorted => k_is)
    (case z_str => k_is)
    (case z_sum => k_is)
#print axioms PySem.Challenge.cw_onceround_k06_whole_turned_and_mirrored_holds
