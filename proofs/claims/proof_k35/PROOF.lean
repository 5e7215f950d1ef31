import PyProof.Rows.All
import Wide.All
import OpenK.AllK
import Wide.FinOn
import Lean
import PyProof.EqAt
import PyProof.EqKinds
import PyProof.TupleCall
import PySem.Challenge.RW_onceround_k35_whole_trees_alike_toward_a
set_option genSizeOfSpec false
set_option bootstrap.genMatcherCode false
-- CHANGE: your row's module here, as the last of these rows
set_option Elab.async false
set_option linter.all false
set_option maxRecDepth 100000
namespace L2
open PySem PySem.Spec PyProof.Rows

noncomputable abbrev Key := Sum Int Str
noncomputable def keyIs : Key → Value → Bool
  | .inl k, v => Value.isInt k v
  | .inr x, v => Value.isStrOf x v
noncomputable def keyH (w : World) : Key → Int
  | .inl k => hashInt k
  | .inr x => hashStr w x
theorem keyIs_shape : ∀ {k : Key} {v : Value}, keyIs k v = true → (∃ i t, k = Sum.inl i ∧ v = Value.int i t) ∨ (∃ x t, k = Sum.inr x ∧ v = Value.str x t)
  | .inl i, v, h => by
    obtain ⟨t, e⟩ := Value.isInt_shape (k := i) (v := v) h
    exact .inl ⟨i, t, rfl, e⟩
  | .inr x, v, h => by
    obtain ⟨t, e⟩ := Value.isStrOf_shape (x := x) (v := v) h
    exact .inr ⟨x, t, rfl, e⟩
theorem keyIs_int (i : Int) (t : Tok) : keyIs (.inl i) (.int i t) = true := by simp [keyIs, Value.isInt]
theorem keyIs_str (x : Str) (t : Tok) : keyIs (.inr x) (.str x t) = true := by simp [keyIs, Value.isStrOf]
theorem key_ll (a b : Int) : decide ((Sum.inl a : Key) = Sum.inl b) = (a == b) := by
  by_cases e : a = b
  · subst e; simp
  · have h : ¬ (Sum.inl a : Key) = Sum.inl b := fun q => e (Sum.inl.inj q)
    rw [decide_eq_false h]
    exact (beq_eq_false_iff_ne.mpr e).symm
theorem key_rr (a b : Str) : decide ((Sum.inr a : Key) = Sum.inr b) = decide (a = b) := by
  by_cases e : a = b
  · subst e; simp
  · have h : ¬ (Sum.inr a : Key) = Sum.inr b := fun q => e (Sum.inr.inj q)
    rw [decide_eq_false h, decide_eq_false e]
theorem key_lr (a : Int) (b : Str) : decide ((Sum.inl a : Key) = Sum.inr b) = false := decide_eq_false (fun q => nomatch q)
theorem key_rl (a : Str) (b : Int) : decide ((Sum.inr a : Key) = Sum.inl b) = false := decide_eq_false (fun q => nomatch q)

noncomputable def mixKind (prog : Program) (w : World) : PySem.KeyKind prog w Key where
  is := keyIs
  hash := keyH w
  inj := fun v a b ha hb => by
    rcases keyIs_shape ha with ⟨i, t, rfl, rfl⟩ | ⟨x, t, rfl, rfl⟩
    · rcases keyIs_shape hb with ⟨j, u, rfl, e⟩ | ⟨y, u, rfl, e⟩
      · injection e with e1 _; rw [e1]
      · exact nomatch e
    · rcases keyIs_shape hb with ⟨j, u, rfl, e⟩ | ⟨y, u, rfl, e⟩
      · exact nomatch e
      · injection e with e1 _; rw [e1]
  byValue := fun k v h => by
    rcases keyIs_shape h with ⟨i, t, rfl, rfl⟩ | ⟨x, t, rfl, rfl⟩ <;> rfl
  pyHash := fun hv h => by
    rcases keyIs_shape hv with ⟨i, t, rfl, rfl⟩ | ⟨x, t, rfl, rfl⟩
    · exact wpAny_pyHash_int h
    · exact wpAny_pyHash_str h
  eqBool := fun hu hv h => by
    rcases keyIs_shape hu with ⟨i, t, rfl, rfl⟩ | ⟨x, t, rfl, rfl⟩
    · rcases keyIs_shape hv with ⟨j, u, rfl, rfl⟩ | ⟨y, u, rfl, rfl⟩
      · rw [key_ll] at h; exact wpAny_eqBool_int h
      · rw [key_lr] at h; exact SeqAt.EqAt.int_str i t y u _ _ _ _ h
    · rcases keyIs_shape hv with ⟨j, u, rfl, rfl⟩ | ⟨y, u, rfl, rfl⟩
      · rw [key_rl] at h; exact SeqAt.EqAt.str_int x t j u _ _ _ _ h
      · rw [key_rr] at h; exact wpAny_eqBool_str h
  «strs» := fun k x t v h => by
    rcases keyIs_shape h with ⟨i, u, rfl, e⟩ | ⟨y, u, rfl, e⟩
    · exact nomatch e
    · injection e with e1 _
      subst e1
      cases v <;> rfl

theorem mixKind_int (prog : Program) (w : World) (i : Int) (t : Tok) : (mixKind prog w).is (.inl i) (.int i t) = true := keyIs_int i t
theorem mixKind_str (prog : Program) (w : World) (x : Str) (t : Tok) : (mixKind prog w).is (.inr x) (.str x t) = true := keyIs_str x t
end L2

namespace L2
open PySem PySem.Spec PyProof.Rows

inductive V where
  | non | bl (b : Bool) | int (i : Int) | str (x : Str) | byt (b : Array UInt8) | flt (b : UInt64) | ref (a : Addr) | ty (n : String)
  deriving DecidableEq

noncomputable def RelV : V → Value → Prop
  | .non, u => u = Value.none
  | .bl b, u => u = Value.bool b
  | .int i, u => ∃ t, u = Value.int i t
  | .str x, u => ∃ t, u = Value.str x t
  | .byt b, u => ∃ t, u = Value.bytes b t
  | .flt b, u => ∃ t, u = Value.float b t
  | .ref a, u => u = Value.ref a
  | .ty n, u => u = Value.type n

noncomputable abbrev Vals : List V → List Value → Prop := Paired RelV
theorem Vals.length {xs : List V} {us : List Value} (r : Vals xs us) : xs.length = us.length := Paired.length r
theorem Vals.get : ∀ {xs : List V} {us : List Value} {i : Nat} {x : V}, Vals xs us → xs[i]? = some x → ∃ u, us[i]? = some u ∧ RelV x u
  | _, _, _, _, .nil, e => by simp at e
  | _, _, 0, _, .cons r _, e => by simp at e; subst e; exact ⟨_, rfl, r⟩
  | _, _, i + 1, x, .cons _ t, e => by
    obtain ⟨u, h1, h2⟩ := Vals.get (i := i) (x := x) t (by simpa using e)
    exact ⟨u, by simpa using h1, h2⟩
theorem Vals.append : ∀ {xs ys : List V} {us ws : List Value}, Vals xs us → Vals ys ws → Vals (xs ++ ys) (us ++ ws)
  | _, _, _, _, .nil, s => s
  | _, _, _, _, .cons r t, s => .cons r (Vals.append t s)
theorem Vals.take : ∀ {xs : List V} {us : List Value} (n : Nat), Vals xs us → Vals (xs.take n) (us.take n)
  | _, _, 0, _ => .nil
  | _, _, _ + 1, .nil => .nil
  | _, _, n + 1, .cons r t => .cons r (Vals.take n t)
theorem Vals.drop : ∀ {xs : List V} {us : List Value} (n : Nat), Vals xs us → Vals (xs.drop n) (us.drop n)
  | _, _, 0, r => r
  | _, _, _ + 1, .nil => .nil
  | _, _, n + 1, .cons _ t => Vals.drop n t
noncomputable def RelO : Option V → Option Value → Prop
  | some v, some u => RelV v u
  | none, none => True
  | _, _ => False
noncomputable def KV {κ : Type} : List (κ × V) → List (κ × Value) → Prop := Paired fun (p : κ × V) (q : κ × Value) => p.1 = q.1 ∧ RelV p.2 q.2

noncomputable def kV : Key → V
  | .inl i => .int i
  | .inr x => .str x

inductive HO where
    | lst (xs : List V)
    | tup (xs : List V)
    | dK (kvs : List (Key × V)) | dT (kvs : List (List Key × V))
    | set (S : Int → Bool) (n : Nat)
    | ins (C dx : Addr) (fs : List (Str × V))
    | own (x : Addr)
    | xd (fs : List (Str × V))
    | met (f x : Addr)
    | rng (lo hi : Int)
    | frz (o : Obj) (u : HO)
    | tbl (ps : Array Value)
    | ext (φ : Heap → Prop)

noncomputable abbrev Hp := Addr → Option HO
noncomputable def upd (H : Hp) (a : Addr) (o : HO) : Hp := fun b => if b = a then some o else H b
theorem upd_same {H : Hp} {a : Addr} {o : HO} : upd H a o a = some o := by unfold upd; rw [if_pos rfl]
theorem upd_ne {H : Hp} {a b : Addr} {o : HO} (h : b ≠ a) : upd H a o b = H b := by unfold upd; rw [if_neg h]
theorem ne_of {H : Hp} {a b : Addr} {o u : HO} (h : H a = some o) (h' : H b = some u) (d : o ≠ u) : a ≠ b := by
  intro e; subst e; rw [h] at h'; exact d (Option.some.inj h')
theorem ne_of_none {H : Hp} {a b : Addr} {o : HO} (h : H a = some o) (h' : H b = none) : a ≠ b := by
  intro e; subst e; rw [h] at h'; cases h'

section
variable (P : Program) (w : World)
noncomputable def ObjOk (H : Hp) (h : Heap) (a : Addr) : HO → Prop
  | .lst xs => xs.length ≤ sizeLine ∧ ∃ (its : List Value) (n : Nat), Vals xs its ∧ h.get? a = some { cls := .type "list", data := .seq its.toArray n }
  | .tup xs => xs.length ≤ sizeLine ∧ ∃ its : List Value, Vals xs its ∧ IsTup h a its.toArray
  | .dK kvs => kvs.length ≤ sizeLine ∧ (a == sysModules) = false ∧ ∃ vs, KV kvs vs ∧ h.DictOf (mixKind P w) a vs
  | .dT kvs => kvs.length ≤ sizeLine ∧ (a == sysModules) = false ∧ ∃ xs : List (List Key × Addr × Value),
      Paired (fun (p : List Key × V) (q : List Key × Addr × Value) => p.1 = q.1 ∧ H q.2.1 = some (.tup (p.1.map kV)) ∧ RelV p.2 q.2.2) kvs xs ∧
      ∃ o es ep, h.get? a = some o ∧ o.ExactDict ∧ o.data = .dict es ep ∧ es.toList = xs.map (entryOfKey (tupleKind (mixKind P w))) ∧ (xs.map (·.1)).Nodup
  | .set S n => h.SetOf (intKind P w) a S n
  | .ins C dx fs => H dx = some (.own a) ∧ fs.length ≤ 1000 ∧ dx ≠ a ∧ h.get? a = some (PySem.W.instObj C dx) ∧
      ∃ mA, h.Ns1 dx mA ∧ (∀ f, RelO (fs.lookup f) (mA f)) ∧ PySem.Within mA (fs.map (·.1))
  | .own _ => ∃ o, h.get? a = some o
  | .xd fs => ∃ mA, h.Ns1 a mA ∧ ∀ f, RelO (fs.lookup f) (mA f)
  | .rng lo hi => ∃ t u v, h.get? a = some { cls := .type "range", data := .fields #[.int lo t, .int hi u, .int 1 v] }
  | .frz o u => h.get? a = some o ∧ ObjOk H h a u
  | .tbl ps => h.get? a = some { cls := .none, data := .fields ps }
  | .met f x => h.get? a = some (PySem.W.methodObj (.ref f) (.ref x))
  | .ext φ => φ h ∧ (∃ o, h.get? a = some o) ∧ ∀ h1 h2 : Heap, φ h1 → (∀ o, h1.get? a = some o → h2.get? a = some o) → φ h2
noncomputable def HOk (H : Hp) (h : Heap) : Prop := ∀ a o, H a = some o → ObjOk P w H h a o
end

section
variable {P : Program} {w : World} {H H' : Hp} {h h' : Heap} {a : Addr} {o : HO}
theorem ObjOk.lt (x : ObjOk P w H h a o) : a < h.objs.size := by
  cases o with
  | lst xs => obtain ⟨_, _, _, _, e⟩ := x; exact Heap.lt_size e
  | tup xs => obtain ⟨_, _, _, p⟩ := x; exact p.lt
  | dK kvs => obtain ⟨_, _, _, _, o, _, _, e, _⟩ := x; exact Heap.lt_size e
  | dT kvs => obtain ⟨_, _, _, _, o, _, _, e, _⟩ := x; exact Heap.lt_size e
  | set S n => obtain ⟨o, _, _, _, e, _⟩ := x; exact Heap.lt_size e
  | ins C dx fs => obtain ⟨_, _, _, e, _⟩ := x; exact Heap.lt_size e
  | own y => obtain ⟨_, e⟩ := x; exact Heap.lt_size e
  | xd fs => obtain ⟨_, ⟨_, _, _, e, _⟩, _⟩ := x; exact Heap.lt_size e
  | rng lo hi => obtain ⟨_, _, _, e⟩ := x; exact Heap.lt_size e
  | frz ob u => obtain ⟨e, _⟩ := x; exact Heap.lt_size e
  | tbl ps => exact Heap.lt_size (show h.get? a = some _ from x)
  | met f y => exact Heap.lt_size (show h.get? a = some _ from x)
  | ext φ => obtain ⟨_, ⟨_, e⟩, _⟩ := x; exact Heap.lt_size e
theorem Paired.mapP {α β : Type} {F G : α → β → Prop} : ∀ {l₁ : List α} {l₂ : List β}, Paired F l₁ l₂ → (∀ a b, F a b → G a b) → Paired G l₁ l₂
  | _, _, .nil, _ => .nil
  | _, _, .cons r t, f => .cons (f _ _ r) (Paired.mapP t f)
theorem ObjOk.stay (x : ObjOk P w H h a o) (k : ∀ b u, (b = a ∨ H b = some (.own a)) → h.get? b = some u → h'.get? b = some u)
    (ho : ∀ b, H b = some (.own a) → H' b = some (.own a)) (ht : ∀ b xs, H b = some (.tup xs) → H' b = some (.tup xs)) : ObjOk P w H' h' a o := by
  induction o with
  | lst xs => obtain ⟨z, its, n, r, e⟩ := x; exact ⟨z, its, n, r, k _ _ (.inl rfl) e⟩
  | tup xs => obtain ⟨z, its, r, ob, e, c⟩ := x; exact ⟨z, its, r, ob, k _ _ (.inl rfl) e, c⟩
  | dK kvs => obtain ⟨z, y, vs, r, ob, es, ep, e, c⟩ := x; exact ⟨z, y, vs, r, ob, es, ep, k _ _ (.inl rfl) e, c⟩
  | dT kvs =>
    obtain ⟨z, y, xs, r, ob, es, ep, e, c⟩ := x
    exact ⟨z, y, xs, Paired.mapP r fun p q z => ⟨z.1, ht _ _ z.2.1, z.2.2⟩, ob, es, ep, k _ _ (.inl rfl) e, c⟩
  | set S n => obtain ⟨ob, es, ep, t, e, c⟩ := x; exact ⟨ob, es, ep, t, k _ _ (.inl rfl) e, c⟩
  | ins C dx fs =>
    obtain ⟨d, z, ne, e, mA, ⟨od, es, ep, e2, c⟩, r⟩ := x
    exact ⟨ho _ d, z, ne, k _ _ (.inl rfl) e, mA, ⟨od, es, ep, k _ _ (.inr d) e2, c⟩, r⟩
  | own y => obtain ⟨ob, e⟩ := x; exact ⟨ob, k _ _ (.inl rfl) e⟩
  | xd fs => obtain ⟨mA, ⟨od, es, ep, e, c⟩, r⟩ := x; exact ⟨mA, ⟨od, es, ep, k _ _ (.inl rfl) e, c⟩, r⟩
  | rng lo hi => obtain ⟨t, u, v, e⟩ := x; exact ⟨t, u, v, k _ _ (.inl rfl) e⟩
  | frz ob u ih => obtain ⟨e, q⟩ := x; exact ⟨k _ _ (.inl rfl) e, ih q⟩
  | tbl ps =>
    have e : h.get? a = some { cls := .none, data := .fields ps } := x
    show h'.get? a = some { cls := .none, data := .fields ps }
    exact k a _ (.inl rfl) e
  | met f y =>
    have e : h.get? a = some (PySem.W.methodObj (.ref f) (.ref y)) := x
    show h'.get? a = some (PySem.W.methodObj (.ref f) (.ref y))
    exact k a _ (.inl rfl) e
  | ext φ => obtain ⟨p, ⟨o, e⟩, st⟩ := x; exact ⟨st _ _ p fun o q => k _ _ (.inl rfl) q, ⟨o, k _ _ (.inl rfl) e⟩, st⟩
theorem HOk.lt (x : HOk P w H h) (e : H a = some o) : a < h.objs.size := (x a o e).lt
theorem HOk.fresh (x : HOk P w H h) (e : h.objs.size ≤ a) : H a = none := by
  cases q : H a with
  | none => rfl
  | some u => exact absurd (Nat.lt_of_lt_of_le (x.lt q) e) (Nat.lt_irrefl _)
theorem HOk.kept (x : HOk P w H h) (k : ∀ b u, h.get? b = some u → h'.get? b = some u) : HOk P w H h' := fun a o e =>
  (x a o e).stay (fun b u _ q => k b u q) (fun _ q => q) fun _ _ q => q
theorem HOk.laid (x : HOk P w H h) (k : ∀ b u, h.get? b = some u → h'.get? b = some u) (hp : h.objs.size ≤ a) (new : ObjOk P w (upd H a o) h' a o) : HOk P w (upd H a o) h' := fun b u e => by
  have hn := x.fresh hp
  by_cases hb : b = a
  · subst hb; rw [upd_same] at e; cases e; exact new
  · rw [upd_ne hb] at e
    exact (x b u e).stay (fun c v _ q => k c v q) (fun c q => by rw [upd_ne (ne_of_none q hn)]; exact q) fun c xs q => by rw [upd_ne (ne_of_none q hn)]; exact q
end

noncomputable def Rd (H : Hp) (a : Addr) (u : HO) : Prop := H a = some u ∨ ∃ o, H a = some (.frz o u)
theorem Rd.ok {P : Program} {w : World} {H : Hp} {h : Heap} {a : Addr} {u : HO} (r : Rd H a u) (x : HOk P w H h) : ObjOk P w H h a u := by
  rcases r with r | ⟨o, r⟩
  · exact x a u r
  · obtain ⟨_, q⟩ := x a _ r
    exact q
noncomputable def Mut : Option HO → Prop
  | some (.lst _) => True
  | some (.dK _) => True
  | some (.dT _) => True
  | some (.set _ _) => True
  | some (.ins _ _ _) => True
  | some (.ext _) => True
  | _ => False
section
variable {P : Program} {w : World} {H : Hp} {h h' : Heap} {x e : Addr} {o' : HO}
theorem HOk.write (ok : HOk P w H h) (mu : Mut (H x)) (he : e = x ∨ H e = some (.own x)) (k : ∀ b u, b ≠ e → h.get? b = some u → h'.get? b = some u) (heo : ∃ u, h'.get? e = some u)
    (new : ObjOk P w (upd H x o') h' x o') : HOk P w (upd H x o') h' := fun b u q => by
  have nown : ∀ c y, H c = some (.own y) → c ≠ x := fun c y r z => by subst z; rw [r] at mu; exact mu
  have ntup : ∀ c xs, H c = some (.tup xs) → c ≠ x := fun c xs r z => by subst z; rw [r] at mu; exact mu
  by_cases hb : b = x
  · subst hb; rw [upd_same] at q; cases q; exact new
  · rw [upd_ne hb] at q
    by_cases hbe : b = e
    · have q' : H b = some (.own x) := by
        rcases he with z | z
        · exact absurd (hbe.trans z) hb
        · rw [hbe]; exact z
      rw [q] at q'; cases q'
      obtain ⟨v, hv⟩ := heo
      exact ⟨v, by rw [hbe]; exact hv⟩
    · refine (ok b u q).stay (fun c v hc r => k c v ?_ r) (fun c r => by rw [upd_ne (nown c b r)]; exact r) fun c xs r => by rw [upd_ne (ntup c xs r)]; exact r
      rcases hc with rfl | hc
      · exact hbe
      · rintro rfl
        rcases he with z | z
        · exact nown c b hc z
        · rw [hc] at z; cases z; exact hb rfl
end

set_option genInjectivity false in
structure Un (fs ex : List Addr) (H H' : Hp) (h h' : Heap) : Prop where
  keep : ∀ b o, h.get? b = some o → H b = none → b ∉ fs → b ∉ ex → h'.get? b = some o
  slot : ∀ b o, h.get? b = some o → H b = none → b ∈ fs → b ∉ ex → ∃ sl, h'.get? b = some { o with slots := sl }
  free : ∀ b o, h.get? b = some o → H b = none → b ∉ ex → H' b = none
  there : ∀ b o, h.get? b = some o → b ∉ ex → ∃ o', h'.get? b = some o'
  tups : ∀ b xs, H b = some (.tup xs) → H' b = some (.tup xs)
  frzs : ∀ b o u, H b = some (.frz o u) → H' b = some (.frz o u)
  tbls : ∀ b ps, H b = some (.tbl ps) → ∃ more, H' b = some (.tbl (ps ++ more))
section
variable {fs fs' ex ex' : List Addr} {H H1 H2 : Hp} {h h1 h2 h' : Heap} {a x e : Addr} {o : HO}
theorem Un.any (u : Un fs ex H H1 h h1) {b : Addr} {ob : Obj} (q : h.get? b = some ob) (n : H b = none) (hx : b ∉ ex) : ∃ sl, h1.get? b = some { ob with slots := sl } := by
  by_cases hb : b ∈ fs
  · exact u.slot b ob q n hb hx
  · exact ⟨ob.slots, u.keep b ob q n hb hx⟩
theorem Un.kept (k : ∀ b u, h.get? b = some u → h'.get? b = some u) : Un fs ex H H h h' :=
  ⟨fun b ob q _ _ _ => k b ob q, fun b ob q _ _ _ => ⟨ob.slots, k b ob q⟩, fun _ _ _ n _ => n, fun b ob q _ => ⟨ob, k b ob q⟩, fun _ _ q => q, fun _ _ _ q => q, fun _ ps q => ⟨#[], by rw [q]; simp⟩⟩
theorem Un.refl : Un fs ex H H h h := Un.kept fun _ _ q => q
theorem Un.laid (k : ∀ b u, h.get? b = some u → h'.get? b = some u) (hp : h.objs.size ≤ a) (hn : H a = none) : Un fs ex H (upd H a o) h h' where
  keep := fun b u q _ _ _ => k b u q
  slot := fun b u q _ _ _ => ⟨u.slots, k b u q⟩
  free := fun b u q n _ => by rw [upd_ne (Nat.ne_of_lt (Nat.lt_of_lt_of_le (Heap.lt_size q) hp))]; exact n
  there := fun b u q _ => ⟨u, k b u q⟩
  tups := fun b xs q => by rw [upd_ne (ne_of_none q hn)]; exact q
  frzs := fun b u xs q => by rw [upd_ne (ne_of_none q hn)]; exact q
  tbls := fun b ps q => ⟨#[], by rw [upd_ne (ne_of_none q hn), q]; simp⟩
theorem Un.write (mu : Mut (H x)) (he : e = x ∨ H e = some (.own x)) (k : ∀ b u, b ≠ e → h.get? b = some u → h'.get? b = some u) (heo : ∃ u, h'.get? e = some u) : Un fs ex H (upd H x o) h h' := by
  have hx : ∀ b, H b = none → b ≠ x := fun b n z => by subst z; rw [n] at mu; exact mu
  have hb : ∀ b, H b = none → b ≠ e := fun b n z => by
    subst z
    rcases he with r | r
    · exact hx b n r
    · rw [n] at r; cases r
  have hm : ∀ b u, H b = some u → ¬ Mut (some u) → b ≠ x := fun b u q nm z => by subst z; rw [q] at mu; exact nm mu
  refine ⟨fun b u q n _ _ => k b u (hb b n) q, fun b u q n _ _ => ⟨u.slots, k b u (hb b n) q⟩, fun b u q n _ => by rw [upd_ne (hx b n)]; exact n, fun b u q _ => ?_,
    fun b xs q => by rw [upd_ne (hm b _ q fun z => z)]; exact q, fun b u xs q => by rw [upd_ne (hm b _ q fun z => z)]; exact q, fun b ps q => ⟨#[], by rw [upd_ne (hm b _ q fun z => z), q]; simp⟩⟩
  by_cases hbe : b = e
  · subst hbe; exact heo
  · exact ⟨u, k b u hbe q⟩
end

noncomputable def trk (h : Heap) (H : Hp) : List Addr := (List.range h.objs.size).filter fun a => (H a).isSome
noncomputable def hidT (h : Heap) (H : Hp) : Heap := PySem.W.hideAll h (trk h H)
theorem hidT_size (h : Heap) (H : Hp) : (hidT h H).objs.size = h.objs.size := PySem.W.hideAll_size _ _
theorem hidT_get {h : Heap} {H : Hp} {b : Addr} {o : Obj} (e : h.get? b = some o) (n : H b = none) : (hidT h H).get? b = some o :=
  PySem.W.hideAll_get _ e fun hm => by
    have q : (H b).isSome = true := (List.mem_filter.mp hm).2
    rw [n] at q; simp at q
theorem of_hidT {h : Heap} {H : Hp} {b : Addr} {o : Obj} (e : (hidT h H).get? b = some o) : h.get? b = some o ∧ H b = none := by
  have e' : h.get? b = some o := PySem.W.of_hideAll (trk h H) e
  refine ⟨e', ?_⟩
  cases q : H b with
  | none => rfl
  | some x =>
    have hm : b ∈ trk h H := List.mem_filter.mpr ⟨List.mem_range.mpr (Heap.lt_size e'), by simp [q]⟩
    have z : (hidT h H).get? b = none := PySem.W.hideAll_none (trk h H) hm
    rw [z] at e; cases e

noncomputable def allNews (g h : Heap) (L : Addr) : List (Addr × Obj) := (List.range h.objs.size).filterMap fun a => if a = L ∨ (g.get? a).isSome = true then none else (h.get? a).map fun o => (a, o)
noncomputable def rest (g h : Heap) (L d : Addr) : List (Addr × Obj) := (allNews g h L).filter fun p => decide (p.1 ≠ d)
end L2

namespace L2
open PySem PySem.Spec PyProof.Rows

set_option genInjectivity false in
structure Mod (K : PySem.W.Frag) (mg : Str → Option Value) (base : Heap) : Prop where
  kin : K.In base
  glob : base.Ns mainGlobals mg
  blt : ∃ mb, base.Ns builtinsNs mb ∧ ∀ x : Str, x ≠ "__name__" → mb x = bootBuiltins x
  nolimit : base.NoLimit

set_option genInjectivity false in
structure Cx where
  prog : Program
  w : World
  K : PySem.W.Frag
  mg : Str → Option Value
  base : Heap
  A : Around
  N : List Str
  s₀ : Shared
  H₀ : Hp
  env : Env
  outer : List Env
  stack : List Env
  ex : List Addr
  fn : Str → Bool
  calm : Bool
  pn : List (Addr × Obj)
  xe : Value → Shared → Prop
noncomputable def frs (l : List Env) : List Addr := l.filterMap (·.frame)
noncomputable abbrev Cx.fs (X : Cx) : List Addr := frs X.outer

noncomputable def Vis (sc : Scope) (x : Str) : Prop := sc.names.lookup x = some .local ∨ sc.names.lookup x = some .cell ∨ sc.names.lookup x = some .free
noncomputable def Loc (sc : Scope) (x : Str) : Prop := sc.names.lookup x = some .local ∨ sc.names.lookup x = some .cell
noncomputable def Look (env : Env) (h : Heap) (m : Str → Option Value) (x : Str) (u : Value) : Prop :=
  (env.kindOf x = some .local ∧ m x = some u) ∨ ((env.kindOf x = some .cell ∨ env.kindOf x = some .free) ∧ ∃ c, env.cells.lookup x = some c ∧ h.IsCell c (some u))

set_option genInjectivity false in
structure Cx.Ok (X : Cx) : Prop where
  mod : Mod X.K X.mg X.base
  kind : X.env.scope.kind = .function
  glob : X.env.globals = mainGlobals
  blt : X.env.builtins = builtinsNs
  above : X.s₀.heap.objs.size ≤ X.env.locals
  inj : ∀ x y c, X.env.cells.lookup x = some c → X.env.cells.lookup y = some c → x = y
  has : ∀ x, (X.env.kindOf x = some .cell ∨ X.env.kindOf x = some .free) → ∃ c, X.env.cells.lookup x = some c
  cab : ∀ x c, X.fn x = true → X.env.cells.lookup x = some c → X.s₀.heap.objs.size ≤ c
  hd : X.calm = true → X.A.handled = none
  frames : X.A.frames = some X.stack
  stk : X.stack = X.outer ∨ (X.stack = X.env :: X.outer ∧ X.env.frame = some X.env.locals)
  exf : ∀ b ∈ X.ex, b ≠ X.env.locals ∧ ∀ x c, X.env.cells.lookup x = some c → c ≠ b
  bs : ∀ b o, X.base.get? b = some o → X.s₀.heap.get? b = some o ∧ X.H₀ b = none
  bsz : X.base.objs.size ≤ X.s₀.heap.objs.size
  noex : ∀ b o, X.base.get? b = some o → b ∉ X.ex
  exfs : ∀ b ∈ X.ex, b ∉ X.fs
  funs : X.s₀.heap.FunFrames X.base X.outer
  frf : ∀ b ∈ X.fs, X.H₀ b = none

set_option genInjectivity false in
structure Inv (X : Cx) (pins : List (Addr × Obj)) (σ : List (Option V)) (H : Hp) (s : Shared) : Prop where
  ok : X.Ok
  os : s.os = X.s₀.os
  bare : AllBare s.gens
  base : Un X.fs X.ex X.H₀ H X.s₀.heap s.heap
  loc : ∃ m, s.heap.Ns X.env.locals m ∧ ∀ (i : Nat) (x : Str) (v : V), X.N[i]? = some x → σ[i]? = some (some v) → Vis X.env.scope x → ∃ u, RelV v u ∧ Look X.env s.heap m x u
  cell : ∀ x c, X.env.cells.lookup x = some c → ∃ v, s.heap.IsCell c v
  free : H X.env.locals = none
  freeC : ∀ x c, X.env.cells.lookup x = some c → H c = none
  pin : ∀ p ∈ X.pn ++ pins, s.heap.get? p.1 = some p.2 ∧ H p.1 = none ∧ p.1 ≠ X.env.locals ∧ p.1 ∉ X.fs ∧ ∀ v, p.2.data ≠ .cell v
  hok : HOk X.prog X.w H s.heap
  len : σ.length = X.N.length

section
variable {X : Cx} {pins : List (Addr × Obj)} {σ : List (Option V)} {H H' : Hp} {s : Shared} {h' : Heap}

theorem Cx.Ok.nofr (ok : X.Ok) {b : Addr} {o : Obj} (e : X.base.get? b = some o) : b ∉ X.fs := fun hb => by
  have := (ok.funs.mem hb).1
  rw [e] at this; cases this
theorem Inv.bs (I : Inv X pins σ H s) : ∀ b o, X.base.get? b = some o → s.heap.get? b = some o ∧ H b = none := fun b o e =>
  ⟨I.base.keep b o (I.ok.bs b o e).1 (I.ok.bs b o e).2 (I.ok.nofr e) (I.ok.noex b o e), I.base.free b o (I.ok.bs b o e).1 (I.ok.bs b o e).2 (I.ok.noex b o e)⟩
theorem Inv.bk (I : Inv X pins σ H s) : ∀ b o, X.base.get? b = some o → s.heap.get? b = some o := fun b o e => (I.bs b o e).1
theorem Inv.mod (I : Inv X pins σ H s) : Mod X.K X.mg X.base := I.ok.mod
theorem Inv.kIn (I : Inv X pins σ H s) : X.K.In s.heap := I.ok.mod.kin.keeps I.bk
theorem Inv.lt (I : Inv X pins σ H s) : X.env.locals < s.heap.objs.size := let ⟨_, hn, _⟩ := I.loc; hn.lt
theorem Inv.sz (I : Inv X pins σ H s) : X.s₀.heap.objs.size ≤ s.heap.objs.size := Nat.le_trans I.ok.above (Nat.le_of_lt I.lt)
theorem Inv.nofs (I : Inv X pins σ H s) {a : Addr} (h : s.heap.objs.size ≤ a) : a ∉ X.fs := fun hb => by
  obtain ⟨_, o, ho, _⟩ := I.ok.funs.mem hb
  exact absurd (Nat.lt_of_lt_of_le (Heap.lt_size ho) (Nat.le_trans I.sz h)) (Nat.lt_irrefl _)
theorem Inv.cne (I : Inv X pins σ H s) : ∀ x c, X.env.cells.lookup x = some c → c ≠ X.env.locals := fun x c e z => by
  obtain ⟨v, o, ho, hd⟩ := I.cell x c e
  obtain ⟨m, ⟨o', es, ep, ho', hd', _⟩, _⟩ := I.loc
  rw [z, ho'] at ho; cases ho; rw [hd'] at hd; cases hd
theorem Inv.funs (I : Inv X pins σ H s) : s.heap.FunFrames X.base X.outer := by
  have all : ∀ (l : List Env), (∀ b ∈ frs l, b ∈ X.fs) → X.s₀.heap.FunFrames X.base l → s.heap.FunFrames X.base l := by
    intro l
    induction l with
    | nil => intro _ _; trivial
    | cons env r ih =>
      intro hs hl
      obtain ⟨hk, ⟨L, o, hf, hn, ho, hd⟩, hr⟩ := hl
      have hL : L ∈ X.fs := hs L (by unfold frs; rw [List.filterMap_cons, hf]; exact List.mem_cons_self)
      obtain ⟨sl, e⟩ := I.base.slot L o ho (I.ok.frf L hL) hL fun z => I.ok.exfs L z hL
      exact ⟨hk, ⟨L, _, hf, hn, e, hd⟩, ih (fun b hb => hs b (by unfold frs; rw [List.filterMap_cons, hf]; exact List.mem_cons_of_mem _ hb)) hr⟩
  exact all X.outer (fun _ hb => hb) I.ok.funs

theorem Inv.stack (I : Inv X pins σ H s) : s.heap.FunFrames X.base X.stack := by
  rcases I.ok.stk with e | ⟨e, hf⟩
  · rw [e]; exact I.funs
  · rw [e]
    obtain ⟨m, hn, _⟩ := I.loc
    refine .cons (by rw [I.ok.kind]; decide) hf hn ?_ I.funs
    exact Heap.get?_none_of_le (Nat.le_trans I.ok.bsz I.ok.above)
theorem Inv.stkSub (I : Inv X pins σ H s) : ∀ b ∈ frs X.stack, b ∈ X.env.locals :: X.fs := fun b hb => by
  rcases I.ok.stk with e | ⟨e, hf⟩
  · rw [e] at hb; exact List.mem_cons_of_mem _ hb
  · rw [e] at hb
    unfold frs at hb
    rw [List.filterMap_cons, hf] at hb
    exact hb
theorem Inv.stkFree (I : Inv X pins σ H s) : ∀ b ∈ frs X.stack, H b = none := fun b hb => by
  rcases List.mem_cons.mp (I.stkSub b hb) with e | hb
  · rw [e]; exact I.free
  · obtain ⟨_, o, ho, _⟩ := I.ok.funs.mem hb
    exact I.base.free b o ho (I.ok.frf b hb) fun z => I.ok.exfs b z hb

theorem Inv.step {g' : Array GenState} {t' : Nat} {d' : Drawn} {ch : List Addr} (I : Inv X pins σ H s)
    (hch : ∀ b ∈ ch, (b ∈ X.ex ∨ X.s₀.heap.objs.size ≤ b) ∧ b ≠ X.env.locals ∧ (∀ x c, X.env.cells.lookup x = some c → c ≠ b) ∧ ∀ p ∈ X.pn ++ pins, p.1 ≠ b)
    (keep : ∀ b o, b ≠ X.env.locals → b ∉ X.fs → b ∉ ch → s.heap.get? b = some o → H b = none → h'.get? b = some o)
    (slot : ∀ b o, b ≠ X.env.locals → b ∈ X.fs → b ∉ ch → s.heap.get? b = some o → H b = none → ∃ sl, h'.get? b = some { o with slots := sl }) (free : ∀ b o, b ∉ ch → s.heap.get? b = some o → H b = none → H' b = none)
    (there : ∀ b o, b ∉ ch → s.heap.get? b = some o → ∃ o', h'.get? b = some o')
    (tups : ∀ b xs, H b = some (.tup xs) → H' b = some (.tup xs)) (frzs : ∀ b o u, H b = some (.frz o u) → H' b = some (.frz o u)) (tbls : ∀ b ps, H b = some (.tbl ps) → ∃ more, H' b = some (.tbl (ps ++ more)))
    (ns : ∀ m, s.heap.Ns X.env.locals m → h'.Ns X.env.locals m) (hok : HOk X.prog X.w H' h') (hg : AllBare g') :
    Inv X pins σ H' { s with heap := h', gens := g', drawn := d', toks := t' } := by
  have neL : ∀ b o, X.s₀.heap.get? b = some o → b ≠ X.env.locals := fun b o e => Nat.ne_of_lt (Nat.lt_of_lt_of_le (Heap.lt_size e) I.ok.above)
  have neC : ∀ b o, X.s₀.heap.get? b = some o → b ∉ X.ex → b ∉ ch := fun b o e hx hb => by
    rcases (hch b hb).1 with z | z
    · exact hx z
    · exact absurd (Nat.lt_of_lt_of_le (Heap.lt_size e) z) (Nat.lt_irrefl _)
  have cellK : ∀ x c, X.env.cells.lookup x = some c → ∀ v, s.heap.IsCell c v → h'.IsCell c v := fun x c e v ⟨o, ho, hd⟩ => by
    have nch : c ∉ ch := fun z => (hch c z).2.2.1 x c e rfl
    by_cases hc : c ∈ X.fs
    · obtain ⟨sl, q⟩ := slot c o (I.cne x c e) hc nch ho (I.freeC x c e)
      exact ⟨_, q, hd⟩
    · exact ⟨o, keep c o (I.cne x c e) hc nch ho (I.freeC x c e), hd⟩
  refine ⟨I.ok, I.os, hg, ⟨fun b o e n hb hx => ?_, fun b o e n hb hx => ?_, fun b o e n hx => ?_, fun b o e hx => ?_, fun b xs e => tups b xs (I.base.tups b xs e), fun b o xs e => frzs b o xs (I.base.frzs b o xs e), fun b ps e => ?_⟩, ?_, fun x c e => ?_, ?_, fun x c e => ?_, fun p hp => ?_, hok, I.len⟩
  · exact keep b o (neL b o e) hb (neC b o e hx) (I.base.keep b o e n hb hx) (I.base.free b o e n hx)
  · obtain ⟨sl, e1⟩ := I.base.slot b o e n hb hx
    obtain ⟨sl', e2⟩ := slot b _ (neL b o e) hb (neC b o e hx) e1 (I.base.free b o e n hx)
    exact ⟨sl', e2⟩
  · obtain ⟨o', e1⟩ := I.base.there b o e hx
    exact free b o' (neC b o e hx) e1 (I.base.free b o e n hx)
  · obtain ⟨o', e1⟩ := I.base.there b o e hx
    exact there b o' (neC b o e hx) e1
  · obtain ⟨m1, e1⟩ := I.base.tbls b ps e
    obtain ⟨m2, e2⟩ := tbls b _ e1
    exact ⟨m1 ++ m2, by rw [e2, Array.append_assoc]⟩
  · obtain ⟨m, hn, hl⟩ := I.loc
    refine ⟨m, ns m hn, fun i x v e1 e2 e3 => ?_⟩
    obtain ⟨u, r, l⟩ := hl i x v e1 e2 e3
    refine ⟨u, r, ?_⟩
    rcases l with l | ⟨k, c, e, z⟩
    · exact .inl l
    · exact .inr ⟨k, c, e, cellK x c e _ z⟩
  · obtain ⟨v, z⟩ := I.cell x c e
    exact ⟨v, cellK x c e v z⟩
  · obtain ⟨m, ⟨o, _, _, ho, _⟩, _⟩ := I.loc
    exact free _ o (fun z => (hch _ z).2.1 rfl) ho I.free
  · obtain ⟨v, o, ho, hd⟩ := I.cell x c e
    exact free c o (fun z => (hch c z).2.2.1 x c e rfl) ho (I.freeC x c e)
  · obtain ⟨e, n, ne, nf, d⟩ := I.pin p hp
    have nch : p.1 ∉ ch := fun z => (hch p.1 z).2.2.2 p hp rfl
    exact ⟨keep p.1 p.2 ne nf nch e n, free p.1 p.2 nch e n, ne, nf, d⟩
theorem Inv.un {t' : Nat} (I : Inv X pins σ H s) (u : Un X.fs [] H H' s.heap h') (hok : HOk X.prog X.w H' h') : Inv X pins σ H' { s with heap := h', toks := t' } := by
  obtain ⟨m, ⟨o, es, ep, ho, r⟩, _⟩ := id I.loc
  obtain ⟨sl, hL⟩ := u.any ho I.free (by simp)
  exact I.step (g' := s.gens) (d' := s.drawn) (ch := []) (fun _ z => nomatch z) (fun b o _ hb _ e n => u.keep b o e n hb (by simp)) (fun b o _ hb _ e n => u.slot b o e n hb (by simp)) (fun b o _ e n => u.free b o e n (by simp)) (fun b o _ e => u.there b o e (by simp)) u.tups u.frzs u.tbls (fun m' hm => by
    obtain ⟨o', es', ep', ho', r'⟩ := hm
    rw [ho] at ho'; cases ho'
    exact ⟨_, es', ep', hL, r'⟩) hok I.bare
theorem Inv.call {g' : Array GenState} {t' : Nat} {d' : Drawn} {ch : List Addr} (I : Inv X pins σ H s) (u : Un (frs X.stack) ch H H' s.heap h') (hok : HOk X.prog X.w H' h') (hg : AllBare g')
    (hch : ∀ b ∈ ch, (b ∈ X.ex ∨ X.s₀.heap.objs.size ≤ b) ∧ b ≠ X.env.locals ∧ (∀ x c, X.env.cells.lookup x = some c → c ≠ b) ∧ ∀ p ∈ X.pn ++ pins, p.1 ≠ b) :
    Inv X pins σ H' { s with heap := h', gens := g', drawn := d', toks := t' } := by
  obtain ⟨m, ⟨o, es, ep, ho, r⟩, _⟩ := id I.loc
  obtain ⟨sl, hL⟩ := u.any ho I.free fun z => (hch _ z).2.1 rfl
  exact I.step (ch := ch) hch (fun b o hL hb hc e n => u.keep b o e n (fun z => (List.mem_cons.mp (I.stkSub b z)).elim hL hb) hc) (fun b o _ _ hc e n => u.any e n hc) (fun b o hc e n => u.free b o e n hc) (fun b o hc e => u.there b o e hc) u.tups u.frzs u.tbls (fun m' hm => by
    obtain ⟨o', es', ep', ho', r'⟩ := hm
    rw [ho] at ho'; cases ho'
    exact ⟨_, es', ep', hL, r'⟩) hok hg
theorem Inv.turned {t' : Nat} {it : Addr} (I : Inv X pins σ H s) (k : ∀ b o, b ≠ it → s.heap.get? b = some o → h'.get? b = some o) (hn : H it = none) (hL : it ≠ X.env.locals)
    (h1 : it ∈ X.ex ∨ X.s₀.heap.objs.size ≤ it) (h2 : ∀ x c, X.env.cells.lookup x = some c → c ≠ it) (h3 : ∀ p ∈ X.pn ++ pins, p.1 ≠ it) : Inv X pins σ H { s with heap := h', toks := t' } := by
  have nit : ∀ b u, H b = some u → b ≠ it := fun b u e z => by rw [z, hn] at e; cases e
  refine I.step (g' := s.gens) (d' := s.drawn) (ch := [it]) (fun b hb => ?_) (fun b o _ _ hc e _ => k b o (fun z => hc (by simp [z])) e) (fun b o _ _ hc e _ => ⟨o.slots, k b o (fun z => hc (by simp [z])) e⟩) (fun _ _ _ _ n => n)
    (fun b o hc e => ⟨o, k b o (fun z => hc (by simp [z])) e⟩) (fun _ _ e => e) (fun _ _ _ e => e) (fun b ps e => ⟨#[], by rw [e]; simp⟩) (fun m hm => ?_) (fun b u e => ?_) I.bare
  · have e : b = it := by simpa using hb
    subst e
    exact ⟨h1, hL, h2, h3⟩
  · obtain ⟨o, es, ep, ho, r⟩ := hm
    exact ⟨o, es, ep, k _ o (Ne.symm hL) ho, r⟩
  · refine (I.hok b u e).stay (fun c v hc q => k c v ?_ q) (fun _ q => q) fun _ _ q => q
    rcases hc with z | z
    · rw [z]; exact nit b u e
    · exact nit c _ z
theorem Inv.tok (I : Inv X pins σ H s) (t : Nat) : Inv X pins σ H { s with toks := t } := I.un (h' := s.heap) (t' := t) Un.refl I.hok
theorem Inv.kept {t' : Nat} (I : Inv X pins σ H s) (k : ∀ b u, s.heap.get? b = some u → h'.get? b = some u) : Inv X pins σ H { s with heap := h', toks := t' } := I.un (Un.kept k) (I.hok.kept k)
theorem Inv.laid {a : Addr} {o : HO} {t' : Nat} (I : Inv X pins σ H s) (k : ∀ b u, s.heap.get? b = some u → h'.get? b = some u) (hp : s.heap.objs.size ≤ a) (new : ObjOk X.prog X.w (upd H a o) h' a o) :
    Inv X pins σ (upd H a o) { s with heap := h', toks := t' } := I.un (Un.laid k hp (I.hok.fresh hp)) (I.hok.laid k hp new)
theorem Inv.write {x e : Addr} {o : HO} {t' : Nat} (I : Inv X pins σ H s) (mu : Mut (H x)) (he : e = x ∨ H e = some (.own x)) (k : ∀ b u, b ≠ e → s.heap.get? b = some u → h'.get? b = some u) (heo : ∃ u, h'.get? e = some u)
    (new : ObjOk X.prog X.w (upd H x o) h' x o) : Inv X pins σ (upd H x o) { s with heap := h', toks := t' } := I.un (Un.write mu he k heo) (I.hok.write mu he k heo new)
theorem Inv.pins_of {pins' : List (Addr × Obj)} (I : Inv X pins σ H s) (h : ∀ p ∈ pins', s.heap.get? p.1 = some p.2 ∧ H p.1 = none ∧ p.1 ≠ X.env.locals ∧ p.1 ∉ X.fs ∧ ∀ v, p.2.data ≠ .cell v) : Inv X pins' σ H s :=
  ⟨I.ok, I.os, I.bare, I.base, I.loc, I.cell, I.free, I.freeC, fun p hp => (List.mem_append.mp hp).elim (fun z => I.pin p (List.mem_append_left _ z)) (h p), I.hok, I.len⟩

theorem nodup_ix {N : List Str} (hN : N.Nodup) {i j : Nat} {x : Str} (a : N[i]? = some x) (b : N[j]? = some x) : i = j := by
  obtain ⟨h1, e1⟩ := List.getElem?_eq_some_iff.mp a
  obtain ⟨h2, e2⟩ := List.getElem?_eq_some_iff.mp b
  exact (List.getElem_inj hN).mp (e1.trans e2.symm)

theorem store_ok2 {M : Model} {A : Around} {E : Value → Shared → Prop} {i : Nat} {x : Str} {v : V} {u : Value} {Q : Unit → Shared → Prop} (I : Inv X pins σ H s) (hN : X.N.Nodup) (hi : X.N[i]? = some x) (hx : Loc X.env.scope x) (r : RelV v u)
    (h : ∀ s', Inv X pins (σ.set i (some v)) H s' → (∃ a, Heap.SameBut a s.heap s'.heap ∧ (a = X.env.locals ∨ X.env.cells.lookup x = some a)) → Q () s') (hf : X.fn x = true ∨ X.env.scope.names.lookup x = some .local := by first | exact .inl rfl | exact .inr rfl | assumption) : wpAny M A (storeName X.env x u) Q E s := by
  obtain ⟨m, hn, hl⟩ := id I.loc
  have hcls : (X.env.scope.kind == .class || (X.env.scope.kind == .module && X.env.locals != X.env.globals)) = false := by rw [I.ok.kind]; rfl
  have hiσ : i < σ.length := by rw [I.len]; exact (List.getElem?_eq_some_iff.mp hi).1
  have cne := I.cne
  have tracked : ∀ {a : Addr} {h' : Heap}, (∃ o, s.heap.get? a = some o ∧ H a = none) → Heap.SameBut a s.heap h' → HOk X.prog X.w H h' := fun {a h'} ha hs b ob e => by
    obtain ⟨_, _, hfree⟩ := ha
    refine (I.hok b ob e).stay (fun c w' hc q => (hs.2 c ?_).trans q) (fun _ q => q) fun _ _ q => q
    rintro rfl
    rcases hc with rfl | hc
    · rw [hfree] at e; cases e
    · rw [hfree] at hc; cases hc
  rcases hx with hk | hk
  · refine wpAny_storeName_local hk hn (fun h' hn' hs => ?_) hcls
    obtain ⟨oL, _, _, hoL, _⟩ := id hn
    refine h _ ⟨I.ok, I.os, I.bare, ⟨fun b o e n hb hx => ?_, fun b o e n hb hx => ?_, I.base.free, fun b o e hx => ?_, I.base.tups, I.base.frzs, I.base.tbls⟩, ⟨_, hn', fun j y v' e1 e2 e3 => ?_⟩, fun y c e => ?_, I.free, I.freeC, fun p hp => ?_, tracked ⟨oL, hoL, I.free⟩ hs, by simpa using I.len⟩ ⟨_, hs, .inl rfl⟩
    · exact (hs.2 b (Nat.ne_of_lt (Nat.lt_of_lt_of_le (Heap.lt_size e) I.ok.above))).trans (I.base.keep b o e n hb hx)
    · obtain ⟨sl, e1⟩ := I.base.slot b o e n hb hx
      exact ⟨sl, (hs.2 b (Nat.ne_of_lt (Nat.lt_of_lt_of_le (Heap.lt_size e) I.ok.above))).trans e1⟩
    · obtain ⟨o', e1⟩ := I.base.there b o e hx
      exact ⟨o', (hs.2 b (Nat.ne_of_lt (Nat.lt_of_lt_of_le (Heap.lt_size e) I.ok.above))).trans e1⟩
    · by_cases hj : j = i
      · subst hj
        rw [hi] at e1; cases e1
        rw [List.getElem?_set_self hiσ] at e2
        cases e2
        exact ⟨u, r, .inl ⟨hk, by simp⟩⟩
      · rw [List.getElem?_set_ne (Ne.symm hj)] at e2
        obtain ⟨u', r', q⟩ := hl j y v' e1 e2 e3
        refine ⟨u', r', ?_⟩
        rcases q with ⟨k, e⟩ | ⟨k, c, e, z⟩
        · refine .inl ⟨k, ?_⟩
          have : y ≠ x := fun e => hj (nodup_ix hN e1 (e ▸ hi))
          simp [this, e]
        · exact .inr ⟨k, c, e, z.sameBut hs (cne y c e)⟩
    · obtain ⟨w', z⟩ := I.cell y c e
      exact ⟨w', z.sameBut hs (cne y c e)⟩
    · obtain ⟨e, n, ne, nf, d⟩ := I.pin p hp
      exact ⟨(hs.2 p.1 ne).trans e, n, ne, nf, d⟩
  · have hfn : X.fn x = true := by
      rcases hf with z | z
      · exact z
      · rw [z] at hk; cases hk
    obtain ⟨c, hc⟩ := I.ok.has x (.inl hk)
    obtain ⟨w', z⟩ := I.cell x c hc
    refine wpAny_storeName_cell I.ok.kind hk hc z (fun h' hc' hs => ?_)
    obtain ⟨oc, hoc, hocd⟩ := id z
    refine h { s with heap := h' } ⟨I.ok, I.os, I.bare, ⟨fun b o e n hb hx => ?_, fun b o e n hb hx => ?_, I.base.free, fun b o e hx => ?_, I.base.tups, I.base.frzs, I.base.tbls⟩, ⟨m, hn.sameBut hs (Ne.symm (cne x c hc)), fun j y v' e1 e2 e3 => ?_⟩, fun y c' e => ?_, I.free, I.freeC, fun p hp => ?_, tracked ⟨oc, hoc, I.freeC x c hc⟩ hs, by simpa using I.len⟩ ⟨c, hs, .inr hc⟩
    · exact (hs.2 b (Nat.ne_of_lt (Nat.lt_of_lt_of_le (Heap.lt_size e) (I.ok.cab x c hfn hc)))).trans (I.base.keep b o e n hb hx)
    · obtain ⟨sl, e1⟩ := I.base.slot b o e n hb hx
      exact ⟨sl, (hs.2 b (Nat.ne_of_lt (Nat.lt_of_lt_of_le (Heap.lt_size e) (I.ok.cab x c hfn hc)))).trans e1⟩
    · obtain ⟨o', e1⟩ := I.base.there b o e hx
      exact ⟨o', (hs.2 b (Nat.ne_of_lt (Nat.lt_of_lt_of_le (Heap.lt_size e) (I.ok.cab x c hfn hc)))).trans e1⟩
    · by_cases hj : j = i
      · subst hj
        rw [hi] at e1; cases e1
        rw [List.getElem?_set_self hiσ] at e2
        cases e2
        exact ⟨u, r, .inr ⟨.inl hk, c, hc, hc'⟩⟩
      · rw [List.getElem?_set_ne (Ne.symm hj)] at e2
        obtain ⟨u', r', q⟩ := hl j y v' e1 e2 e3
        refine ⟨u', r', ?_⟩
        rcases q with q | ⟨k, c', e, z'⟩
        · exact .inl q
        · refine .inr ⟨k, c', e, z'.sameBut hs ?_⟩
          rintro rfl
          exact hj (nodup_ix hN e1 (I.ok.inj _ _ _ e hc ▸ hi))
    · by_cases hcc : c' = c
      · subst hcc; exact ⟨_, hc'⟩
      · obtain ⟨w2, z2⟩ := I.cell y c' e
        exact ⟨w2, z2.sameBut hs hcc⟩
    · obtain ⟨e, n, ne, nf, d⟩ := I.pin p hp
      refine ⟨(hs.2 p.1 ?_).trans e, n, ne, nf, d⟩
      intro q
      rw [q, hoc] at e
      have q' : oc = p.2 := Option.some.inj e
      exact d w' (by rw [← q']; exact hocd)
theorem store_ok {M : Model} {A : Around} {E : Value → Shared → Prop} {i : Nat} {x : Str} {v : V} {u : Value} {Q : Unit → Shared → Prop} (I : Inv X pins σ H s) (hN : X.N.Nodup) (hi : X.N[i]? = some x) (hx : Loc X.env.scope x) (r : RelV v u)
    (h : ∀ s', Inv X pins (σ.set i (some v)) H s' → Q () s') (hf : X.fn x = true ∨ X.env.scope.names.lookup x = some .local := by first | exact .inl rfl | exact .inr rfl | assumption) : wpAny M A (storeName X.env x u) Q E s :=
  store_ok2 I hN hi hx r (fun s' I' _ => h s' I') hf
theorem Inv.call' {s' : Shared} {ch : List Addr} (I : Inv X pins σ H s) (ho : s'.os = s.os) (u : Un (frs X.stack) ch H H' s.heap s'.heap) (hok : HOk X.prog X.w H' s'.heap) (hg : AllBare s'.gens)
    (hch : ∀ b ∈ ch, (b ∈ X.ex ∨ X.s₀.heap.objs.size ≤ b) ∧ b ≠ X.env.locals ∧ (∀ x c, X.env.cells.lookup x = some c → c ≠ b) ∧ ∀ p ∈ X.pn ++ pins, p.1 ≠ b) : Inv X pins σ H' s' := by
  obtain ⟨h', g', d', t', o'⟩ := s'
  have e : o' = s.os := ho
  subst e
  exact I.call (g' := g') (t' := t') (d' := d') u hok hg hch
end

noncomputable abbrev XK := Value → Option Addr → Hp → Prop
noncomputable abbrev St := List (Option V)
noncomputable abbrev VK := V → Hp → Prop
noncomputable abbrev TE := St → Hp → VK → Prop
noncomputable abbrev TT := St → Hp → (Bool → Hp → Prop) → Prop
noncomputable abbrev TA := St → Hp → (List V → Hp → Prop) → Prop
set_option genInjectivity false in
structure Ends where
  nx : St → Hp → Prop
  rt : VK
  bk : St → Hp → Prop := fun _ _ => False
  ct : St → Hp → Prop := fun _ _ => False
noncomputable abbrev TS := Ends → St → Hp → Prop

noncomputable def EP (X : Cx) (pins : List (Addr × Obj)) (σ : St) (Q : VK) (u : Value) (s' : Shared) : Prop := ∃ v H', Inv X pins σ H' s' ∧ RelV v u ∧ Q v H'
noncomputable def TP (X : Cx) (pins : List (Addr × Obj)) (σ : St) (Q : Bool → Hp → Prop) (b : Bool) (s' : Shared) : Prop := ∃ H', Inv X pins σ H' s' ∧ Q b H'
noncomputable def AP (X : Cx) (pins : List (Addr × Obj)) (σ : St) (Q : List V → Hp → Prop) (us : List Value) (s' : Shared) : Prop := ∃ vs H', Inv X pins σ H' s' ∧ Vals vs us ∧ Q vs H'
noncomputable def SP (X : Cx) (pins : List (Addr × Obj)) (D : Ends) (f : Flow) (s' : Shared) : Prop :=
  match f with
  | .next => ∃ σ' H', Inv X pins σ' H' s' ∧ D.nx σ' H'
  | .brk => ∃ σ' H', Inv X pins σ' H' s' ∧ D.bk σ' H'
  | .cont => ∃ σ' H', Inv X pins σ' H' s' ∧ D.ct σ' H'
  | .ret u => ∃ v σ' H', Inv X pins σ' H' s' ∧ RelV v u ∧ D.rt v H'

noncomputable def PE (X : Cx) (e : Expr) (t : TE) : Prop :=
  ∀ (pins : List (Addr × Obj)) (s : Shared) (σ : St) (H : Hp) (Q : VK), Inv X pins σ H s → t σ H Q → wpAny (model X.prog X.w) X.A (eval e X.env) (EP X pins σ Q) X.xe s
noncomputable def PT (X : Cx) (e : Expr) (t : TT) : Prop :=
  ∀ (pins : List (Addr × Obj)) (s : Shared) (σ : St) (H : Hp) (Q : Bool → Hp → Prop), Inv X pins σ H s → t σ H Q → wpAny (model X.prog X.w) X.A (isTrue e X.env (eval e X.env)) (TP X pins σ Q) X.xe s
noncomputable def PW (X : Cx) (e : Expr) (t : TT) : Prop :=
  ∀ (whole : Sem Value) (pins : List (Addr × Obj)) (s : Shared) (σ : St) (H : Hp) (Q : Bool → Hp → Prop), Inv X pins σ H s → t σ H Q → wpAny (model X.prog X.w) X.A (isTrue e X.env whole) (TP X pins σ Q) X.xe s
theorem PW.pt {X : Cx} {e : Expr} {t : TT} (h : PW X e t) : PT X e t := h _
noncomputable def PA (X : Cx) (es : List Expr) (t : TA) : Prop :=
  ∀ (pos : Pos) (pins : List (Addr × Obj)) (s : Shared) (σ : St) (H : Hp) (Q : List V → Hp → Prop), Inv X pins σ H s → t σ H Q → wpAny (model X.prog X.w) X.A (spliced (backTo pos (starEach es X.env))) (AP X pins σ Q) X.xe s
noncomputable def PS (X : Cx) (st : Stmt) (t : TS) : Prop :=
  ∀ (pins : List (Addr × Obj)) (s : Shared) (σ : St) (H : Hp) (D : Ends), Inv X pins σ H s → t D σ H → wpAny (model X.prog X.w) X.A (exec st X.env) (SP X pins D) X.xe s
noncomputable def PSs (X : Cx) (st : List Stmt) (t : TS) : Prop :=
  ∀ (pins : List (Addr × Obj)) (s : Shared) (σ : St) (H : Hp) (D : Ends), Inv X pins σ H s → t D σ H → wpAny (model X.prog X.w) X.A (execs st X.env) (SP X pins D) X.xe s
theorem thn {α : Type} {t : Sem α} {Q Q' : α → Shared → Prop} {M : Model} {A : Around} {E : Value → Shared → Prop} {s : Shared} (h : wpAny M A t Q E s) (hQ : ∀ a s, Q a s → Q' a s) : wpAny M A t Q' E s := wpAny_mono h hQ fun _ _ x => x
end L2

namespace L2
open PySem PySem.Spec PyProof.Rows
section
variable {X : Cx}

noncomputable def tVar (i : Nat) : TE := fun σ H Q => ∃ v, σ[i]? = some (some v) ∧ Q v H
noncomputable def tC (v : V) : TE := fun _ H Q => Q v H
theorem pe_var {i : Nat} {x : Str} {pos : Pos} (hN : X.N[i]? = some x) (hv : Vis X.env.scope x) (hd : (x == ("__debug__" : Str)) = false := by decide) (hcd : (x == ("__classdict__" : Str)) = false := by decide) : PE X (.Name x pos) (tVar i) := by
  intro pins s σ H Q I h
  obtain ⟨v, e, h⟩ := h
  obtain ⟨m, hn, hl⟩ := I.loc
  obtain ⟨u, r, l⟩ := hl i x v hN e hv
  have fin : EP X pins σ Q u s := ⟨v, H, I, r, h⟩
  rcases l with ⟨hk, hm⟩ | ⟨hk, c, hc, hcell⟩
  · exact wpAny_Name (wpAny_loadName_local I.ok.kind hk hn hm fin) hd
  · rcases hk with hk | hk
    · exact wpAny_Name (wpAny_loadName_cell I.ok.kind hk hc hcell fin) hd
    · exact wpAny_Name (wpAny_loadName_free I.ok.kind hk hc hcell fin hcd) hd
theorem pe_int {i j pos} : PE X (.Constant (.int i) j pos) (tC (.int i)) := fun _ _ _ H _ I h => wpAny_Constant_int ⟨.int i, H, I.tok _, ⟨_, rfl⟩, h⟩
theorem pe_bl {b j pos} : PE X (.Constant (.bool b) j pos) (tC (.bl b)) := fun _ _ _ H _ I h => Constant_bool ⟨.bl b, H, I, rfl, h⟩
theorem pe_non {j pos} : PE X (.Constant .none j pos) (tC .non) := fun _ _ _ H _ I h => Constant_none ⟨.non, H, I, rfl, h⟩
theorem pe_str {x j pos} : PE X (.Constant (.str x) j pos) (tC (.str x)) := fun _ _ _ H _ I h => Calls.Constant_str ⟨.str x, H, I.tok _, ⟨_, rfl⟩, h⟩

noncomputable def Gl (X : Cx) (x : Str) : Prop := X.env.kindOf x = some .globalImplicit
theorem ld_glob {E : Value → Shared → Prop} {pins : List (Addr × Obj)} {s : Shared} {σ : St} {H : Hp} {x : Str} {u : Value} {pos : Pos} {Q : Value → Shared → Prop} (I : Inv X pins σ H s) (hg : Gl X x) (hm : X.mg x = some u) (h : Q u s)
    (hd : (x == ("__debug__" : Str)) = false := by decide) : wpAny (model X.prog X.w) X.A (eval (.Name x pos) X.env) Q E s :=
  Calls.Name_function_global I.ok.kind hg (Calls.loadGlobal_global (by rw [I.ok.glob]; exact I.mod.glob.keeps I.bk) hm h) hd
theorem ld_blt {E : Value → Shared → Prop} {pins : List (Addr × Obj)} {s : Shared} {σ : St} {H : Hp} {x : Str} {u : Value} {pos : Pos} {Q : Value → Shared → Prop} (I : Inv X pins σ H s) (hg : Gl X x) (hm : X.mg x = none) (hv : bootBuiltins x = some u) (h : Q u s)
    (hn : x ≠ "__name__" := by decide) (hd : (x == ("__debug__" : Str)) = false := by decide) : wpAny (model X.prog X.w) X.A (eval (.Name x pos) X.env) Q E s := by
  obtain ⟨mb, h1, h2⟩ := I.mod.blt
  exact Calls.Name_function_global I.ok.kind hg (Calls.loadGlobal_builtin (by rw [I.ok.glob]; exact I.mod.glob.keeps I.bk) hm (by rw [I.ok.blt]; exact h1.keeps I.bk) ((h2 x hn).trans hv) h) hd
theorem pe_glob {x : Str} {v : V} {u : Value} {pos : Pos} (hg : Gl X x) (hm : X.mg x = some u) (r : RelV v u) (hd : (x == ("__debug__" : Str)) = false := by decide) : PE X (.Name x pos) (tC v) :=
  fun _ _ _ H _ I h => ld_glob I hg hm ⟨v, H, I, r, h⟩ hd
theorem pe_bltn {x : Str} {v : V} {u : Value} {pos : Pos} (hg : Gl X x) (hm : X.mg x = none) (hv : bootBuiltins x = some u) (r : RelV v u) (hn : x ≠ "__name__" := by decide) (hd : (x == ("__debug__" : Str)) = false := by decide) : PE X (.Name x pos) (tC v) :=
  fun _ _ _ H _ I h => ld_blt I hg hm hv ⟨v, H, I, r, h⟩ hn hd

variable {a b : Expr} {ta tb : TE} {pos : Pos}
noncomputable def PC (X : Cx) (op : CmpOp) (a b : Expr) (t : TE) : Prop :=
  ∀ (pins : List (Addr × Obj)) (s : Shared) (σ : St) (H : Hp) (Q : VK), Inv X pins σ H s → t σ H Q →
    wpAny (model X.prog X.w) X.A (eval a X.env) (fun v s₁ => wpAny (model X.prog X.w) X.A (eval b X.env) (fun u s₂ => wpAny (model X.prog X.w) X.A (compareOp op v u) (EP X pins σ Q) X.xe s₂) X.xe s₁) X.xe s
theorem nobehind (b : Expr) {op : CmpOp} (h : op ≠ .In) (h2 : op ≠ .NotIn) : behindInMarks op b = false := by
  have e1 : (op == CmpOp.In) = false := by cases op <;> first | rfl | exact absurd rfl h
  have e2 : (op == CmpOp.NotIn) = false := by cases op <;> first | rfl | exact absurd rfl h2
  cases b <;> simp [behindInMarks, e1, e2]
noncomputable def tIsN (ta : TE) : TE := fun σ H Q => ta σ H fun x H1 => Q (.bl (decide (x = .non))) H1
theorem RelV.none_iff {x : V} {v : Value} (r : RelV x v) : (v == Value.none) = decide (x = .non) := by
  cases x with
  | non => cases r; rfl
  | bl _ => cases r; rfl
  | int _ => obtain ⟨t, rfl⟩ := r; rfl
  | str _ => obtain ⟨t, rfl⟩ := r; rfl
  | byt _ => obtain ⟨t, rfl⟩ := r; rfl
  | flt _ => obtain ⟨t, rfl⟩ := r; rfl
  | ref _ => cases r; rfl
  | ty _ => cases r; rfl
theorem pc_isN {j pos'} (ha : PE X a ta) : PC X .Is a (.Constant .none j pos') (tIsN ta) := by
  intro pins s σ H Q I h
  refine thn (ha pins s σ H _ I h) fun v s1 ⟨x, H1, I1, r1, q1⟩ => ?_
  exact Constant_none (is_none_gen ⟨.bl _, H1, I1, by rw [r1.none_iff]; rfl, q1⟩)
noncomputable def tB (t : TE) : TT := fun σ H Q => t σ H fun x H1 => ∃ c, x = .bl c ∧ Q c H1
theorem pt_cmp {op : CmpOp} {t : TE} (h : PC X op a b t) (h1 : behindInMarks op b = false := by first | exact nobehind _ (by decide) (by decide) | rfl) : PT X (.Compare a [op] [b] pos) (tB t) := by
  intro pins s σ H Q I hw
  refine wpAny_isTrue_Compare1 (thn (h pins s σ H _ I hw) fun v s1 h1 => thn h1 fun u s2 h2 => thn h2 fun c s3 ⟨x, H1, I1, r1, q1⟩ => ?_) h1
  obtain ⟨d, rfl, q⟩ := q1
  cases r1
  exact wpAny_truthy_bool ⟨H1, I1, q⟩
theorem pt_val {e : Expr} {t : TE} (h : PE X e t) (he : ∀ whole, isTrue e X.env whole = (do let v ← whole; standAt e.pos; holding [v] (truthy v)) := by intro _; rfl) : PT X e (tB t) := by
  intro pins s σ H Q I hw
  refine isTrue_plain (thn (h pins s σ H _ I hw) fun v s1 ⟨x, H1, I1, r1, q1⟩ => ?_) (he _)
  obtain ⟨d, rfl, q⟩ := q1
  cases r1
  exact wpAny_truthy_bool ⟨H1, I1, q⟩

variable {tA tB' : TT} {rest : List Expr}
noncomputable def tAnd (t u : TT) : TT := fun σ H Q => t σ H fun c H1 => if c = true then u σ H1 Q else Q false H1
noncomputable def tOr (t u : TT) : TT := fun σ H Q => t σ H fun c H1 => if c = true then Q true H1 else u σ H1 Q
noncomputable def tNot (t : TT) : TT := fun σ H Q => t σ H fun c H1 => Q (!c) H1
theorem pw_and1 (ha : PT X a tA) : PW X (.BoolOp .And [a] pos) tA := by
  intro wh pins s σ H Q I h
  refine isTrue_and (thn (ha pins s σ H Q I h) fun c s1 e => ?_)
  cases c with
  | true => exact isTrue_and_nil e
  | false => exact e
theorem pw_or1 (ha : PT X a tA) : PW X (.BoolOp .Or [a] pos) tA := by
  intro wh pins s σ H Q I h
  refine isTrue_or (thn (ha pins s σ H Q I h) fun c s1 e => ?_)
  cases c with
  | false => exact isTrue_or_nil e
  | true => exact e
theorem pw_and (ha : PT X a tA) (hb : PW X (.BoolOp .And (b :: rest) pos) tB') : PW X (.BoolOp .And (a :: b :: rest) pos) (tAnd tA tB') := by
  intro wh pins s σ H Q I h
  refine isTrue_and (thn (ha pins s σ H _ I h) fun c s1 ⟨H1, I1, q1⟩ => ?_)
  cases c with
  | true => exact hb wh pins s1 σ H1 Q I1 q1
  | false => exact ⟨H1, I1, q1⟩
theorem pw_or (ha : PT X a tA) (hb : PW X (.BoolOp .Or (b :: rest) pos) tB') : PW X (.BoolOp .Or (a :: b :: rest) pos) (tOr tA tB') := by
  intro wh pins s σ H Q I h
  refine isTrue_or (thn (ha pins s σ H _ I h) fun c s1 ⟨H1, I1, q1⟩ => ?_)
  cases c with
  | true => exact ⟨H1, I1, q1⟩
  | false => exact hb wh pins s1 σ H1 Q I1 q1
theorem pt_not (ha : PT X a tA) : PT X (.UnaryOp .Not a pos) (tNot tA) := by
  intro pins s σ H Q I h
  exact isTrue_not (ha pins s σ H (fun c H1 => Q (!c) H1) I h)
noncomputable def tAndV (ta tb : TE) : TE := fun σ H Q => ta σ H fun x H1 => ∃ c, x = .bl c ∧ if c = true then tb σ H1 Q else Q (.bl false) H1
noncomputable def tNotV (ta : TE) : TE := fun σ H Q => ta σ H fun x H1 => ∃ c, x = .bl c ∧ Q (.bl (!c)) H1
theorem pe_one {op} {t : TE} (h : PE X a t) : PE X (.BoolOp op [a] pos) t := fun pins s σ H Q I hw => BoolOp_one (h pins s σ H Q I hw)
theorem pe_and (ha : PE X a ta) (hb : PE X (.BoolOp .And (b :: rest) pos) tb) : PE X (.BoolOp .And (a :: b :: rest) pos) (tAndV ta tb) := by
  intro pins s σ H Q I h
  refine BoolOp_and (thn (ha pins s σ H _ I h) fun v s1 ⟨x, H1, I1, r1, q1⟩ => ?_)
  obtain ⟨c, rfl, q1⟩ := q1
  cases r1
  refine wpAny_truthy_bool ?_
  cases c with
  | true => exact hb pins s1 σ H1 Q I1 q1
  | false => exact ⟨.bl false, H1, I1, rfl, q1⟩
theorem pe_not (ha : PE X a ta) : PE X (.UnaryOp .Not a pos) (tNotV ta) := by
  intro pins s σ H Q I h
  refine UnaryOp_ (thn (ha pins s σ H _ I h) fun v s1 ⟨x, H1, I1, r1, q1⟩ => ?_)
  obtain ⟨c, rfl, q1⟩ := q1
  cases r1
  exact not_of (wpAny_truthy_bool ⟨.bl (!c), H1, I1, rfl, q1⟩)
noncomputable def tIf (t : TT) (ta tb : TE) : TE := fun σ H Q => t σ H fun c H1 => if c = true then ta σ H1 Q else tb σ H1 Q
theorem pe_ifExp {c : Expr} (hc : PT X c tA) (ha : PE X a ta) (hb : PE X b tb) : PE X (.IfExp c a b pos) (tIf tA ta tb) := by
  intro pins s σ H Q I h
  refine wpAny_IfExp (thn (hc pins s σ H _ I h) fun d s1 ⟨H1, I1, q1⟩ => ?_)
  cases d with
  | true => exact ha pins s1 σ H1 Q I1 q1
  | false => exact hb pins s1 σ H1 Q I1 q1
end
end L2

namespace L2
open PySem PySem.Spec PyProof.Rows

noncomputable def SqL (K : PySem.W.Frag) (H : Hp) (a : Addr) (xs : List V) : Prop :=
  Rd H a (.lst xs) ∨
    ∃ (o : Obj) (its : Array Value) (n : Nat), K.lookup a = some o ∧ o.cls = .type "list" ∧ o.dict = none ∧ o.data = .seq its n ∧ its.size ≤ sizeLine ∧ Vals xs its.toList
noncomputable def SqT (K : PySem.W.Frag) (H : Hp) (a : Addr) (xs : List V) : Prop :=
  Rd H a (.tup xs) ∨
    ∃ (o : Obj) (its : Array Value) (n : Nat), K.lookup a = some o ∧ o.cls = .type "tuple" ∧ o.data = .seq its n ∧ its.size ≤ sizeLine ∧ Vals xs its.toList
noncomputable def absV : Value → Option V
  | .none => some .non
  | .bool b => some (.bl b)
  | .int i _ => some (.int i)
  | .str x _ => some (.str x)
  | .bytes b _ => some (.byt b)
  | .float b _ => some (.flt b)
  | .ref a => some (.ref a)
  | .type n => some (.ty n)
  | _ => none
theorem RelV.abs {x : V} {u : Value} (r : RelV x u) : absV u = some x := by
  cases x with
  | non => cases r; rfl
  | bl _ => cases r; rfl
  | int _ => obtain ⟨t, rfl⟩ := r; rfl
  | str _ => obtain ⟨t, rfl⟩ := r; rfl
  | byt _ => obtain ⟨t, rfl⟩ := r; rfl
  | flt _ => obtain ⟨t, rfl⟩ := r; rfl
  | ref _ => cases r; rfl
  | ty _ => cases r; rfl
theorem RelV.inj {x y : V} {u : Value} (r : RelV x u) (q : RelV y u) : x = y := Option.some.inj (r.abs.symm.trans q.abs)
theorem Vals.inj : ∀ {xs ys : List V} {us : List Value}, Vals xs us → Vals ys us → xs = ys
  | _, _, _, .nil, .nil => rfl
  | _, _, _, .cons r t, .cons r' t' => by rw [r.inj r', Vals.inj t t']
section
variable {X : Cx} {pins : List (Addr × Obj)} {σ : St} {H : Hp} {s : Shared} {a : Addr} {xs ys : List V}
theorem SqL.of {K : PySem.W.Frag} (h : H a = some (.lst xs)) : SqL K H a xs := .inl (.inl h)
theorem SqT.of {K : PySem.W.Frag} (h : H a = some (.tup xs)) : SqT K H a xs := .inl (.inl h)
theorem Inv.list (I : Inv X pins σ H s) (h : SqL X.K H a xs) : ∃ its : List Value, Vals xs its ∧ PlainL s.heap a its.toArray ∧ xs.length ≤ sizeLine := by
  rcases h with h | ⟨o, its, n, hk, hc, hd, hs, hz, r⟩
  · obtain ⟨z, its, n, r, e⟩ := h.ok I.hok
    exact ⟨its, r, ⟨_, n, e, rfl, rfl, rfl⟩, z⟩
  · refine ⟨its.toList, r, ⟨o, n, I.kIn a o hk, hc, hd, by simpa using hs⟩, ?_⟩
    have e := r.length
    simp only [Array.length_toList] at e
    omega
theorem Inv.tuple (I : Inv X pins σ H s) (h : SqT X.K H a xs) : ∃ its : List Value, Vals xs its ∧ IsTup s.heap a its.toArray ∧ xs.length ≤ sizeLine := by
  rcases h with h | ⟨o, its, n, hk, hc, hs, hz, r⟩
  · obtain ⟨z, its, r, p⟩ := h.ok I.hok
    exact ⟨its, r, p, z⟩
  · refine ⟨its.toList, r, ⟨o, I.kIn a o hk, hc, n, by simpa using hs⟩, ?_⟩
    have e := r.length
    simp only [Array.length_toList] at e
    omega
theorem Inv.list_inj (I : Inv X pins σ H s) (h : SqL X.K H a xs) (h' : SqL X.K H a ys) : xs = ys := by
  obtain ⟨its, r, ⟨o, n, e, _, _, d⟩, _⟩ := I.list h
  obtain ⟨its', r', ⟨o', n', e', _, _, d'⟩, _⟩ := I.list h'
  rw [e] at e'; cases e'
  rw [d] at d'
  injection d' with d1 _
  have : its = its' := by simpa using congrArg Array.toList d1
  subst this
  exact r.inj r'
theorem Inv.tuple_inj (I : Inv X pins σ H s) (h : SqT X.K H a xs) (h' : SqT X.K H a ys) : xs = ys := by
  obtain ⟨its, r, ⟨o, e, _, n, d⟩, _⟩ := I.tuple h
  obtain ⟨its', r', ⟨o', e', _, n', d'⟩, _⟩ := I.tuple h'
  rw [e] at e'; cases e'
  rw [d] at d'
  injection d' with d1 _
  have : its = its' := by simpa using congrArg Array.toList d1
  subst this
  exact r.inj r'
end

noncomputable abbrev Cx.wish (X : Cx) (E : Value → Shared → Prop) : Cx := { X with xe := E }
noncomputable abbrev Cx.nox (X : Cx) : Cx := X.wish fun _ _ => False
theorem Cx.Ok.wish {X : Cx} (ok : X.Ok) (E : Value → Shared → Prop) : (X.wish E).Ok :=
  ⟨ok.mod, ok.kind, ok.glob, ok.blt, ok.above, ok.inj, ok.has, ok.cab, ok.hd, ok.frames, ok.stk, ok.exf, ok.bs, ok.bsz, ok.noex, ok.exfs, ok.funs, ok.frf⟩
theorem Cx.Ok.unwish {X : Cx} {E : Value → Shared → Prop} (ok : (X.wish E).Ok) : X.Ok :=
  ⟨ok.mod, ok.kind, ok.glob, ok.blt, ok.above, ok.inj, ok.has, ok.cab, ok.hd, ok.frames, ok.stk, ok.exf, ok.bs, ok.bsz, ok.noex, ok.exfs, ok.funs, ok.frf⟩
section
variable {X : Cx} {pins : List (Addr × Obj)} {σ : St} {H : Hp} {s : Shared} {E : Value → Shared → Prop}
theorem Inv.wish (I : Inv X pins σ H s) (E : Value → Shared → Prop) : Inv (X.wish E) pins σ H s := ⟨I.ok.wish E, I.os, I.bare, I.base, I.loc, I.cell, I.free, I.freeC, I.pin, I.hok, I.len⟩
theorem Inv.unwish (I : Inv (X.wish E) pins σ H s) : Inv X pins σ H s := ⟨I.ok.unwish, I.os, I.bare, I.base, I.loc, I.cell, I.free, I.freeC, I.pin, I.hok, I.len⟩
theorem SP.unwish {D : Ends} {f : Flow} {s' : Shared} (h : SP (X.wish E) pins D f s') : SP X pins D f s' := by
  cases f with
  | next => obtain ⟨σ', H', I, q⟩ := h; exact ⟨σ', H', I.unwish, q⟩
  | brk => obtain ⟨σ', H', I, q⟩ := h; exact ⟨σ', H', I.unwish, q⟩
  | cont => obtain ⟨σ', H', I, q⟩ := h; exact ⟨σ', H', I.unwish, q⟩
  | ret u => obtain ⟨v, σ', H', I, r, q⟩ := h; exact ⟨v, σ', H', I.unwish, r, q⟩
theorem PSs.nox {st : List Stmt} {t : TS} (h : PSs X.nox st t) : PSs X st t := fun pins s σ H D I hw =>
  wpAny_mono (h pins s σ H D (I.wish _) hw) (fun _ _ q => q.unwish) fun _ _ z => False.elim z
end

section
variable {X : Cx} {st : Stmt} {rest : List Stmt} {t u : TS} {e : Expr} {te : TE} {pos : Pos}
noncomputable def tNext : TS := fun D σ H => D.nx σ H
noncomputable def tSeq (t u : TS) : TS := fun D σ H => t { D with nx := u D } σ H
theorem pss_nil : PSs X [] tNext := fun _ _ σ H _ I h => wpAny_execs_nil ⟨σ, H, I, h⟩
theorem pss_cons (h1 : PS X st t) (h2 : PSs X rest u) : PSs X (st :: rest) (tSeq t u) := by
  intro pins s σ H D I h
  refine wpAny_execs_cons (thn (h1 pins s σ H { D with nx := u D } I h) fun f s1 q => ?_)
  cases f with
  | next =>
    obtain ⟨σ', H', I', q⟩ := q
    exact h2 pins s1 σ' H' D I' q
  | ret v => exact q
  | brk => exact q
  | cont => exact q
theorem pss_one (h1 : PS X st t) : PSs X [st] t := by
  intro pins s σ H D I h
  refine wpAny_execs_cons (thn (h1 pins s σ H D I h) fun f s1 q => ?_)
  cases f with
  | next => exact wpAny_execs_nil q
  | ret v => exact q
  | brk => exact q
  | cont => exact q
noncomputable def tBreak : TS := fun D σ H => D.bk σ H
theorem ps_break : PS X (.Break pos) tBreak := fun _ _ σ H _ I h => wpAny_Break ⟨σ, H, I, h⟩
theorem Inv.quiet {pins : List (Addr × Obj)} {σ : St} {H : Hp} {s : Shared} (I : Inv X pins σ H s) : interactive X.env = false := by simp [interactive, I.ok.kind]
noncomputable def tDrop (te : TE) : TS := fun D σ H => te σ H fun _ H1 => D.nx σ H1
theorem ps_expr (he : PE X e te) (hs : swapsWith e none pos.line X.env = pure false := by rfl) : PS X (.Expr e pos) (tDrop te) := by
  intro pins s σ H D I h
  exact wpAny_Expr_any (thn (he pins s σ H _ I h) fun v s1 ⟨x, H1, I1, r1, q1⟩ => ⟨σ, H1, I1, q1⟩) I.quiet hs
noncomputable def tRet (te : TE) : TS := fun D σ H => te σ H D.rt
theorem ps_ret (he : PE X e te) : PS X (.Return (some e) pos) (tRet te) := by
  intro pins s σ H D I h
  exact wpAny_Return_some (thn (he pins s σ H _ I h) fun v s1 ⟨x, H1, I1, r1, q1⟩ => ⟨x, σ, H1, I1, r1, q1⟩)
noncomputable def tIfS (c : TT) (t u : TS) : TS := fun D σ H => c σ H fun b H1 => if b = true then t D σ H1 else u D σ H1
theorem ps_if {c : Expr} {a b : List Stmt} {tc : TT} (hc : PT X c tc) (ha : PSs X a t) (hb : PSs X b u) : PS X (.If c a b pos) (tIfS tc t u) := by
  intro pins s σ H D I h
  refine wpAny_If (thn (hc pins s σ H _ I h) fun d s1 ⟨H1, I1, q1⟩ => ?_)
  cases d with
  | true => exact ha pins s1 σ H1 D I1 q1
  | false => exact hb pins s1 σ H1 D I1 q1
end

noncomputable abbrev TG := V → St → Hp → (St → Hp → Prop) → Prop
noncomputable abbrev TGs := List V → St → Hp → (St → Hp → Prop) → Prop
noncomputable def PG (X : Cx) (target : Expr) (t : TG) : Prop :=
  ∀ (pins : List (Addr × Obj)) (s : Shared) (σ : St) (H : Hp) (v : V) (u : Value) (Q : St → Hp → Prop), Inv X pins σ H s → RelV v u → t v σ H Q →
    wpAny (model X.prog X.w) X.A (assign target X.env u) (fun _ s' => ∃ σ' H', Inv X pins σ' H' s' ∧ Q σ' H') X.xe s
noncomputable def PGs (X : Cx) (ts : List Expr) (t : TGs) : Prop :=
  ∀ (pins : List (Addr × Obj)) (s : Shared) (σ : St) (H : Hp) (vs : List V) (us : List Value) (Q : St → Hp → Prop), Inv X pins σ H s → Vals vs us → t vs σ H Q →
    wpAny (model X.prog X.w) X.A (assignInOrder ((assignEach ts X.env).map (·.2)) us) (fun _ s' => ∃ σ' H', Inv X pins σ' H' s' ∧ Q σ' H') X.xe s
noncomputable abbrev TSet := V → V → V → Hp → (Hp → Prop) → Prop
noncomputable def PSet (X : Cx) (t : TSet) : Prop :=
  ∀ (pins : List (Addr × Obj)) (s : Shared) (σ : St) (H : Hp) (o i v : V) (ov iv u : Value) (Q : Hp → Prop), Inv X pins σ H s → RelV o ov → RelV i iv → RelV v u → t o i v H Q →
    wpAny (model X.prog X.w) X.A (setItem ov iv u) (fun _ s' => ∃ H', Inv X pins σ H' s' ∧ Q H') X.xe s
section
variable {X : Cx} {pos : Pos}
noncomputable def gName (i : Nat) : TG := fun v σ H Q => Q (σ.set i (some v)) H
theorem pg_name {i : Nat} {x : Str} (hN : X.N.Nodup) (hi : X.N[i]? = some x) (hx : Loc X.env.scope x) (hf : X.fn x = true ∨ X.env.scope.names.lookup x = some .local := by first | exact .inl rfl | exact .inr rfl | assumption) : PG X (.Name x pos) (gName i) := by
  intro pins s σ H v u Q I r h
  exact wpAny_assign_Name (store_ok I hN hi hx r (fun s' I' => ⟨_, H, I', h⟩) hf)
noncomputable def gNil : TGs := fun vs σ H Q => vs = [] ∧ Q σ H
noncomputable def gCons (t : TG) (u : TGs) : TGs := fun vs σ H Q => ∃ v r, vs = v :: r ∧ t v σ H fun σ' H' => u r σ' H' Q
theorem pgs_nil : PGs X [] gNil := by
  intro pins s σ H vs us Q I r h
  obtain ⟨e, h⟩ := h
  subst e
  cases r
  exact assignInOrder_nil ⟨σ, H, I, h⟩
theorem pgs_cons {e : Expr} {es : List Expr} {t : TG} {u : TGs} (h1 : PG X e t) (h2 : PGs X es u)
    (hs : (assignEach (e :: es) X.env).map (·.2) = assign e X.env :: (assignEach es X.env).map (·.2) := by rfl) : PGs X (e :: es) (gCons t u) := by
  intro pins s σ H vs us Q I r h
  obtain ⟨v, vr, e1, h⟩ := h
  subst e1
  cases r with
  | cons r rr =>
    rw [hs]
    refine assignInOrder_cons (thn (h1 pins s σ H _ _ _ I r h) fun _ s1 ⟨σ1, H1, I1, q1⟩ => ?_)
    exact h2 pins s1 σ1 H1 _ _ Q I1 rr q1
noncomputable def gTup (K : PySem.W.Frag) (n : Nat) (t : TGs) : TG := fun v σ H Q => ∃ a xs, v = .ref a ∧ SqT K H a xs ∧ xs.length = n ∧ t xs σ H Q
theorem pg_tup {es : List Expr} {k : Nat} {t : TGs} {n : Nat} (hc : X.calm = true) (h : PGs X es t)
    (hn : (assignEach es X.env).length = n := by rfl) (hst : (assignEach es X.env).findIdx? (·.1) = none := by rfl) : PG X (.Tuple es k pos) (gTup X.K n t) := by
  intro pins s σ H v u Q I r hw
  obtain ⟨a, xs, e1, hq, hl, hw⟩ := hw
  subst e1
  cases r
  obtain ⟨its, rv, ht, hz⟩ := I.tuple hq
  refine assign_Tuple_tuple (I.ok.hd hc) ht (by simp [hn, ← hl, rv.length]) hst fun h' hx => ?_
  have I1 : Inv X pins σ H { s with heap := h' } := I.kept (t' := s.toks) fun b o e => hx b o (Nat.ne_of_lt (Heap.lt_size e)) e
  exact h pins _ σ H xs _ Q I1 (by simpa using rv) hw
noncomputable def tAsg (te : TE) (g : TG) : TS := fun D σ H => te σ H fun x H1 => g x σ H1 D.nx
theorem ps_asg {tg e : Expr} {te : TE} {g : TG} (he : PE X e te) (hg : PG X tg g) (hs : swapsWithSole [tg] e pos.line X.env = pure false := by rfl) (hw : swappedStores [tg] e X.env = pure none := by rfl)
    (h1 : (assignEach [tg] X.env).map (·.2) = [assign tg X.env] := by rfl) : PS X (.Assign [tg] e pos) (tAsg te g) := by
  intro pins s σ H D I h
  refine wpAny_Assign_stores (thn (he pins s σ H _ I h) fun v s1 ⟨x, H1, I1, r1, q1⟩ => ?_) hs hw
  rw [h1]
  exact thn (hg pins s1 σ H1 x v _ I1 r1 q1) fun _ s2 q => q
theorem ps_set {i : Nat} {x : Str} {e : Expr} {te : TE} {pos' : Pos} (hN : X.N.Nodup) (hi : X.N[i]? = some x) (hx : Loc X.env.scope x) (he : PE X e te) (hs : swapsWith e (some (.Name x pos')) pos.line X.env = pure false := by rfl) (hf : X.fn x = true ∨ X.env.scope.names.lookup x = some .local := by first | exact .inl rfl | exact .inr rfl | assumption) :
    PS X (.Assign [.Name x pos'] e pos) (tAsg te (gName i)) := by
  intro pins s σ H D I h
  refine wpAny_Assign_Name (thn (he pins s σ H _ I h) fun v s1 ⟨y, H1, I1, r1, q1⟩ => ?_) hs
  exact store_ok I1 hN hi hx r1 (fun s2 I2 => ⟨_, H1, I2, q1⟩) hf
end

section
variable {X : Cx} {pos : Pos}
noncomputable def tWhile (c : TT) (tb : TS) : TS := fun D σ H => ∃ W : Nat → St → Hp → Prop, (∃ m, W m σ H) ∧ ∀ m σ H, W m σ H →
  c σ H fun b H1 => if b = true then ∃ N : St → Hp → Prop, (∀ σ' H', N σ' H' → ∃ m', m' < m ∧ W m' σ' H') ∧ tb { D with nx := N, ct := N, bk := D.nx } σ H1 else D.nx σ H1
theorem ps_while {c : Expr} {body : List Stmt} {tc : TT} {tb : TS} (hp : PassesOwn (model X.prog X.w) X.A X.env X.xe) (hc : PT X c tc) (hb : PSs X body tb) : PS X (.While c body [] pos) (tWhile tc tb) := by
  intro pins s σ H D I h
  obtain ⟨W, ⟨m0, w0⟩, turn⟩ := h
  refine wpAny_While (codeAny_whileLoop (fun n s' => ∃ σ' H', Inv X pins σ' H' s' ∧ W n σ' H') ?_ m0 ⟨σ, H, I, w0⟩)
  rintro n s1 ⟨σ1, H1, I1, w1⟩
  refine wpAny_passesOwn hp (thn (hc pins s1 σ1 H1 _ I1 (turn n σ1 H1 w1)) fun b s2 ⟨H2, I2, q2⟩ => ?_)
  cases b with
  | true =>
    obtain ⟨N, hN, q2⟩ := q2
    rw [if_pos rfl]
    refine wpAny_passesOwn hp (thn (hb pins s2 σ1 H2 _ I2 q2) fun f s3 q3 => ?_)
    cases f with
    | next =>
      obtain ⟨σ3, H3, I3, n3⟩ := q3
      obtain ⟨m', hm, w3⟩ := hN σ3 H3 n3
      exact ⟨m', hm, σ3, H3, I3, w3⟩
    | cont =>
      obtain ⟨σ3, H3, I3, n3⟩ := q3
      obtain ⟨m', hm, w3⟩ := hN σ3 H3 n3
      exact ⟨m', hm, σ3, H3, I3, w3⟩
    | brk => exact q3
    | ret v => exact q3
  | false =>
    rw [if_neg Bool.false_ne_true]
    exact wpAny_execs_nil ⟨σ1, H2, I2, q2⟩
end

set_option genInjectivity false in
structure It where
  go : Nat → Hp → Prop
  yld : Nat → Hp → V → Hp → Prop
  stop : Nat → Hp → Prop
noncomputable def FpOk (X : Cx) (pins : List (Addr × Obj)) (H : Hp) (b : Addr) : Prop :=
  H b = none ∧ b ≠ X.env.locals ∧ b ∉ X.fs ∧ (b ∈ X.ex ∨ X.s₀.heap.objs.size ≤ b) ∧ (∀ x c, X.env.cells.lookup x = some c → c ≠ b) ∧ ∀ p ∈ X.pn ++ pins, p.1 ≠ b
theorem Inv.fpOk {X : Cx} {pins : List (Addr × Obj)} {σ : St} {H H' : Hp} {s : Shared} {b : Addr} (I : Inv X pins σ H s) (hb : s.heap.objs.size ≤ b) (hn : H' b = none) : FpOk X pins H' b := by
  refine ⟨hn, Nat.ne_of_gt (Nat.lt_of_lt_of_le I.lt hb), I.nofs hb, .inr (Nat.le_trans I.sz hb), fun x c e z => ?_, fun p hp z => ?_⟩
  · obtain ⟨v, q⟩ := I.cell x c e
    exact absurd (Nat.lt_of_lt_of_le q.lt (by rw [z]; exact hb)) (Nat.lt_irrefl _)
  · exact absurd (Nat.lt_of_lt_of_le (Heap.lt_size (I.pin p hp).1) (by rw [z]; exact hb)) (Nat.lt_irrefl _)
set_option genInjectivity false in
structure Turn (P : Program) (w : World) (K : PySem.W.Frag) (tg : Expr) (J : It) (fp : List Addr) (it : Addr) (tn : Nat → Heap → Prop) : Prop where
  mem : it ∈ fp
  obj : ∀ i h, tn i h → ∀ b ∈ fp, ∃ o, h.get? b = some o ∧ ∀ v, o.data ≠ .cell v
  keep : ∀ i h h', tn i h → (∀ b ∈ fp, ∀ o, h.get? b = some o → h'.get? b = some o) → tn i h'
  item : ∀ (X : Cx), X.prog = P → X.w = w → X.K = K → X.calm = true → ∀ (i : Nat) (pins : List (Addr × Obj)) (s : Shared) (σ : St) (H : Hp) (E : Value → Shared → Prop), Inv X pins σ H s → (∀ b ∈ fp, FpOk X pins H b) → tn i s.heap → J.go i H →
    wpAny (model P w) X.A (pyNext (.ref it)) (fun r s1 => ∃ u, r = some u ∧
      wpAny (model P w) X.A (letOwnedTupleGo tg (.ref it) u) (fun _ s2 => ∃ x H', Inv X pins σ H' s2 ∧ RelV x u ∧ J.yld i H x H' ∧ tn (i + 1) s2.heap ∧ ∀ b ∈ fp, H' b = none) E s1) E s
  done : ∀ (X : Cx), X.prog = P → X.w = w → X.K = K → X.calm = true → ∀ (i : Nat) (pins : List (Addr × Obj)) (s : Shared) (σ : St) (H : Hp) (E : Value → Shared → Prop), Inv X pins σ H s → (∀ b ∈ fp, FpOk X pins H b) → tn i s.heap → J.stop i H →
    wpAny (model P w) X.A (pyNext (.ref it)) (fun r s1 => r = none ∧ Inv X pins σ H s1) E s
  self : ∀ (A : Around) (i : Nat) (s : Shared) (Q : Value → Shared → Prop) (E : Value → Shared → Prop), tn i s.heap → Q (.ref it) s → wpAny (model P w) A (pyIter (.ref it)) Q E s
noncomputable abbrev TI := St → Hp → (It → Hp → Prop) → Prop
noncomputable def PIE (X : Cx) (pins : List (Addr × Obj)) (σ : St) (tg : Expr) (R : It → Hp → Prop) (itv : Value) (s2 : Shared) : Prop :=
  ∃ (it : Addr) (fp : List Addr) (tn : Nat → Heap → Prop) (J : It) (H' : Hp), itv = .ref it ∧ Inv X pins σ H' s2 ∧ Turn X.prog X.w X.K tg J fp it tn ∧ tn 0 s2.heap ∧ (∀ b ∈ fp, FpOk X pins H' b) ∧ R J H'
noncomputable def PI (X : Cx) (tg iter : Expr) (wi : TI) : Prop :=
  ∀ (pins : List (Addr × Obj)) (s : Shared) (σ : St) (H : Hp) (R : It → Hp → Prop), Inv X pins σ H s → wi σ H R →
    wpAny (model X.prog X.w) X.A (eval iter X.env) (fun v s1 => wpAny (model X.prog X.w) X.A (pyIter v) (PIE X pins σ tg R) X.xe s1) X.xe s

theorem go_of {M : Model} {A : Around} {E : Value → Shared → Prop} {s : Shared} {tg : Expr} {it : Addr} {u : Value} {o : Obj} {n : String} {vs : Array Value} {Q : Unit → Shared → Prop} (ho : s.heap.get? it = some o) (hc : o.cls = .type n) (hd : o.data = .fields vs)
    (hn : ["enumerate", "zip", "dict_itemiterator", "dict_reverseitemiterator", "odict_iterator", "itertools.zip_longest", "itertools.pairwise"].contains n = false) (hQ : Q () s) : wpAny M A (letOwnedTupleGo tg (.ref it) u) Q E s := by
  unfold letOwnedTupleGo
  cases tg <;> first
    | exact wpAny_pure hQ
    | (cases u <;> first
        | exact wpAny_pure hQ
        | (refine wpAny_bind (wpAny_load ho ?_)
           rw [hc, hd]
           show wpAny M A (if (["enumerate", "zip", "dict_itemiterator", "dict_reverseitemiterator", "odict_iterator", "itertools.zip_longest", "itertools.pairwise"].contains n && vs[0]? == some (rawInt _)) = true then _ else _) Q E s
           rw [if_neg (by intro h; rw [hn, Bool.false_and] at h; cases h)]
           exact wpAny_pure hQ))

noncomputable def Itl (K : PySem.W.Frag) (a : Addr) : It :=
  ⟨fun i H => ∃ xs x, SqL K H a xs ∧ xs[i]? = some x, fun i H x H' => H' = H ∧ ∀ xs, SqL K H a xs → xs[i]? = some x, fun i H => ∃ xs, SqL K H a xs ∧ xs.length ≤ i⟩
noncomputable def Itt (K : PySem.W.Frag) (a : Addr) : It :=
  ⟨fun i H => ∃ xs x, SqT K H a xs ∧ xs[i]? = some x, fun i H x H' => H' = H ∧ ∀ xs, SqT K H a xs → xs[i]? = some x, fun i H => ∃ xs, SqT K H a xs ∧ xs.length ≤ i⟩
noncomputable def Itr (lo : Int) (n : Nat) : It := ⟨fun i _ => i < n, fun i H x H' => H' = H ∧ x = .int (lo + i), fun i _ => n ≤ i⟩
theorem turn_list {P : Program} {w : World} {K : PySem.W.Frag} {tg : Expr} (a it : Addr) : Turn P w K tg (Itl K a) [it] it (fun i h => h.IsListIter it a i) where
  mem := by simp
  obj := fun i h st b hb => by
    have e : b = it := by simpa using hb
    subst e
    obtain ⟨o, e, c, d⟩ := st
    exact ⟨o, e, fun v z => by rw [d] at z; cases z⟩
  keep := fun i h h' st k => st.at fun o e => k it (by simp) o e
  item := by
    intro X hP hw hK hc i pins s σ H E I hf st hg
    subst hP hw hK
    obtain ⟨xs, x, hq, hx⟩ := hg
    obtain ⟨its, rv, p, hz⟩ := I.list hq
    obtain ⟨u, hu, ru⟩ := rv.get hx
    obtain ⟨f0, f1, f2, f3, f4, f5⟩ := hf it (by simp)
    refine wpAny_pyNext_list_item st p.isList (x := u) (by simpa using hu) fun h' st' sb => ?_
    have I1 : Inv X pins σ H { s with heap := h' } := I.turned (t' := s.toks) (fun b o hb e => (sb.2 b hb).trans e) f0 f1 f3 f4 f5
    obtain ⟨o, e, c, d⟩ := id st'
    exact ⟨u, rfl, go_of (s := { s with heap := h' }) e c d (by decide) ⟨x, H, I1, ru, ⟨rfl, fun ys hy => by rw [I.list_inj hy hq]; exact hx⟩, st', fun b hb => (hf b hb).1⟩⟩
  done := by
    intro X hP hw hK hc i pins s σ H E I hf st hg
    subst hP hw hK
    obtain ⟨xs, hq, hx⟩ := hg
    obtain ⟨its, rv, p, hz⟩ := I.list hq
    obtain ⟨f0, f1, f2, f3, f4, f5⟩ := hf it (by simp)
    have hl := rv.length
    exact wpAny_pyNext_list_end (I.ok.hd hc) st p.isList (by simp; omega) fun h' eb => ⟨rfl, I.turned (t' := s.toks) (fun b o hb e => eb b o hb e) f0 f1 f3 f4 f5⟩
  self := fun _ _ _ _ _ st h => wpAny_pyIter_listiter st h
theorem turn_tuple {P : Program} {w : World} {K : PySem.W.Frag} {tg : Expr} (a it : Addr) : Turn P w K tg (Itt K a) [it] it (fun i h => h.IsTupleIter it a i) where
  mem := by simp
  obj := fun i h st b hb => by
    have e : b = it := by simpa using hb
    subst e
    obtain ⟨o, e, c, d⟩ := st
    exact ⟨o, e, fun v z => by rw [d] at z; cases z⟩
  keep := fun i h h' st k => st.at fun o e => k it (by simp) o e
  item := by
    intro X hP hw hK hc i pins s σ H E I hf st hg
    subst hP hw hK
    obtain ⟨xs, x, hq, hx⟩ := hg
    obtain ⟨its, rv, p, hz⟩ := I.tuple hq
    obtain ⟨u, hu, ru⟩ := rv.get hx
    obtain ⟨f0, f1, f2, f3, f4, f5⟩ := hf it (by simp)
    refine wpAny_pyNext_tuple_item st (show s.heap.IsTuple a its.toArray from p) (x := u) (by simpa using hu) fun h' st' sb => ?_
    have I1 : Inv X pins σ H { s with heap := h' } := I.turned (t' := s.toks) (fun b o hb e => (sb.2 b hb).trans e) f0 f1 f3 f4 f5
    obtain ⟨o, e, c, d⟩ := id st'
    exact ⟨u, rfl, go_of (s := { s with heap := h' }) e c d (by decide) ⟨x, H, I1, ru, ⟨rfl, fun ys hy => by rw [I.tuple_inj hy hq]; exact hx⟩, st', fun b hb => (hf b hb).1⟩⟩
  done := by
    intro X hP hw hK hc i pins s σ H E I hf st hg
    subst hP hw hK
    obtain ⟨xs, hq, hx⟩ := hg
    obtain ⟨its, rv, p, hz⟩ := I.tuple hq
    obtain ⟨f0, f1, f2, f3, f4, f5⟩ := hf it (by simp)
    have hl := rv.length
    exact wpAny_pyNext_tuple_end (I.ok.hd hc) st (show s.heap.IsTuple a its.toArray from p) (by simp; omega) fun h' eb => ⟨rfl, I.turned (t' := s.toks) (fun b o hb e => eb b o hb e) f0 f1 f3 f4 f5⟩
  self := fun _ _ _ _ _ st h => wpAny_pyIter_tupleiter st h
theorem turn_range {P : Program} {w : World} {K : PySem.W.Frag} {tg : Expr} (it : Addr) (lo : Int) (n : Nat) : Turn P w K tg (Itr lo n) [it] it (fun i h => IsRangeIter h it (lo + (i : Nat) * 1) ((n : Int) - (i : Nat)) 1) where
  mem := by simp
  obj := fun i h st b hb => by
    have e : b = it := by simpa using hb
    subst e
    exact ⟨_, st, fun v z => by
      have z' : Data.fields _ = Data.cell v := z
      cases z'⟩
  keep := fun i h h' st k => k it (by simp) _ st
  item := by
    intro X hP hw hK hc i pins s σ H E I hf st hg
    subst hP hw hK
    obtain ⟨f0, f1, f2, f3, f4, f5⟩ := hf it (by simp)
    have W := Walks.range (prog := X.prog) (w := X.w) (I.ok.hd hc) it lo 1 n
    refine W.item i s _ _ hg st fun v h' tk hv st' kk => ?_
    obtain ⟨t, rfl⟩ := hv
    have I1 : Inv X pins σ H { s with heap := h', toks := tk } := I.turned (fun b o hb e => kk b o (by simpa using hb) e) f0 f1 f3 f4 f5
    refine ⟨_, rfl, go_of (s := { s with heap := h', toks := tk }) (n := "range_iterator") st' rfl rfl (by decide) ⟨.int (lo + i), H, I1, ⟨t, ?_⟩, ⟨rfl, rfl⟩, st', fun b hb => (hf b hb).1⟩⟩
    rw [Int.mul_one]
  done := by
    intro X hP hw hK hc i pins s σ H E I hf st hg
    subst hP hw hK
    obtain ⟨f0, f1, f2, f3, f4, f5⟩ := hf it (by simp)
    exact wpAny_pyNext_range_end (I.ok.hd hc) st (by have : n ≤ i := hg; omega) fun h' eb => ⟨rfl, I.turned (t' := s.toks) (fun b o hb e => eb b o hb e) f0 f1 f3 f4 f5⟩
  self := fun _ _ _ _ _ st h => wpAny_pyIter_rangeiter st h
end L2

namespace L2
open PySem PySem.Spec PyProof.Rows
section
variable {X : Cx} {tg : Expr}
noncomputable def iList (K : PySem.W.Frag) (tl : TE) : TI := fun σ H R => tl σ H fun x H1 => ∃ a, x = .ref a ∧ (∃ xs, SqL K H1 a xs) ∧ R (Itl K a) H1
noncomputable def iTup (K : PySem.W.Frag) (tl : TE) : TI := fun σ H R => tl σ H fun x H1 => ∃ a, x = .ref a ∧ (∃ xs, SqT K H1 a xs) ∧ R (Itt K a) H1
theorem pi_list {l : Expr} {tl : TE} (hl : PE X l tl) : PI X tg l (iList X.K tl) := by
  intro pins s σ H R I h
  refine thn (hl pins s σ H _ I h) fun v s1 ⟨x, H1, I1, r1, q1⟩ => ?_
  obtain ⟨a, e, ⟨xs, hq⟩, q⟩ := q1
  subst e
  cases r1
  obtain ⟨its, rv, p, hz⟩ := I1.list hq
  refine wpAny_pyIter_list p.isList ?_
  refine ⟨s1.heap.objs.size, [s1.heap.objs.size], _, _, H1, rfl, I1.kept (t' := s1.toks) fun b o e => Heap.get?_push_of_some _ e, turn_list a _, ⟨_, Heap.get?_push_size _ rfl, rfl, rfl⟩, fun b hb => ?_, q⟩
  have e : b = s1.heap.objs.size := by simpa using hb
  subst e
  exact I1.fpOk (Nat.le_refl _) (I1.hok.fresh (Nat.le_refl _))
theorem pi_tup {l : Expr} {tl : TE} (hl : PE X l tl) : PI X tg l (iTup X.K tl) := by
  intro pins s σ H R I h
  refine thn (hl pins s σ H _ I h) fun v s1 ⟨x, H1, I1, r1, q1⟩ => ?_
  obtain ⟨a, e, ⟨xs, hq⟩, q⟩ := q1
  subst e
  cases r1
  obtain ⟨its, rv, p, hz⟩ := I1.tuple hq
  refine wpAny_pyIter_tuple (show s1.heap.IsTuple a its.toArray from p) ?_
  refine ⟨s1.heap.objs.size, [s1.heap.objs.size], _, _, H1, rfl, I1.kept (t' := s1.toks) fun b o e => Heap.get?_push_of_some _ e, turn_tuple a _, ⟨_, Heap.get?_push_size _ rfl, rfl, rfl⟩, fun b hb => ?_, q⟩
  have e : b = s1.heap.objs.size := by simpa using hb
  subst e
  exact I1.fpOk (Nat.le_refl _) (I1.hok.fresh (Nat.le_refl _))
theorem range_it {pins : List (Addr × Obj)} {σ : St} {H : Hp} {s : Shared} {R : It → Hp → Prop} {E : Value → Shared → Prop} {lo hi : Int} {t u v : Tok} {tk : Nat} (I : Inv X pins σ H s) (h1 : -(2 ^ 62) ≤ lo) (h2 : lo < 2 ^ 62) (h3 : -(2 ^ 62) ≤ hi) (h4 : hi < 2 ^ 62)
    (q : R (Itr lo (hi - lo).toNat) H) : wpAny (model X.prog X.w) X.A (pyIter (.ref s.heap.objs.size)) (PIE X pins σ tg R) E { s with heap := s.heap.push { cls := .type "range", data := .fields #[.int lo t, .int hi u, .int 1 v] }, toks := tk } := by
  refine wpAny_pyIter_range (IsRange.new ..) (small_one h1 h2 h3 h4) ?_
  have I1 : Inv X pins σ H { s with heap := s.heap.push { cls := .type "range", data := .fields #[.int lo t, .int hi u, .int 1 v] }, toks := tk } := I.kept fun b o e => Heap.get?_push_of_some _ e
  refine ⟨(s.heap.push { cls := .type "range", data := .fields #[.int lo t, .int hi u, .int 1 v] }).objs.size, [(s.heap.push { cls := .type "range", data := .fields #[.int lo t, .int hi u, .int 1 v] }).objs.size], _, _, H, rfl,
    I1.kept (t' := tk) fun b o e => Heap.get?_push_of_some _ e, turn_range _ lo (hi - lo).toNat, ?_, fun b hb => ?_, q⟩
  · have e1 : lo + ((0 : Nat) : Int) * 1 = lo := by simp
    have e2 : (((hi - lo).toNat : Nat) : Int) - ((0 : Nat) : Int) = Builtin.Range.rangeSize lo hi 1 := by rw [rangeSize_one]; split <;> omega
    show IsRangeIter _ _ (lo + ((0 : Nat) : Int) * 1) ((((hi - lo).toNat : Nat) : Int) - ((0 : Nat) : Int)) 1
    rw [e1, e2]
    exact Heap.get?_push_size _ rfl
  · have e : b = (s.heap.push { cls := .type "range", data := .fields #[.int lo t, .int hi u, .int 1 v] }).objs.size := by simpa using hb
    subst e
    exact I1.fpOk (Nat.le_refl _) (I1.hok.fresh (Nat.le_refl _))
noncomputable def iRng1 (ta : TA) : TI := fun σ H R => ta σ H fun vs H1 => ∃ j : Int, vs = [.int j] ∧ -(2 ^ 62) ≤ j ∧ j < 2 ^ 62 ∧ R (Itr 0 j.toNat) H1
theorem pi_range1 {a : Expr} {ta : TA} {p pos : Pos} (hg : Gl X "range") (hm : X.mg "range" = none) (ha : PA X [a] ta) (hs : starEach [a] X.env = [(false, eval a X.env)] := by rfl) : PI X tg (.Call (.Name "range" p) [a] [] pos) (iRng1 ta) := by
  intro pins s σ H R I h
  refine Call_ (ld_blt I hg hm boot_range (PyProof.Rows.callWith_type1 (thn (ha pos pins s σ H _ I h) fun us s1 ⟨vs, H1, I1, r1, q1⟩ => ?_) hs rfl))
  obtain ⟨j, e, q1, q2, q⟩ := q1
  subst e
  cases r1 with
  | cons r rr =>
    cases rr
    obtain ⟨t, rfl⟩ := r
    exact call_range_1 (range_it I1 (by omega) (by omega) q1 q2 (by simpa using q))
noncomputable def tFor (wi : TI) (g : TG) (tb : TS) : TS := fun D σ H => wi σ H fun J H1 => ∃ W : Nat → Nat → St → Hp → Prop, (∃ m, W 0 m σ H1) ∧ ∀ i m σ H, W i m σ H →
  (J.stop i H ∧ D.nx σ H) ∨ (J.go i H ∧ ∃ N : St → Hp → Prop, (∀ σ' H', N σ' H' → ∃ m', m' < m ∧ W (i + 1) m' σ' H') ∧ ∀ x H', J.yld i H x H' → g x σ H' fun σ2 H2 => tb { D with nx := N, ct := N, bk := D.nx } σ2 H2)
noncomputable def pinsAt (fp : List Addr) (h : Heap) : List (Addr × Obj) := fp.filterMap fun b => (h.get? b).map fun o => (b, o)
theorem mem_pinsAt {fp : List Addr} {h : Heap} {b : Addr} {o : Obj} (hb : b ∈ fp) (e : h.get? b = some o) : (b, o) ∈ pinsAt fp h := List.mem_filterMap.mpr ⟨b, hb, by rw [e]; rfl⟩
theorem of_pinsAt {fp : List Addr} {h : Heap} {p : Addr × Obj} (hp : p ∈ pinsAt fp h) : p.1 ∈ fp ∧ h.get? p.1 = some p.2 := by
  obtain ⟨b, hb, e⟩ := List.mem_filterMap.mp hp
  cases q : h.get? b with
  | none => rw [q] at e; cases e
  | some o =>
    rw [q] at e
    have e' : (b, o) = p := Option.some.inj e
    subst e'
    exact ⟨hb, q⟩
theorem Inv.pinned {pins : List (Addr × Obj)} {σ : St} {H : Hp} {s : Shared} {fp : List Addr} (I : Inv X pins σ H s) (hf : ∀ b ∈ fp, FpOk X pins H b) (ho : ∀ b ∈ fp, ∃ o, s.heap.get? b = some o ∧ ∀ v, o.data ≠ .cell v) : Inv X (pins ++ pinsAt fp s.heap) σ H s :=
  I.pins_of fun p hp => (List.mem_append.mp hp).elim (fun z => I.pin p (List.mem_append_right _ z)) fun z => by
    obtain ⟨hb, e⟩ := of_pinsAt z
    obtain ⟨f0, f1, f2, _⟩ := hf p.1 hb
    obtain ⟨o, e', d⟩ := ho p.1 hb
    rw [e] at e'; cases e'
    exact ⟨e, f0, f1, f2, d⟩
theorem Inv.unpinned {pins pl : List (Addr × Obj)} {σ : St} {H : Hp} {s : Shared} (I : Inv X (pins ++ pl) σ H s) : Inv X pins σ H s := I.pins_of fun p hp => I.pin p (List.mem_append_right _ (List.mem_append_left _ hp))
theorem ps_for {iter : Expr} {body : List Stmt} {wi : TI} {g : TG} {tb : TS} {pos : Pos} (hp : PassesOwn (model X.prog X.w) X.A X.env X.xe) (hc : X.calm = true) (hi : PI X tg iter wi) (hg : PG X tg g) (hb : PSs X body tb)
    (hs : ∀ x, foldedSetIterable iter X.env x = pure x := by intro _; rfl) : PS X (.For tg iter body [] pos) (tFor wi g tb) := by
  intro pins s σ H D I h
  refine wpAny_For (thn (hi pins s σ H _ I h) fun v s1 h1 => thn h1 fun itv s2 h2 => ?_) hs
  obtain ⟨it, fp, tn, J, H2, e, I2, T, st2, f2, W, ⟨m0, w0⟩, turn⟩ := h2
  subst e

  have stat : ∀ {H' : Hp}, (∀ b ∈ fp, H' b = none) → ∀ b ∈ fp, FpOk X pins H' b := fun hn b hb => ⟨hn b hb, (f2 b hb).2⟩
  refine codeAny_forLoop_any (fun n s' => ∃ i σ' H', Inv X pins σ' H' s' ∧ tn i s'.heap ∧ (∀ b ∈ fp, H' b = none) ∧ W i n σ' H') ?_ m0 ⟨0, σ, H2, I2, st2, fun b hb => (f2 b hb).1, w0⟩
  rintro n s3 ⟨i, σ3, H3, I3, st3, fr3, w3⟩
  rcases turn i n σ3 H3 w3 with ⟨stop, qn⟩ | ⟨go, N, hN, step⟩
  · refine wpAny_passesOwn hp (thn (T.done X rfl rfl rfl hc i pins s3 σ3 H3 X.xe I3 (stat fr3) st3 stop) fun r s4 ⟨hr, I4⟩ => ?_)
    subst hr
    exact wpAny_execs_nil ⟨σ3, H3, I4, qn⟩
  · refine wpAny_passesOwn hp (thn (T.item X rfl rfl rfl hc i pins s3 σ3 H3 X.xe I3 (stat fr3) st3 go) fun r s4 ⟨u, hr, h4⟩ => ?_)
    subst hr
    refine wpAny_passesOwn hp (thn h4 fun _ s5 ⟨x, H5, I5, r5, y5, st5, fr5⟩ => ?_)
    have I5' := I5.pinned (stat fr5) (T.obj _ _ st5)
    refine wpAny_passesOwn hp (thn (hg _ s5 σ3 H5 x u _ I5' r5 (step x H5 y5)) fun _ s6 ⟨σ6, H6, I6, q6⟩ => ?_)
    refine wpAny_passesOwn hp (thn (hb _ s6 σ6 H6 _ I6 q6) fun f s7 q7 => ?_)
    have again : ∀ {σ7 : St} {H7 : Hp}, Inv X (pins ++ pinsAt fp s5.heap) σ7 H7 s7 → N σ7 H7 → ∃ m, m < n ∧ ∃ i σ' H', Inv X pins σ' H' s7 ∧ tn i s7.heap ∧ (∀ b ∈ fp, H' b = none) ∧ W i m σ' H' := fun {σ7 H7} I7 n7 => by
      obtain ⟨m', hm, w7⟩ := hN σ7 H7 n7
      refine ⟨m', hm, i + 1, σ7, H7, I7.unpinned, T.keep _ _ _ st5 fun b hb o e => (I7.pin (b, o) (List.mem_append_right _ (List.mem_append_right _ (mem_pinsAt hb e)))).1, fun b hb => ?_, w7⟩
      obtain ⟨o, e, d⟩ := T.obj _ _ st5 b hb
      exact (I7.pin (b, o) (List.mem_append_right _ (List.mem_append_right _ (mem_pinsAt hb e)))).2.1
    cases f with
    | next => obtain ⟨σ7, H7, I7, n7⟩ := q7; exact again I7 n7
    | cont => obtain ⟨σ7, H7, I7, n7⟩ := q7; exact again I7 n7
    | brk => obtain ⟨σ7, H7, I7, q7⟩ := q7; exact ⟨σ7, H7, I7.unpinned, q7⟩
    | ret v => obtain ⟨x7, σ7, H7, I7, r7, q7⟩ := q7; exact ⟨x7, σ7, H7, I7.unpinned, r7, q7⟩
end

theorem for_list {K : PySem.W.Frag} {a : Addr} {xs : List V} {g : TG} {tb : TS} {D : Ends} {σ : St} {H : Hp} (Pv : Nat → St → Hp → Prop) (h0 : Pv 0 σ H) (hl : ∀ i σ H, i ≤ xs.length → Pv i σ H → SqL K H a xs)
    (hs : ∀ i x σ H, xs[i]? = some x → Pv i σ H → g x σ H fun σ2 H2 => tb { D with nx := Pv (i + 1), ct := Pv (i + 1), bk := D.nx } σ2 H2) (hd : ∀ σ H, Pv xs.length σ H → D.nx σ H) :
    ∃ W : Nat → Nat → St → Hp → Prop, (∃ m, W 0 m σ H) ∧ ∀ i m σ H, W i m σ H →
      ((Itl K a).stop i H ∧ D.nx σ H) ∨ ((Itl K a).go i H ∧ ∃ N : St → Hp → Prop, (∀ σ' H', N σ' H' → ∃ m', m' < m ∧ W (i + 1) m' σ' H') ∧ ∀ x H', (Itl K a).yld i H x H' → g x σ H' fun σ2 H2 => tb { D with nx := N, ct := N, bk := D.nx } σ2 H2) := by
  refine ⟨fun i m σ H => m = xs.length - i ∧ i ≤ xs.length ∧ Pv i σ H, ⟨xs.length, by simp, Nat.zero_le _, h0⟩, ?_⟩
  rintro i m σ H ⟨rfl, hi, p⟩
  have q := hl i σ H hi p
  by_cases hlt : i < xs.length
  · refine .inr ⟨⟨xs, xs[i], q, by simp [hlt]⟩, Pv (i + 1), fun σ' H' p' => ⟨xs.length - (i + 1), by omega, rfl, hlt, p'⟩, fun x H' y => ?_⟩
    obtain ⟨e, y⟩ := y
    subst e
    exact hs i x σ _ (y xs q) p
  · have e : i = xs.length := by omega
    subst e
    exact .inl ⟨⟨xs, q, Nat.le_refl _⟩, hd σ H p⟩
theorem for_range {lo : Int} {n : Nat} {g : TG} {tb : TS} {D : Ends} {σ : St} {H : Hp} (Pv : Nat → St → Hp → Prop) (h0 : Pv 0 σ H)
    (hs : ∀ i σ H, i < n → Pv i σ H → g (.int (lo + i)) σ H fun σ2 H2 => tb { D with nx := Pv (i + 1), ct := Pv (i + 1), bk := D.nx } σ2 H2) (hd : ∀ σ H, Pv n σ H → D.nx σ H) :
    ∃ W : Nat → Nat → St → Hp → Prop, (∃ m, W 0 m σ H) ∧ ∀ i m σ H, W i m σ H →
      ((Itr lo n).stop i H ∧ D.nx σ H) ∨ ((Itr lo n).go i H ∧ ∃ N : St → Hp → Prop, (∀ σ' H', N σ' H' → ∃ m', m' < m ∧ W (i + 1) m' σ' H') ∧ ∀ x H', (Itr lo n).yld i H x H' → g x σ H' fun σ2 H2 => tb { D with nx := N, ct := N, bk := D.nx } σ2 H2) := by
  refine ⟨fun i m σ H => m = n - i ∧ i ≤ n ∧ Pv i σ H, ⟨n, by simp, Nat.zero_le _, h0⟩, ?_⟩
  rintro i m σ H ⟨rfl, hi, p⟩
  by_cases hlt : i < n
  · refine .inr ⟨hlt, Pv (i + 1), fun σ' H' p' => ⟨n - (i + 1), by omega, rfl, hlt, p'⟩, fun x H' y => ?_⟩
    obtain ⟨e, y⟩ := y
    subst e y
    exact hs i σ _ hlt p
  · have e : i = n := by omega
    subst e
    exact .inl ⟨Nat.le_refl _, hd σ H p⟩
end L2

namespace L2
open PySem PySem.Spec PyProof.Rows

noncomputable abbrev R2 := V → V → Hp → VK → Prop
noncomputable def OpR (X : Cx) (f : Value → Value → Sem Value) (r : R2) : Prop :=
  ∀ (pins : List (Addr × Obj)) (s : Shared) (σ : St) (H : Hp) (x y : V) (v u : Value) (Q : VK), Inv X pins σ H s → RelV x v → RelV y u → r x y H Q →
    wpAny (model X.prog X.w) X.A (f v u) (EP X pins σ Q) X.xe s
noncomputable def UnR (X : Cx) (f : Value → Sem Value) (r : V → Hp → VK → Prop) : Prop :=
  ∀ (pins : List (Addr × Obj)) (s : Shared) (σ : St) (H : Hp) (x : V) (v : Value) (Q : VK), Inv X pins σ H s → RelV x v → r x H Q →
    wpAny (model X.prog X.w) X.A (f v) (EP X pins σ Q) X.xe s
noncomputable def CallR (X : Cx) (f : Value) (r : List V → Hp → VK → Prop) : Prop :=
  ∀ (pins : List (Addr × Obj)) (s : Shared) (σ : St) (H : Hp) (xs : List V) (us : List Value) (Q : VK), Inv X pins σ H s → Vals xs us → r xs H Q →
    wpAny (model X.prog X.w) X.A (call f us) (EP X pins σ Q) X.xe s
noncomputable def tOp (r : R2) (ta tb : TE) : TE := fun σ H Q => ta σ H fun x H1 => tb σ H1 fun y H2 => r x y H2 Q
noncomputable def tUn (r : V → Hp → VK → Prop) (ta : TE) : TE := fun σ H Q => ta σ H fun x H1 => r x H1 Q
noncomputable def rI (C : Int → Int → Prop) (g : Int → Int → V) : R2 := fun x y H Q => ∃ i j, x = .int i ∧ y = .int j ∧ C i j ∧ Q (g i j) H
noncomputable def rI0 (g : Int → Int → V) : R2 := fun x y H Q => ∃ i j, x = .int i ∧ y = .int j ∧ Q (g i j) H
noncomputable def rU (g : Int → V) : V → Hp → VK → Prop := fun x H Q => ∃ i, x = .int i ∧ Q (g i) H

section
variable {X : Cx} {a b c : Expr} {ta tb tc : TE} {pos : Pos}

theorem binT (ha : PE X a ta) (hb : PE X b tb) {pins : List (Addr × Obj)} {s : Shared} {σ : St} {H : Hp} {R : V → V → Hp → Prop} (I : Inv X pins σ H s)
    (h : ta σ H fun x H1 => tb σ H1 fun y H2 => R x y H2) {Q : Value → Shared → Prop} {f : Value → Value → Sem Value}
    (hf : ∀ v u s2 x y H2, Inv X pins σ H2 s2 → RelV x v → RelV y u → R x y H2 → wpAny (model X.prog X.w) X.A (f v u) Q X.xe s2) :
    wpAny (model X.prog X.w) X.A (eval a X.env) (fun v s₁ => wpAny (model X.prog X.w) X.A (eval b X.env) (fun u s₂ => wpAny (model X.prog X.w) X.A (f v u) Q X.xe s₂) X.xe s₁) X.xe s := by
  refine thn (ha pins s σ H _ I h) fun v s1 ⟨x, H1, I1, r1, q1⟩ => ?_
  refine thn (hb pins s1 σ H1 _ I1 q1) fun u s2 ⟨y, H2, I2, r2, q2⟩ => ?_
  exact hf v u s2 x y H2 I2 r1 r2 q2

theorem pe_op {op : Operator} {r : R2} (ho : OpR X (binaryOp op) r) (ha : PE X a ta) (hb : PE X b tb) : PE X (.BinOp a op b pos) (tOp r ta tb) := by
  intro pins s σ H Q I h
  exact wpAny_BinOp (binT ha hb I h fun v u s2 x y H2 I2 rx ry q => ho pins s2 σ H2 x y v u Q I2 rx ry q)
theorem pe_un {op : UnaryOp} {r : V → Hp → VK → Prop} (ho : UnR X (unaryOp op) r) (ha : PE X a ta) : PE X (.UnaryOp op a pos) (tUn r ta) := by
  intro pins s σ H Q I h
  exact UnaryOp_ (thn (ha pins s σ H _ I h) fun v s1 ⟨x, H1, I1, r1, q1⟩ => ho pins s1 σ H1 x v Q I1 r1 q1)
theorem opI {f : Value → Value → Sem Value} {C : Int → Int → Prop} {g : Int → Int → Int}
    (rule : ∀ (i j : Int) (t u : Tok) (s : Shared) (Q : Value → Shared → Prop) (E : Value → Shared → Prop), C i j → Q (.int (g i j) s.toks) { s with toks := s.toks + 1 } → wpAny (model X.prog X.w) X.A (f (.int i t) (.int j u)) Q E s) :
    OpR X f (rI C fun i j => .int (g i j)) := by
  intro pins s σ H x y v u Q I rx ry h
  obtain ⟨i, j, rfl, rfl, hc, q⟩ := h
  obtain ⟨t, rfl⟩ := rx
  obtain ⟨t', rfl⟩ := ry
  exact rule i j t t' s _ _ hc ⟨.int (g i j), H, I.tok _, ⟨_, rfl⟩, q⟩
theorem opI0 {f : Value → Value → Sem Value} {g : Int → Int → Int}
    (rule : ∀ (i j : Int) (t u : Tok) (s : Shared) (Q : Value → Shared → Prop) (E : Value → Shared → Prop), Q (.int (g i j) s.toks) { s with toks := s.toks + 1 } → wpAny (model X.prog X.w) X.A (f (.int i t) (.int j u)) Q E s) :
    OpR X f (rI0 fun i j => .int (g i j)) := by
  intro pins s σ H x y v u Q I rx ry h
  obtain ⟨i, j, rfl, rfl, q⟩ := h
  obtain ⟨t, rfl⟩ := rx
  obtain ⟨t', rfl⟩ := ry
  exact rule i j t t' s _ _ ⟨.int (g i j), H, I.tok _, ⟨_, rfl⟩, q⟩
theorem opB0 {f : Value → Value → Sem Value} {g : Int → Int → Bool}
    (rule : ∀ (i j : Int) (t u : Tok) (s : Shared) (Q : Value → Shared → Prop) (E : Value → Shared → Prop), Q (.bool (g i j)) s → wpAny (model X.prog X.w) X.A (f (.int i t) (.int j u)) Q E s) :
    OpR X f (rI0 fun i j => .bl (g i j)) := by
  intro pins s σ H x y v u Q I rx ry h
  obtain ⟨i, j, rfl, rfl, q⟩ := h
  obtain ⟨t, rfl⟩ := rx
  obtain ⟨t', rfl⟩ := ry
  exact rule i j t t' s _ _ ⟨.bl (g i j), H, I, rfl, q⟩

noncomputable def CDiv (i j : Int) : Prop := 0 < j ∧ j < 1073741824
noncomputable def CMul (i j : Int) : Prop := (-(2 ^ 64) < i ∧ i < 2 ^ 64) ∨ (-(2 ^ 64) < j ∧ j < 2 ^ 64)
theorem CMul.ok {i j : Int} (h : CMul i j) : IntMulOk i j := by
  rcases h with ⟨h1, h2⟩ | ⟨h1, h2⟩
  · exact .of_left (intBits_le_64 h1 h2)
  · exact .of_right (intBits_le_64 h1 h2)
theorem op_add : OpR X (binaryOp .Add) (rI0 fun i j => .int (i + j)) := opI0 fun _ _ _ _ _ _ _ q => add_int q
theorem op_sub : OpR X (binaryOp .Sub) (rI0 fun i j => .int (i - j)) := opI0 fun _ _ _ _ _ _ _ q => sub_int q
theorem op_mul : OpR X (binaryOp .Mult) (rI CMul fun i j => .int (i * j)) := opI fun _ _ _ _ _ _ _ hc q => mul_int q hc.ok
theorem op_fdiv : OpR X (binaryOp .FloorDiv) (rI CDiv fun i j => .int (i / j)) := opI fun i j _ _ _ _ _ hc q => by
  have h1 : (0 : Int) < j := hc.1
  have h2 : j < 1073741824 := hc.2
  exact floordiv_int (by omega) (by rw [Int.fdiv_eq_ediv_of_nonneg i (by omega)]; exact q) (.inl (PyProof.noPylong_small (by omega)))
theorem op_mod : OpR X (binaryOp .Mod) (rI (fun _ j => 0 < j) fun i j => .int (i % j)) := opI fun i j _ _ _ _ _ hc q => by
  have h1 : (0 : Int) < j := hc
  exact mod_int' (by omega) (by rw [Int.fmod_eq_emod_of_nonneg i (by omega)]; exact q)
theorem unI {f : Value → Sem Value} {g : Int → Int}
    (rule : ∀ (i : Int) (t : Tok) (s : Shared) (Q : Value → Shared → Prop) (E : Value → Shared → Prop), Q (.int (g i) s.toks) { s with toks := s.toks + 1 } → wpAny (model X.prog X.w) X.A (f (.int i t)) Q E s) :
    UnR X f (rU fun i => .int (g i)) := by
  intro pins s σ H x v Q I rx h
  obtain ⟨i, rfl, q⟩ := h
  obtain ⟨t, rfl⟩ := rx
  exact rule i t s _ _ ⟨.int (g i), H, I.tok _, ⟨_, rfl⟩, q⟩
theorem un_neg : UnR X (unaryOp .USub) (rU fun i => .int (-i)) := unI fun _ _ _ _ _ q => neg_int q
end

noncomputable def scal : V → V → Bool
  | .non, .non => true | .non, .int _ => true | .int _, .non => true | .non, .bl _ => true | .bl _, .non => true | .non, .str _ => true | .str _, .non => true
  | .int _, .int _ => true | .bl _, .bl _ => true | .str _, .str _ => true | .byt _, .byt _ => true
  | .int _, .str _ => true | .str _, .int _ => true | .bl _, .str _ => true | .str _, .bl _ => true
  | _, _ => false
noncomputable def rEq : R2 := fun x y H Q => scal x y = true ∧ Q (.bl (decide (x = y))) H
noncomputable def rNe : R2 := fun x y H Q => scal x y = true ∧ Q (.bl (!decide (x = y))) H

theorem dec_int {i j : Int} : decide (V.int i = V.int j) = (i == j) := by
  rw [Bool.eq_iff_iff]
  simp
theorem dec_bl {i j : Bool} : decide (V.bl i = V.bl j) = (i == j) := by
  rw [Bool.eq_iff_iff]
  simp
theorem dec_str {i j : Str} : decide (V.str i = V.str j) = (i == j) := by
  rw [Bool.eq_iff_iff]
  simp
theorem dec_byt {i j : Array UInt8} : decide (V.byt i = V.byt j) = (i.toList == j.toList) := by
  rw [Bool.eq_iff_iff]
  cases i
  cases j
  simp

section
variable {X : Cx} {a b c : Expr} {ta tb tc : TE} {pos : Pos}
theorem fin_bl {pins : List (Addr × Obj)} {σ : St} {H : Hp} {s : Shared} {Q : VK} {k k' : Bool} (I : Inv X pins σ H s) (q : Q (.bl k) H) (e : k = k') : EP X pins σ Q (.bool k') s := by
  subst e
  exact ⟨.bl k, H, I, rfl, q⟩
theorem op_eq : OpR X (compareOp .Eq) rEq := by
  intro pins s σ H x y v u Q I rx ry h
  obtain ⟨hs, q⟩ := h
  cases x with
  | non =>
    cases rx
    cases y with
    | non => cases ry; exact PySem.EqNone.eq_none_none (fin_bl I q (by simp))
    | bl j => cases ry; exact PySem.EqNone.eq_none_bool (fin_bl I q (by simp))
    | int j => obtain ⟨t', rfl⟩ := ry; exact PySem.EqNone.eq_none_int (fin_bl I q (by simp))
    | str j => obtain ⟨t', rfl⟩ := ry; exact PySem.EqNone.eq_none_str (fin_bl I q (by simp))
    | _ => exact absurd (show false = true from hs) Bool.false_ne_true
  | bl i =>
    cases rx
    cases y with
    | non => cases ry; exact PySem.EqNone.eq_bool_none (fin_bl I q (by simp))
    | bl j => cases ry; exact eq_bool (fin_bl I q dec_bl)
    | str j => obtain ⟨t', rfl⟩ := ry; exact PySem.EqMixed.eq_bool_str (fin_bl I q (by simp))
    | _ => exact absurd (show false = true from hs) Bool.false_ne_true
  | int i =>
    obtain ⟨t, rfl⟩ := rx
    cases y with
    | non => cases ry; exact PySem.EqNone.eq_int_none (fin_bl I q (by simp))
    | int j => obtain ⟨t', rfl⟩ := ry; exact eq_int (fin_bl I q dec_int)
    | str j => obtain ⟨t', rfl⟩ := ry; exact PySem.EqMixed.eq_int_str (fin_bl I q (by simp))
    | _ => exact absurd (show false = true from hs) Bool.false_ne_true
  | str i =>
    obtain ⟨t, rfl⟩ := rx
    cases y with
    | non => cases ry; exact PySem.EqNone.eq_str_none (fin_bl I q (by simp))
    | bl j => cases ry; exact PySem.EqMixed.eq_str_bool (fin_bl I q (by simp))
    | int j => obtain ⟨t', rfl⟩ := ry; exact PySem.EqMixed.eq_str_int (fin_bl I q (by simp))
    | str j => obtain ⟨t', rfl⟩ := ry; exact eq_str (fin_bl I q dec_str)
    | _ => exact absurd (show false = true from hs) Bool.false_ne_true
  | byt i =>
    obtain ⟨t, rfl⟩ := rx
    cases y with
    | byt j => obtain ⟨t', rfl⟩ := ry; exact PySem.W.eq_bytes (fin_bl I q dec_byt)
    | _ => exact absurd (show false = true from hs) Bool.false_ne_true
  | _ => cases y <;> exact absurd (show false = true from hs) Bool.false_ne_true
theorem op_ne : OpR X (compareOp .NotEq) rNe := by
  intro pins s σ H x y v u Q I rx ry h
  obtain ⟨hs, q⟩ := h
  cases x with
  | non =>
    cases rx
    cases y with
    | non => cases ry; exact PySem.EqNone.ne_none_none (fin_bl I q (by simp))
    | bl j => cases ry; exact PySem.EqNone.ne_none_bool (fin_bl I q (by simp))
    | int j => obtain ⟨t', rfl⟩ := ry; exact PySem.EqNone.ne_none_int (fin_bl I q (by simp))
    | str j => obtain ⟨t', rfl⟩ := ry; exact PySem.EqNone.ne_none_str (fin_bl I q (by simp))
    | _ => exact absurd (show false = true from hs) Bool.false_ne_true
  | bl i =>
    cases rx
    cases y with
    | non => cases ry; exact PySem.EqNone.ne_bool_none (fin_bl I q (by simp))
    | bl j => cases ry; exact ne_bool (fin_bl I q (congrArg not dec_bl))
    | str j => obtain ⟨t', rfl⟩ := ry; exact PySem.EqMixed.ne_bool_str (fin_bl I q (by simp))
    | _ => exact absurd (show false = true from hs) Bool.false_ne_true
  | int i =>
    obtain ⟨t, rfl⟩ := rx
    cases y with
    | non => cases ry; exact PySem.EqNone.ne_int_none (fin_bl I q (by simp))
    | int j => obtain ⟨t', rfl⟩ := ry; exact ne_int (fin_bl I q (congrArg not dec_int))
    | str j => obtain ⟨t', rfl⟩ := ry; exact PySem.EqMixed.ne_int_str (fin_bl I q (by simp))
    | _ => exact absurd (show false = true from hs) Bool.false_ne_true
  | str i =>
    obtain ⟨t, rfl⟩ := rx
    cases y with
    | non => cases ry; exact PySem.EqNone.ne_str_none (fin_bl I q (by simp))
    | bl j => cases ry; exact PySem.EqMixed.ne_str_bool (fin_bl I q (by simp))
    | int j => obtain ⟨t', rfl⟩ := ry; exact PySem.EqMixed.ne_str_int (fin_bl I q (by simp))
    | str j => obtain ⟨t', rfl⟩ := ry; exact ne_str (fin_bl I q (congrArg not dec_str))
    | _ => exact absurd (show false = true from hs) Bool.false_ne_true
  | byt i =>
    obtain ⟨t, rfl⟩ := rx
    cases y with
    | byt j => obtain ⟨t', rfl⟩ := ry; exact PySem.W.ne_bytes (fin_bl I q (congrArg not dec_byt))
    | _ => exact absurd (show false = true from hs) Bool.false_ne_true
  | _ => cases y <;> exact absurd (show false = true from hs) Bool.false_ne_true

theorem op_lt : OpR X (compareOp .Lt) (rI0 fun i j => .bl (decide (i < j))) := opB0 fun _ _ _ _ _ _ _ q => lt_int q
theorem op_le : OpR X (compareOp .LtE) (rI0 fun i j => .bl (decide (i ≤ j))) := opB0 fun _ _ _ _ _ _ _ q => le_int q
theorem op_gt : OpR X (compareOp .Gt) (rI0 fun i j => .bl (decide (j < i))) := opB0 fun _ _ _ _ _ _ _ q => gt_int q
theorem op_notin_str : OpR X (compareOp .NotIn) (fun x y H Q => ∃ i j, x = .str i ∧ y = .str j ∧ Q (.bl (!(!(Builtin.Str.occurrences j i 0 j.length 1).isEmpty))) H) := by
  intro pins s σ H x y v u Q I rx ry h
  obtain ⟨i, j, rfl, rfl, q⟩ := h
  obtain ⟨t, rfl⟩ := rx
  obtain ⟨t', rfl⟩ := ry
  exact notIn_str (fin_bl I q rfl)
theorem nomark (b : Expr) {op : CmpOp} (h : op ≠ .In := by decide) (h2 : op ≠ .NotIn := by decide) : behindInMarks op b = false := by
  have e1 : (op == CmpOp.In) = false := by cases op <;> first | rfl | exact absurd rfl h
  have e2 : (op == CmpOp.NotIn) = false := by cases op <;> first | rfl | exact absurd rfl h2
  cases b <;> simp [behindInMarks, e1, e2]
theorem pe_cmpR {op : CmpOp} {r : R2} (ho : OpR X (compareOp op) r) (ha : PE X a ta) (hb : PE X b tb) (hm : behindInMarks op b = false) : PE X (.Compare a [op] [b] pos) (tOp r ta tb) := by
  intro pins s σ H Q I h
  exact wpAny_Compare1 (binT ha hb I h fun v u s2 x y H2 I2 rx ry q => ho pins s2 σ H2 x y v u Q I2 rx ry q) hm
noncomputable def tTest (t : TE) : TT := fun σ H Q => t σ H fun x H' => ∃ k, x = .bl k ∧ Q k H'
theorem pt_cmpR {op : CmpOp} {r : R2} (ho : OpR X (compareOp op) r) (ha : PE X a ta) (hb : PE X b tb) (hm : behindInMarks op b = false) : PT X (.Compare a [op] [b] pos) (tTest (tOp r ta tb)) := by
  intro pins s σ H Q I h
  refine wpAny_isTrue_Compare1 (thn (ha pins s σ H _ I h) fun v s1 ⟨x, H1, I1, r1, q1⟩ => thn (hb pins s1 σ H1 _ I1 q1) fun u s2 ⟨y, H2, I2, r2, q2⟩ =>
    thn (ho pins s2 σ H2 x y v u _ I2 r1 r2 q2) fun c s3 ⟨z, H3, I3, r3, k, e, q3⟩ => ?_) hm
  subst e
  cases r3
  exact wpAny_truthy_bool ⟨H3, I3, q3⟩
theorem line63 : (sizeLine : Nat) < 2 ^ 63 := by rw [sizeLine_eq]; decide
theorem op_add_str : OpR X (binaryOp .Add) (fun x y H Q => ∃ i j, x = .str i ∧ y = .str j ∧ i.length + j.length ≤ sizeLine ∧ Q (.str (i ++ j)) H) := by
  intro pins s σ H x y v u Q I rx ry h
  obtain ⟨i, j, rfl, rfl, hz, q⟩ := h
  obtain ⟨t, rfl⟩ := rx
  obtain ⟨t', rfl⟩ := ry
  exact add_str (fun t' tk => ⟨.str (i ++ j), H, I.tok _, ⟨_, rfl⟩, q⟩) hz
theorem vals1 {x : V} {us : List Value} (r : Vals [x] us) : ∃ u, us = [u] ∧ RelV x u := by
  cases r with
  | cons r1 r2 => cases r2; exact ⟨_, rfl, r1⟩
theorem vals2 {x y : V} {us : List Value} (r : Vals [x, y] us) : ∃ u w', us = [u, w'] ∧ RelV x u ∧ RelV y w' := by
  cases r with
  | cons r1 r2 =>
    cases r2 with
    | cons r3 r4 => cases r4; exact ⟨_, _, rfl, r1, r3⟩
theorem call_abs : CallR X (.builtin "abs") (fun xs H Q => ∃ i, xs = [.int i] ∧ Q (.int (if i < 0 then -i else i)) H) := by
  intro pins s σ H xs us Q I r h
  obtain ⟨i, rfl, q⟩ := h
  obtain ⟨u, rfl, t, rfl⟩ := vals1 r
  exact call_abs_int fun u tk => ⟨.int (if i < 0 then -i else i), H, I.tok _, ⟨_, rfl⟩, q⟩
end
end L2

namespace L2
open PySem PySem.Spec PyProof.Rows

set_option genInjectivity false in
structure ObjM (h : Heap) (x dx C : Addr) (mA : Str → Option Value) : Prop where
  obj : h.get? x = some (PySem.W.instObj C dx)
  ns : h.Ns1 dx mA
  ne : dx ≠ x

theorem lookIn_ns {h : Heap} {dx : Addr} {mA : Str → Option Value} (n : h.Ns1 dx mA) : ∃ od, h.get? dx = some od ∧ ∀ name, PySem.W.lookIn name od = some (mA name) := by
  obtain ⟨o, es, ep, ho, hd, hk, _, hm⟩ := n
  refine ⟨o, ho, fun name => ?_⟩
  have e := hm name
  unfold nsFind findBy at e
  rw [← Array.find?_toList] at e
  unfold PySem.W.lookIn
  rw [hd]
  dsimp only
  split
  · rename_i y q
    rw [q] at e
    exact congrArg some e
  · rename_i q
    rw [q] at e
    have a : es.toList.any (·.refKey) = false := by
      rw [List.any_eq_false]
      intro y hy
      obtain ⟨z, t, hkey⟩ := hk y (Array.mem_toList_iff.mp hy)
      simp [DictEntry.refKey, hkey]
    have a' : ¬ es.toList.any (·.refKey) = true := by rw [a]; exact Bool.false_ne_true
    rw [if_neg a']
    exact congrArg some e

theorem ObjM.look {h : Heap} {x dx C : Addr} {mA : Str → Option Value} (I : ObjM h x dx C mA) : ∃ od, PySem.W.InstAt h x (PySem.W.instObj C dx) C (some od) ∧ ∀ name, PySem.W.lookIn name od = some (mA name) :=
  let ⟨od, ho, hl⟩ := lookIn_ns I.ns
  ⟨od, ⟨I.obj, rfl, rfl, ho⟩, hl⟩

section
variable {prog : Program} {w : World} {A : Around} {E : Value → Shared → Prop} {s : Shared} {K : PySem.W.Frag} {x dx C f : Addr} {mA : Str → Option Value} {name : Str} {v : Value}

theorem get_map {expr : Bool} {Q : Value → Shared → Prop} (X : K.In s.heap) (I : ObjM s.heap x dx C mA) (hg : PySem.W.plainGet K C name = true) (hh : PySem.W.hasDictIn K C = true)
    (ha : PySem.W.findIn K (.ref C) name = some none) (hv : mA name = some v) (hv' : PySem.W.handedIn v = true) (h : Q v { s with toks := s.toks + 1 }) :
    wpAny (model prog w) A (getAttr (.ref x) name expr) Q E s := by
  obtain ⟨od, J, hl⟩ := I.look
  exact PySem.W.get_value X J (PySem.W.plainGet_of hg).1 (PySem.W.findObj_own hh ha rfl (by rw [hl, hv])) hv' h

theorem set_map {ns : List Str} {Q : Unit → Shared → Prop} (X : K.In s.heap) (I : ObjM s.heap x dx C mA)
    (hs : PySem.W.findIn K (.ref C) "__setattr__" = some (some (.builtin "object.__setattr__"))) (hp : PySem.W.plainOver K C = true) (ht : PySem.W.takerIn K C name = some none) (hh : PySem.W.hasDictIn K C = true)
    (hw : PySem.Within mA ns) (hsz : ns.length ≤ sizeLine)
    (h : ∀ h', ObjM h' x dx C (fun y => if y = name then some v else mA y) → Heap.SameBut dx s.heap h' → Q () { s with heap := h', toks := s.toks + 2 }) :
    wpAny (model prog w) A (setAttr (.ref x) name v) Q E s := by
  obtain ⟨od, J, hl⟩ := I.look
  refine PySem.W.set_plain X J hs (PySem.W.osa_open (s := { s with toks := s.toks + 1 }) (r := none) X J hp ht fun b => ?_)
  obtain ⟨cd, hc, hd'⟩ := PySem.W.any_some hh
  have hx : s.heap.get? x = some ⟨.ref C, some dx, .plain, #[]⟩ := I.obj
  refine wpAny_bind (wpAny_pure (wpAny_bind (wpAny_bind (wpAny_loadPart hx (wpAny_bind (PySem.W.Looks.here (s := { s with toks := s.toks + 1 }) (PySem.W.looks_clsIn X hc) ?_))))))
  rw [hd']
  refine wpAny_pure (a := some dx) (wpAny_bind (wpAny_pure (wpAny_bind ?_)))
  refine wpAny_nsSet1 (s := { s with toks := s.toks + 1 }) I.ns fun h' hn2 hs2 => ?_
  obtain ⟨oD, esD, epD, hoD, hdD, hcD⟩ := hn2.count (PySem.Within.cons name v hw)
  refine wpAny_bind (wpAny_lookBehind hoD (by rw [hdD]; exact pastItsLine_dict (Nat.le_trans hcD (by rw [List.length_cons]; omega))) ?_)
  exact wpAny_pure (h _ ⟨(hs2.2 _ (Ne.symm I.ne)).trans I.obj, hn2, I.ne⟩ hs2)

theorem make_map {R : Result → Shared → Prop} {vs : List Value} {kw : List (Str × Value)} (X : K.In s.heap) (hm : PySem.W.makesIn K C = true)
    (hi : PySem.W.findIn K (.ref C) "__init__" = some (some (.ref f))) (hf : PySem.W.typeIn K (.ref f) = some (.type "function"))
    (h : codeAny (model prog w) (A.under (.builtin "type.__call__" ⟨.ref C :: vs, kw⟩)) (.call (.ref f) ⟨.ref (s.heap.objs.size + 1) :: vs, kw⟩) (PySem.W.InitBack (s.heap.objs.size + 1) R)
      { s with heap := (s.heap.push PySem.W.emptyDict).push (PySem.W.instObj C s.heap.objs.size) }) :
    codeAny (model prog w) A (.call (.ref C) ⟨vs, kw⟩) R s := by
  obtain ⟨hh, g, d, t, os⟩ := s
  exact PySem.W.make_core (PySem.W.makes_of X hm) (PySem.W.looks_findIn X hi) (fun self => PySem.W.bind_fn X self hf) (.inl rfl) h
end

noncomputable def putF (f : Str) (v : V) : List (Str × V) → List (Str × V)
  | [] => [(f, v)]
  | (g, x) :: r => if g = f then (g, v) :: r else (g, x) :: putF f v r
theorem lookup_putF (f g : Str) (v : V) : ∀ fs : List (Str × V), (putF f v fs).lookup g = if g = f then some v else fs.lookup g
  | [] => by
    show List.lookup g [(f, v)] = _
    by_cases h : g = f
    · have hb : (g == f) = true := beq_iff_eq.mpr h
      simp only [List.lookup, hb, if_pos h]
    · have hb : (g == f) = false := beq_eq_false_iff_ne.mpr h
      simp only [List.lookup, hb, if_neg h]
  | (k, x) :: r => by
    have ih := lookup_putF f g v r
    rw [show putF f v ((k, x) :: r) = (if k = f then (k, v) :: r else (k, x) :: putF f v r) from rfl]
    by_cases hk : k = f
    · rw [if_pos hk]
      by_cases h : g = k
      · have hb : (g == k) = true := beq_iff_eq.mpr h
        simp only [List.lookup, hb, if_pos (h.trans hk)]
      · have hb : (g == k) = false := beq_eq_false_iff_ne.mpr h
        simp only [List.lookup, hb, if_neg (fun e : g = f => h (e.trans hk.symm))]
    · rw [if_neg hk]
      by_cases h : g = k
      · have hb : (g == k) = true := beq_iff_eq.mpr h
        simp only [List.lookup, hb, if_neg (fun e : g = f => hk (h.symm.trans e))]
      · have hb : (g == k) = false := beq_eq_false_iff_ne.mpr h
        simp only [List.lookup, hb]
        exact ih
theorem keys_putF (f : Str) (v : V) : ∀ fs : List (Str × V), f ∈ (putF f v fs).map (·.1) ∧ ∀ g, g ∈ fs.map (·.1) → g ∈ (putF f v fs).map (·.1)
  | [] => ⟨by simp [putF], fun g h => by simp at h⟩
  | (k, x) :: r => by
    obtain ⟨i1, i2⟩ := keys_putF f v r
    rw [show putF f v ((k, x) :: r) = (if k = f then (k, v) :: r else (k, x) :: putF f v r) from rfl]
    by_cases hk : k = f
    · rw [if_pos hk]
      subst hk
      exact ⟨by simp, fun g h => by simpa using h⟩
    · rw [if_neg hk]
      refine ⟨?_, fun g h => ?_⟩
      · rw [List.map_cons]
        exact List.mem_cons_of_mem _ i1
      · rw [List.map_cons] at h ⊢
        rcases List.mem_cons.mp h with e | e
        · exact List.mem_cons.mpr (.inl e)
        · exact List.mem_cons_of_mem _ (i2 g e)
theorem length_putF (f : Str) (v : V) : ∀ fs : List (Str × V), (putF f v fs).length ≤ fs.length + 1
  | [] => by simp [putF]
  | (k, x) :: r => by
    have ih := length_putF f v r
    rw [show putF f v ((k, x) :: r) = (if k = f then (k, v) :: r else (k, x) :: putF f v r) from rfl]
    by_cases hk : k = f
    · rw [if_pos hk, List.length_cons, List.length_cons]; omega
    · rw [if_neg hk, List.length_cons, List.length_cons]; omega

theorem RelO.some_of {v : V} {o : Option Value} (r : RelO (some v) o) : ∃ u, o = some u ∧ RelV v u := by
  cases o with
  | none => exact (show False from r).elim
  | some u => exact ⟨u, rfl, r⟩
theorem RelO.none_of {o : Option Value} (r : RelO none o) : o = none := by
  cases o with
  | none => rfl
  | some u => exact (show False from r).elim
theorem handed_of {v : V} {u : Value} (r : RelV v u) : PySem.W.handedIn u = true := by
  cases v with
  | non => cases (show u = Value.none from r); rfl
  | bl b => cases (show u = Value.bool b from r); rfl
  | int i => obtain ⟨t, e⟩ := (show ∃ t, u = Value.int i t from r); cases e; rfl
  | str x => obtain ⟨t, e⟩ := (show ∃ t, u = Value.str x t from r); cases e; rfl
  | byt b => obtain ⟨t, e⟩ := (show ∃ t, u = Value.bytes b t from r); cases e; rfl
  | flt b => obtain ⟨t, e⟩ := (show ∃ t, u = Value.float b t from r); cases e; rfl
  | ref a => cases (show u = Value.ref a from r); rfl
  | ty n => cases (show u = Value.type n from r); rfl

section
variable {P : Program} {w : World} {H H' : Hp} {h h' : Heap} {a C dx : Addr} {fs fs' : List (Str × V)}
theorem ins_get (hok : HOk P w H h) (e : H a = some (.ins C dx fs)) : ∃ mA, ObjM h a dx C mA ∧ (∀ f, RelO (fs.lookup f) (mA f)) ∧ PySem.Within mA (fs.map (·.1)) ∧ fs.length ≤ 1000 ∧ H dx = some (.own a) := by
  obtain ⟨d, z, ne, ob, mA, n, r, q⟩ := (show ObjOk P w H h a (.ins C dx fs) from hok a _ e)
  exact ⟨mA, ⟨ob, n, ne⟩, r, q, z, d⟩
end

set_option genInjectivity false in
structure Cls (K : PySem.W.Frag) (C : Addr) : Prop where
  pg : PySem.W.plainGet K C Str.empty = true
  hd : PySem.W.hasDictIn K C = true
  po : PySem.W.plainOver K C = true
  sa : PySem.W.findIn K (.ref C) "__setattr__" = some (some (.builtin "object.__setattr__"))
theorem Cls.get {K : PySem.W.Frag} {C : Addr} (c : Cls K C) (f : Str) : PySem.W.plainGet K C f = true := c.pg
noncomputable def NoAttr (K : PySem.W.Frag) (C : Addr) (f : Str) : Prop := PySem.W.findIn K (.ref C) f = some none
theorem NoAttr.taker {K : PySem.W.Frag} {C : Addr} {f : Str} (n : NoAttr K C f) : PySem.W.takerIn K C f = some none := by
  unfold PySem.W.takerIn
  rw [show PySem.W.findIn K (.ref C) f = some none from n]
  rfl
section
variable {X : Cx} {pins : List (Addr × Obj)} {σ : St} {H : Hp} {s : Shared} {a C dx : Addr} {fs : List (Str × V)} {f : Str} {v : V} {A : Around} {E : Value → Shared → Prop}

theorem getattr_ok {b : Bool} {Q : Value → Shared → Prop} (I : Inv X pins σ H s) (e : H a = some (.ins C dx fs)) (c : Cls X.K C) (n : NoAttr X.K C f) (l : fs.lookup f = some v)
    (h : ∀ u s', Inv X pins σ H s' → RelV v u → Q u s') : wpAny (model X.prog X.w) A (getAttr (.ref a) f b) Q E s := by
  obtain ⟨mA, O, r, _, _, _⟩ := ins_get I.hok e
  obtain ⟨u, hu, ru⟩ := RelO.some_of (v := v) (o := mA f) (by rw [← l]; exact r f)
  exact get_map I.kIn O (c.get f) c.hd n hu (handed_of ru) (h u _ (I.tok _) ru)

theorem setattr_ok {y : V} {u : Value} {Q : Unit → Shared → Prop} (I : Inv X pins σ H s) (e : H a = some (.ins C dx fs)) (c : Cls X.K C) (n : NoAttr X.K C f) (hl : fs.length < 1000) (ry : RelV y u)
    (h : ∀ s', Inv X pins σ (upd H a (.ins C dx (putF f y fs))) s' → Q () s') : wpAny (model X.prog X.w) A (setAttr (.ref a) f u) Q E s := by
  obtain ⟨mA, O, r, wi, _, ho⟩ := ins_get I.hok e
  have hz : (fs.map (·.1)).length ≤ sizeLine := by rw [List.length_map, sizeLine_eq]; omega
  refine set_map I.kIn O c.sa c.po n.taker c.hd wi hz fun h' O' sb => h _ ?_
  have hd : ∃ o, h'.get? dx = some o := let ⟨o, _, _, e', _⟩ := O'.ns; ⟨o, e'⟩
  refine I.write (x := a) (e := dx) (by rw [e]; exact True.intro) (.inr ho) (fun b q hb z => (sb.2 b hb).trans z) hd ?_
  refine ⟨by rw [upd_ne O.ne]; exact ho, ?_, O.ne, O'.obj, _, O'.ns, fun g => ?_, fun g hg => ?_⟩
  · have := length_putF f y fs; omega
  · show RelO ((putF f y fs).lookup g) (if g = f then some u else mA g)
    rw [lookup_putF]
    by_cases q : g = f
    · rw [if_pos q, if_pos q]; exact ry
    · rw [if_neg q, if_neg q]; exact r g
  · by_cases q : g = f
    · rw [q]; exact (keys_putF f y fs).1
    · refine (keys_putF f y fs).2 g (wi g fun z => hg ?_)
      show (if g = f then some u else mA g) = none
      rw [if_neg q]; exact z

theorem Inv.made (I : Inv X pins σ H s) : Inv X pins σ (upd (upd H s.heap.objs.size (.own (s.heap.objs.size + 1))) (s.heap.objs.size + 1) (.ins C s.heap.objs.size []))
    { s with heap := (s.heap.push PySem.W.emptyDict).push (PySem.W.instObj C s.heap.objs.size) } := by
  have e1 : (s.heap.push PySem.W.emptyDict).get? s.heap.objs.size = some PySem.W.emptyDict := Heap.get?_push_size s.heap rfl
  have e2 : ((s.heap.push PySem.W.emptyDict).push (PySem.W.instObj C s.heap.objs.size)).get? (s.heap.objs.size + 1) = some (PySem.W.instObj C s.heap.objs.size) := by
    have := Heap.get?_push_size (s.heap.push PySem.W.emptyDict) (o := PySem.W.instObj C s.heap.objs.size) rfl
    rwa [Heap.size_push] at this
  have e3 : (s.heap.push PySem.W.emptyDict).Ns s.heap.objs.size (fun _ => none) := ⟨PySem.W.emptyDict, #[], _, e1, rfl, (fun e he => absurd he (by simp)), fun _ => rfl⟩
  have I1 := I.laid (a := s.heap.objs.size) (o := .own (s.heap.objs.size + 1)) (h' := s.heap.push PySem.W.emptyDict) (t' := s.toks) (fun b u q => Heap.get?_push_of_some _ q) (Nat.le_refl _) ⟨_, e1⟩
  refine I1.laid (a := s.heap.objs.size + 1) (o := .ins C s.heap.objs.size []) (t' := s.toks) (fun b u q => Heap.get?_push_of_some _ q) (Nat.le_of_eq (Heap.size_push _ _)) ?_
  have ne : s.heap.objs.size ≠ s.heap.objs.size + 1 := Nat.ne_of_lt (Nat.lt_succ_self _)
  refine ⟨by rw [upd_ne ne, upd_same], Nat.zero_le _, ne, e2, fun _ => none, (Heap.Ns1.of_empty e3).at fun o q => Heap.get?_push_of_some _ q, fun _ => True.intro, fun y hy => absurd rfl hy⟩

theorem attr_of {prog : Program} {w : World} {env : Env} {e : Expr} {f : Str} {pos : Pos} {s : Shared} {Q : Value → Shared → Prop} (hb : attributeBase e f env (eval e env) = eval e env)
    (h : wpAny (model prog w) A (eval e env) (fun o s₁ => wpAny (model prog w) A (getAttr o f true) Q E s₁) E s) : wpAny (model prog w) A (eval (.Attribute e f pos) env) Q E s :=
  Attribute_any_ h (by rw [arm_eval_Attribute, hb])
end

noncomputable def tFld (K : PySem.W.Frag) (ta : TE) (f : Str) : TE := fun σ H Q => ta σ H fun x H1 => ∃ a C dx fs v, x = .ref a ∧ H1 a = some (.ins C dx fs) ∧ Cls K C ∧ NoAttr K C f ∧ fs.lookup f = some v ∧ Q v H1
noncomputable def sFld (K : PySem.W.Frag) (ta tv : TE) (f : Str) : TS := fun D σ H => tv σ H fun y H1 => ta σ H1 fun x H2 => ∃ a C dx fs, x = .ref a ∧ H2 a = some (.ins C dx fs) ∧ Cls K C ∧ NoAttr K C f ∧ fs.length < 1000 ∧
  D.nx σ (upd H2 a (.ins C dx (putF f y fs)))
section
variable {X : Cx} {o e value : Expr} {f : Str} {pos pos' tpos : Pos} {ta tv : TE}
theorem pe_fld (he : PE X e ta) (hb : attributeBase e f X.env (eval e X.env) = eval e X.env) : PE X (.Attribute e f pos) (tFld X.K ta f) := by
  intro pins s σ H Q I h
  refine attr_of hb (thn (he pins s σ H _ I h) fun u s1 ⟨x, H1, I1, rx, a, C, dx, fs, v, ex, ea, c, n, l, q⟩ => ?_)
  subst ex
  obtain rfl : u = Value.ref a := rx
  exact getattr_ok I1 ea c n l fun u' s2 I2 ru => ⟨v, H1, I2, ru, q⟩
theorem ps_fld (ha : PE X o ta) (hv : PE X value tv) (hs : swapsWith value (some (.Attribute o f pos')) pos.line X.env = pure false) : PS X (.Assign [.Attribute o f pos'] value pos) (sFld X.K ta tv f) := by
  intro pins s σ H D I h
  refine plainObj_wpAny_Assign_Attribute (thn (hv pins s σ H _ I h) fun u s1 ⟨y, H1, I1, ry, q⟩ => thn (ha pins s1 σ H1 _ I1 q) fun ov s2 ⟨x, H2, I2, rx, a, C, dx, fs, ex, ea, c, n, l, q2⟩ => ?_) hs
  subst ex
  obtain rfl : ov = Value.ref a := rx
  exact setattr_ok I2 ea c n l ry fun s3 I3 => ⟨σ, _, I3, q2⟩
end

section
variable {X : Cx} {pins : List (Addr × Obj)} {σ : St} {H : Hp} {s : Shared} {A : Around} {E : Value → Shared → Prop} {Q : Value → Shared → Prop} {c : Value} {b : Bool}
inductive TyOf (K : PySem.W.Frag) (H : Hp) : V → Value → Prop where
  | non : TyOf K H .non (.type "NoneType")
  | bl (x : Bool) : TyOf K H (.bl x) (.type "bool")
  | int (i : Int) : TyOf K H (.int i) (.type "int")
  | str (x : Str) : TyOf K H (.str x) (.type "str")
  | flt (x : UInt64) : TyOf K H (.flt x) (.type "float")
  | lst {a : Addr} {xs : List V} (e : H a = some (.lst xs)) : TyOf K H (.ref a) (.type "list")
  | frz {a : Addr} {o : Obj} {xs : List V} (e : H a = some (.frz o (.lst xs))) : TyOf K H (.ref a) (.type "list")
  | tup {a : Addr} {xs : List V} (e : H a = some (.tup xs)) : TyOf K H (.ref a) (.type "tuple")
  | dK {a : Addr} {kvs : List (Key × V)} (e : H a = some (.dK kvs)) : TyOf K H (.ref a) (.type "dict")
  | dT {a : Addr} {kvs : List (List Key × V)} (e : H a = some (.dT kvs)) : TyOf K H (.ref a) (.type "dict")
  | ins {a C dx : Addr} {fs : List (Str × V)} (e : H a = some (.ins C dx fs)) (cl : Cls K C) (ha : PySem.W.findIn K (.ref C) "__class__" = some (some (.builtin "object.__class__")))
      (hn : PySem.W.specialIn K (.builtin "object.__class__") "__get__" = some (some (.builtin "getset_descriptor.__get__"))) (htk : PySem.W.takesIn K (.builtin "object.__class__") = some true)
      (hm : PySem.W.mroIn K C (.type "object") = some true) : TyOf K H (.ref a) (.ref C)
theorem isinst_ok {x : V} {u t : Value} (I : Inv X pins σ H s) (rx : RelV x u) (ty : TyOf X.K H x t) (e : PySem.W.kitOne X.K t c = some b) (h : ∀ tk, Q (.bool b) { s with toks := tk }) :
    wpAny (model X.prog X.w) A (call (.builtin "isinstance") [u, c]) Q E s := by
  cases ty with
  | non => cases (show u = Value.none from rx); exact PySem.W.kia_one PySem.W.kitx_none I.kIn True.intro e (fun z => nomatch z) h
  | bl y => cases (show u = Value.bool y from rx); exact PySem.W.kia_one PySem.W.kitx_bool I.kIn True.intro e (fun z => nomatch z) h
  | int i => obtain ⟨t, q⟩ := (show ∃ t, u = Value.int i t from rx); cases q; exact PySem.W.kia_one PySem.W.kitx_int I.kIn True.intro e (fun z => nomatch z) h
  | str y => obtain ⟨t, q⟩ := (show ∃ t, u = Value.str y t from rx); cases q; exact PySem.W.kia_one PySem.W.kitx_str I.kIn True.intro e (fun z => nomatch z) h
  | flt y => obtain ⟨t, q⟩ := (show ∃ t, u = Value.float y t from rx); cases q; exact PySem.W.kia_one PySem.W.kitx_float I.kIn True.intro e (fun z => nomatch z) h
  | @lst a xs ea =>
    cases (show u = Value.ref a from rx)
    obtain ⟨_, _, n, _, h1⟩ := (show ObjOk X.prog X.w H s.heap a (.lst xs) from I.hok a _ ea)
    exact PySem.W.kia_one PySem.W.kitx_list I.kIn ⟨_, h1, rfl⟩ e (fun z => nomatch z) h
  | @frz a ob xs ea =>
    cases (show u = Value.ref a from rx)
    obtain ⟨_, _, _, n, _, h1⟩ := (show ObjOk X.prog X.w H s.heap a (.frz ob (.lst xs)) from I.hok a _ ea)
    exact PySem.W.kia_one PySem.W.kitx_list I.kIn ⟨_, h1, rfl⟩ e (fun z => nomatch z) h
  | @tup a xs ea =>
    cases (show u = Value.ref a from rx)
    obtain ⟨_, _, _, p⟩ := (show ObjOk X.prog X.w H s.heap a (.tup xs) from I.hok a _ ea)
    obtain ⟨o, h1, h2, _⟩ := p
    exact PySem.W.kia_one PySem.W.kitx_tuple I.kIn ⟨o, h1, h2⟩ e (fun z => nomatch z) h
  | @dK a kvs ea =>
    cases (show u = Value.ref a from rx)
    obtain ⟨_, _, vs, _, p⟩ := (show ObjOk X.prog X.w H s.heap a (.dK kvs) from I.hok a _ ea)
    obtain ⟨o, es, ep, h1, h2, _⟩ := p
    exact PySem.W.kia_one PySem.W.kitx_dict I.kIn ⟨o, h1, h2.1⟩ e (fun z => nomatch z) h
  | @dT a kvs ea =>
    cases (show u = Value.ref a from rx)
    obtain ⟨_, _, xs, _, o, es, ep, h1, h2, _⟩ := (show ObjOk X.prog X.w H s.heap a (.dT kvs) from I.hok a _ ea)
    exact PySem.W.kia_one PySem.W.kitx_dict I.kIn ⟨o, h1, h2.1⟩ e (fun z => nomatch z) h
  | @ins a C dx fs ea cl ha hn htk hm =>
    cases (show u = Value.ref a from rx)
    obtain ⟨mA, O, _⟩ := ins_get I.hok ea
    obtain ⟨od, J, _⟩ := O.look
    exact PySem.W.kia_one (PySem.W.kitx_own (cl.get _) cl.hd ha hn htk hm) I.kIn J e (fun z => nomatch z) h
end
end L2

namespace L2
open PySem PySem.Spec PyProof.Rows

set_option genInjectivity false in
structure Room (k : Nat) (A : Around) : Prop where
  hd : A.handled = none
  dp : A.depth + 3 * k + 5 < recursionLimit
  un : A.units + 16 * k + 200 < cLine
theorem Room.mono {j k : Nat} {A : Around} (r : Room k A) (h : j ≤ k) : Room j A := ⟨r.hd, by have := r.dp; omega, by have := r.un; omega⟩
theorem Room.deeper {k : Nat} {A : Around} (r : Room (k + 1) A) (env : Env) : Room k (A.deeper env) :=
  ⟨r.hd, by have := r.dp; show A.depth + 1 + 3 * k + 5 < _; omega, by have := r.un; show A.units + 3 + 16 * k + 200 < _; omega⟩
theorem make_depth {A : Around} {C : Addr} {us : List Value} {kw : List (Str × Value)} : (A.under (.builtin "type.__call__" ⟨.ref C :: us, kw⟩)).depth = A.depth + 1 := by
  first | rfl | simp [Around.under, Code.weight, Code.isCreation, Code.isGuard, Code.isCaller, Code.frames, Code.isFrame, guardIds]
theorem make_units {A : Around} {C : Addr} {us : List Value} {kw : List (Str × Value)} : (A.under (.builtin "type.__call__" ⟨.ref C :: us, kw⟩)).units = A.units + 1 := by
  first | rfl | simp [Around.under, Code.cUnits, Code.frames, Code.isFrame]
theorem Room.make {k : Nat} {A : Around} (r : Room (k + 1) A) (C : Addr) (us : List Value) (kw : List (Str × Value)) : Room k (A.under (.builtin "type.__call__" ⟨.ref C :: us, kw⟩)) :=
  ⟨r.hd, by have := r.dp; rw [make_depth]; omega, by have := r.un; rw [make_units]; omega⟩
theorem Room.depth {k : Nat} {A : Around} (r : Room k A) : A.depth < recursionLimit := by have := r.dp; omega
theorem Room.units {k : Nat} {A : Around} (r : Room k A) : A.units + 64 < cLine := by have := r.un; omega
noncomputable def tNil : TA := fun _ H Q => Q [] H
noncomputable def tCons (ta : TE) (tr : TA) : TA := fun σ H Q => ta σ H fun x H1 => tr σ H1 fun xs H2 => Q (x :: xs) H2
section
variable {X : Cx} {e : Expr} {es : List Expr} {te : TE} {t : TA} {pos : Pos}
theorem pa_nil : PA X [] tNil := fun _ _ _ _ H Q I h => Calls.spliced_nil ⟨[], H, I, .nil, h⟩
theorem pa_cons (ha : PE X e te) (hr : PA X es t) (hs : starEach (e :: es) X.env = (false, eval e X.env) :: starEach es X.env := by rfl) : PA X (e :: es) (tCons te t) := by
  intro pos pins s σ H Q I h
  rw [hs]
  show wpAny _ _ (spliced ((false, eval e X.env) :: backTo pos (starEach es X.env))) _ _ s
  refine Calls.spliced_cons (thn (ha pins s σ H _ I h) fun u s1 ⟨x, H1, I1, r1, q1⟩ => ?_)
  exact thn (hr pos pins s1 σ H1 _ I1 q1) fun us s2 ⟨xs, H2, I2, r2, q2⟩ => ⟨x :: xs, H2, I2, .cons r1 r2, q2⟩

noncomputable def tTup (t : TA) : TE := fun σ H Q => t σ H fun xs H1 => xs.length ≤ sizeLine ∧ ∀ p, H1 p = none → Q (.ref p) (upd H1 p (.tup xs))
noncomputable def tLst (t : TA) : TE := fun σ H Q => t σ H fun xs H1 => xs.length ≤ sizeLine ∧ ∀ p, H1 p = none → Q (.ref p) (upd H1 p (.lst xs))
theorem pe_tup {x1} (h : PA X es t) : PE X (.Tuple es x1 pos) (tTup t) := by
  intro pins s σ H Q I hq
  refine wpAny_Tuple_spliced (thn (h pos pins s σ H _ I hq) fun us s1 ⟨xs, H1, I1, r, z, q⟩ => ⟨by rw [← r.length]; exact z, ?_⟩)
  have hf : H1 s1.heap.objs.size = none := I1.hok.fresh (Nat.le_refl _)
  refine ⟨.ref s1.heap.objs.size, upd H1 s1.heap.objs.size (.tup xs), I1.laid (t' := s1.toks) (fun b u e => Heap.get?_push_of_some _ e) (Nat.le_refl _) ?_, rfl, q _ hf⟩
  exact ⟨z, us, r, ⟨_, Heap.get?_push_size _ rfl, rfl, _, rfl⟩⟩
theorem pe_lst (h : PA X es t) : PE X (.List es pos) (tLst t) := by
  intro pins s σ H Q I hq
  refine wpAny_List_spliced (thn (h pos pins s σ H _ I hq) fun us s1 ⟨xs, H1, I1, r, z, q⟩ => ⟨by rw [← r.length]; exact z, ?_⟩)
  have hf : H1 s1.heap.objs.size = none := I1.hok.fresh (Nat.le_refl _)
  refine ⟨.ref s1.heap.objs.size, upd H1 s1.heap.objs.size (.lst xs), I1.laid (t' := s1.toks) (fun b u e => Heap.get?_push_of_some _ e) (Nat.le_refl _) ?_, rfl, q _ hf⟩
  exact ⟨z, us, 0, r, Heap.get?_push_size _ rfl⟩
end

noncomputable abbrev Sp := List V → Hp → VK → XK → Prop
noncomputable abbrev CXT := List Env → Hp → Shared → XK → Value → Shared → Prop

set_option genInjectivity false in
structure Env0 (P : Program) (w : World) (K : PySem.W.Frag) (mg : Str → Option Value) (base : Heap) (A : Around) (outer : List Env) (s : Shared) (H : Hp) : Prop where
  frames : A.frames = some outer
  mod : Mod K mg base
  bs : ∀ b o, base.get? b = some o → s.heap.get? b = some o ∧ H b = none
  bsz : base.objs.size ≤ s.heap.objs.size
  funs : s.heap.FunFrames base outer
  frf : ∀ b ∈ frs outer, H b = none
  hok : HOk P w H s.heap
  bare : AllBare s.gens
noncomputable def CE (outer : List Env) (P : Program) (w : World) (H : Hp) (s : Shared) (Q : VK) (u : Value) (s' : Shared) : Prop :=
  ∃ v H', s'.os = s.os ∧ AllBare s'.gens ∧ Un (frs outer) [] H H' s.heap s'.heap ∧ HOk P w H' s'.heap ∧ RelV v u ∧ Q v H'
noncomputable def CR (CX : CXT) (outer : List Env) (P : Program) (w : World) (H : Hp) (s : Shared) (Q : VK) (E : XK) (r : Result) (s' : Shared) : Prop :=
  match r with
  | .ok (.ret u) => CE outer P w H s Q u s'
  | .ok _ => False
  | .error e => CX outer H s E e s'
set_option genInjectivity false in
structure FnOk (P : Program) (w : World) (K : PySem.W.Frag) (mg : Str → Option Value) (base : Heap) (CX : CXT) (k : Nat) (f : Addr) (fd : FuncData) (ps : List Str) (sp : Sp) : Prop where
  len : ∀ vs H Q E, sp vs H Q E → vs.length = ps.length
  run : ∀ (A : Around) (outer : List Env) (s : Shared) (H : Hp) (args : Args) (us : List Value) (vs : List V) (Q : VK) (E : XK), Room k A → Env0 P w K mg base A outer s H → BindsTo s fd args (ps.zip us) → Vals vs us → sp vs H Q E →
    codeAny (model P w) A (.call (.ref f) args) (CR CX outer P w H s Q E) s
theorem Env0.make {P : Program} {w : World} {K : PySem.W.Frag} {mg : Str → Option Value} {base : Heap} {A : Around} {outer : List Env} {s : Shared} {H : Hp} (e : Env0 P w K mg base A outer s H) (C : Addr) (us : List Value) (kw : List (Str × Value)) :
    Env0 P w K mg base (A.under (.builtin "type.__call__" ⟨.ref C :: us, kw⟩)) outer s H := ⟨by first | exact e.frames | (simpa [Around.under, Code.envs, Code.isFrame, pushEnvs] using e.frames), e.mod, e.bs, e.bsz, e.funs, e.frf, e.hok, e.bare⟩
section
variable {X : Cx} {pins : List (Addr × Obj)} {σ : St} {H : Hp} {s s' : Shared}
theorem Inv.env0 (I : Inv X pins σ H s) : Env0 X.prog X.w X.K X.mg X.base X.A X.stack s H :=
  ⟨I.ok.frames, I.ok.mod, I.bs, Nat.le_trans I.ok.bsz I.sz, I.stack, I.stkFree, I.hok, I.bare⟩
theorem Inv.after {Q : VK} {u : Value} (I : Inv X pins σ H s) (h : CE X.stack X.prog X.w H s Q u s') : EP X pins σ Q u s' := by
  obtain ⟨v, H', os, bare, un, hok, r, q⟩ := h
  obtain ⟨hh, g, d, t, os'⟩ := s'
  obtain rfl : os' = s.os := os
  exact ⟨v, H', I.call (h' := hh) (g' := g) (d' := d) (t' := t) (ch := []) un hok bare (fun b z => absurd z (by simp)), r, q⟩
end

noncomputable def tCall (sp : Sp) (dvs : List V) (E : XK) (t : TA) : TE := fun σ H Q => t σ H fun vs H1 => sp (vs ++ dvs) H1 Q E
noncomputable def tMake (C : Addr) (sp : Sp) (dvs : List V) (E : XK) (t : TA) : TE := fun σ H Q => t σ H fun vs H1 => ∀ x dx, H1 x = none → H1 dx = none → dx ≠ x →
  sp (.ref x :: (vs ++ dvs)) (upd (upd H1 dx (.own x)) x (.ins C dx [])) (fun v H2 => v = .non ∧ Q (.ref x) H2) E

noncomputable def Binds (K : PySem.W.Frag) (fd : FuncData) (ps : List Str) (ds : List Value) : Prop :=
  ∀ (s : Shared) (us : List Value), K.In s.heap → (us ++ ds).length = ps.length → BindsTo s fd ⟨us, []⟩ (ps.zip (us ++ ds))
theorem Binds.all {K : PySem.W.Frag} {fd : FuncData} {ps : List Str} (h : ∀ us : List Value, us.length = ps.length → bindArgs fd ⟨us, []⟩ = pure (ps.zip us)) : Binds K fd ps [] := fun s us _ hl => by
  rw [List.append_nil] at hl ⊢
  exact .of_eq (h us hl)

noncomputable def Passes (CX : CXT) (X : Cx) (E : XK) : Prop := ∀ (pins : List (Addr × Obj)) (σ : St) (H : Hp) (s : Shared) (e : Value) (s' : Shared), Inv X pins σ H s → CX X.stack H s E e s' → X.xe e s'

section
variable {X : Cx} {CX : CXT} {k : Nat} {f C : Addr} {fd : FuncData} {ps : List Str} {sp : Sp} {dvs : List V} {ds : List Value} {E : XK} {x m : Str} {p pos apos : Pos} {e o : Expr} {es : List Expr} {ta : TE} {t : TA}

theorem run_fn {pins : List (Addr × Obj)} {σ : St} {H : Hp} {s : Shared} {Q : VK} {us : List Value} {vs : List V} (F : FnOk X.prog X.w X.K X.mg X.base CX k f fd ps sp) (hr : Room k X.A) (hb : Binds X.K fd ps ds) (hd : Vals dvs ds) (hx : Passes CX X E)
    (I : Inv X pins σ H s) (r : Vals vs us) (h : sp (vs ++ dvs) H Q E) : wpAny (model X.prog X.w) X.A (call (.ref f) us) (EP X pins σ Q) X.xe s := by
  have r2 : Vals (vs ++ dvs) (us ++ ds) := r.append hd
  have hl : (us ++ ds).length = ps.length := by rw [← r2.length]; exact F.len _ _ _ _ h
  refine wpAny_call (codeAny_mono (F.run X.A X.stack s H ⟨us, []⟩ (us ++ ds) (vs ++ dvs) Q E hr I.env0 (hb s us I.kIn hl) r2 h) fun r s' hq => ?_)
  cases r with
  | error e => exact hx pins σ H s e s' I hq
  | ok fl =>
    cases fl with
    | ret u => exact I.after hq
    | next => exact False.elim hq
    | brk => exact False.elim hq
    | cont => exact False.elim hq

theorem pe_call (F : FnOk X.prog X.w X.K X.mg X.base CX k f fd ps sp) (hr : Room k X.A) (hg : Gl X x) (hm : X.mg x = some (.ref f)) (hk : PySem.W.keepIn X.K (.ref f) = true) (hb : Binds X.K fd ps ds) (hd : Vals dvs ds) (hx : Passes CX X E)
    (ha : PA X (e :: es) t) (hdb : (x == ("__debug__" : Str)) = false := by decide) (he : starEach (e :: es) X.env = (false, eval e X.env) :: starEach es X.env := by rfl) (hpl : (backTo pos (starEach es X.env)).any (·.1) = false := by rfl) :
    PE X (.Call (.Name x p) (e :: es) [] pos) (tCall sp dvs E t) := by
  intro pins s σ H Q I h
  refine wpAny_Call_Name_kw (ld_glob I hg hm ?_ hdb)
  refine PySem.W.callWith_K (h₀ := X.base) I.ok.mod.kin hk (thn (ha pos pins s σ H _ I h) fun us s1 ⟨vs, H1, I1, r, q⟩ => ⟨I1.kIn, ?_⟩) he hpl
  exact run_fn F hr hb hd hx I1 r q
set_option genInjectivity false in
structure Mk (K : PySem.W.Frag) (C f : Addr) : Prop where
  makes : PySem.W.makesIn K C = true
  init : PySem.W.findIn K (.ref C) "__init__" = some (some (.ref f))
  fn : PySem.W.isFn K (.ref f) = true
  kp : PySem.W.keepIn K (.ref C) = true

theorem run_make {pins : List (Addr × Obj)} {σ : St} {H : Hp} {s : Shared} {Q : VK} {us : List Value} {vs : List V} (M : Mk X.K C f) (F : FnOk X.prog X.w X.K X.mg X.base CX k f fd ps sp) (hr : Room (k + 1) X.A) (hb : Binds X.K fd ps ds) (hd : Vals dvs ds)
    (hx : Passes CX X E) (I : Inv X pins σ H s) (r : Vals vs us)
    (h : ∀ x dx, H x = none → H dx = none → dx ≠ x → sp (.ref x :: (vs ++ dvs)) (upd (upd H dx (.own x)) x (.ins C dx [])) (fun v H2 => v = .non ∧ Q (.ref x) H2) E) :
    wpAny (model X.prog X.w) X.A (call (.ref C) us) (EP X pins σ Q) X.xe s := by
  have hq := h (s.heap.objs.size + 1) s.heap.objs.size (I.hok.fresh (Nat.le_succ _)) (I.hok.fresh (Nat.le_refl _)) (Nat.ne_of_lt (Nat.lt_succ_self _))
  have I2 := Inv.made (C := C) I
  have r2 : Vals (V.ref (s.heap.objs.size + 1) :: (vs ++ dvs)) (Value.ref (s.heap.objs.size + 1) :: (us ++ ds)) := .cons rfl (r.append hd)
  have hl : (Value.ref (s.heap.objs.size + 1) :: us ++ ds).length = ps.length := by
    have e := r2.length
    rw [F.len _ _ _ _ hq] at e
    exact e.symm
  refine wpAny_call (make_map (f := f) I.kIn M.makes M.init (beq_iff_eq.mp M.fn) (codeAny_mono (F.run _ X.stack _ _ ⟨Value.ref (s.heap.objs.size + 1) :: us, []⟩ (Value.ref (s.heap.objs.size + 1) :: (us ++ ds)) _ _ E (hr.make C us [])
    (I2.env0.make C us []) (hb _ (Value.ref (s.heap.objs.size + 1) :: us) I2.kIn hl) r2 hq) fun r s' hq' => ?_))
  cases r with
  | error e => exact hx pins σ _ _ e s' I2 hq'
  | ok fl =>
    cases fl with
    | ret u =>
      obtain ⟨v, H', I3, rv, ev, q3⟩ := I2.after hq'
      subst ev
      exact ⟨rv, ⟨V.ref (s.heap.objs.size + 1), H', I3, rfl, q3⟩⟩
    | next => exact False.elim hq'
    | brk => exact False.elim hq'
    | cont => exact False.elim hq'
theorem pe_make (M : Mk X.K C f) (F : FnOk X.prog X.w X.K X.mg X.base CX k f fd ps sp) (hr : Room (k + 1) X.A) (hg : Gl X x) (hm : X.mg x = some (.ref C)) (hb : Binds X.K fd ps ds) (hd : Vals dvs ds) (hx : Passes CX X E)
    (ha : PA X (e :: es) t) (hdb : (x == ("__debug__" : Str)) = false := by decide) (he : starEach (e :: es) X.env = (false, eval e X.env) :: starEach es X.env := by rfl) (hpl : (backTo pos (starEach es X.env)).any (·.1) = false := by rfl) :
    PE X (.Call (.Name x p) (e :: es) [] pos) (tMake C sp dvs E t) := by
  intro pins s σ H Q I h
  refine wpAny_Call_Name_kw (ld_glob I hg hm ?_ hdb)
  refine PySem.W.callWith_K (h₀ := X.base) I.ok.mod.kin M.kp (thn (ha pos pins s σ H _ I h) fun us s1 ⟨vs, H1, I1, r, q⟩ => ⟨I1.kIn, ?_⟩) he hpl
  exact run_make M F hr hb hd hx I1 r q
end

section
variable {X : Cx} {CX : CXT} {k : Nat} {f C : Addr} {fd : FuncData} {ps ks : List Str} {sp : Sp} {E : XK} {x m : Str} {p pos apos kpos : Pos} {e o : Expr} {es : List Expr} {kws : List Keyword} {te ta : TE} {t tk : TA} {nm : Option Str}
variable {g : List Value → List Value → List Value} {gV : List V → List V → List V}
end

set_option genInjectivity false in
structure FnScope (N P : List Str) (sc : Scope) : Prop where
  kind : sc.kind = .function
  co : sc.isCoroutine = false
  gen : sc.isGenerator = false
  nd : N.Nodup
  pre : N.take P.length = P
  par : ∀ x ∈ P, sc.names.lookup x = some .local ∨ sc.names.lookup x = some .cell
  nofree : ∀ y ∈ sc.names, y.2 ≠ .free

theorem bindL_out {kindOf : Str → Option NameKind} {x : Str} : ∀ {binds : List (Str × Value)} {m : Str → Option Value}, (∀ v, (x, v) ∉ binds) → bindL kindOf binds m x = m x
  | [], _, _ => rfl
  | (n, v) :: r, m, h => by
    unfold bindL
    rw [bindL_out fun w hw => h w (List.mem_cons_of_mem _ hw)]
    split
    · have : x ≠ n := by rintro rfl; exact h v List.mem_cons_self
      simp [this]
    · rfl
theorem bindC_out {kindOf : Str → Option NameKind} {x : Str} : ∀ {binds : List (Str × Value)} {m : Str → Option Value}, (∀ v, (x, v) ∉ binds) → bindC kindOf binds m x = m x
  | [], _, _ => rfl
  | (n, v) :: r, m, h => by
    unfold bindC
    rw [bindC_out fun w hw => h w (List.mem_cons_of_mem _ hw)]
    split
    · rfl
    · have : x ≠ n := by rintro rfl; exact h v List.mem_cons_self
      simp [this]
theorem bindL_get {kindOf : Str → Option NameKind} {x : Str} {v : Value} : ∀ {P : List Str} {vs : List Value} {i : Nat} {m : Str → Option Value}, P.Nodup → P[i]? = some x → vs[i]? = some v → kindOf x = some .local →
    bindL kindOf (P.zip vs) m x = some v
  | [], _, _, _, _, h, _, _ => by simp at h
  | _ :: _, [], _, _, _, _, h, _ => by simp at h
  | p :: P, w :: vs, 0, m, nd, h1, h2, hk => by
    simp at h1 h2; subst h1; subst h2
    show bindL kindOf ((p, w) :: P.zip vs) m p = _
    unfold bindL
    rw [bindL_out fun v hv => (List.nodup_cons.mp nd).1 (List.of_mem_zip hv).1, if_pos hk]
    simp
  | p :: P, w :: vs, i + 1, m, nd, h1, h2, hk => by
    show bindL kindOf ((p, w) :: P.zip vs) m x = _
    unfold bindL
    exact bindL_get (i := i) (List.nodup_cons.mp nd).2 (by simpa using h1) (by simpa using h2) hk
theorem bindC_get {kindOf : Str → Option NameKind} {x : Str} {v : Value} : ∀ {P : List Str} {vs : List Value} {i : Nat} {m : Str → Option Value}, P.Nodup → P[i]? = some x → vs[i]? = some v → kindOf x ≠ some .local →
    bindC kindOf (P.zip vs) m x = some v
  | [], _, _, _, _, h, _, _ => by simp at h
  | _ :: _, [], _, _, _, _, h, _ => by simp at h
  | p :: P, w :: vs, 0, m, nd, h1, h2, hk => by
    simp at h1 h2; subst h1; subst h2
    show bindC kindOf ((p, w) :: P.zip vs) m p = _
    unfold bindC
    rw [bindC_out fun v hv => (List.nodup_cons.mp nd).1 (List.of_mem_zip hv).1, if_neg hk]
    simp
  | p :: P, w :: vs, i + 1, m, nd, h1, h2, hk => by
    show bindC kindOf ((p, w) :: P.zip vs) m x = _
    unfold bindC
    exact bindC_get (i := i) (List.nodup_cons.mp nd).2 (by simpa using h1) (by simpa using h2) hk

noncomputable def start (N : List Str) (vs : List V) : St := vs.map some ++ List.replicate (N.length - vs.length) none

noncomputable def cxOf (CX : CXT) (P : Program) (w : World) (K : PySem.W.Frag) (mg : Str → Option Value) (base : Heap) (N : List Str) (qual : Str) (scope : Scope) (f : Addr) (cd : Value) (A : Around) (outer : List Env) (s : Shared) (H : Hp) (E : XK) : Cx where
  prog := P
  w := w
  K := K
  mg := mg
  base := base
  A := A.deeper (envOfC qual scope s.heap.objs.size f cd)
  N := N
  s₀ := s
  H₀ := H
  env := envOfC qual scope s.heap.objs.size f cd
  outer := outer
  stack := envOfC qual scope s.heap.objs.size f cd :: outer
  ex := []
  calm := true
  fn := fun _ => true
  pn := []
  xe := fun e s' => wpAny (model P w) (A.deeper (envOfC qual scope s.heap.objs.size f cd)) (leaving (envOfC qual scope s.heap.objs.size f cd) e) (fun _ s'' => CX outer H s E e s'') (fun e' s'' => CX outer H s E e' s'') s'

theorem cell_has {sc : Scope} {n : Nat} {x : Str} (h : sc.names.lookup x = some .cell) : ∃ c, (cellsFrom n sc.names []).lookup x = some c := by
  have q := PySem.W.cellsFrom_some sc.names n [] (.inl h)
  exact Option.isSome_iff_exists.mp q

theorem inv_start {CX : CXT} {P : Program} {w : World} {K : PySem.W.Frag} {mg : Str → Option Value} {base : Heap} {N ps : List Str} {qual : Str} {scope : Scope} {f : Addr} {cd : Value} {A : Around} {outer : List Env} {s s1 : Shared} {H : Hp} {E : XK} {us : List Value} {vs : List V}
    (S : FnScope N ps scope) (hd : A.handled = none) (e0 : Env0 P w K mg base A outer s H) (hl : vs.length = ps.length) (r : Vals vs us)
    (x : InCallC s s.heap.objs.size (bindL (envOfC qual scope s.heap.objs.size f cd).kindOf (ps.zip us) fun _ => none) (cellsFrom (s.heap.objs.size + 1) scope.names []) (bindC (envOfC qual scope s.heap.objs.size f cd).kindOf (ps.zip us) fun _ => none) s1) :
    Inv (cxOf CX P w K mg base N qual scope f cd A outer s H E) [] (start N vs) H s1 := by
  have hpl : ps.length ≤ N.length := by have := congrArg List.length S.pre; rw [List.length_take] at this; omega
  obtain ⟨h1, tk, rfl, hk⟩ := x.done
  have noA : ∀ b : Addr, b ∉ (cxOf CX P w K mg base N qual scope f cd A outer s H E).ex := fun b z => absurd (show b ∈ ([] : List Addr) from z) (by simp)
  refine ⟨⟨e0.mod, S.kind, rfl, rfl, Nat.le_refl _, fun y z c h1 h2 => ?_, fun y hy => ?_, fun y c _ h => ?_, fun _ => hd, Around.frames_deeper e0.frames, .inr ⟨rfl, rfl⟩, fun b z => absurd z (noA b), e0.bs, e0.bsz, fun b _ _ => noA b, fun b z => absurd z (noA b), e0.funs, e0.frf⟩,
    rfl, e0.bare, Un.kept hk, ⟨_, x.toInCall.ns, fun i y v h1 h2 h3 => ?_⟩, fun y c h => ⟨_, x.cell y c h⟩, e0.hok.fresh (Nat.le_refl _), fun y c h => ?_, fun p hp => absurd (show p ∈ ([] : List (Addr × Obj)) from hp) (by simp), e0.hok.kept hk, ?_⟩
  · exact name_of_addr x.apart (PySem.mem_of_lookup h1) (PySem.mem_of_lookup h2)
  · have hy : scope.names.lookup y = some .cell ∨ scope.names.lookup y = some .free := hy
    rcases hy with hy | hy
    · exact cell_has hy
    · exact absurd rfl (S.nofree _ (PySem.mem_of_lookup hy))
  · exact Nat.le_of_lt (x.above y c (PySem.mem_of_lookup h))
  · have hi : i < vs.length := by
      unfold start at h2
      by_cases hi : i < vs.length
      · exact hi
      · rw [List.getElem?_append_right (by simpa using hi)] at h2
        rw [List.getElem?_replicate] at h2
        split at h2 <;> cases h2
    have ha : vs[i]? = some v := by
      unfold start at h2
      rw [List.getElem?_append_left (by simpa using hi), List.getElem?_map] at h2
      cases e : vs[i]? with
      | none => rw [e] at h2; cases h2
      | some a => rw [e] at h2; cases h2; rfl
    obtain ⟨u, hu, rv⟩ := r.get ha
    have hp : ps[i]? = some y := by
      rw [← S.pre, List.getElem?_take_of_lt (by omega)]; exact h1
    have ndP : ps.Nodup := by rw [← S.pre]; exact S.nd.sublist (List.take_sublist _ _)
    refine ⟨u, rv, ?_⟩
    rcases S.par y (List.mem_of_getElem? hp) with k | k
    · exact .inl ⟨k, bindL_get ndP hp hu k⟩
    · obtain ⟨c, e⟩ := cell_has (n := s.heap.objs.size + 1) k
      refine .inr ⟨.inl k, c, e, ?_⟩
      have q := x.cell y c e
      rw [bindC_get ndP hp hu (by show scope.names.lookup y ≠ _; rw [k]; decide)] at q
      exact q
  · exact e0.hok.fresh (Nat.le_of_lt (x.above y c (PySem.mem_of_lookup h)))
  · unfold start
    show _ = N.length
    rw [List.length_append, List.length_map, List.length_replicate]
    omega

theorem fn_of {CX : CXT} {P : Program} {w : World} {K : PySem.W.Frag} {mg : Str → Option Value} {base : Heap} {k : Nat} {f : Addr} {name qual : Str} {params : Arguments} {body : List Stmt} {scope : Scope} {dV kV doc pm cdv ct oc : Value} {an od : Option Addr}
    {osl : Array (Option Value)} {N ps : List Str} {sp : Sp} (lk : K.lookup f = some ⟨oc, od, .func (PySem.W.fnOf name qual params body scope dV kV doc pm an cdv ct), osl⟩) (hcd : PySem.W.codeIn K cdv qual = true) (S : FnScope N ps scope)
    (len : ∀ vs H Q E, sp vs H Q E → vs.length = ps.length)
    (hbody : ∀ (A : Around) (outer : List Env) (s : Shared) (H : Hp) (vs : List V) (Q : VK) (E : XK), Room k (A.deeper (envOfC qual scope s.heap.objs.size f cdv)) → sp vs H Q E →
      ∃ t, PSs (cxOf CX P w K mg base N qual scope f cdv A outer s H E) body t ∧ t { nx := fun _ H' => Q .non H', rt := Q } (start N vs) H) :
    FnOk P w K mg base CX (k + 1) f (PySem.W.fnOf name qual params body scope dV kV doc pm an cdv ct) ps sp := by
  refine ⟨len, fun A outer s H args us vs Q E hr e0 hb r hsp => ?_⟩
  have hl := len _ _ _ _ hsp
  have KX : K.In s.heap := e0.mod.kin.keeps fun b o e => (e0.bs b o e).1
  have lim : s.heap.NoLimit := e0.mod.nolimit.keeps fun b o e => (e0.bs b o e).1
  have hkind : ∀ y ∈ ps.zip us, scope.names.lookup y.1 = some .local ∨ (scope.names.lookup y.1 = some .cell ∧ ((cellsFrom (s.heap.objs.size + 1) scope.names []).lookup y.1).isSome = true) := fun ⟨n, v⟩ hy => by
    rcases S.par n (List.of_mem_zip hy).1 with q | q
    · exact .inl q
    · exact .inr ⟨q, PySem.W.cellsFrom_some _ _ _ (.inl q)⟩
  refine codeAny_call_function hr.depth (KX _ _ lk) rfl S.co S.gen rfl (PySem.W.codeRec_of KX hcd) (hb _ _ _ _ ?_)
  refine wpAny_newFunctionEnv_cells S.kind hkind fun env he s1 x => ?_
  subst he
  refine ⟨lim.keeps x.toInCall.keep, codeAny_func ?_⟩
  obtain ⟨t, ht, hq⟩ := hbody A outer s H vs Q E (hr.deeper _) hsp
  have I : Inv (cxOf CX P w K mg base N qual scope f cdv A outer s H E) [] (start N vs) H s1 := inv_start S hr.hd e0 hl r x
  refine wpAny_mono (ht [] s1 (start N vs) H _ I hq) (fun fl s' hs => ?_) fun e s' hs => hs
  have fin : ∀ {σ' : St} {H' : Hp} {v : V} {u : Value}, Inv (cxOf CX P w K mg base N qual scope f cdv A outer s H E) [] σ' H' s' → RelV v u → Q v H' → CE outer P w H s Q u s' :=
    fun {σ' H' v u} J rv q => ⟨v, H', J.os, J.bare, J.base, J.hok, rv, q⟩
  cases fl with
  | ret u =>
    obtain ⟨v, σ', H', J, rv, q⟩ := hs
    exact fin J rv q
  | next =>
    obtain ⟨σ', H', J, q⟩ := hs
    exact fin (v := V.non) (u := Value.none) J rfl q
  | brk =>
    obtain ⟨_, _, _, q⟩ := hs
    exact False.elim q
  | cont =>
    obtain ⟨_, _, _, q⟩ := hs
    exact False.elim q
end L2

namespace L2
open PySem PySem.Spec PyProof.Rows
section
variable {X : Cx} {x : Str} {p pos : Pos} {e : Expr} {es : List Expr} {t : TA} {id T : String} {r : List V → Hp → VK → Prop}

noncomputable def tCB (r : List V → Hp → VK → Prop) (t : TA) : TE := fun σ H Q => t σ H fun vs H1 => r vs H1 Q
theorem pe_callB (hc : CallR X (.builtin id) r) (hg : Gl X x) (hm : X.mg x = none) (hv : bootBuiltins x = some (.builtin id)) (ha : PA X (e :: es) t) (hn : x ≠ "__name__" := by decide) (hdb : (x == ("__debug__" : Str)) = false := by decide)
    (he : starEach (e :: es) X.env = (false, eval e X.env) :: starEach es X.env := by rfl) (hpl : (backTo pos (starEach es X.env)).any (·.1) = false := by rfl) : PE X (.Call (.Name x p) (e :: es) [] pos) (tCB r t) := by
  intro pins s σ H Q I h
  refine wpAny_Call_Name_kw (ld_blt I hg hm hv ?_ hn hdb)
  exact PyProof.Rows.callWith_builtin1 (thn (ha pos pins s σ H _ I h) fun us s1 ⟨vs, H1, I1, r1, q1⟩ => hc pins s1 σ H1 vs us Q I1 r1 q1) he hpl
theorem pe_callTy (hc : CallR X (.type T) r) (hg : Gl X x) (hm : X.mg x = none) (hv : bootBuiltins x = some (.type T)) (ha : PA X (e :: es) t) (hn : x ≠ "__name__" := by decide) (hdb : (x == ("__debug__" : Str)) = false := by decide)
    (he : starEach (e :: es) X.env = (false, eval e X.env) :: starEach es X.env := by rfl) (hpl : (backTo pos (starEach es X.env)).any (·.1) = false := by rfl) : PE X (.Call (.Name x p) (e :: es) [] pos) (tCB r t) := by
  intro pins s σ H Q I h
  refine wpAny_Call_Name_kw (ld_blt I hg hm hv ?_ hn hdb)
  exact PyProof.Rows.callWith_type1 (thn (ha pos pins s σ H _ I h) fun us s1 ⟨vs, H1, I1, r1, q1⟩ => hc pins s1 σ H1 vs us Q I1 r1 q1) he hpl
end
end L2

namespace HT
open PySem PyProof.Rows

section
open PySem.SeqAt
open PySem.AutoSeq1 (wpAny_loadPart')
open PySem.MeetsSeq PySem.MeetsSeq2 PySem.MeetsSeq3

end

section
variable {prog : Program} {w : World} {A : Around} {E : Value → Shared → Prop} {s : Shared}

noncomputable def sIx (n d : Nat) : Option Int → Nat
  | none => d
  | some v => if v < 0 then (v + (n : Int)).toNat else min v.toNat n
theorem sIx_none (n d : Nat) : sIx n d none = d := rfl
theorem sIx_nat (n d k : Nat) : sIx n d (some (k : Int)) = min k n := by
  show (if (k : Int) < 0 then ((k : Int) + (n : Int)).toNat else min (k : Int).toNat n) = min k n
  rw [if_neg (by omega), Int.toNat_natCast]
theorem sIx_le (n d : Nat) (hd : d ≤ n) (o : Option Int) : sIx n d o ≤ n := by
  cases o with
  | none => exact hd
  | some v =>
    show (if v < 0 then (v + (n : Int)).toNat else min v.toNat n) ≤ n
    by_cases hv : v < 0
    · rw [if_pos hv]; omega
    · rw [if_neg hv]; exact Nat.min_le_right _ _
end
end HT

namespace L2
open PySem PySem.Spec PyProof.Rows

noncomputable abbrev TO := St → Hp → (Option Int → Hp → Prop) → Prop
noncomputable def PO (X : Cx) (e : Option Expr) (t : TO) : Prop :=
  ∀ (pins : List (Addr × Obj)) (s : Shared) (σ : St) (H : Hp) (Q : Option Int → Hp → Prop), Inv X pins σ H s → t σ H Q →
    wpAny (model X.prog X.w) X.A (evalPart e X.env) (fun u s' => ∃ o H', Inv X pins σ H' s' ∧ IsPart u o ∧ Q o H') X.xe s
noncomputable def tNoPart : TO := fun _ H Q => Q none H
noncomputable def tPart (t : TE) : TO := fun σ H Q => t σ H fun x H1 => ∃ i, x = .int i ∧ Q (some i) H1

theorem intsAre_of {ns : List Int} : ∀ {us : List Value}, Vals (ns.map V.int) us → IntsAre us ns := by
  induction ns with
  | nil => intro us r; rw [List.map_nil] at r; cases r; exact .nil
  | cons n ns ih =>
    intro us r
    rw [List.map_cons] at r
    cases r with
    | cons r1 r2 =>
      obtain ⟨t, e⟩ := r1
      subst e
      exact .cons n t (ih r2)

section
variable {X : Cx} {e : Expr} {te : TE} {lo hi : Option Expr} {tl th : TO} {pos p2 : Pos}

theorem po_none : PO X none tNoPart := by
  intro pins s σ H Q I h
  rw [evalPart_none]
  exact wpAny_pure ⟨none, H, I, .none, h⟩
theorem po_some (h : PE X e te) : PO X (some e) (tPart te) := by
  intro pins s σ H Q I hw
  rw [evalPart_some]
  refine thn (h pins s σ H _ I hw) fun u s1 ⟨x, H1, I1, r1, q1⟩ => ?_
  obtain ⟨i, rfl, q⟩ := q1
  obtain ⟨t, rfl⟩ := r1
  exact ⟨some i, H1, I1, .int i t, q⟩

noncomputable def SlR (X : Cx) (r : V → Option Int → Option Int → Hp → VK → Prop) : Prop :=
  ∀ (pins : List (Addr × Obj)) (s : Shared) (σ : St) (H : Hp) (x : V) (v vl vu : Value) (lo hi : Option Int) (sl : Addr) (Q : VK), Inv X pins σ H s → RelV x v → s.heap.IsSliceOf sl vl vu .none → IsPart vl lo → IsPart vu hi → r x lo hi H Q →
    ∃ T id, typeLookup (.type T) "__getitem__" = pure (some (.builtin id)) ∧ s.TypeIs v T ∧ wpAny (model X.prog X.w) X.A (getItem v (.ref sl)) (EP X pins σ Q) X.xe s
noncomputable def tSl (r : V → Option Int → Option Int → Hp → VK → Prop) (te : TE) (tl th : TO) : TE := fun σ H Q => te σ H fun x H1 => tl σ H1 fun l H2 => th σ H2 fun u H3 => r x l u H3 Q
theorem pe_slice {r : V → Option Int → Option Int → Hp → VK → Prop} (hr : SlR X r) (he : PE X e te) (hl : PO X lo tl) (hu : PO X hi th) : PE X (.Subscript e (.Slice lo hi none p2) pos) (tSl r te tl th) := by
  intro pins s σ H Q I h
  refine Subscript_ (thn (he pins s σ H _ I h) fun v s1 ⟨x, H1, I1, r1, q1⟩ => ?_)
  refine wpAny_Slice (thn (hl pins s1 σ H1 _ I1 q1) fun vl s2 ⟨l, H2, I2, pl, q2⟩ => thn (hu pins s2 σ H2 _ I2 q2) fun vu s3 ⟨u, H3, I3, pu, q3⟩ => ?_)
  rw [evalPart_none]
  refine wpAny_pure ?_
  have I4 : Inv X pins σ H3 { s3 with heap := s3.heap.push { cls := .type "slice", data := .fields #[vl, vu, .none] } } := I3.kept (t' := s3.toks) fun b ob q => Heap.get?_push_of_some _ q
  obtain ⟨T, id, hT, ht, hg⟩ := hr pins { s3 with heap := s3.heap.push { cls := .type "slice", data := .fields #[vl, vu, .none] } } σ H3 x v vl vu l u s3.heap.objs.size Q I4 r1 (Heap.IsSliceOf.new ..) pl pu q3
  show wpAny (model X.prog X.w) X.A (subscriptTail e (.Slice lo hi none p2) v (.ref s3.heap.objs.size)) (EP X pins σ Q) X.xe { s3 with heap := s3.heap.push { cls := .type "slice", data := .fields #[vl, vu, .none] } }
  exact tail_any (ops := [.ref s3.heap.objs.size, v]) ht hT hg (by with_unfolding_all rfl)

noncomputable def cutV (xs : List V) (lo hi : Option Int) : List V := (xs.drop (HT.sIx xs.length 0 lo)).take (HT.sIx xs.length xs.length hi - HT.sIx xs.length 0 lo)
theorem cutV_length (xs : List V) (lo hi : Option Int) : (cutV xs lo hi).length ≤ xs.length := by
  unfold cutV
  rw [List.length_take, List.length_drop]
  omega
end
end L2

namespace L2
open PySem PySem.Spec PyProof.Rows

noncomputable def ixN (n : Nat) (i : Int) : Option Nat := if 0 ≤ i then (if i < n then some i.toNat else none) else if -(n : Int) ≤ i then some (i + n).toNat else none
noncomputable def atI {α : Type} (xs : List α) (i : Int) : Option α := (ixN xs.length i).bind fun j => xs[j]?
theorem ixN_seq {n : Nat} {i : Int} {j : Nat} (h : ixN n i = some j) : seqIndex? i n = some j ∧ j < n ∧ -(n : Int) ≤ i ∧ i < n := by
  unfold ixN at h
  by_cases h0 : 0 ≤ i
  · rw [if_pos h0] at h
    by_cases h1 : i < n
    · rw [if_pos h1] at h
      have e : i.toNat = j := Option.some.inj h
      exact ⟨by rw [seqIndex_of h0 h1, e], by omega, by omega, h1⟩
    · rw [if_neg h1] at h; cases h
  · rw [if_neg h0] at h
    by_cases h1 : -(n : Int) ≤ i
    · rw [if_pos h1] at h
      have e : (i + n).toNat = j := Option.some.inj h
      exact ⟨by rw [seqIndex_neg (by omega) h1, e], by omega, h1, by omega⟩
    · rw [if_neg h1] at h; cases h
theorem atI_get {α : Type} {xs : List α} {i : Int} {v : α} (h : atI xs i = some v) : ∃ j, seqIndex? i xs.length = some j ∧ xs[j]? = some v ∧ j < xs.length ∧ -(xs.length : Int) ≤ i ∧ i < xs.length := by
  unfold atI at h
  cases e : ixN xs.length i with
  | none => rw [e] at h; cases h
  | some j =>
    rw [e] at h
    obtain ⟨h1, h2, h3, h4⟩ := ixN_seq e
    exact ⟨j, h1, h, h2, h3, h4⟩
theorem atI_nat {α : Type} {xs : List α} {j : Nat} {v : α} (h : xs[j]? = some v) : atI xs (j : Int) = some v := by
  have hj : j < xs.length := (List.getElem?_eq_some_iff.mp h).1
  have e : ixN xs.length (j : Int) = some j := by
    unfold ixN
    rw [if_pos (by omega), if_pos (by omega)]; simp
  unfold atI; rw [e]; exact h
noncomputable def PlainIx (b : Expr) : Prop := ∀ o i, subscripted b false o i = operate [o, i] (getItem o i)
noncomputable def IxR (X : Cx) (r : R2) : Prop :=
  ∀ (value slice : Expr) (pins : List (Addr × Obj)) (s : Shared) (σ : St) (H : Hp) (x y : V) (v u : Value) (Q : VK), Inv X pins σ H s → RelV x v → RelV y u → r x y H Q →
    subscripted slice false v u = operate [v, u] (getItem v u) → wpAny (model X.prog X.w) X.A (subscriptTail value slice v u) (EP X pins σ Q) X.xe s
noncomputable def MtR (X : Cx) (id : String) (r : V → List V → Hp → VK → Prop) : Prop :=
  ∀ (pins : List (Addr × Obj)) (s : Shared) (σ : St) (H : Hp) (x : V) (xs : List V) (v : Value) (us : List Value) (Q : VK), Inv X pins σ H s → RelV x v → Vals xs us → r x xs H Q →
    wpAny (model X.prog X.w) X.A (call (.builtin id) (v :: us)) (EP X pins σ Q) X.xe s
section
variable {X : Cx} {a b : Expr} {ta tb : TE} {pos : Pos}
theorem pe_ix {r : R2} (hr : IxR X r) (ha : PE X a ta) (hb : PE X b tb) (hs : PlainIx b) : PE X (.Subscript a b pos) (tOp r ta tb) := by
  intro pins s σ H Q I h
  exact Subscript_ (binT ha hb I h fun v u s2 x y H2 I2 rx ry q => hr a b pins s2 σ H2 x y v u Q I2 rx ry q (hs _ _))

noncomputable def rIxL (K : PySem.W.Frag) : R2 := fun x y H Q => ∃ p xs i v, x = .ref p ∧ y = .int i ∧ SqL K H p xs ∧ atI xs i = some v ∧ Q v H
noncomputable def rIxT (K : PySem.W.Frag) : R2 := fun x y H Q => ∃ p xs i v, x = .ref p ∧ y = .int i ∧ SqT K H p xs ∧ atI xs i = some v ∧ Q v H
noncomputable def rIxS : R2 := fun x y H Q => ∃ z i c, x = .str z ∧ y = .int i ∧ z.length ≤ sizeLine ∧ atI z.cps.toList i = some c ∧ Q (.str ⟨#[c]⟩) H
theorem ix_list : IxR X (rIxL X.K) := by
  intro value slice pins s σ H x y v u Q I rx ry h hs
  obtain ⟨p, xs, i, z, rfl, rfl, hq, he, q⟩ := h
  cases rx
  obtain ⟨t, rfl⟩ := ry
  obtain ⟨its, r, pl, hz⟩ := I.list hq
  obtain ⟨j, h1, h2, h3, h4, h5⟩ := atI_get he
  obtain ⟨w, ew, rw'⟩ := r.get h2
  have hl := r.length
  have hn := line63
  have fin : EP X pins σ Q w s := ⟨z, H, I, rw', q⟩
  by_cases h0 : 0 ≤ i
  · have hj : i.toNat = j := by
      rw [seqIndex_of h0 h5] at h1
      exact Option.some.inj h1
    exact item_listR pl.isList h0 (by omega) (by rw [hj]; simpa using ew) fin hs
  · have hj : (i + (its.toArray.size : Int)).toNat = j := by
      rw [seqIndex_neg (by omega) h4] at h1
      rw [List.size_toArray, ← hl]
      exact Option.some.inj h1
    exact subscriptTail_builtinR (x := w) pl.isList.typeIs slot_list_getitem.lookup
      (wpAny_getItem_list_neg (Q := fun r s' => r = w ∧ EP X pins σ Q r s') pl.isList (by omega) (by rw [List.size_toArray] <;> omega) (by omega) (by rw [hj]; simpa using ew) ⟨rfl, fin⟩) hs
theorem ix_tup : IxR X (rIxT X.K) := by
  intro value slice pins s σ H x y v u Q I rx ry h hs
  obtain ⟨p, xs, i, z, rfl, rfl, hq, he, q⟩ := h
  cases rx
  obtain ⟨t, rfl⟩ := ry
  obtain ⟨its, r, pl, hz⟩ := I.tuple hq
  obtain ⟨j, h1, h2, h3, h4, h5⟩ := atI_get he
  obtain ⟨w, ew, rw'⟩ := r.get h2
  have hl := r.length
  have hn := line63
  have fin : EP X pins σ Q w s := ⟨z, H, I, rw', q⟩
  exact subscriptTail_builtinR (x := w) pl.typeIs slot_tuple_getitem.lookup
    (getItem_tuple (j := j) (Q := fun r s' => r = w ∧ EP X pins σ Q r s') pl (by omega) (by omega) (by rw [List.size_toArray, ← hl]; exact h1) (by simpa using ew) ⟨rfl, fin⟩) hs
theorem ix_str : IxR X rIxS := by
  intro value slice pins s σ H x y v u Q I rx ry h hs
  obtain ⟨z, i, c, rfl, rfl, hz, he, q⟩ := h
  obtain ⟨t, rfl⟩ := rx
  obtain ⟨t', rfl⟩ := ry
  obtain ⟨j, h1, h2, h3, h4, h5⟩ := atI_get he
  have hl : z.cps.toList.length = z.length := by simp [Str.length]
  rw [hl] at h1 h4 h5
  have hn := line63
  exact tail_any (typeIs_str s z t) slot_str_getitem.lookup (getItem_str (c := c) (by
    have e1 : decide (i < -(2 ^ 63 : Int)) = false := decide_eq_false (by omega)
    have e2 : decide (i ≥ 2 ^ 63) = false := decide_eq_false (by omega)
    rw [e1, e2, Bool.or_false]) (by rw [h1]; simpa using h2) ⟨.str ⟨#[c]⟩, H, I.tok _, ⟨_, rfl⟩, q⟩) hs
theorem slice_bounds (lo hi : Option Int) (n : Nat) : (sliceBounds lo hi none n).1 = ((HT.sIx n 0 lo : Nat) : Int) ∧ (sliceBounds lo hi none n).2.1 = ((HT.sIx n n hi : Nat) : Int) ∧ (sliceBounds lo hi none n).2.2 = 1 := by
  refine ⟨?_, ?_, rfl⟩
  · cases lo with
    | none => simp [sliceBounds, HT.sIx]
    | some i =>
      simp only [sliceBounds, HT.sIx, Option.getD_none, show (1 : Int) > 0 by decide, if_true]
      by_cases h : i < 0
      · simp only [h, if_true] <;> omega
      · simp only [h, if_false] <;> omega
  · cases hi with
    | none => simp [sliceBounds, HT.sIx]
    | some i =>
      simp only [sliceBounds, HT.sIx, Option.getD_none, show (1 : Int) > 0 by decide, if_true]
      by_cases h : i < 0
      · simp only [h, if_true] <;> omega
      · simp only [h, if_false] <;> omega
theorem slicePick_cut (its : List Value) (lo hi : Option Int) : slicePick its.toArray lo hi none = ((its.drop (HT.sIx its.length 0 lo)).take (HT.sIx its.length its.length hi - HT.sIx its.length 0 lo)).toArray := by
  obtain ⟨h1, h2, h3⟩ := slice_bounds lo hi its.toArray.size
  unfold slicePick
  rw [h1, h2, h3]
  simp only [sliceRange_one, pick_run, List.size_toArray] <;> rfl
noncomputable def rSlL (K : PySem.W.Frag) : V → Option Int → Option Int → Hp → VK → Prop := fun x lo hi H Q => ∃ a xs, x = .ref a ∧ SqL K H a xs ∧ ∀ p, H p = none → Q (.ref p) (upd H p (.lst (cutV xs lo hi)))
theorem sl_list : SlR X (rSlL X.K) := by
  intro pins s σ H x v vl vu lo hi sl Q I rx hs pl pu h
  obtain ⟨a, xs, rfl, hx, q⟩ := h
  cases rx
  obtain ⟨its, r, ht, hz⟩ := I.list hx
  have hlen := r.length
  refine ⟨"list", _, slot_list_getitem.lookup, ht.isList.typeIs, ?_⟩
  refine wpAny_getItem_list_slice ht.isList hs pl pu .none (by simp) ?_ (by rw [List.size_toArray] <;> omega)
  rw [slicePick_cut, ← hlen]
  refine ⟨.ref s.heap.objs.size, _, I.laid (t' := s.toks) (o := .lst (cutV xs lo hi)) (fun b ob q => Heap.get?_push_of_some _ q) (Nat.le_refl _) ?_, rfl, q _ (I.hok.fresh (Nat.le_refl _))⟩
  exact ⟨Nat.le_trans (cutV_length xs lo hi) hz, _, 0, (r.drop (HT.sIx xs.length 0 lo)).take (HT.sIx xs.length xs.length hi - HT.sIx xs.length 0 lo), Heap.get?_push_size _ rfl⟩

noncomputable def flatV : V → Bool
  | .non => true
  | .bl _ => true
  | .int _ => true
  | .str _ => true
  | _ => false
noncomputable def eqV : V → V → Bool
  | .non, .non => true
  | .bl a, .bl b => a == b
  | .bl a, .int b => (if a then 1 else 0) == b
  | .int a, .bl b => a == (if b then 1 else 0)
  | .int a, .int b => a == b
  | .str a, .str b => a == b
  | _, _ => false
theorem eqAt_V {A : Around} {s : Shared} {y x : V} {u v : Value} (ry : RelV y u) (rx : RelV x v) (fy : flatV y = true) (fx : flatV x = true) : SeqAt.EqAt A s u v (eqV y x) := by
  cases y with
  | non =>
    cases ry
    cases x with
    | non => cases rx; exact SeqAt.EqAt.same _
    | bl b => cases rx; exact SeqAt.EqAt.none_bool b
    | int b => obtain ⟨t, rfl⟩ := rx; exact SeqAt.EqAt.none_int b t
    | str b => obtain ⟨t, rfl⟩ := rx; exact SeqAt.EqAt.none_str b t
    | _ => exact absurd (show false = true from fx) Bool.false_ne_true
  | bl a =>
    cases ry
    cases x with
    | non => cases rx; exact SeqAt.EqAt.bool_none a
    | bl b => cases rx; exact SeqAt.EqAt.bool_bool a b
    | int b => obtain ⟨t, rfl⟩ := rx; exact SeqAt.EqAt.bool_int a b t
    | str b => obtain ⟨t, rfl⟩ := rx; exact SeqAt.EqAt.bool_str a b t
    | _ => exact absurd (show false = true from fx) Bool.false_ne_true
  | int a =>
    obtain ⟨t', rfl⟩ := ry
    cases x with
    | non => cases rx; exact SeqAt.EqAt.int_none a t'
    | bl b => cases rx; exact SeqAt.EqAt.int_bool a t' b
    | int b => obtain ⟨t, rfl⟩ := rx; exact SeqAt.EqAt.int_int a t' b t
    | str b => obtain ⟨t, rfl⟩ := rx; exact SeqAt.EqAt.int_str a t' b t
    | _ => exact absurd (show false = true from fx) Bool.false_ne_true
  | str a =>
    obtain ⟨t', rfl⟩ := ry
    cases x with
    | non => cases rx; exact SeqAt.EqAt.str_none a t'
    | bl b => cases rx; exact SeqAt.EqAt.str_bool a t' b
    | int b => obtain ⟨t, rfl⟩ := rx; exact SeqAt.EqAt.str_int a t' b t
    | str b => obtain ⟨t, rfl⟩ := rx; exact SeqAt.EqAt.str_str a t' b t
    | _ => exact absurd (show false = true from fx) Bool.false_ne_true
  | _ => exact absurd (show false = true from fy) Bool.false_ne_true
noncomputable def eqU (x : V) (u : Value) : Bool := match u with
  | .none => eqV .non x
  | .bool b => eqV (.bl b) x
  | .int i _ => eqV (.int i) x
  | .str z _ => eqV (.str z) x
  | _ => false
theorem eqU_of {x y : V} {u : Value} (r : RelV y u) (f : flatV y = true) : eqU x u = eqV y x := by
  cases y with
  | non => cases r; rfl
  | bl b => cases r; rfl
  | int i => obtain ⟨t, rfl⟩ := r; rfl
  | str z => obtain ⟨t, rfl⟩ := r; rfl
  | _ => exact absurd (show false = true from f) Bool.false_ne_true
theorem any_eqU {x : V} : ∀ {xs : List V} {us : List Value}, Vals xs us → xs.all flatV = true → us.any (eqU x) = xs.any fun y => eqV y x
  | _, _, .nil, _ => rfl
  | y :: xs, u :: us, .cons r t, f => by
    rw [List.all_cons, Bool.and_eq_true] at f
    rw [List.any_cons, List.any_cons, eqU_of r f.1, any_eqU t f.2]
theorem mem_eqAt {A : Around} {s : Shared} {x : V} {v : Value} (rx : RelV x v) (fx : flatV x = true) : ∀ {xs : List V} {us : List Value}, Vals xs us → xs.all flatV = true → ∀ u ∈ us, SeqAt.EqAt A s u v (eqU x u)
  | _, _, .nil, _ => fun u hu => by cases hu
  | y :: xs, u :: us, .cons r t, f => fun u' hu => by
    rw [List.all_cons, Bool.and_eq_true] at f
    rcases List.mem_cons.mp hu with rfl | hu
    · rw [eqU_of r f.1]; exact eqAt_V r rx f.1 fx
    · exact mem_eqAt rx fx t f.2 u' hu
noncomputable def inV (x : V) (xs : List V) : Bool := xs.any fun y => eqV y x
noncomputable def rIn (K : PySem.W.Frag) (neg : Bool) : R2 := fun x y H Q => ∃ p xs, y = .ref p ∧ (SqL K H p xs ∨ SqT K H p xs) ∧ flatV x = true ∧ xs.all flatV = true ∧ Q (.bl (if neg then !inV x xs else inV x xs)) H
theorem op_notIn_seq : OpR X (compareOp .NotIn) (rIn X.K true) := by
  intro pins s σ H x y v u Q I rx ry h
  obtain ⟨p, xs, rfl, hq, fx, fs, q⟩ := h
  cases ry
  rcases hq with hq | hq
  · obtain ⟨its, r, pl, hz⟩ := I.list hq
    refine SeqAt.notIn_listAt (eqU x) pl.isList (fun w hw => mem_eqAt rx fx r fs w (by simpa using hw)) ⟨.bl _, H, I, rfl, ?_⟩
    rw [show its.toArray.any (eqU x) = its.any (eqU x) by simp, any_eqU r fs]
    exact q
  · obtain ⟨its, r, pl, hz⟩ := I.tuple hq
    refine SeqAt.notIn_tupleAt (eqU x) pl (fun w hw => mem_eqAt rx fx r fs w (by simpa using hw)) ⟨.bl _, H, I, rfl, ?_⟩
    rw [show its.toArray.any (eqU x) = its.any (eqU x) by simp, any_eqU r fs]
    exact q
theorem call_len_seq : CallR X (.builtin "len") (fun xs H Q => ∃ p ys, xs = [.ref p] ∧ (SqL X.K H p ys ∨ SqT X.K H p ys) ∧ Q (.int ys.length) H) := by
  intro pins s σ H xs us Q I r h
  obtain ⟨p, ys, rfl, hq, q⟩ := h
  obtain ⟨u, rfl, rx⟩ := vals1 r
  cases rx
  have hn := line63
  rcases hq with hq | hq
  · obtain ⟨its, r', pl, hz⟩ := I.list hq
    have hlen := r'.length
    exact Calls.call_len_list pl.isList (by simp only [List.size_toArray] <;> omega) ⟨.int ys.length, H, I.tok _, ⟨s.toks + 1, by rw [List.size_toArray, hlen]⟩, q⟩
  · obtain ⟨its, r', pl, hz⟩ := I.tuple hq
    have hlen := r'.length
    exact len_tuple pl (by simp only [List.size_toArray] <;> omega) ⟨.int ys.length, H, I.tok _, ⟨s.toks + 1, by rw [List.size_toArray, hlen]⟩, q⟩
theorem call_len_str : CallR X (.builtin "len") (fun xs H Q => ∃ z, xs = [.str z] ∧ z.length ≤ sizeLine ∧ Q (.int z.length) H) := by
  intro pins s σ H xs us Q I r h
  obtain ⟨z, rfl, hz, q⟩ := h
  obtain ⟨u, rfl, t, rfl⟩ := vals1 r
  have hn := line63
  exact len_str (by omega) ⟨.int z.length, H, I.tok _, ⟨_, rfl⟩, q⟩
theorem call_list_of : CallR X (.type "list") (fun xs H Q => ∃ p ys, xs = [.ref p] ∧ (SqL X.K H p ys ∨ SqT X.K H p ys) ∧ ∀ l, H l = none → Q (.ref l) (upd H l (.lst ys))) := by
  intro pins s σ H xs us Q I r h
  obtain ⟨p, ys, rfl, hq, q⟩ := h
  obtain ⟨u, rfl, rx⟩ := vals1 r
  cases rx
  have fin : ∀ (its : List Value), Vals ys its → ys.length ≤ sizeLine → ∀ (h' : Heap) (c' : Nat), (∀ b o', s.heap.get? b = some o' → h'.get? b = some o') →
      h'.get? s.heap.objs.size = some { cls := .type "list", dict := none, data := .seq its.toArray c', slots := #[] } → EP X pins σ Q (.ref s.heap.objs.size) { s with heap := h' } := fun its r' hz h' c' kp e =>
    ⟨.ref s.heap.objs.size, _, I.laid (t' := s.toks) kp (Nat.le_refl _) (show ObjOk X.prog X.w _ h' _ (.lst ys) from ⟨hz, its, c', r', e⟩), rfl, q _ (I.hok.fresh (Nat.le_refl _))⟩
  rcases hq with hq | hq
  · obtain ⟨its, r', pl, hz⟩ := I.list hq
    have hlen := r'.length
    obtain ⟨o, ho, hc, n, hd⟩ := pl.isList
    exact call_list_seq p (.inl rfl) ho hc hd (fun h' c' kp e => fin its r' hz h' c' kp e) (by simp only [List.size_toArray] <;> omega)
  · obtain ⟨its, r', pl, hz⟩ := I.tuple hq
    have hlen := r'.length
    obtain ⟨o, ho, hc, n, hd⟩ := pl
    exact call_list_seq p (.inr rfl) ho hc hd (fun h' c' kp e => fin its r' hz h' c' kp e) (by simp only [List.size_toArray] <;> omega)
theorem call_tuple_of : CallR X (.type "tuple") (fun xs H Q => ∃ p ys, xs = [.ref p] ∧ ((SqL X.K H p ys ∧ ∀ l, H l = none → Q (.ref l) (upd H l (.tup ys))) ∨ (SqT X.K H p ys ∧ Q (.ref p) H))) := by
  intro pins s σ H xs us Q I r h
  obtain ⟨p, ys, rfl, h⟩ := h
  obtain ⟨u, rfl, rx⟩ := vals1 r
  cases rx
  rcases h with ⟨hq, q⟩ | ⟨hq, q⟩
  · obtain ⟨its, r', pl, hz⟩ := I.list hq
    have hlen := r'.length
    refine call_tuple_list pl.isList (fun h' kp => ?_) (by simp only [List.size_toArray] <;> omega)
    have I1 : Inv X pins σ H { s with heap := h' } := I.kept (t' := s.toks) kp
    have I2 : Inv X pins σ (upd H h'.objs.size (.tup ys)) { s with heap := h'.push { cls := .type "tuple", data := .seq its.toArray } } :=
      I1.laid (t' := s.toks) (fun b o e => Heap.get?_push_of_some _ e) (Nat.le_refl _) (show ObjOk X.prog X.w _ _ _ (.tup ys) from ⟨hz, its, r', IsTup.new _ _⟩)
    exact ⟨.ref h'.objs.size, _, I2, rfl, q _ (I1.hok.fresh (Nat.le_refl _))⟩
  · obtain ⟨its, r', pl, hz⟩ := I.tuple hq
    exact call_tuple_same pl ⟨.ref p, H, I, rfl, q⟩

noncomputable def tyV (K : PySem.W.Frag) (T : String) (x : V) (H : Hp) : Prop := match x with
  | .str _ => T = "str"
  | .int _ => T = "int"
  | .ref p => (T = "list" ∧ ∃ xs, SqL K H p xs) ∨ (T = "tuple" ∧ ∃ o, K.lookup p = some o ∧ o.cls = .type "tuple" ∧ o.dict = none) ∨
      (T = "dict" ∧ ((∃ kvs, H p = some (.dK kvs)) ∨ ∃ kvs, H p = some (.dT kvs))) ∨ (T = "set" ∧ ∃ S n, H p = some (.set S n))
  | _ => False
theorem tyV_is {pins : List (Addr × Obj)} {σ : St} {H : Hp} {s : Shared} {T : String} {x : V} {v : Value} (I : Inv X pins σ H s) (r : RelV x v) (ty : tyV X.K T x H) :
    s.TypeIs v T ∧ ∀ a, v = .ref a → ∃ ob, s.heap.get? a = some ob ∧ ob.dict = none := by
  cases x with
  | str z =>
    obtain ⟨t, rfl⟩ := r
    cases (show T = "str" from ty)
    exact ⟨typeIs_str s z t, fun _ e => nomatch e⟩
  | int i =>
    obtain ⟨t, rfl⟩ := r
    cases (show T = "int" from ty)
    exact ⟨typeIs_int s i t, fun _ e => nomatch e⟩
  | ref p =>
    cases r
    rcases ty with ⟨rfl, xs, hq⟩ | ⟨rfl, o, hk, hc, hd⟩ | ⟨rfl, hk⟩ | ⟨rfl, S, n, hk⟩
    · obtain ⟨its, _, pl, _⟩ := I.list hq
      refine ⟨pl.isList.typeIs, fun a e => ?_⟩
      cases e
      obtain ⟨o, n, e, c, hd, _⟩ := pl
      exact ⟨o, e, hd⟩
    · refine ⟨⟨o, I.kIn p o hk, hc⟩, fun a e => ?_⟩
      cases e
      exact ⟨o, I.kIn _ o hk, hd⟩
    · have z : ∃ o, s.heap.get? p = some o ∧ o.ExactDict := by
        rcases hk with ⟨kvs, hk⟩ | ⟨kvs, hk⟩
        · obtain ⟨_, _, _, _, o, _, _, e, ex, _⟩ := I.hok p _ hk
          exact ⟨o, e, ex⟩
        · obtain ⟨_, _, _, _, o, _, _, e, ex, _⟩ := I.hok p _ hk
          exact ⟨o, e, ex⟩
      obtain ⟨o, e, ex⟩ := z
      refine ⟨⟨o, e, ex.1⟩, fun a e2 => ?_⟩
      cases e2
      exact ⟨o, e, ex.2.1⟩
    · obtain ⟨o, _, _, _, e, ex, _⟩ := I.hok p _ hk
      refine ⟨⟨o, e, ex.1⟩, fun a e2 => ?_⟩
      cases e2
      exact ⟨o, e, ex.2.1⟩
  | _ => exact False.elim ty
noncomputable def tBM (K : PySem.W.Frag) (T : String) (r : V → List V → Hp → VK → Prop) (to : TE) (t : TA) : TE := fun σ H Q => to σ H fun x H1 => tyV K T x H1 ∧ t σ H1 fun xs H2 => r x xs H2 Q
variable {o e : Expr} {es : List Expr} {to : TE} {t : TA} {name : Str} {apos cpos : Pos} {T id : String} {r : V → List V → Hp → VK → Prop}
theorem pe_bm (pa : PlainAttrs T) (slot : Slot T name id) (hty : typeOf (.builtin id) = pure (.type "method_descriptor")) (hm : MtR X id r) (ho : PE X o to) (ha : PA X (e :: es) t)
    (hbase : attributeBase o name X.env (eval o X.env) = eval o X.env := by rfl)
    (hfew : ((backTo cpos (starEach (e :: es) X.env)).all (fun x => !x.1) && (backToKw cpos (keywordEach [] X.env)).all (fun x => x.1.isSome)
      && decide ((e :: es).length + ([] : List Keyword).length + (if ([] : List Keyword).isEmpty then 0 else 1) < 30)) = true := by rfl)
    (hline : (apos.endLine == cpos.line) = true := by rfl) (hs : starEach (e :: es) X.env = (false, eval e X.env) :: starEach es X.env := by rfl) (hplain : (backTo cpos (starEach es X.env)).any (·.1) = false := by rfl) :
    PE X (.Call (.Attribute o name apos) (e :: es) [] cpos) (tBM X.K T r to t) := by
  intro pins s σ H Q I h
  refine wpAny_Call_method_late hbase hfew hline rfl (thn (ho pins s σ H _ I h) fun v s1 ⟨x, H1, I1, r1, ty, q1⟩ => ?_)
  obtain ⟨h1, h2⟩ := tyV_is I1 r1 ty
  refine ⟨T, id, pa, slot, hty, h1, h2, ?_⟩
  have hA := ha cpos pins s1 σ H1 _ I1 q1
  rw [hs] at hA ⊢
  refine Calls.callWith_builtin (by show (false || (backTo cpos (starEach es X.env)).any (·.1)) = false; rw [hplain] <;> rfl) (Calls.evalArgs_plain ?_)
  exact thn hA fun us s2 ⟨vs, H2, I2, r2, q2⟩ => hm pins s2 σ H2 x vs v us Q I2 r1 r2 q2
end
end L2

namespace L2
open PySem PySem.Spec PyProof.Rows

noncomputable def MtM (X : Cx) (id : String) (r : V → List V → Hp → VK → Prop) : Prop :=
  ∀ (pins : List (Addr × Obj)) (s : Shared) (σ : St) (H : Hp) (x : V) (xs : List V) (v : Value) (us : List Value) (Q : VK), Inv X pins σ H s → RelV x v → Vals xs us → r x xs H Q →
    wpAny (model X.prog X.w) X.A (call (.builtin id) (v :: us)) (EP X pins σ Q) X.xe s

theorem Vals.one : ∀ {x : V} {us : List Value}, Vals [x] us → ∃ u, us = [u] ∧ RelV x u
  | _, _, .cons r .nil => ⟨_, rfl, r⟩
section
variable {X : Cx} {pins : List (Addr × Obj)} {σ : St} {H : Hp} {s : Shared} {l b : Addr} {xs ys zs : List V}

theorem Inv.lset {its its' : List Value} {n : Nat} {f : Array Value → Array Value} {t' : Nat} (I : Inv X pins σ H s) (hH : H l = some (.lst xs))
    (e : s.heap.get? l = some { cls := .type "list", data := .seq its.toArray n }) (hf : f its.toArray = its'.toArray) (hv : Vals ys its') (hz : ys.length ≤ sizeLine) :
    Inv X pins σ (upd H l (.lst ys)) { s with heap := s.heap.update l (Obj.mapSeq f), toks := t' } := by
  have q := PySem.IsL.update e f
  rw [hf] at q
  refine I.write (x := l) (e := l) (by rw [hH]; exact trivial) (.inl rfl) (fun b' u hb hu => (Heap.get?_update_other s.heap (Obj.mapSeq f) (Ne.symm hb)).trans hu) ⟨_, q⟩ ?_
  exact ⟨hz, its', _, hv, q⟩
theorem Inv.lnew {its : List Value} {t' : Nat} (I : Inv X pins σ H s) (hv : Vals ys its) (hz : ys.length ≤ sizeLine) :
    Inv X pins σ (upd H s.heap.objs.size (.lst ys)) { s with heap := s.heap.push { cls := .type "list", data := .seq its.toArray }, toks := t' } :=
  I.laid (fun _ _ q => Heap.get?_push_of_some _ q) (Nat.le_refl _) ⟨hz, its, 0, hv, Heap.get?_push_size _ rfl⟩
theorem Inv.fresh (I : Inv X pins σ H s) : H s.heap.objs.size = none := I.hok.fresh (Nat.le_refl _)
theorem Inv.lstM (I : Inv X pins σ H s) (hH : H l = some (.lst xs)) : xs.length ≤ sizeLine ∧ ∃ (its : List Value) (n : Nat), Vals xs its ∧ xs.length = its.length ∧ s.heap.get? l = some { cls := .type "list", data := .seq its.toArray n } := by
  obtain ⟨z, its, n, r, e⟩ := I.hok l _ hH
  exact ⟨z, its, n, r, r.length, e⟩

theorem notLongL {n : Nat} (h : n ≤ sizeLine) : Builtin.List.listTooLong n = false := by
  unfold Builtin.List.listTooLong
  exact decide_eq_false (by omega)
end

section
variable {X : Cx}

noncomputable def rAppend : V → List V → Hp → VK → Prop := fun x vs H Q => ∃ l xs y, x = .ref l ∧ vs = [y] ∧ H l = some (.lst xs) ∧ xs.length < sizeLine ∧ Q .non (upd H l (.lst (xs ++ [y])))
theorem mt_append : MtM X "list.append" rAppend := by
  intro pins s σ H x vs v us Q I rx rv h
  obtain ⟨l, xs, y, rfl, rfl, hH, hz, q⟩ := h
  cases rx
  obtain ⟨u, rfl, ru⟩ := rv.one
  obtain ⟨z, its, n, r, hl, e⟩ := I.lstM hH
  refine call_meets F.slot_list_append ⟨_, e, rfl⟩ F.entry_list_append (F.args_list_append_2 _ _) (PySem.list_append l its.toArray n u (by rw [List.size_toArray]; omega)) ⟨e, ?_⟩
  refine ⟨.non, _, I.lset (its' := its ++ [u]) hH e (by simp) (r.append (.cons ru .nil)) ?_, rfl, q⟩
  rw [List.length_append, List.length_singleton]
  omega

noncomputable def rExtend : V → List V → Hp → VK → Prop := fun x vs H Q => ∃ l b xs zs, x = .ref l ∧ vs = [.ref b] ∧ H l = some (.lst xs) ∧ H b = some (.lst zs) ∧ xs.length + zs.length ≤ sizeLine ∧ Q .non (upd H l (.lst (xs ++ zs)))
theorem mt_extend : MtM X "list.extend" rExtend := by
  intro pins s σ H x vs v us Q I rx rv h
  obtain ⟨l, b, xs, zs, rfl, rfl, hH, hB, hz, q⟩ := h
  cases rx
  obtain ⟨u, rfl, ru⟩ := rv.one
  cases ru
  obtain ⟨z, its, n, r, hl, e⟩ := I.lstM hH
  obtain ⟨z2, its2, n2, r2, hl2, e2⟩ := I.lstM hB
  have hsz : its.toArray.size + its2.toArray.size ≤ sizeLine := by rw [List.size_toArray, List.size_toArray]; omega
  have hlong : ¬ (!its.toArray.isEmpty && Builtin.List.listTooLong (its.toArray.size + its2.toArray.size)) = true := by
    rw [notLongL hsz, Bool.and_false]
    exact Bool.false_ne_true
  refine call_meets F.slot_list_extend ⟨_, e, rfl⟩ F.entry_list_extend (F.args_list_extend_2 _ _)
    (AutoSeq1.list_extend_list_list_0 l its.toArray n b its2.toArray n2 hlong (by rw [List.size_toArray]; omega) (by omega)) ⟨e, e2, ?_⟩
  refine ⟨.non, _, I.lset (its' := its ++ its2) hH e (by simp) (r.append r2) ?_, rfl, q⟩
  rw [List.length_append]
  omega

end

section
variable {prog : Program} {w : World} {A : Around} {E : Value → Shared → Prop} {s : Shared}
end

section
variable {X : Cx}
end
end L2

namespace Att
open PySem PySem.W PySem.Calls PyProof.Rows

theorem ints_of_wellAll {P : Params} {h : Heap} : ∀ (ns : List Int) (vs : List Value), WellAll P h vs (ns.map WData.int) → IntsAre vs ns := by
  intro ns
  induction ns with
  | nil =>
    intro vs w
    rw [List.map_nil] at w
    cases w
    exact .nil
  | cons n ns ih =>
    intro vs w
    rw [List.map_cons] at w
    cases w with
    | cons a b =>
      cases a
      exact .cons _ _ (ih _ b)

theorem script_of {l : OpenLaw} {n : Nat} (hn : l.most = some n) {P : Params} {h : Heap} {args : List WData} {vals : List Value}
    (hpre : l.row.toRowW.claim.pre args = true) (hwl : WellAll P h vals args) :
    ∃ a vs ns, vals = [Value.ref a] ∧ args = [WData.list (ns.map WData.int)] ∧ h.get? a = some { cls := .type "list", data := .seq vs.toArray } ∧ IntsAre vs ns ∧ ns.length ≤ n := by
  have hsh : WShape.hasAll [] args [.list .int] = true := (pre_splitW hpre).1
  have hc : l.pre.holds [] { args := args } = true := (pre_splitW hpre).2
  obtain ⟨d, r, rfl, h1, h2⟩ := hasAllW_cons hsh
  obtain rfl := hasAllW_nil h2
  obtain ⟨xs, rfl, h3⟩ := hasW_list h1
  obtain ⟨ns, rfl⟩ := items_int h3
  have hlen : ns.length ≤ n := by
    unfold OpenLaw.pre at hc
    have h4 : (WTm.not (.lt (.lit (.int (n : Int))) (.len (.arg 0)))).holds [] { args := [.list (ns.map .int)] } = true := by
      have h4 := (holds_andW hc).1
      rw [hn] at h4
      exact h4
    have h5 := condW_of h4 (w_not (w_lt w_lit (w_len_list (w_arg rfl))))
    rw [List.length_map] at h5
    refine Nat.le_of_not_lt fun q => ?_
    have q' : (n : Int) < ((ns.length : Nat) : Int) := by omega
    first
      | (rw [decide_eq_true q'] at h5; exact absurd h5 (by decide))
      | (simp at h5; omega)
  cases hwl with
  | cons w1 w2 =>
    cases w2
    cases w1 with
    | list ho hall => exact ⟨_, _, ns, rfl, rfl, ho, ints_of_wellAll ns _ hall, hlen⟩

theorem post_true (l : OpenLaw) (args : List WData) : l.row.toRowW.claim.post args (.bool true) args = true :=
  postW_of (r := l.row.toRowW) (X := (true == true))
    (show WShape.has [] (.bool true) .bool = true by first | rfl | decide | simp [WShape.has, WShape.arms, WShape.armsAll])
    (show (WTm.eq .res (.lit (.bool true))).value [] { args := args, res := some (.bool true), after := args } = some (.bool (true == true)) from w_eq_bool (w_res rfl) w_lit) rfl

theorem attach_call {l : OpenLaw} {n : Nat} {q : Program} {loose : List Str} {XP : (Str → Option Value) → Heap → Prop} {YP : World → Heap → Prop} {d : DefRec}
    (hn : l.most = some n) (hdf : d.params.defaults = [])
    (call : ∀ (w : World) (s₀ s₁ : Shared) (mg mb : Str → Option Value) (fa : Addr) (o : Obj) (pm cd doc : Value) (a : Addr) (vs : List Value) (ns : List Int),
      Ground q loose [] XP w s₀ mg mb s₁.heap → YP w s₁.heap →
      s₁.heap.get? fa = some o → o.data = .func (docDef d.name d.params d.body d.scope pm cd doc) → s₁.heap.CodeRec cd d.name → mg d.name = some (.ref fa) →
      s₁.heap.get? a = some { cls := .type "list", data := .seq vs.toArray } → IntsAre vs ns → ns.length ≤ n → s₁.gens = #[] →
      codeAny (model l.prog w) callerA (.call (.ref fa) ⟨[.ref a], []⟩) (fun r s' => r = .ok (.ret (.bool true)) ∧ OldK s₁.heap s'.heap ∧ s'.os = s₁.os ∧ AllBare s'.gens) s₁) :
    WalkO q loose XP YP l.row.toRowW d [] (fun f vs => PySem.call f vs) := by
  intro w s₀ s₁ mg mb G Y fa o pm cd doc dV kV ho hd hcd hD hmg hg args vals as hpre hlay hrd hwl hlo
  obtain rfl : dV = .none := Dflts.none hD hdf
  obtain rfl : kV = .none := Dflts.noKw hD
  obtain ⟨a, vs, ns, rfl, rfl, hobj, hints, hlen⟩ := script_of hn hpre hwl
  refine enter_call (codeAny_mono (call w s₀ s₁ mg mb fa o pm cd doc a vs ns G Y ho (fd_plain hd) hcd hmg hobj hints hlen hg) fun r s' hq => ?_)
  obtain ⟨rfl, h2, h3, h4⟩ := hq
  exact ⟨.inl ⟨.bool true, .bool true, [], rfl, fun _ => rfl, .bool true, post_true l _, fun _ => ⟨List.Pairwise.nil, fun _ hm => (nomatch hm)⟩⟩, h2, h3, h4⟩

section
variable {prog : Program} {w : World} {A : Around} {E : Value → Shared → Prop} {s : Shared} {K : Frag}

end
end Att

namespace L2
open PySem PySem.Spec PyProof.Rows

theorem vals_ints : ∀ {vs : List Value} {ns : List Int}, IntsAre vs ns → Vals (ns.map V.int) vs
  | _, _, .nil => .nil
  | _, _, .cons n t h => .cons ⟨t, rfl⟩ (vals_ints h)

noncomputable def Only (H : Hp) : Prop := ∀ b, H b = none ∨ ∃ o xs, H b = some (.frz o (.lst xs))

theorem law_call {P : Program} {w : World} {K : PySem.W.Frag} {mg mb : Str → Option Value} {CX : CXT} {k : Nat} {fa a : Addr} {fd : FuncData} {x : Str} {sp : Sp} {s₁ : Shared} {vs : List Value} {ns : List Int}
    (KX : K.In s₁.heap) (hns : s₁.heap.Ns mainGlobals mg) (hb : s₁.heap.Ns builtinsNs mb) (hbb : ∀ x : Str, x ≠ "__name__" → mb x = bootBuiltins x) (hlim : s₁.heap.NoLimit) (hg : s₁.gens = #[])
    (ha : s₁.heap.get? a = some { cls := .type "list", data := .seq vs.toArray }) (hi : IntsAre vs ns) (hl : ns.length ≤ sizeLine) (hr : Room k callerA)
    (F : ∀ base : Heap, K.In base → base.Ns mainGlobals mg → FnOk P w K mg base CX k fa fd [x] sp) (hbind : ∀ (s : Shared) (u : Value), BindsTo s fd ⟨[u], []⟩ [(x, u)])
    (hsp : ∀ H : Hp, Only H → SqL K H a (ns.map V.int) → sp [.ref a] H (fun v _ => v = .bl true) fun _ _ _ => False)
    (hCX : ∀ H e s', CX [] H s₁ (fun _ _ _ => False) e s' → False) :
    codeAny (model P w) callerA (.call (.ref fa) ⟨[.ref a], []⟩) (fun r s' => r = .ok (.ret (.bool true)) ∧ OldK s₁.heap s'.heap ∧ s'.os = s₁.os ∧ AllBare s'.gens) s₁ := by
  have rv := vals_ints hi
  have lenV := hi.length

  have core : ∀ H : Hp, Only H → SqL K H a (ns.map V.int) → HOk P w H s₁.heap → (∀ b, H b ≠ none → b = a) → (H a ≠ none → K.lookup a = none) →
      codeAny (model P w) callerA (.call (.ref fa) ⟨[.ref a], []⟩) (fun r s' => r = .ok (.ret (.bool true)) ∧ OldK s₁.heap s'.heap ∧ s'.os = s₁.os ∧ AllBare s'.gens) s₁ := by
    intro H hO hS hok hA hK
    have base_of : ∀ {b : Addr} {o : Obj}, s₁.heap.get? b = some o → H b = none → (hidT s₁.heap H).get? b = some o := fun e n => hidT_get e n
    have noA : ∀ {b : Addr} {o : Obj} {es : Array DictEntry} {ep : Nat}, s₁.heap.get? b = some o → o.data = .dict es ep → H b = none := fun {b o es ep} e d => by
      cases q : H b with
      | none => rfl
      | some u =>
        have e' : b = a := hA b (by rw [q]; simp)
        subst e'
        rw [ha] at e; cases e
        have d' : Data.seq vs.toArray _ = Data.dict es ep := d
        cases d'
    have nsK : ∀ {b : Addr} {m : Str → Option Value}, s₁.heap.Ns b m → (hidT s₁.heap H).Ns b m := fun {b m} ⟨o, es, ep, e, d, r⟩ => ⟨o, es, ep, base_of e (noA e d), d, r⟩
    have hKb : K.In (hidT s₁.heap H) := fun b o e => base_of (KX b o e) (by
      cases q : H b with
      | none => rfl
      | some u =>
        have e' : b = a := hA b (by rw [q]; simp)
        subst e'
        rw [hK (by rw [q]; simp)] at e; cases e)
    have hM : Mod K mg (hidT s₁.heap H) := ⟨hKb, nsK hns, ⟨mb, nsK hb, hbb⟩, let ⟨mc, h1, h2⟩ := hlim; ⟨mc, nsK h1, h2⟩⟩
    have e0 : Env0 P w K mg (hidT s₁.heap H) callerA [] s₁ H := ⟨rfl, hM, fun b o e => of_hidT e, Nat.le_of_eq (hidT_size _ _), trivial, fun b hb => absurd (show b ∈ ([] : List Addr) from hb) (by simp), hok, .of_eq hg⟩
    refine codeAny_mono ((F _ hKb (nsK hns)).run callerA [] s₁ H ⟨[.ref a], []⟩ [.ref a] [.ref a] _ _ hr e0 (hbind s₁ (.ref a)) (.cons rfl .nil) (hsp H hO hS)) fun r s' h => ?_
    cases r with
    | error e => exact (hCX H e s' h).elim
    | ok fl =>
      cases fl with
      | next => exact False.elim h
      | brk => exact False.elim h
      | cont => exact False.elim h
      | ret u =>
        obtain ⟨v, H', os, bare, un, hok', r', q⟩ := h
        have q' : v = .bl true := q
        subst q'
        obtain rfl : u = Value.bool true := r'
        refine ⟨rfl, OldK.of_keep fun b o e => ?_, os, bare⟩
        cases q : H b with
        | none => exact un.keep b o e q (by intro z; exact absurd (show b ∈ ([] : List Addr) from z) (by simp)) (by simp)
        | some u =>
          rcases hO b with z | ⟨ob, xs, z⟩
          · rw [q] at z; cases z
          · have z2 := un.frzs b ob _ z
            obtain ⟨e1, _⟩ := hok b _ z
            obtain ⟨e2, _⟩ := hok' b _ z2
            rw [e] at e1; cases e1
            exact e2
  cases hk : K.lookup a with
  | some o =>
  
    have e := KX a o hk
    rw [ha] at e
    cases e
    refine core (fun _ => none) (fun _ => .inl rfl) (.inr ⟨_, vs.toArray, _, hk, rfl, rfl, rfl, by rw [List.size_toArray, lenV]; exact hl, by simpa using rv⟩) (fun b u z => by have z' : (none : Option HO) = some u := z; cases z') (fun b z => absurd rfl z) fun z => absurd rfl z
  | none =>
    refine core (fun b => if b = a then some (.frz { cls := .type "list", data := .seq vs.toArray } (.lst (ns.map V.int))) else none) (fun b => ?_) (.inl (.inr ⟨{ cls := .type "list", data := .seq vs.toArray }, if_pos rfl⟩)) (fun b u z => ?_) (fun b z => ?_) fun _ => hk
    · by_cases hb : b = a
      · exact .inr ⟨_, _, if_pos hb⟩
      · exact .inl (if_neg hb)
    · by_cases hb : b = a
      · have z' := (if_pos hb).symm.trans z
        cases z'
        subst hb
        exact ⟨ha, by rw [List.length_map]; exact hl, vs, _, rv, ha⟩
      · have z' := (if_neg hb).symm.trans z
        cases z'
    · by_cases hb : b = a
      · exact hb
      · exact absurd (if_neg hb) z
end L2

namespace L2
open PySem PySem.Spec PyProof.Rows

theorem walk_of {l : PySem.W.OpenLaw} {n k : Nat} {q : Program} {loose : List Str} {XP : (Str → Option Value) → Heap → Prop} {YP : World → Heap → Prop} {d : DefRec} {K : Params → PySem.W.Frag} {CX : World → CXT} {sp : World → Sp} {x : Str}
    (hn : l.most = some n) (hn2 : n ≤ sizeLine) (hdf : d.params.defaults = []) (hr : Room k callerA)
    (hY : ∀ (w : World) (h : Heap), YP w h → (K w.params).In h)
    (F : ∀ (w : World) (mg : Str → Option Value) (fa : Addr) (h : Heap), (K w.params).In h → h.Ns mainGlobals mg → mg d.name = some (.ref fa) →
      ∃ fd : FuncData, (∀ (s : Shared) (u : Value), BindsTo s fd ⟨[u], []⟩ [(x, u)]) ∧
        ∀ base : Heap, (K w.params).In base → base.Ns mainGlobals mg → FnOk l.prog w (K w.params) mg base (CX w) k fa fd [x] (sp w))
    (hsp : ∀ (w : World) (H : Hp) (a : Addr) (ns : List Int), ns.length ≤ n → Only H → SqL (K w.params) H a (ns.map V.int) → sp w [.ref a] H (fun v _ => v = .bl true) fun _ _ _ => False)
    (hCX : ∀ (w : World) (H : Hp) (s : Shared) (e : Value) (s' : Shared), CX w [] H s (fun _ _ _ => False) e s' → False) :
    PySem.W.WalkO q loose XP YP l.row.toRowW d [] (fun f vs => PySem.call f vs) := by
  refine Att.attach_call hn hdf fun w s₀ s₁ mg mb fa o pm cd doc a vs ns G Y ho hd hcd hmg hobj hints hlen hg => ?_
  have KX := hY w _ Y
  obtain ⟨fd, hb, hF⟩ := F w mg fa _ KX G.T.g hmg
  exact law_call KX G.T.g G.T.b G.T.builtins G.T.nolimit hg hobj hints (Nat.le_trans hlen hn2) hr hF hb (fun H hO hS => hsp w H a ns hlen hO hS) fun H e s' => hCX w H s₁ e s'
end L2


namespace L2
open PySem PySem.Spec PyProof.Rows

noncomputable def inClass (s : Stmt) (j : Nat) : Stmt := match s with
  | .ClassDef _ _ _ body _ _ _ _ _ _ _ => body.getD j (.Pass ⟨0, 0, 0, 0⟩)
  | _ => .Pass ⟨0, 0, 0, 0⟩
noncomputable def defArgs (s : Stmt) : Arguments := match s with
  | .FunctionDef _ a _ _ _ _ _ _ _ _ => a
  | _ => { posonlyargs := [], args := [], vararg := none, kwonlyargs := [], kw_defaults := [], kwarg := none, defaults := [] }
noncomputable def defBody (s : Stmt) : List Stmt := match s with
  | .FunctionDef _ _ b _ _ _ _ _ _ _ => b
  | _ => []
noncomputable def defScope (s : Stmt) : Scope := match s with
  | .FunctionDef _ _ _ _ _ _ sc _ _ _ => sc
  | _ => { kind := .function, names := [], isGenerator := false, isCoroutine := false }

noncomputable abbrev E0 : XK := fun _ _ _ => False
set_option genInjectivity false in
structure Fun (K : PySem.W.Frag) (x qual : Str) (st : Stmt) (f : Addr) (fd : FuncData) : Prop where
  ex : ∃ (oc : Value) (od : Option Addr) (kV doc pm : Value) (an : Option Addr) (cdv ct : Value) (osl : Array (Option Value)),
    fd = PySem.W.fnOf x qual (defArgs st) (defBody st) (defScope st) .none kV doc pm an cdv ct ∧ K.lookup f = some ⟨oc, od, .func fd, osl⟩ ∧ PySem.W.codeIn K cdv qual = true
  kp : PySem.W.keepIn K (.ref f) = true
section
variable {P : Program} {w : World} {K : PySem.W.Frag} {mg : Str → Option Value} {base : Heap}
theorem Fun.binds {x qual : Str} {st : Stmt} {f : Addr} {fd : FuncData} {ps : List Str} (F : Fun K x qual st f fd)
    (h : ∀ (kV doc pm : Value) (an : Option Addr) (cdv ct : Value) (us : List Value), us.length = ps.length → bindArgs (PySem.W.fnOf x qual (defArgs st) (defBody st) (defScope st) .none kV doc pm an cdv ct) ⟨us, []⟩ = pure (ps.zip us)) : Binds K fd ps [] := by
  obtain ⟨oc, od, kV, doc, pm, an, cdv, ct, osl, rfl, lk, hcd⟩ := F.ex
  exact .all (h kV doc pm an cdv ct)
theorem fun_mk {x qual : Str} {st : Stmt} {f : Addr} {oc : Value} {od an : Option Addr} {osl : Array (Option Value)} {kV doc pm cdv ct : Value} (l : K.lookup f = some ⟨oc, od, .func (PySem.W.fnOf x qual (defArgs st) (defBody st) (defScope st) .none kV doc pm an cdv ct), osl⟩)
    (c : PySem.W.codeIn K cdv qual = true) (k : PySem.W.keepIn K (.ref f) = true) : Fun K x qual st f (PySem.W.fnOf x qual (defArgs st) (defBody st) (defScope st) .none kV doc pm an cdv ct) := ⟨⟨oc, od, kV, doc, pm, an, cdv, ct, osl, rfl, l, c⟩, k⟩
end
theorem hu_of {A : Around} {k : Nat} (hr : Room k A) : A.units + 1 < cLine := Nat.lt_of_le_of_lt (Nat.add_le_add_left (by decide : 1 ≤ 64) _) hr.units
section
variable {X : Cx}
theorem pv (i : Nat) {x : Str} {pos : Pos} (hN : X.N[i]? = some x := by rfl) (hv : Vis X.env.scope x := by first | exact Or.inl rfl | exact Or.inr (Or.inl rfl) | exact Or.inr (Or.inr rfl)) (hd : (x == ("__debug__" : Str)) = false := by decide)
    (hcd : (x == ("__classdict__" : Str)) = false := by decide) : PE X (.Name x pos) (tVar i) := pe_var hN hv hd hcd
end

theorem iteF {A B : Prop} (h : B) : if false = true then A else B := by
  rw [if_neg Bool.false_ne_true]
  exact h
theorem iteT {A B : Prop} (h : A) : if true = true then A else B := by
  rw [if_pos rfl]
  exact h
theorem ite2 {c A B : Prop} [Decidable c] (h1 : c → A) (h2 : ¬ c → B) : if c then A else B := by
  by_cases h : c
  · rw [if_pos h]
    exact h1 h
  · rw [if_neg h]
    exact h2 h
theorem iteNS {c A B : Prop} [Decidable c] (hc : c) (h : B) : if (!decide c) = true then A else B := by
  rw [decide_eq_true hc]
  exact iteF h

noncomputable def Same (H H' : Hp) : Prop := ∀ b o, H b = some o → H' b = some o
theorem Same.refl (H : Hp) : Same H H := fun _ _ h => h
theorem Same.trans {H H1 H2 : Hp} (a : Same H H1) (b : Same H1 H2) : Same H H2 := fun c o h => b c o (a c o h)
theorem Same.seq {K : PySem.W.Frag} {H H' : Hp} {a : Addr} {xs : List V} (e : Same H H') (h : SqL K H a xs) : SqL K H' a xs := by
  rcases h with (h | ⟨o, h⟩) | h
  · exact .inl (.inl (e _ _ h))
  · exact .inl (.inr ⟨o, e _ _ h⟩)
  · exact .inr h

end L2

namespace Wd
noncomputable abbrev W := List Nat
theorem lele {a b c : W} (h : ¬ b < a) (h' : ¬ c < b) : ¬ c < a := fun hc => List.not_lt.mpr (List.le_trans (List.not_lt.mp h) (List.not_lt.mp h')) hc
noncomputable def rot (k : Nat) (w : W) : W := w.drop k ++ w.take k
noncomputable def leastTo (w : W) : Nat → W
  | 0 => w
  | n + 1 => if rot (n + 1) w < leastTo w n then rot (n + 1) w else leastTo w n
noncomputable def least (w : W) : W := leastTo w (w.length - 1)
end Wd

namespace Wd
end Wd

namespace Wd
noncomputable def rep (n : Nat) (l : W) : W := (List.replicate n l).flatten
theorem rep_succ (n : Nat) (l : W) : rep (n + 1) l = l ++ rep n l := by unfold rep; rw [List.replicate_succ, List.flatten_cons]
theorem rep_zero (l : W) : rep 0 l = [] := rfl
theorem rep_one (l : W) : rep 1 l = l := by rw [rep_succ, rep_zero, List.append_nil]
theorem rep_len (n : Nat) (l : W) : (rep n l).length = n * l.length := by
  induction n with
  | zero => rw [rep_zero, Nat.zero_mul]; rfl
  | succ n ih => rw [rep_succ, List.length_append, ih, Nat.succ_mul, Nat.add_comm]
end Wd
namespace Wd
end Wd

namespace Wd
end Wd

set_option linter.all false
namespace Dt
noncomputable abbrev Mx := Nat → Nat → Int
noncomputable def sumN : Nat → (Nat → Int) → Int
  | 0, _ => 0
  | n + 1, f => sumN n f + f n
noncomputable def sk (j k : Nat) : Nat := if k < j then k else k + 1
noncomputable def sg (j : Nat) : Int := if j % 2 = 0 then 1 else -1
noncomputable def det : Nat → Mx → Int
  | 0, _ => 1
  | n + 1, A => sumN (n + 1) fun j => sg j * (A 0 j * det n fun i k => A (i + 1) (sk j k))
section
variable {n N p q i j k l : Nat} {A B : Mx} {f g : Nat → Int} {c m : Int}
theorem sum_congr : ∀ {n : Nat}, (∀ j, j < n → f j = g j) → sumN n f = sumN n g
  | 0, _ => rfl
  | n + 1, h => by
    show sumN n f + f n = sumN n g + g n
    rw [sum_congr (n := n) fun j hj => h j (by omega), h n (by omega)]
theorem sum_lin : ∀ {n : Nat}, sumN n (fun j => f j + c * g j) = sumN n f + c * sumN n g
  | 0 => by show (0 : Int) = 0 + c * 0; omega
  | n + 1 => by
    show sumN n (fun j => f j + c * g j) + (f n + c * g n) = (sumN n f + f n) + c * (sumN n g + g n)
    rw [sum_lin (n := n), Int.mul_add]
    omega
theorem sum_zero : ∀ {n : Nat}, (∀ j, j < n → f j = 0) → sumN n f = 0
  | 0, _ => rfl
  | n + 1, h => by
    show sumN n f + f n = 0
    rw [sum_zero (n := n) fun j hj => h j (by omega), h n (by omega)]
    rfl
theorem sum_mul {n : Nat} : sumN n (fun j => c * g j) = c * sumN n g := by
  have h := sum_lin (n := n) (f := fun _ => 0) (c := c) (g := g)
  rw [sum_zero (fun _ _ => rfl)] at h
  rw [sum_congr (g := fun j => 0 + c * g j) fun j _ => by omega, h]
  omega
theorem sum_first : ∀ {n : Nat}, (∀ j, 0 < j → j < n + 1 → f j = 0) → sumN (n + 1) f = f 0
  | 0, _ => by show (0 : Int) + f 0 = f 0; omega
  | n + 1, h => by
    show sumN (n + 1) f + f (n + 1) = f 0
    rw [sum_first (n := n) fun j h0 hj => h j h0 (by omega), h (n + 1) (by omega) (by omega)]
    omega
theorem sk_lt (h : k < n) : sk j k < n + 1 := by unfold sk; split <;> omega
theorem det_congr : ∀ {n : Nat} {A B : Mx}, (∀ i k, i < n → k < n → A i k = B i k) → det n A = det n B
  | 0, _, _, _ => rfl
  | n + 1, A, B, h => by
    refine sum_congr fun j hj => ?_
    rw [h 0 j (by omega) hj, det_congr (n := n) fun i k hi hk => h (i + 1) (sk j k) (by omega) (sk_lt hk)]
noncomputable def setR (A : Mx) (i : Nat) (u : Nat → Int) : Mx := fun a k => if a = i then u k else A a k
theorem setR_at {u : Nat → Int} : setR A i u i = u := by
  funext k
  exact if_pos rfl
theorem setR_ne {u : Nat → Int} {a : Nat} (h : a ≠ i) : setR A i u a = A a := by
  funext k
  exact if_neg h
theorem setR_minor {u : Nat → Int} : (fun a k => setR A (i + 1) u (a + 1) (sk j k)) = setR (fun a k => A (a + 1) (sk j k)) i fun k => u (sk j k) := by
  funext a k
  unfold setR
  by_cases h : a = i
  · rw [if_pos h, if_pos (by omega)]
  · rw [if_neg h, if_neg (by omega)]
theorem det_lin : ∀ {n : Nat} {A : Mx} {i : Nat} {u v : Nat → Int}, i < n → det n (setR A i fun k => u k + c * v k) = det n (setR A i u) + c * det n (setR A i v)
  | n + 1, A, 0, u, v, _ => by
    have e : ∀ w : Nat → Int, det (n + 1) (setR A 0 w) = sumN (n + 1) fun j => sg j * (w j * det n fun i k => A (i + 1) (sk j k)) := fun w => by
      refine sum_congr fun j _ => ?_
      rw [setR_at, det_congr (n := n) (A := fun i k => setR A 0 w (i + 1) (sk j k)) (B := fun i k => A (i + 1) (sk j k)) fun a k _ _ => by rw [setR_ne (by omega)]]
    rw [e, e, e, ← sum_lin]
    refine sum_congr fun j _ => ?_
    rw [Int.add_mul, Int.mul_add]
    congr 1
    rw [Int.mul_assoc c, ← Int.mul_assoc (sg j) c, Int.mul_comm (sg j) c, Int.mul_assoc c]
  | n + 1, A, i + 1, u, v, h => by
    have e : ∀ w : Nat → Int, det (n + 1) (setR A (i + 1) w) = sumN (n + 1) fun j => sg j * (A 0 j * det n (setR (fun a k => A (a + 1) (sk j k)) i fun k => w (sk j k))) := fun w => by
      refine sum_congr fun j _ => ?_
      rw [setR_minor, setR_ne (by omega)]
    rw [e, e, e, ← sum_lin]
    refine sum_congr fun j _ => ?_
    rw [det_lin (n := n) (i := i) (u := fun k => u (sk j k)) (v := fun k => v (sk j k)) (by omega), Int.mul_add, Int.mul_add]
    congr 1
    rw [← Int.mul_assoc (A 0 j) c, Int.mul_comm (A 0 j) c, Int.mul_assoc c, ← Int.mul_assoc (sg j) c, Int.mul_comm (sg j) c, Int.mul_assoc c]
theorem sg_succ : sg (j + 1) = - sg j := by
  unfold sg
  by_cases h : j % 2 = 0
  · rw [if_pos h, if_neg (by omega)]
  · rw [if_neg h, if_pos (by omega)]; rfl
theorem sg_sq : sg j * sg j = 1 := by
  unfold sg
  split <;> rfl
theorem dbl {F : Nat → Nat → Int} : ∀ {N : Nat}, (∀ j l, l < j → j ≤ N → F j l + F l (j - 1) = 0) → sumN (N + 1) (fun j => sumN N (F j)) = 0
  | 0, _ => rfl
  | N + 1, h => by
    have ih := dbl (N := N) fun j l hl hj => h j l hl (by omega)
    have e1 : sumN (N + 1) (fun j => sumN (N + 1) (F j)) = sumN (N + 1) (fun j => sumN N (F j) + 1 * F j N) := sum_congr fun j _ => by
      show sumN N (F j) + F j N = _
      omega
    have e2 : sumN (N + 1) (fun l => F l N + 1 * F (N + 1) l) = 0 := sum_zero fun l hl => by
      have := h (N + 1) l (by omega) (by omega)
      rw [Nat.add_sub_cancel] at this
      omega
    rw [sum_lin] at e1 e2
    show sumN (N + 1) (fun j => sumN (N + 1) (F j)) + sumN (N + 1) (F (N + 1)) = 0
    have e3 : sumN (N + 1) (F (N + 1)) = sumN (N + 1) fun l => F (N + 1) l := rfl
    rw [e1, ih]
    omega
theorem sk_sk (h : l < j) : sk j (sk l k) = sk l (sk (j - 1) k) := by
  have a : ∀ x y : Nat, sk x y = if y < x then y else y + 1 := fun _ _ => rfl
  by_cases h1 : k < l
  · rw [a l k, if_pos h1, a j k, if_pos (by omega), a (j - 1) k, if_pos (by omega), a l k, if_pos h1]
  · rw [a l k, if_neg h1]
    by_cases h2 : k + 1 < j
    · rw [a j, if_pos h2, a (j - 1) k, if_pos (by omega), a l k, if_neg h1]
    · rw [a j, if_neg h2, a (j - 1) k, if_neg (by omega), a l, if_neg (by omega)]
theorem alt0 (h : ∀ k, k < n + 2 → A 0 k = A 1 k) : det (n + 2) A = 0 := by
  have e : det (n + 2) A = sumN (n + 2) fun j => sumN (n + 1) fun l => sg j * (A 0 j * (sg l * (A 1 (sk j l) * det n fun i k => A (i + 2) (sk j (sk l k))))) := by
    refine sum_congr fun j _ => ?_
    show sg j * (A 0 j * sumN (n + 1) fun l => sg l * (A 1 (sk j l) * det n fun i k => A (i + 2) (sk j (sk l k)))) = _
    rw [← sum_mul, ← sum_mul]
  rw [e]
  refine dbl fun j l hl hj => ?_
  have s1 : sk j l = l := by unfold sk; rw [if_pos hl]
  have s2 : sk l (j - 1) = j := by unfold sk; rw [if_neg (by omega)]; omega
  have s3 : (fun i k => A (i + 2) (sk l (sk (j - 1) k))) = fun i k => A (i + 2) (sk j (sk l k)) := by
    funext i k
    rw [sk_sk hl]
  rw [s1, s2, s3, ← h j (by omega), ← h l (by omega)]
  have s4 : sg j = - sg (j - 1) := by rw [← sg_succ, Nat.sub_add_cancel (by omega)]
  rw [s4]
  generalize det n (fun i k => A (i + 2) (sk j (sk l k))) = d
  grind
theorem alt : ∀ {n i : Nat} {A : Mx}, i + 1 < n → (∀ k, k < n → A i k = A (i + 1) k) → det n A = 0
  | n + 2, 0, A, _, h => alt0 h
  | n + 1, i + 1, A, hi, h => by
    refine sum_zero fun j _ => ?_
    rw [alt (n := n) (i := i) (A := fun a k => A (a + 1) (sk j k)) (by omega) fun k hk => h (sk j k) (sk_lt hk), Int.mul_zero, Int.mul_zero]
noncomputable def tr (p i : Nat) : Nat := if i = p then p + 1 else if i = p + 1 then p else i
theorem setR_comm {u v : Nat → Int} (h : i ≠ j) : setR (setR A i u) j v = setR (setR A j v) i u := by
  funext a k
  unfold setR
  by_cases h1 : a = i
  · rw [if_neg (by omega), if_pos h1, if_pos h1]
  · by_cases h2 : a = j
    · rw [if_pos h2, if_neg h1, if_pos h2]
    · rw [if_neg h2, if_neg h1, if_neg h1, if_neg h2]
theorem det_add {u v : Nat → Int} (h : i < n) : det n (setR A i fun k => u k + v k) = det n (setR A i u) + det n (setR A i v) := by
  have := det_lin (c := 1) (A := A) (u := u) (v := v) h
  rw [Int.one_mul] at this
  rw [← this]
  congr 2
  funext k
  omega
theorem det_self (u : Nat → Int) (h : ∀ k, u k = A i k) : det n (setR A i u) = det n A := det_congr fun a k _ _ => by
  unfold setR
  by_cases e : a = i
  · rw [if_pos e, h, e]
  · rw [if_neg e]
theorem swap (h : p + 1 < n) : det n (fun i k => A (tr p i) k) = - det n A := by
  have D : ∀ x y : Nat → Int, ∃ d, det n (setR (setR A p x) (p + 1) y) = d := fun _ _ => ⟨_, rfl⟩
  have z : ∀ w : Nat → Int, det n (setR (setR A p w) (p + 1) w) = 0 := fun w => alt h fun k _ => by rw [setR_ne (by omega), setR_at, setR_at]
  have l2 : ∀ x y y' : Nat → Int, det n (setR (setR A p x) (p + 1) fun k => y k + y' k) = det n (setR (setR A p x) (p + 1) y) + det n (setR (setR A p x) (p + 1) y') := fun x y y' => det_add h
  have l1 : ∀ x x' y : Nat → Int, det n (setR (setR A p fun k => x k + x' k) (p + 1) y) = det n (setR (setR A p x) (p + 1) y) + det n (setR (setR A p x') (p + 1) y) := fun x x' y => by
    rw [setR_comm (by omega), setR_comm (u := x) (by omega), setR_comm (u := x') (by omega)]
    exact det_add (by omega)
  have e0 := z fun k => A p k + A (p + 1) k
  rw [l2, l1, l1, z, z] at e0
  have e1 : det n (setR (setR A p (A p)) (p + 1) (A (p + 1))) = det n A := by
    rw [det_self _ (fun k => by rw [setR_ne (by omega)]), det_self _ (fun k => rfl)]
  have e2 : det n (setR (setR A p (A (p + 1))) (p + 1) (A p)) = det n fun i k => A (tr p i) k := by
    refine det_congr fun a k _ _ => ?_
    unfold setR tr
    by_cases h1 : a = p + 1
    · rw [if_pos h1, if_neg (by omega), if_pos h1]
    · rw [if_neg h1]
      by_cases h2 : a = p
      · rw [if_pos h2, if_pos h2]
      · rw [if_neg h2, if_neg h2, if_neg h1]
  rw [e1, e2] at e0
  omega
theorem alt_far : ∀ (d : Nat) {i : Nat} {A : Mx}, i + 1 + d < n → (∀ k, k < n → A i k = A (i + 1 + d) k) → det n A = 0
  | 0, i, A, hi, h => alt hi h
  | d + 1, i, A, hi, h => by
    have h2 := alt_far d (i := i) (A := fun a k => A (tr (i + 1 + d) a) k) (by omega) fun k hk => by
      show A (tr (i + 1 + d) i) k = A (tr (i + 1 + d) (i + 1 + d)) k
      unfold tr
      rw [if_neg (by omega), if_neg (by omega), if_pos rfl]
      exact h k hk
    rw [swap (by omega)] at h2
    omega
theorem lower1 {t : Int} (h0 : 0 < i) (h : i < n) : det n (setR A i fun k => A i k - t * A 0 k) = det n A := by
  have e := det_lin (c := -t) (A := A) (u := A i) (v := A 0) h
  rw [det_self (A i) fun _ => rfl, alt_far (i - 1) (i := 0) (A := setR A i (A 0)) (by omega) fun k _ => ?_, Int.mul_zero, Int.add_zero] at e
  · rw [← e]
    congr 2
    funext k
    rw [Int.neg_mul]
    omega
  · rw [setR_ne (by omega), show 0 + 1 + (i - 1) = i by omega, setR_at]
theorem lowAll {t : Nat → Int} : ∀ {m : Nat}, m ≤ n → det n (fun i k => if 0 < i ∧ i < m then A i k - t i * A 0 k else A i k) = det n A
  | 0, _ => det_congr fun i k _ _ => if_neg (by omega)
  | m + 1, hm => by
    rw [← lowAll (m := m) (by omega)]
    by_cases h0 : m = 0
    · subst h0
      exact det_congr fun i k _ _ => by rw [if_neg (by omega), if_neg (by omega)]
    · rw [← lower1 (A := fun i k => if 0 < i ∧ i < m then A i k - t i * A 0 k else A i k) (i := m) (t := t m) (by omega) (by omega)]
      refine det_congr fun i k _ _ => ?_
      unfold setR
      dsimp only
      by_cases h1 : i = m
      · subst h1
        rw [if_pos rfl, if_pos (by omega), if_neg (by omega), if_neg (by omega)]
      · rw [if_neg h1]
        by_cases h2 : 0 < i ∧ i < m
        · rw [if_pos h2, if_pos (by omega)]
        · rw [if_neg h2, if_neg (by omega)]
theorem zcol : ∀ {n : Nat} {A : Mx}, (∀ i, i < n + 1 → A i 0 = 0) → det (n + 1) A = 0
  | n, A, h => by
    refine sum_zero fun j hj => ?_
    cases j with
    | zero => rw [h 0 (by omega), Int.zero_mul, Int.mul_zero]
    | succ j =>
      cases n with
      | zero => omega
      | succ n => rw [zcol (n := n) (A := fun i k => A (i + 1) (sk (j + 1) k)) fun i hi => h (i + 1) (by omega), Int.mul_zero, Int.mul_zero]
theorem col0 (h : ∀ i, i < n → A (i + 1) 0 = 0) : det (n + 1) A = A 0 0 * det n fun i k => A (i + 1) (k + 1) := by
  show sumN (n + 1) _ = _
  rw [sum_first fun j h0 hj => ?_]
  · show sg 0 * (A 0 0 * det n fun i k => A (i + 1) (sk 0 k)) = _
    rw [show sg 0 = 1 from rfl, Int.one_mul]
    rfl
  · cases n with
    | zero => omega
    | succ n =>
      rw [zcol (A := fun i k => A (i + 1) (sk j k)) fun i hi => by
        show A (i + 1) (sk j 0) = 0
        rw [show sk j 0 = 0 by unfold sk; rw [if_pos h0]]
        exact h i hi, Int.mul_zero, Int.mul_zero]
noncomputable def Cg (m a b : Int) : Prop := m ∣ a - b
theorem Cg.refl (a : Int) : Cg m a a := by unfold Cg; rw [Int.sub_self]; exact Int.dvd_zero m
theorem Cg.symm {a b : Int} (h : Cg m a b) : Cg m b a := by
  unfold Cg at *
  rw [← Int.neg_sub]
  exact Int.dvd_neg.mpr h
theorem Cg.trans {a b d : Int} (h : Cg m a b) (g : Cg m b d) : Cg m a d := by
  unfold Cg at *
  rw [show a - d = (a - b) + (b - d) by omega]
  exact Int.dvd_add h g
theorem Cg.add {a b a' b' : Int} (h : Cg m a b) (g : Cg m a' b') : Cg m (a + a') (b + b') := by
  unfold Cg at *
  rw [show a + a' - (b + b') = (a - b) + (a' - b') by omega]
  exact Int.dvd_add h g
theorem Cg.mul {a b a' b' : Int} (h : Cg m a b) (g : Cg m a' b') : Cg m (a * a') (b * b') := by
  unfold Cg at *
  rw [show a * a' - b * b' = (a - b) * a' + b * (a' - b') by rw [Int.sub_mul, Int.mul_sub]; omega]
  exact Int.dvd_add (Int.dvd_mul_of_dvd_left h) (Int.dvd_mul_of_dvd_right g)
theorem Cg.sub {a b a' b' : Int} (h : Cg m a b) (g : Cg m a' b') : Cg m (a - a') (b - b') := by
  unfold Cg at *
  rw [show a - a' - (b - b') = (a - b) - (a' - b') by omega]
  exact Int.dvd_sub h g
theorem Cg.neg {a b : Int} (h : Cg m a b) : Cg m (-a) (-b) := by
  have := (Cg.refl (m := m) 0).sub h
  rwa [Int.zero_sub, Int.zero_sub] at this
theorem cg_mod (a : Int) : Cg m (a % m) a := by
  unfold Cg
  rw [Int.emod_def]
  rw [show a - m * (a / m) - a = -(m * (a / m)) by omega]
  exact Int.dvd_neg.mpr (Int.dvd_mul_right ..)
theorem cg_sum : ∀ {n : Nat}, (∀ j, j < n → Cg m (f j) (g j)) → Cg m (sumN n f) (sumN n g)
  | 0, _ => Cg.refl _
  | n + 1, h => (cg_sum (n := n) fun j hj => h j (by omega)).add (h n (by omega))
theorem det_cg : ∀ {n : Nat} {A B : Mx}, (∀ i k, i < n → k < n → Cg m (A i k) (B i k)) → Cg m (det n A) (det n B)
  | 0, _, _, _ => Cg.refl _
  | n + 1, A, B, h => cg_sum fun j hj => (Cg.refl _).mul ((h 0 j (by omega) hj).mul (det_cg fun i k hi hk => h (i + 1) (sk j k) (by omega) (sk_lt hk)))
theorem det_step {t : Nat → Int} (h : ∀ i, i < n → m ∣ A (i + 1) 0 - t i * A 0 0) : Cg m (det (n + 1) A) (A 0 0 * det n fun i k => A (i + 1) (k + 1) - t i * A 0 (k + 1)) := by
  rw [← lowAll (n := n + 1) (A := A) (t := fun i => t (i - 1)) (m := n + 1) (Nat.le_refl _)]
  refine (det_cg (B := fun i k => if i = 0 then A 0 k else if k = 0 then 0 else A i k - t (i - 1) * A 0 k) fun i k hi hk => ?_).trans ?_
  · by_cases h0 : i = 0
    · subst h0
      rw [if_neg (by omega), if_pos rfl]
      exact Cg.refl _
    · rw [if_pos (by omega), if_neg h0]
      by_cases hk0 : k = 0
      · subst hk0
        rw [if_pos rfl]
        have := h (i - 1) (by omega)
        rw [show i - 1 + 1 = i by omega] at this
        unfold Cg
        rw [Int.sub_zero]
        exact this
      · rw [if_neg hk0]
        exact Cg.refl _
  · rw [col0 fun i _ => by rw [if_neg (by omega), if_pos rfl]]
    rw [if_pos rfl]
    have e : det n (fun i k => if i + 1 = 0 then A 0 (k + 1) else if k + 1 = 0 then 0 else A (i + 1) (k + 1) - t (i + 1 - 1) * A 0 (k + 1)) = det n fun i k => A (i + 1) (k + 1) - t i * A 0 (k + 1) := det_congr fun i k _ _ => by rw [if_neg (by omega), if_neg (by omega)]; rfl
    rw [e]
    exact Cg.refl _
noncomputable def mv (p : Nat) (A : Mx) : Mx := fun i k => if i = 0 then A p k else if i ≤ p then A (i - 1) k else A i k
theorem det_mv : ∀ {p : Nat} {A : Mx}, p < n → det n (mv p A) = sg p * det n A
  | 0, A, h => by
    rw [show sg 0 = 1 from rfl, Int.one_mul]
    exact det_congr fun i k _ _ => by
      unfold mv
      by_cases h0 : i = 0
      · rw [if_pos h0, h0]
      · rw [if_neg h0, if_neg (by omega)]
  | p + 1, A, h => by
    have ih := det_mv (p := p) (A := fun i k => A (tr p i) k) (by omega)
    rw [swap h] at ih
    rw [sg_succ, Int.neg_mul, ← Int.mul_neg, ← ih]
    refine det_congr fun i k _ _ => ?_
    unfold mv tr
    dsimp only
    by_cases h0 : i = 0
    · rw [if_pos h0, if_pos h0, if_pos rfl]
    · rw [if_neg h0, if_neg h0]
      by_cases h1 : i ≤ p
      · rw [if_pos (by omega), if_pos h1, if_neg (by omega), if_neg (by omega)]
      · by_cases h2 : i = p + 1
        · subst h2
          rw [if_pos (by omega), if_neg (by omega), if_neg (by omega), if_pos rfl]
          rfl
        · rw [if_neg (by omega), if_neg h1, if_neg (by omega), if_neg h2]
end
end Dt

set_option linter.all false
namespace Dt
noncomputable def sN : Nat → (Nat → Nat) → Nat
  | 0, _ => 0
  | n + 1, f => sN n f + f n
noncomputable def pN : Nat → (Nat → Nat) → Nat
  | 0, _ => 1
  | n + 1, f => f 0 * pN n fun i => f (i + 1)
section
variable {n N p q i j k l : Nat} {A B : Mx} {f g : Nat → Nat} {c m : Int}
theorem sN_le : ∀ {n : Nat}, (∀ j, j < n → f j ≤ g j) → sN n f ≤ sN n g
  | 0, _ => Nat.le_refl _
  | n + 1, h => Nat.add_le_add (sN_le fun j hj => h j (by omega)) (h n (by omega))
theorem sN_mul {c : Nat} : ∀ {n : Nat}, sN n (fun j => f j * c) = sN n f * c
  | 0 => by show 0 = 0 * c; omega
  | n + 1 => by
    show sN n (fun j => f j * c) + f n * c = (sN n f + f n) * c
    rw [sN_mul (n := n), Nat.add_mul]
theorem pN_le : ∀ {n : Nat} {f g : Nat → Nat}, (∀ j, j < n → f j ≤ g j) → pN n f ≤ pN n g
  | 0, _, _, _ => Nat.le_refl _
  | n + 1, f, g, h => Nat.mul_le_mul (h 0 (by omega)) (pN_le fun j hj => h (j + 1) (by omega))
theorem sum_abs {f : Nat → Int} : ∀ {n : Nat}, (sumN n f).natAbs ≤ sN n fun j => (f j).natAbs
  | 0 => Nat.le_refl _
  | n + 1 => by
    have := sum_abs (f := f) (n := n)
    have h2 := Int.natAbs_add_le (sumN n f) (f n)
    show (sumN n f + f n).natAbs ≤ sN n (fun j => (f j).natAbs) + (f n).natAbs
    omega
theorem sN_sk {f : Nat → Nat} {j : Nat} : ∀ {n : Nat}, sN n (fun k => f (sk j k)) ≤ sN (n + 1) f
  | 0 => Nat.zero_le _
  | n + 1 => by
    show sN n (fun k => f (sk j k)) + f (sk j n) ≤ sN (n + 1) f + f (n + 1)
    by_cases h : n < j
    · have e : ∀ m, m ≤ n + 1 → sN m (fun k => f (sk j k)) = sN m f := fun m => by
        induction m with
        | zero => intro _; rfl
        | succ m ih =>
          intro hm
          show sN m (fun k => f (sk j k)) + f (sk j m) = sN m f + f m
          rw [ih (by omega), show sk j m = m by unfold sk; rw [if_pos (by omega)]]
      have := e (n + 1) (Nat.le_refl _)
      have e2 : sN (n + 1) (fun k => f (sk j k)) = sN n (fun k => f (sk j k)) + f (sk j n) := rfl
      omega
    · have := sN_sk (j := j) (f := f) (n := n)
      rw [show sk j n = n + 1 by unfold sk; rw [if_neg h]]
      omega
theorem sg_abs : (sg j).natAbs = 1 := by unfold sg; split <;> rfl
theorem det_bound : ∀ {n : Nat} {A : Mx}, (det n A).natAbs ≤ pN n fun i => sN n fun k => (A i k).natAbs
  | 0, _ => Nat.le_refl _
  | n + 1, A => by
    refine Nat.le_trans sum_abs ?_
    show _ ≤ sN (n + 1) (fun k => (A 0 k).natAbs) * pN n fun i => sN (n + 1) fun k => (A (i + 1) k).natAbs
    rw [← sN_mul]
    refine sN_le fun j _ => ?_
    rw [Int.natAbs_mul, Int.natAbs_mul, sg_abs, Nat.one_mul]
    exact Nat.mul_le_mul_left _ (Nat.le_trans det_bound (pN_le fun i _ => sN_sk (f := fun k => (A (i + 1) k).natAbs)))
noncomputable def ent (M : List (List Int)) : Mx := fun i k => (M.getD i []).getD k 0
theorem erase_get {α : Type} {M : List α} {d : α} (i : Nat) : (M.eraseIdx p).getD i d = M.getD (if i < p then i else i + 1) d := by
  rw [List.getD_eq_getElem?_getD, List.getD_eq_getElem?_getD, List.getElem?_eraseIdx]
  split <;> rfl
theorem map_ent {M : List (List Int)} {u : List Int → List Int} (h : i < M.length) : (M.map u).getD i [] = u (M.getD i []) := by
  rw [List.getD_eq_getElem?_getD, List.getD_eq_getElem?_getD, List.getElem?_map, List.getElem?_eq_getElem h]
  rfl
theorem elim {M : List (List Int)} {top : List Int} {back : Int} {t : List Int → Int} {low : List Int → List Int} (hp : p < n + 1) (hM : M.length = n + 1) (htop : ∀ k, k < n + 1 → Cg m (top.getD k 0) ((M.getD p []).getD k 0)) (hb : Cg m (top.getD 0 0 * back) 1)
    (ht : ∀ r ∈ M, Cg m (t r) (r.getD 0 0 * back)) (hlow : ∀ r ∈ M, ∀ k, k < n → (low r).getD k 0 = r.getD (k + 1) 0 - t r * top.getD (k + 1) 0) : Cg m (det (n + 1) (ent M)) (sg p * (top.getD 0 0 * det n (ent ((M.eraseIdx p).map low)))) := by
  have e1 : det (n + 1) (ent M) = sg p * det (n + 1) (mv p (ent M)) := by
    rw [det_mv hp, ← Int.mul_assoc, sg_sq, Int.one_mul]
  have mem : ∀ i, i < n → (M.eraseIdx p).getD i [] ∈ M := fun i hi => by
    rw [erase_get]
    split
    · rw [List.getD_eq_getElem?_getD, List.getElem?_eq_getElem (by omega)]
      exact List.getElem_mem _
    · rw [List.getD_eq_getElem?_getD, List.getElem?_eq_getElem (by omega)]
      exact List.getElem_mem _
  have row : ∀ i k, i < n → mv p (ent M) (i + 1) k = ((M.eraseIdx p).getD i []).getD k 0 := fun i k hi => by
    unfold mv ent
    rw [if_neg (by omega), erase_get]
    by_cases h : i < p
    · rw [if_pos (by omega), if_pos h]
      rfl
    · rw [if_neg (by omega), if_neg h]
  rw [e1]
  refine (Cg.refl _).mul ?_
  refine (det_cg (B := fun i k => if i = 0 then top.getD k 0 else mv p (ent M) i k) fun i k hi hk => ?_).trans ?_
  · by_cases h0 : i = 0
    · subst h0
      rw [if_pos rfl]
      exact (htop k hk).symm
    · rw [if_neg h0]
      exact Cg.refl _
  · refine (det_step (t := fun i => t ((M.eraseIdx p).getD i [])) fun i hi => ?_).trans ?_
    · rw [if_neg (by omega), if_pos rfl, row i 0 hi]
      have h1 := ht _ (mem i hi)
      have h2 := (h1.mul (Cg.refl (top.getD 0 0))).trans (b := ((M.eraseIdx p).getD i []).getD 0 0 * back * top.getD 0 0) (d := ((M.eraseIdx p).getD i []).getD 0 0 * 1) (by
        rw [Int.mul_assoc, Int.mul_comm back]
        exact (Cg.refl _).mul hb)
      rw [Int.mul_one] at h2
      exact h2.symm
    · rw [if_pos rfl]
      refine (Cg.refl _).mul ?_
      rw [det_congr (B := ent ((M.eraseIdx p).map low)) fun i k hi hk => ?_]
      · exact Cg.refl _
      · rw [if_neg (by omega), if_pos rfl, row i (k + 1) hi]
        unfold ent
        rw [map_ent (by rw [List.length_eraseIdx]; split <;> omega), hlow _ (mem i hi) k hk]
theorem elim0 {M : List (List Int)} (h : ∀ r ∈ M, m ∣ r.getD 0 0) (hM : M.length = n + 1) : Cg m (det (n + 1) (ent M)) 0 := by
  rw [← zcol (n := n) (A := fun i k => if k = 0 then 0 else ent M i k) fun i _ => if_pos rfl]
  refine det_cg fun i k hi hk => ?_
  by_cases hk0 : k = 0
  · subst hk0
    rw [if_pos rfl]
    unfold Cg ent
    rw [Int.sub_zero]
    refine h _ ?_
    rw [List.getD_eq_getElem?_getD, List.getElem?_eq_getElem (by omega)]
    exact List.getElem_mem _
  · rw [if_neg hk0]
    exact Cg.refl _
theorem sN_list : ∀ {r : List Int} {n : Nat}, r.length = n → (((r.map fun x => if x < 0 then -x else x).sum : Int)) = ((sN n fun k => (r.getD k 0).natAbs : Nat) : Int) := by
  intro r
  induction r with
  | nil => intro n h; subst h; rfl
  | cons x r ih =>
    intro n h
    subst h
    have key : ∀ (n : Nat) (f : Nat → Nat), sN (n + 1) f = f 0 + sN n fun k => f (k + 1) := fun n => by
      induction n with
      | zero => intro f; show 0 + f 0 = f 0 + 0; omega
      | succ n ih2 =>
        intro f
        show sN (n + 1) f + f (n + 1) = f 0 + (sN n (fun k => f (k + 1)) + f (n + 1))
        rw [ih2]
        omega
    rw [List.map_cons, List.sum_cons, ih rfl, List.length_cons, key]
    show (if x < 0 then -x else x) + _ = (((x.natAbs + sN r.length fun k => (r.getD k 0).natAbs : Nat)) : Int)
    rw [Int.natCast_add]
    congr 1
    split <;> omega
end
end Dt

namespace Wd
noncomputable def ringAt (t : W) (n i : Nat) : W := (List.range n).map fun k => t.getD ((i + k) % t.length) 0
noncomputable def rowW (t : W) (n : Nat) : List W := (List.range (t.length + 1 - n)).map (ringAt t n)
end Wd

set_option linter.all false
namespace Wd
theorem sorted_same : ∀ {xs ys : List W}, xs.Perm ys → xs.Pairwise (fun a b => ¬ b < a) → ys.Pairwise (fun a b => ¬ b < a) → xs = ys := by
  intro xs ys h h1 h2
  refine List.Perm.eq_of_pairwise ?_ h1 h2 h
  intro a b _ _ z1 z2
  exact Std.Trichotomous.trichotomous a b z2 z1
end Wd

set_option linter.all false
namespace Hg
variable {bg en : List Nat → List Nat}
inductive Rch (bg en : List Nat → List Nat) (ms : List (List Nat)) (p : List Nat) : List Nat → Prop
  | self : Rch bg en ms p p
  | fw {w : List Nat} : w ∈ ms → Rch bg en ms p (bg w) → Rch bg en ms p (en w)
  | bw {w : List Nat} : w ∈ ms → Rch bg en ms p (en w) → Rch bg en ms p (bg w)
noncomputable def Cl (bg en : List Nat → List Nat) (ls : List (List Nat)) (w : List Nat) : Prop := bg w ∈ ls ↔ en w ∈ ls
set_option genInjectivity false in
structure Pass (bg en : List Nat → List Nat) (ms : List (List Nat)) (p : List Nat) (fs : List (List Nat)) (i : Nat) (ls : List (List Nat)) : Prop where
  nd : ls.Nodup
  pre : fs <+: ls
  rch : ∀ z ∈ ls, Rch bg en ms p z
  cl : ls.length = fs.length → ∀ w ∈ ms.take i, Cl bg en fs w
theorem nd_len {α : Type} [BEq α] [LawfulBEq α] : ∀ {ls ms : List α}, ls.Nodup → (∀ z ∈ ls, z ∈ ms) → ls.length ≤ ms.length
  | [], _, _, _ => Nat.zero_le _
  | a :: ls, ms, h, hs => by
    rw [List.nodup_cons] at h
    have ha := hs a (List.mem_cons_self ..)
    have ih := nd_len (ls := ls) (ms := ms.erase a) h.2 fun z hz => (List.mem_erase_of_ne (fun e : z = a => h.1 (e ▸ hz))).mpr (hs z (List.mem_cons_of_mem _ hz))
    have := List.length_erase_of_mem ha
    have := List.length_pos_of_mem ha
    rw [List.length_cons]
    omega
end Hg

set_option linter.all false
namespace Dt
noncomputable def PrimeN (N : Nat) : Prop := 1 < N ∧ ∀ x, 0 < x → x < N → Nat.gcd x N = 1
section
variable {N F b d e n : Nat}
noncomputable def pm (N : Nat) : Nat → Nat → Nat → Nat
  | 0, _, _ => 1 % N
  | f + 1, b, e => if e = 0 then 1 % N else if e % 2 = 1 then b * pm N f (b * b % N) (e / 2) % N else pm N f (b * b % N) (e / 2)
theorem pow_mod2 (N b e : Nat) : (b * b % N) ^ e % N = b ^ (2 * e) % N := by
  rw [← Nat.pow_mod, Nat.pow_mul, Nat.pow_two]
theorem pm_eq : ∀ (f b e : Nat), e < 2 ^ f → pm N f b e = b ^ e % N
  | 0, b, e, h => by
    obtain rfl : e = 0 := by simpa using h
    rfl
  | f + 1, b, e, h => by
    unfold pm
    by_cases h0 : e = 0
    · rw [if_pos h0, h0, Nat.pow_zero]
    · rw [if_neg h0]
      have ih := pm_eq f (b * b % N) (e / 2) (by rw [Nat.pow_succ] at h; omega)
      by_cases h1 : e % 2 = 1
      · rw [if_pos h1, ih, Nat.mul_mod, Nat.mod_mod, pow_mod2, ← Nat.mul_mod, Nat.mul_comm, ← Nat.pow_succ]
        congr 2
        omega
      · rw [if_neg h1, ih, pow_mod2]
        congr 2
        omega
theorem ord_mod {b d : Nat} (hd : 1 < d) {x y : Nat} (hx : b ^ x % d = 1) (hy : b ^ y % d = 1) : b ^ (y % x) % d = 1 := by
  have e : b ^ y = (b ^ x) ^ (y / x) * b ^ (y % x) := by rw [← Nat.pow_mul, ← Nat.pow_add, Nat.div_add_mod]
  rw [e, Nat.mul_mod, Nat.pow_mod, hx, Nat.one_pow, Nat.mod_eq_of_lt hd, Nat.one_mul, Nat.mod_mod] at hy
  exact hy
theorem ord_gcd {b d : Nat} (hd : 1 < d) : ∀ (x y : Nat), b ^ x % d = 1 → b ^ y % d = 1 → b ^ (Nat.gcd x y) % d = 1 := fun x y => by
  induction x, y using Nat.gcd.induction with
  | H0 y => intro _ h; rw [Nat.gcd_zero_left]; exact h
  | H1 x y hx ih =>
    intro h1 h2
    rw [Nat.gcd_rec]
    exact ih (ord_mod hd h1 h2) h1
theorem order_prime (rs : List Nat) (hN : 1 < N) (hF : N ≤ F * F) (h1 : b ^ F % N = 1) (h2 : ∀ r ∈ rs, Nat.gcd (b ^ (F / r) % N + (N - 1)) N = 1) (h3 : ∀ g, g ∣ F → g < F → ∃ r ∈ rs, g ∣ F / r) : PrimeN N := by
  have key : ∀ d, d ∣ N → 1 < d → F < d := fun d hdN hd => by
    have hdF : b ^ F % d = 1 := by
      have := Nat.mod_mod_of_dvd (b ^ F) hdN
      rw [h1, Nat.mod_eq_of_lt hd] at this
      exact this.symm
    have no : ∀ e, 0 < e → e < F → b ^ e % d ≠ 1 := fun e he heF hc => by
      have hg := ord_gcd hd e F hc hdF
      have hgF := Nat.gcd_dvd_right e F
      have hge : Nat.gcd e F ≤ e := Nat.gcd_le_left F he
      obtain ⟨r, hr, hgr⟩ := h3 _ hgF (by omega)
      obtain ⟨q, hq⟩ := hgr
      have hFr : b ^ (F / r) % d = 1 := by rw [hq, Nat.pow_mul, Nat.pow_mod, hg, Nat.one_pow, Nat.mod_eq_of_lt hd]
      have hdd : d ∣ b ^ (F / r) % N + (N - 1) := by
        have e1 : b ^ (F / r) % N % d = 1 := by rw [Nat.mod_mod_of_dvd _ hdN]; exact hFr
        refine Nat.dvd_of_mod_eq_zero ?_
        have e2 : (b ^ (F / r) % N + (N - 1)) % d = (1 + (N - 1)) % d := by rw [Nat.add_mod, e1, Nat.add_mod_mod]
        rw [e2, show 1 + (N - 1) = N by omega]
        exact Nat.mod_eq_zero_of_dvd hdN
      have := Nat.dvd_gcd hdd hdN
      rw [h2 r hr] at this
      have := Nat.le_of_dvd (by omega) this
      omega
    have inj : ((List.range F).map fun i => b ^ i % d).Nodup := by
      refine List.pairwise_map.mpr (List.Pairwise.imp_of_mem (fun {i j} hi hj hij he => ?_) List.pairwise_lt_range)
      have hj : j < F := List.mem_range.mp hj
      refine no (j - i) (by omega) (by omega) ?_
      have a1 : b ^ (F - i) * b ^ i % d = 1 := by rw [← Nat.pow_add, Nat.sub_add_cancel (by omega)]; exact hdF
      have a2 : b ^ (F - i) * b ^ j % d = b ^ (j - i) % d := by
        rw [← Nat.pow_add, show F - i + j = F + (j - i) by omega, Nat.pow_add, Nat.mul_mod, hdF, Nat.one_mul, Nat.mod_mod]
      rw [← a2, Nat.mul_mod, ← he, ← Nat.mul_mod]
      exact a1
    have sub : ∀ z ∈ (List.range F).map (fun i => b ^ i % d), z ∈ List.range' 1 (d - 1) := fun z hz => by
      obtain ⟨i, hi, rfl⟩ := List.mem_map.mp hz
      have hi : i < F := List.mem_range.mp hi
      rw [List.mem_range'_1]
      have hlt := Nat.mod_lt (b ^ i) (show d > 0 by omega)
      have hnz : b ^ i % d ≠ 0 := fun z => by
        have a1 : b ^ (F - i) * b ^ i % d = 1 := by rw [← Nat.pow_add, Nat.sub_add_cancel (by omega)]; exact hdF
        rw [Nat.mul_mod, z, Nat.mul_zero, Nat.zero_mod] at a1
        cases a1
      omega
    have := Hg.nd_len inj sub
    rw [List.length_map, List.length_range, List.length_range'] at this
    omega
  refine ⟨hN, fun x h0 hx => ?_⟩
  refine Classical.byContradiction fun hg => ?_
  have hgN := Nat.gcd_dvd_right x N
  have hgx : Nat.gcd x N ≤ x := Nat.gcd_le_left N h0
  have hgp : 0 < Nat.gcd x N := Nat.gcd_pos_of_pos_left N h0
  obtain ⟨c, hc⟩ := hgN
  have k1 := key _ (Nat.gcd_dvd_right x N) (by omega)
  have hc1 : 1 < c := by
    rcases Nat.lt_or_ge 1 c with z | z
    · exact z
    · have : Nat.gcd x N * c ≤ Nat.gcd x N * 1 := Nat.mul_le_mul_left _ z
      omega
  have k2 := key c ⟨_, by rw [Nat.mul_comm]; exact hc⟩ hc1
  have := Nat.mul_lt_mul'' k1 k2
  omega
theorem pow2_dvd {k g : Nat} (h : g ∣ 2 ^ (k + 1)) (hl : g < 2 ^ (k + 1)) : g ∣ 2 ^ (k + 1) / 2 := by
  obtain ⟨c, hc⟩ := h
  have hc2 : c % 2 = 0 := by
    refine Classical.byContradiction fun z => ?_
    have hco : Nat.Coprime c 2 := by
      show Nat.gcd c 2 = 1
      rw [Nat.gcd_comm, Nat.gcd_rec, show c % 2 = 1 by omega]
      rfl
    have h1 := Nat.Coprime.pow_right (k + 1) hco
    have h2 : c ∣ 2 ^ (k + 1) := ⟨g, by rw [hc, Nat.mul_comm]⟩
    have h3 := Nat.Coprime.eq_one_of_dvd h1 h2
    rw [h3, Nat.mul_one] at hc
    omega
  refine ⟨c / 2, ?_⟩
  rw [hc]
  have : c = 2 * (c / 2) := by omega
  rw [Nat.mul_div_assoc _ (Nat.dvd_of_mod_eq_zero hc2)]
theorem proth (h k : Nat) (hh : h < 2 ^ (k + 1)) (h0 : 0 < h) (hp : pm (h * 2 ^ (k + 1) + 1) (k + 1 + k + 1) 3 (h * 2 ^ k) = h * 2 ^ (k + 1)) : PrimeN (h * 2 ^ (k + 1) + 1) := by
  have hpos : 0 < 2 ^ k := Nat.pow_pos (by decide)
  have hs : 2 ^ (k + 1) = 2 * 2 ^ k := by rw [Nat.pow_succ, Nat.mul_comm]
  have hN : 1 < h * 2 ^ (k + 1) + 1 := by have := Nat.mul_pos h0 (Nat.pow_pos (n := k + 1) (show 0 < 2 by decide)); omega
  have hlt : h * 2 ^ k < 2 ^ (k + 1 + k + 1) := by
    have := Nat.mul_lt_mul_of_lt_of_le hh (Nat.le_refl (2 ^ k)) hpos
    rw [← Nat.pow_add] at this
    exact Nat.lt_trans this (Nat.pow_lt_pow_right (by decide) (by omega))
  rw [pm_eq _ _ _ hlt] at hp
  refine order_prime (F := 2 ^ (k + 1)) (b := 3 ^ h) [2] hN ?_ ?_ ?_ fun g hg hl => ⟨2, by simp, pow2_dvd hg hl⟩
  · have := Nat.mul_le_mul_right (2 ^ (k + 1)) (show h + 1 ≤ 2 ^ (k + 1) from hh)
    rw [Nat.add_mul] at this
    have := Nat.pow_pos (n := k + 1) (show 0 < 2 by decide)
    omega
  · have e3 : 3 ^ (h * 2 ^ (k + 1)) = 3 ^ (h * 2 ^ k) * 3 ^ (h * 2 ^ k) := by
      rw [hs, show h * (2 * 2 ^ k) = h * 2 ^ k * 2 by rw [Nat.mul_comm 2, Nat.mul_assoc], Nat.pow_mul, Nat.pow_two]
    rw [← Nat.pow_mul, e3, Nat.mul_mod, hp]
    have e : ∀ x : Nat, 0 < x → x * x % (x + 1) = 1 := fun x hx => by
      rw [show x * x = 1 + (x + 1) * (x - 1) by
        have : x * x = (x - 1 + 1) * x := by rw [Nat.sub_add_cancel hx]
        have h2 : (x + 1) * (x - 1) = x * (x - 1) + (x - 1) := by rw [Nat.add_mul, Nat.one_mul]
        have h3 : x * x = x * (x - 1) + x := by
          have : x * x = x * (x - 1 + 1) := by rw [Nat.sub_add_cancel hx]
          rw [this, Nat.mul_add, Nat.mul_one]
        omega, Nat.add_mul_mod_self_left, Nat.mod_eq_of_lt (by omega)]
    exact e _ (Nat.mul_pos h0 (Nat.pow_pos (by decide)))
  · intro r hr
    obtain rfl := List.mem_singleton.mp hr
    rw [← Nat.pow_mul, hs, Nat.mul_div_cancel_left _ (by decide), ← hs, hp, Nat.add_sub_cancel]
    have e : ∀ x : Nat, x % 2 = 0 → Nat.gcd (x + x) (x + 1) = 1 := fun x hx => by
      have : Nat.gcd (x + x) (x + 1) ∣ 2 := by
        have a1 := Nat.gcd_dvd_left (x + x) (x + 1)
        have a2 := Nat.gcd_dvd_right (x + x) (x + 1)
        have a3 := Nat.dvd_sub (Nat.dvd_mul_left_of_dvd a2 2) a1
        rw [show 2 * (x + 1) - (x + x) = 2 by omega] at a3
        exact a3
      have hle := Nat.le_of_dvd (by decide) this
      have hpos := Nat.gcd_pos_of_pos_right (x + x) (show 0 < x + 1 by omega)
      rcases Nat.lt_or_ge (Nat.gcd (x + x) (x + 1)) 2 with z | z
      · omega
      · have e2 : Nat.gcd (x + x) (x + 1) = 2 := by omega
        have a2 := Nat.gcd_dvd_right (x + x) (x + 1)
        rw [e2] at a2
        omega
    refine e _ ?_
    rw [hs, ← Nat.mul_assoc, Nat.mul_comm h 2, Nat.mul_assoc]
    exact Nat.mul_mod_right ..
theorem pr133 : PrimeN (133 * 2 ^ 192 + 1) := proth 133 191 (by decide +kernel) (by decide) (by decide +kernel)
end
end Dt

set_option linter.all false
namespace Dt
section
variable {N F b d e n : Nat}
noncomputable def primeB (N : Nat) : Bool := decide (1 < N) && (List.range N).all fun x => x == 0 || Nat.gcd x N == 1
theorem primeB_of (h : primeB N = true) : PrimeN N := by
  unfold primeB at h
  rw [Bool.and_eq_true, decide_eq_true_iff, List.all_eq_true] at h
  refine ⟨h.1, fun x h0 hx => ?_⟩
  have := h.2 x (List.mem_range.mpr hx)
  rw [Bool.or_eq_true, beq_iff_eq, beq_iff_eq] at this
  omega
theorem PrimeN.cop {r c : Nat} (h : PrimeN r) (hc : ¬ r ∣ c) : Nat.Coprime c r := by
  show Nat.gcd c r = 1
  rw [Nat.gcd_comm, Nat.gcd_rec]
  have h1 := h.1
  exact h.2 (c % r) (Nat.pos_of_ne_zero fun z => hc (Nat.dvd_of_mod_eq_zero z)) (Nat.mod_lt _ (by omega))
theorem dvd_list : ∀ (rs : List Nat), (∀ r ∈ rs, PrimeN r) → ∀ c, c ∣ rs.prod → c ≠ 1 → ∃ r ∈ rs, r ∣ c
  | [], _, c, h, h1 => absurd (Nat.eq_one_of_dvd_one h) h1
  | r :: rs, hp, c, h, h1 => by
    by_cases hr : r ∣ c
    · exact ⟨r, by simp, hr⟩
    · rw [List.prod_cons] at h
      obtain ⟨r', h2, h3⟩ := dvd_list rs (fun x hx => hp x (List.mem_cons_of_mem _ hx)) c (Nat.Coprime.dvd_of_dvd_mul_left ((hp r (by simp)).cop hr) h) h1
      exact ⟨r', List.mem_cons_of_mem _ h2, h3⟩
theorem mers : PrimeN 2305843009213693951 := by
  have ps : ∀ r ∈ [61, 151, 331, 1321], PrimeN r := fun r hr => primeB_of (by
    have : ∀ r ∈ [61, 151, 331, 1321], primeB r = true := by decide +kernel
    exact this r hr)
  refine order_prime (F := 4027518961) (b := 429339995019680672) [61, 151, 331, 1321] (by decide) (by decide) ?_ ?_ fun g hg hl => ?_
  · rw [← pm_eq 32 _ _ (by decide)]
    decide +kernel
  · intro r hr
    have key : ∀ r ∈ [61, 151, 331, 1321], Nat.gcd (pm 2305843009213693951 32 429339995019680672 (4027518961 / r) + (2305843009213693951 - 1)) 2305843009213693951 = 1 := by decide +kernel
    rw [← pm_eq 32 _ _ (Nat.lt_of_le_of_lt (Nat.div_le_self _ _) (by decide))]
    exact key r hr
  · obtain ⟨c, hc⟩ := hg
    have hF : ([61, 151, 331, 1321] : List Nat).prod = 4027518961 := by decide
    obtain ⟨r, hr, q, rfl⟩ := dvd_list _ ps c (by rw [hF]; exact ⟨g, by rw [hc, Nat.mul_comm]⟩) fun z => by rw [z, Nat.mul_one] at hc; omega
    have h0 := (ps r hr).1
    refine ⟨r, hr, q, ?_⟩
    rw [hc, show g * (r * q) = r * (g * q) by rw [← Nat.mul_assoc, Nat.mul_comm g r, Nat.mul_assoc], Nat.mul_div_cancel_left _ (by omega)]
theorem pr211 : PrimeN (211 * 2 ^ 192 + 1) := proth 211 191 (by decide +kernel) (by decide) (by decide +kernel)
theorem pr598 : PrimeN (598 * 2 ^ 192 + 1) := proth 598 191 (by decide +kernel) (by decide) (by decide +kernel)
theorem pr652 : PrimeN (652 * 2 ^ 192 + 1) := proth 652 191 (by decide +kernel) (by decide) (by decide +kernel)
theorem pr721 : PrimeN (721 * 2 ^ 192 + 1) := proth 721 191 (by decide +kernel) (by decide) (by decide +kernel)
theorem pr850 : PrimeN (850 * 2 ^ 192 + 1) := proth 850 191 (by decide +kernel) (by decide) (by decide +kernel)
theorem pr1282 : PrimeN (1282 * 2 ^ 192 + 1) := proth 1282 191 (by decide +kernel) (by decide) (by decide +kernel)
set_option genInjectivity false in
structure Euc (pr : Nat) (num : Int) (last rest : Nat) (lt t : Int) : Prop where
  pos : 1 ≤ rest
  lp : 1 ≤ last
  cop : Nat.gcd rest last = 1
  ct : Cg pr (t * num) rest
  cl : Cg pr (lt * num) last
  bd : t.natAbs * last + lt.natAbs * rest ≤ pr
theorem Euc.init {pr : Nat} {num : Int} {r : Nat} (h : PrimeN pr) (hr : num % pr = r) (h0 : r ≠ 0) : Euc pr num pr r 0 1 := by
  have h1 := h.1
  have hlt : (r : Int) < pr := by rw [← hr]; exact Int.emod_lt_of_pos _ (by omega)
  refine ⟨by omega, by omega, h.2 r (by omega) (by omega), ?_, ?_, by simp⟩
  · rw [Int.one_mul, ← hr]
    exact (cg_mod num).symm
  · rw [Int.zero_mul]
    unfold Cg
    rw [Int.zero_sub]
    exact Int.dvd_neg.mpr (Int.dvd_refl _)
theorem Euc.step {pr : Nat} {num : Int} {last rest : Nat} {lt t : Int} (h : Euc pr num last rest lt t) (h1 : rest ≠ 1) : Euc pr num rest (last % rest) t (lt - (last / rest : Nat) * t) := by
  have hp := h.pos
  have hd := Nat.div_add_mod last rest
  have hd2 : ((last : Nat) : Int) = rest * (last / rest : Nat) + (last % rest : Nat) := by exact_mod_cast hd.symm
  refine ⟨?_, hp, ?_, ?_, h.ct, ?_⟩
  · refine Nat.pos_of_ne_zero fun z => h1 ?_
    have := h.cop
    rw [Nat.gcd_eq_left (Nat.dvd_of_mod_eq_zero z)] at this
    exact this
  · rw [← Nat.gcd_rec]
    exact h.cop
  · have e : (lt - (last / rest : Nat) * t) * num = lt * num - (last / rest : Nat) * (t * num) := by rw [Int.sub_mul, Int.mul_assoc]
    rw [e, show ((last % rest : Nat) : Int) = (last : Int) - (last / rest : Nat) * (rest : Int) by rw [hd2, Int.mul_comm]; omega]
    exact h.cl.sub ((Cg.refl _).mul h.ct)
  · have hb := h.bd
    have a1 : (lt - (last / rest : Nat) * t).natAbs ≤ lt.natAbs + (last / rest) * t.natAbs := by
      have := Int.natAbs_sub_le lt ((last / rest : Nat) * t)
      rw [Int.natAbs_mul, Int.natAbs_natCast] at this
      exact this
    have a2 := Nat.mul_le_mul_right rest a1
    rw [Nat.add_mul] at a2
    have a3 : t.natAbs * last = (last / rest) * t.natAbs * rest + t.natAbs * (last % rest) := by
      conv => lhs; rw [← hd, Nat.mul_add, ← Nat.mul_assoc, Nat.mul_comm t.natAbs rest, Nat.mul_assoc, Nat.mul_comm rest]
      rw [Nat.mul_comm t.natAbs]
    omega
theorem Euc.tle {pr : Nat} {num : Int} {last rest : Nat} {lt t : Int} (h : Euc pr num last rest lt t) : t.natAbs ≤ pr ∧ lt.natAbs ≤ pr := by
  have hb := h.bd
  have h1 := Nat.mul_le_mul_left t.natAbs h.lp
  have h2 := Nat.mul_le_mul_left lt.natAbs h.pos
  omega
theorem Euc.fin {pr : Nat} {num : Int} {last rest : Nat} {lt t : Int} (h : Euc pr num last rest lt t) (h1 : rest = 1) : Cg pr (t % pr * num) 1 := by
  have := h.ct
  rw [h1] at this
  exact ((cg_mod t).mul (Cg.refl num)).trans this
theorem crt {M1 pr : Nat} {D res r2 inv : Int} (hM : 0 < M1) (hp : 0 < pr) (h1 : Cg M1 res D) (h2 : Cg pr r2 D) (hi : Cg pr (inv * M1) 1) (h0 : 0 ≤ res ∧ res < M1) : Cg (M1 * pr : Nat) (res + (r2 - res) * inv % pr * M1) D ∧ 0 ≤ res + (r2 - res) * inv % pr * M1 ∧ res + (r2 - res) * inv % pr * M1 < (M1 * pr : Nat) := by
  have e0 := Int.emod_nonneg ((r2 - res) * inv) (show (pr : Int) ≠ 0 by omega)
  have e1 := Int.emod_lt_of_pos ((r2 - res) * inv) (show (0 : Int) < pr by omega)
  have hc := cg_mod (m := pr) ((r2 - res) * inv)
  generalize (r2 - res) * inv % pr = q at e0 e1 hc
  refine ⟨?_, ?_, ?_⟩
  · have a1 : Cg M1 (res + q * M1) D := by
      have : Cg M1 (q * M1) 0 := by
        unfold Cg
        rw [Int.sub_zero]
        exact Int.dvd_mul_left ..
      have := h1.add this
      rwa [Int.add_zero] at this
    have a2 : Cg pr (res + q * M1) D := by
      have b1 : Cg pr (q * M1) (r2 - res) := by
        refine (hc.mul (Cg.refl (M1 : Int))).trans ?_
        rw [Int.mul_assoc]
        have := (Cg.refl (m := pr) (r2 - res)).mul hi
        rwa [Int.mul_one] at this
      have := (Cg.refl (m := pr) res).add b1
      rw [show res + (r2 - res) = r2 by omega] at this
      exact this.trans h2
    unfold Cg at a1 a2 hi ⊢
    obtain ⟨x, hx⟩ := a1
    rw [hx] at a2 ⊢
    have a3 : (pr : Int) ∣ x := by
      have c1 : (pr : Int) ∣ inv * (M1 * x) := Int.dvd_mul_of_dvd_right a2
      have c2 : (pr : Int) ∣ (inv * M1 - 1) * x := Int.dvd_mul_of_dvd_left hi
      have := Int.dvd_sub c1 c2
      rw [show inv * (M1 * x) - (inv * M1 - 1) * x = x by rw [Int.sub_mul, Int.mul_assoc]; omega] at this
      exact this
    obtain ⟨y, rfl⟩ := a3
    refine ⟨y, ?_⟩
    rw [← Int.mul_assoc, Int.natCast_mul]
  · have := Int.mul_nonneg e0 (show (0 : Int) ≤ M1 by omega)
    omega
  · have a := Int.mul_le_mul_of_nonneg_right (show q ≤ (pr : Int) - 1 by omega) (show (0 : Int) ≤ M1 by omega)
    rw [Int.sub_mul, Int.one_mul] at a
    rw [Int.natCast_mul, Int.mul_comm (M1 : Int)]
    omega
theorem from_rest {M : Nat} {D res bd : Int} (hm : 2 * bd < M) (hD : -bd ≤ D ∧ D ≤ bd) (h : Cg M res D) (h0 : 0 ≤ res ∧ res < M) : (if bd < res then res - M else res) = D := by
  obtain ⟨k, hk⟩ := h
  have k0 : k = 0 ∨ k = 1 := by
    rcases Int.lt_or_le k 0 with z | z
    · have := Int.mul_le_mul_of_nonneg_left (show k ≤ -1 by omega) (show (0 : Int) ≤ M by omega)
      omega
    · rcases Int.lt_or_le 1 k with y | y
      · have := Int.mul_le_mul_of_nonneg_left (show 2 ≤ k by omega) (show (0 : Int) ≤ M by omega)
        omega
      · omega
  rcases k0 with rfl | rfl
  · rw [Int.mul_zero] at hk
    rw [if_neg (by omega)]
    omega
  · rw [Int.mul_one] at hk
    rw [if_pos (by omega)]
    omega
end
end Dt

set_option linter.all false
namespace Dt
theorem rest_step {pr p : Nat} {rest top0 inv dN dM D : Int} (hr : 0 < rest ∧ rest < pr) (hi : Cg pr (inv * top0) 1) (hE : Cg pr dN (sg p * (top0 * dM))) (hD : Cg pr (rest * dN) D) :
    (0 < (if p % 2 = 1 then (pr : Int) - rest * top0 % pr else rest * top0 % pr) ∧ (if p % 2 = 1 then (pr : Int) - rest * top0 % pr else rest * top0 % pr) < pr) ∧ Cg pr ((if p % 2 = 1 then (pr : Int) - rest * top0 % pr else rest * top0 % pr) * dM) D := by
  have h0 := Int.emod_nonneg (rest * top0) (show (pr : Int) ≠ 0 by omega)
  have h1 := Int.emod_lt_of_pos (rest * top0) (show (0 : Int) < pr by omega)
  have hc := cg_mod (m := pr) (rest * top0)
  have hnz : rest * top0 % pr ≠ 0 := fun z => by
    rw [z] at hc
    have a1 := (hc.mul (Cg.refl (m := pr) inv))
    rw [Int.zero_mul, Int.mul_assoc, Int.mul_comm top0] at a1
    have a2 := (Cg.refl (m := pr) rest).mul hi
    rw [Int.mul_one] at a2
    have a3 := a1.trans a2
    unfold Cg at a3
    rw [Int.zero_sub] at a3
    have := Int.le_of_dvd hr.1 (Int.dvd_neg.mp a3)
    omega
  generalize rest * top0 % pr = x at h0 h1 hc hnz
  have key : Cg pr (x * dM) (rest * (top0 * dM)) := by
    rw [← Int.mul_assoc]
    exact hc.mul (Cg.refl _)
  have hE2 := ((Cg.refl (m := pr) rest).mul hE).symm.trans hD
  by_cases hp : p % 2 = 1
  · rw [if_pos hp]
    have hs : sg p = -1 := by unfold sg; rw [if_neg (by omega)]
    rw [hs] at hE2
    refine ⟨⟨by omega, by omega⟩, ?_⟩
    have a1 : Cg pr (((pr : Int) - x) * dM) (-(x * dM)) := by
      unfold Cg
      rw [Int.sub_mul, show (pr : Int) * dM - x * dM - -(x * dM) = pr * dM by omega]
      exact Int.dvd_mul_right ..
    refine a1.trans (key.neg.trans ?_)
    rw [show -(rest * (top0 * dM)) = rest * (-1 * (top0 * dM)) by rw [Int.neg_mul, Int.one_mul, Int.mul_neg]]
    exact hE2
  · rw [if_neg hp]
    have hs : sg p = 1 := by unfold sg; rw [if_pos (by omega)]
    rw [hs, Int.one_mul] at hE2
    exact ⟨⟨by omega, h1⟩, key.trans hE2⟩
end Dt
namespace Dt
noncomputable def pL : List Nat → Nat
  | [] => 1
  | x :: l => x * pL l
theorem pL_snoc (x : Nat) : ∀ l : List Nat, pL (l ++ [x]) = pL l * x
  | [] => by show x * 1 = 1 * x; omega
  | y :: l => by
    show y * pL (l ++ [x]) = y * pL l * x
    rw [pL_snoc x l, Nat.mul_assoc]
theorem pL_le {R : Nat} : ∀ {l : List Nat}, (∀ x ∈ l, x ≤ R) → pL l ≤ R ^ l.length
  | [], _ => Nat.le_refl _
  | y :: l, h => by
    show y * pL l ≤ R ^ (l.length + 1)
    rw [Nat.pow_succ, Nat.mul_comm]
    exact Nat.mul_le_mul (pL_le fun x hx => h x (List.mem_cons_of_mem _ hx)) (h y (List.mem_cons_self ..))
noncomputable def rs (n : Nat) (r : List Int) : Nat := sN n fun k => (r.getD k 0).natAbs
theorem pL_pN (n : Nat) : ∀ M : List (List Int), pN M.length (fun i => sN n fun k => (ent M i k).natAbs) = pL (M.map (rs n))
  | [] => rfl
  | r :: M => by
    show (sN n fun k => (ent (r :: M) 0 k).natAbs) * pN M.length (fun i => sN n fun k => (ent (r :: M) (i + 1) k).natAbs) = rs n r * pL (M.map (rs n))
    rw [← pL_pN n M]
    rfl
theorem sN_mem {f : Nat → Nat} : ∀ {n k : Nat}, k < n → f k ≤ sN n f
  | n + 1, k, h => by
    show f k ≤ sN n f + f n
    rcases Nat.lt_or_ge k n with z | z
    · have := sN_mem (f := f) z
      omega
    · rw [show k = n by omega]
      omega
theorem rs_mem {n : Nat} {r : List Int} (hl : r.length = n) {x : Int} (hx : x ∈ r) : x.natAbs ≤ rs n r := by
  obtain ⟨k, hk⟩ := List.getElem?_of_mem hx
  have hkl := (List.getElem?_eq_some_iff.mp hk).1
  have := sN_mem (f := fun k => (r.getD k 0).natAbs) (n := n) (k := k) (by omega)
  rw [List.getD_eq_getElem?_getD, hk] at this
  exact this
theorem det_le {M : List (List Int)} {n : Nat} (h : M.length = n) : (det n (ent M)).natAbs ≤ pL (M.map (rs n)) := by
  rw [← pL_pN, h]
  exact det_bound
noncomputable def kn : List Nat := [133, 211, 598, 652, 721, 850, 1282]
noncomputable def pr (j : Nat) : Nat := kn.getD j 0 * 2 ^ 192 + 1
noncomputable def md : Nat → Nat
  | 0 => 2305843009213693951
  | j + 1 => md j * pr j
theorem pr_prime : ∀ {j : Nat}, j < 7 → PrimeN (pr j)
  | 0, _ => pr133
  | 1, _ => pr211
  | 2, _ => pr598
  | 3, _ => pr652
  | 4, _ => pr721
  | 5, _ => pr850
  | 6, _ => pr1282
  | j + 7, h => by omega
theorem pr_ok : ∀ j, j < 7 → pr j < 2 ^ 250 ∧ md j % pr j ≠ 0 ∧ md j < 2 ^ 1600 ∧ md (j + 1) < 2 ^ 1800 := by decide +kernel
end Dt

set_option linter.all false
namespace Dt
section
variable {n m p q i j k l : Nat} {A B T U : Mx} {f g : Nat → Int} {c : Nat → Int}
theorem det_zrow (h : i < n) : det n (setR A i fun _ => 0) = 0 := by
  have e := det_lin (c := 1) (A := A) (u := fun _ => 0) (v := fun _ => 0) h
  rw [show (fun k : Nat => (0 : Int) + 1 * 0) = fun _ => 0 from rfl] at e
  omega
theorem comb0 (hm : m < n) : ∀ {l : Nat}, l ≤ m → det n (setR A m fun j => sumN l fun k => c k * A k j) = 0
  | 0, _ => det_zrow hm
  | l + 1, h => by
    have e := det_lin (c := c l) (A := A) (u := fun j => sumN l fun k => c k * A k j) (v := A l) hm
    rw [comb0 hm (l := l) (by omega), alt_far (m - (l + 1)) (i := l) (A := setR A m (A l)) (by omega) fun k _ => ?_, Int.mul_zero, Int.add_zero] at e
    · exact e
    · rw [setR_ne (by omega), show l + 1 + (m - (l + 1)) = m by omega, setR_at]
theorem comb (hm : m < n) : det n (setR A m fun j => sumN (m + 1) fun k => c k * A k j) = c m * det n A := by
  have e := det_lin (c := c m) (A := A) (u := fun j => sumN m fun k => c k * A k j) (v := A m) hm
  rw [comb0 hm (Nat.le_refl _), det_self (A m) fun _ => rfl, Int.zero_add] at e
  exact e
noncomputable def pI : Nat → (Nat → Int) → Int
  | 0, _ => 1
  | n + 1, f => pI n f * f n
theorem pI_first : ∀ {n : Nat} {f : Nat → Int}, pI (n + 1) f = f 0 * pI n fun i => f (i + 1)
  | 0, f => by show 1 * f 0 = f 0 * 1; omega
  | n + 1, f => by
    show pI (n + 1) f * f (n + 1) = f 0 * (pI n (fun i => f (i + 1)) * f (n + 1))
    rw [pI_first (n := n), Int.mul_assoc]
theorem pI_congr : ∀ {n : Nat} {f g : Nat → Int}, (∀ i, i < n → f i = g i) → pI n f = pI n g
  | 0, _, _, _ => rfl
  | n + 1, f, g, h => by
    show pI n f * f n = pI n g * g n
    rw [pI_congr (n := n) fun i hi => h i (by omega), h n (by omega)]
theorem pI_one : ∀ {n : Nat} {f : Nat → Int}, (∀ i, i < n → f i = 1) → pI n f = 1
  | 0, _, _ => rfl
  | n + 1, f, h => by
    show pI n f * f n = 1
    rw [pI_one (n := n) fun i hi => h i (by omega), h n (by omega)]
    rfl
theorem sum_trunc : ∀ {n m : Nat}, m ≤ n → (∀ k, m ≤ k → k < n → f k = 0) → sumN n f = sumN m f
  | 0, m, h, _ => by rw [show m = 0 by omega]
  | n + 1, m, h, hz => by
    by_cases e : m = n + 1
    · rw [e]
    · show sumN n f + f n = sumN m f
      rw [sum_trunc (n := n) (m := m) (by omega) (fun k h1 h2 => hz k h1 (by omega)), hz n (by omega) (by omega)]
      omega
theorem det_lower (hT : ∀ i k, i < k → k < n → T i k = 0) : ∀ {m : Nat}, m ≤ n → det n (fun i j => if i < n - m then B i j else sumN n fun k => T i k * B k j) = pI m (fun i => T (n - 1 - i) (n - 1 - i)) * det n B
  | 0, _ => by
    show _ = 1 * _
    rw [Int.one_mul]
    exact det_congr fun i k hi _ => by rw [if_pos (by omega)]
  | m + 1, h => by
    have ih := det_lower hT (m := m) (by omega)
    show _ = pI m _ * T (n - 1 - m) (n - 1 - m) * det n B
    rw [Int.mul_comm (pI m _), Int.mul_assoc, ← ih, ← comb (c := fun k => T (n - 1 - m) k) (show n - 1 - m < n by omega)]
    refine det_congr fun i j hi hj => ?_
    unfold setR
    by_cases e : i = n - 1 - m
    · subst e
      rw [if_pos rfl, if_neg (by omega), sum_trunc (m := n - 1 - m + 1) (by omega) fun k h1 h2 => by rw [hT _ k (by omega) h2, Int.zero_mul]]
      exact sum_congr fun k hk => by rw [if_pos (by omega)]
    · rw [if_neg e]
      dsimp only
      by_cases h1 : i < n - (m + 1)
      · rw [if_pos h1, if_pos (by omega)]
      · rw [if_neg h1, if_neg (by omega)]
theorem pI_rev : ∀ {n : Nat} {f : Nat → Int}, pI n (fun i => f (n - 1 - i)) = pI n f
  | 0, _ => rfl
  | n + 1, f => by
    rw [pI_first (n := n)]
    show f (n + 1 - 1 - 0) * pI n (fun i => f (n + 1 - 1 - (i + 1))) = pI n f * f n
    rw [show n + 1 - 1 - 0 = n by omega, Int.mul_comm, ← pI_rev (n := n)]
    congr 1
    exact pI_congr fun i hi => by congr 1; omega
theorem det_prod (hT : ∀ i k, i < k → k < n → T i k = 0) : det n (fun i j => sumN n fun k => T i k * B k j) = pI n (fun i => T i i) * det n B := by
  rw [← pI_rev (f := fun i => T i i), ← det_lower (B := B) hT (Nat.le_refl n)]
  exact det_congr fun i j hi _ => by rw [if_neg (by omega)]
theorem det_upper : ∀ {n : Nat} {U : Mx}, (∀ i k, k < i → i < n → U i k = 0) → det n U = pI n fun i => U i i
  | 0, _, _ => rfl
  | n + 1, U, h => by
    rw [col0 fun i hi => h (i + 1) 0 (by omega) (by omega), det_upper (n := n) fun i k h1 h2 => h (i + 1) (k + 1) (by omega) (by omega), pI_first]
end
end Dt

set_option linter.all false
namespace Dt
section
variable {n i j k l m : Nat} {A B : Mx} {f : Nat → Nat} {c : Int}
theorem addRow (hi : i < n) (hj : j < n) (hij : i ≠ j) : det n (setR A i fun k => A i k + c * A j k) = det n A := by
  have e := det_lin (c := c) (A := A) (u := A i) (v := A j) hi
  have z : det n (setR A i (A j)) = 0 := by
    rcases Nat.lt_or_ge i j with h | h
    · refine alt_far (j - (i + 1)) (i := i) (A := setR A i (A j)) (by omega) fun k _ => ?_
      rw [setR_at, show i + 1 + (j - (i + 1)) = j by omega, setR_ne (by omega)]
    · refine alt_far (i - (j + 1)) (i := j) (A := setR A i (A j)) (by omega) fun k _ => ?_
      rw [setR_ne (by omega), show j + 1 + (i - (j + 1)) = i by omega, setR_at]
  rw [z, det_self (A i) fun _ => rfl, Int.mul_zero, Int.add_zero] at e
  exact e
noncomputable def un (i k : Nat) : Int := if k = i then 1 else 0
noncomputable def chM (n : Nat) (f : Nat → Nat) : Mx := fun i k => un i k - if f i < n then un (f i) k else 0
noncomputable def chS (n : Nat) (f : Nat → Nat) (S : Nat → Bool) : Mx := fun i k => if S i = true then un i k else chM n f i k
theorem chS_congr {S S' : Nat → Bool} {a : Nat} (h : S a = S' a) : chS n f S a k = chS n f S' a k := by
  unfold chS
  rw [h]
theorem chS_add {S : Nat → Bool} (hi : i < n) (hS : S i = false) (hf : f i < n → S (f i) = true) : det n (chS n f fun a => S a || a == i) = det n (chS n f S) := by
  by_cases h : f i < n
  · have hne : i ≠ f i := fun z => by have := hf h; rw [← z, hS] at this; cases this
    rw [← addRow (A := chS n f S) (i := i) (j := f i) (c := 1) hi h hne]
    refine det_congr fun a k _ _ => ?_
    unfold setR
    try dsimp only
    by_cases ha : a = i
    · subst ha
      rw [if_pos rfl]
      unfold chS
      try dsimp only
      rw [if_pos (by rw [beq_self_eq_true, Bool.or_true]), if_neg (by rw [hS]; exact Bool.false_ne_true), if_pos (hf h)]
      unfold chM
      rw [if_pos h]
      omega
    · rw [if_neg ha]
      exact chS_congr (by rw [beq_false_of_ne ha, Bool.or_false])
  · refine det_congr fun a k _ _ => ?_
    by_cases ha : a = i
    · subst ha
      unfold chS
      try dsimp only
      rw [if_pos (by rw [beq_self_eq_true, Bool.or_true]), if_neg (by rw [hS]; exact Bool.false_ne_true)]
      unfold chM
      rw [if_neg h, Int.sub_zero]
    · exact chS_congr (by rw [beq_false_of_ne ha, Bool.or_false])
theorem det_un : ∀ n : Nat, det n un = 1
  | n => by
    rw [det_upper (n := n) fun i k h1 _ => by unfold un; rw [if_neg (by omega)]]
    exact pI_one fun i _ => by unfold un; rw [if_pos rfl]
theorem ch_out {d : Nat → Nat} (hd : ∀ i, i < n → f i < n → d (f i) < d i) : det n (chM n f) = 1 := by
  have key : ∀ m l, l ≤ n → det n (chS n f fun a => decide (d a < m) || (decide (d a = m) && decide (a < l))) = det n (chM n f) := fun m => by
    induction m with
    | zero =>
      intro l
      induction l with
      | zero =>
        intro _
        refine det_congr fun a k _ _ => ?_
        unfold chS
        try dsimp only
        rw [if_neg (by simp)]
      | succ l ih =>
        intro hl
        rw [← ih (by omega)]
        by_cases h : d l = 0
        · have := chS_add (n := n) (f := f) (i := l) (S := fun a => decide (d a < 0) || (decide (d a = 0) && decide (a < l))) (by omega) (by simp) (fun hf => by have := hd l (by omega) hf; omega)
          rw [← this]
          congr 2
          funext a
          by_cases ha : a = l
          · subst ha
            simp [h]
          · have e : decide (a < l + 1) = decide (a < l) := by rw [decide_eq_decide]; omega
            rw [e, beq_false_of_ne ha, Bool.or_false]
        · congr 2
          funext a
          by_cases ha : a = l
          · subst ha
            simp [h]
          · have e : decide (a < l + 1) = decide (a < l) := by rw [decide_eq_decide]; omega
            rw [e]
    | succ m ihm =>
      intro l
      induction l with
      | zero =>
        intro _
        rw [← ihm n (Nat.le_refl n)]
        refine det_congr fun a k ha _ => ?_
        have e : (decide (d a < m + 1) || (decide (d a = m + 1) && decide (a < 0))) = (decide (d a < m) || (decide (d a = m) && decide (a < n))) := by
          rw [decide_eq_false (show ¬ a < 0 by omega), decide_eq_true ha, Bool.and_false, Bool.or_false, Bool.and_true, Bool.eq_iff_iff, Bool.or_eq_true, decide_eq_true_iff, decide_eq_true_iff, decide_eq_true_iff]
          omega
        exact chS_congr e
      | succ l ih =>
        intro hl
        rw [← ih (by omega)]
        by_cases h : d l = m + 1
        · have := chS_add (n := n) (f := f) (i := l) (S := fun a => decide (d a < m + 1) || (decide (d a = m + 1) && decide (a < l))) (by omega) (by simp [h]) (fun hf => by
            have := hd l (by omega) hf
            have : d (f l) < m + 1 := by omega
            simp [this])
          rw [← this]
          congr 2
          funext a
          by_cases ha : a = l
          · subst ha
            simp [h]
          · have e : decide (a < l + 1) = decide (a < l) := by rw [decide_eq_decide]; omega
            rw [e, beq_false_of_ne ha, Bool.or_false]
        · congr 2
          funext a
          by_cases ha : a = l
          · subst ha
            simp [h]
          · have e : decide (a < l + 1) = decide (a < l) := by rw [decide_eq_decide]; omega
            rw [e]
  obtain ⟨m, hm⟩ : ∃ m, ∀ i, i < n → d i < m := by
    have : ∀ N, ∃ m, ∀ i, i < N → d i < m := fun N => by
      induction N with
      | zero => exact ⟨0, fun i h => by omega⟩
      | succ N ih =>
        obtain ⟨m, hm⟩ := ih
        refine ⟨m + d N + 1, fun i h => ?_⟩
        rcases Nat.lt_or_ge i N with z | z
        · have := hm i z
          omega
        · rw [show i = N by omega]
          omega
    exact this n
  rw [← key m 0 (Nat.zero_le _), ← det_un n]
  refine det_congr fun a k ha _ => ?_
  unfold chS
  try dsimp only
  rw [if_pos (by simp [hm a ha])]
noncomputable def itf (f : Nat → Nat) : Nat → Nat → Nat
  | 0, i => i
  | k + 1, i => f (itf f k i)
theorem ch_round (hi : i < n) (hl : ∀ k, k ≤ m → itf f (k + 1) i < n) (hr : itf f (m + 1) i = i) (hne : ∀ k, 0 < k → k ≤ m → itf f k i ≠ i) : det n (chM n f) = 0 := by
  have key : ∀ k, k ≤ m → det n (setR (chM n f) i fun l => un i l - un (itf f (k + 1) i) l) = det n (chM n f) := fun k => by
    induction k with
    | zero =>
      intro _
      refine det_self _ fun l => ?_
      unfold chM
      have := hl 0 (Nat.zero_le _)
      rw [if_pos (show f i < n from this)]
      rfl
    | succ k ih =>
      intro hk
      rw [← ih (by omega)]
      have h1 := hl k (by omega)
      have h2 := hl (k + 1) hk
      have h3 := hne (k + 1) (by omega) hk
      rw [← addRow (A := setR (chM n f) i fun l => un i l - un (itf f (k + 1) i) l) (i := i) (j := itf f (k + 1) i) (c := 1) hi h1 (fun z => h3 z.symm)]
      refine det_congr fun a l _ _ => ?_
      unfold setR
      try dsimp only
      by_cases ha : a = i
      · subst ha
        rw [if_pos rfl, if_pos rfl, if_pos rfl, if_neg h3]
        unfold chM
        rw [if_pos (show f (itf f (k + 1) a) < n from h2)]
        show un a l - un (f (itf f (k + 1) a)) l = _
        omega
      · rw [if_neg ha, if_neg ha, if_neg ha]
  rw [← key m (Nat.le_refl _), hr, show (fun l => un i l - un i l) = fun _ => 0 by funext l; omega]
  exact det_zrow hi
end
end Dt

set_option linter.all false
namespace Dt
noncomputable def rowW (n i w : Nat) : Nat → Int := fun k => un i k - if w < n then un w k else 0
noncomputable def chA (n : Nat) (Ws : Nat → List Nat) (c : List Nat) : Mx := fun i k => match c[i]? with
  | some w => rowW n i w k
  | none => ((Ws i).map fun w => rowW n i w k).sum
noncomputable def allC (Ws : Nat → List Nat) : Nat → List (List Nat)
  | 0 => [[]]
  | m + 1 => (allC Ws m).flatMap fun c => (Ws m).map fun w => c ++ [w]
section
variable {n m i : Nat} {A : Mx} {Ws : Nat → List Nat} {c : List Nat}
theorem allC_len : ∀ {m : Nat} {c : List Nat}, c ∈ allC Ws m → c.length = m
  | 0, c, h => by rw [List.mem_singleton.mp h]; rfl
  | m + 1, c, h => by
    obtain ⟨c', h1, h2⟩ := List.mem_flatMap.mp h
    obtain ⟨w, _, rfl⟩ := List.mem_map.mp h2
    rw [List.length_append, allC_len h1]
    rfl
theorem det_sumL {g : Nat → Nat → Int} (hi : i < n) : ∀ l : List Nat, det n (setR A i fun k => (l.map fun w => g w k).sum) = (l.map fun w => det n (setR A i (g w))).sum
  | [] => det_zrow hi
  | w :: l => by
    have e := det_add (A := A) (u := g w) (v := fun k => (l.map fun w => g w k).sum) hi
    rw [List.map_cons, List.sum_cons, ← det_sumL hi l, ← e]
    rfl
theorem chA_step (hm : c.length = m) (h : m < n) : det n (chA n Ws c) = ((Ws m).map fun w => det n (chA n Ws (c ++ [w]))).sum := by
  have e1 : det n (chA n Ws c) = det n (setR (chA n Ws c) m fun k => ((Ws m).map fun w => rowW n m w k).sum) := (det_self _ fun k => by
    show _ = match c[m]? with
      | some w => rowW n m w k
      | none => ((Ws m).map fun w => rowW n m w k).sum
    rw [List.getElem?_eq_none (by omega)]).symm
  rw [e1, det_sumL h]
  congr 1
  refine List.map_congr_left fun w _ => det_congr fun a k _ _ => ?_
  unfold setR chA
  by_cases ha : a = m
  · subst ha
    rw [if_pos rfl, List.getElem?_append_right (by omega), hm, Nat.sub_self]
    rfl
  · rw [if_neg ha]
    rcases Nat.lt_or_ge a m with z | z
    · rw [List.getElem?_append_left (by omega)]
    · rw [List.getElem?_eq_none (l := c) (by omega), List.getElem?_eq_none (by rw [List.length_append, List.length_singleton]; omega)]
theorem chA_all : ∀ {m : Nat}, m ≤ n → det n (chA n Ws []) = ((allC Ws m).map fun c => det n (chA n Ws c)).sum
  | 0, _ => by
    show det n (chA n Ws []) = det n (chA n Ws []) + 0
    omega
  | m + 1, h => by
    rw [chA_all (m := m) (by omega)]
    have key : ∀ l : List (List Nat), (∀ c ∈ l, c.length = m) → (l.map fun c => det n (chA n Ws c)).sum = ((l.flatMap fun c => (Ws m).map fun w => c ++ [w]).map fun c => det n (chA n Ws c)).sum := fun l => by
      induction l with
      | nil => intro _; rfl
      | cons c l ih =>
        intro hl
        rw [List.map_cons, List.sum_cons, List.flatMap_cons, List.map_append, List.sum_append, ih fun c hc => hl c (List.mem_cons_of_mem _ hc), chA_step (hl c (List.mem_cons_self ..)) (by omega), List.map_map]
        rfl
    exact key _ fun c hc => allC_len hc
noncomputable def goF (n : Nat) (c : List Nat) (i : Nat) : Nat := if i < n then c.getD i n else i
noncomputable def goN (n : Nat) (c : List Nat) : Nat → Nat → Nat
  | 0, i => i
  | k + 1, i => goF n c (goN n c k i)
noncomputable def comes (n : Nat) (c : List Nat) : Prop := ∀ i, i < n → ¬ goN n c n i < n
theorem chA_full (hc : c.length = n) : det n (chA n Ws c) = det n (chM n fun i => c.getD i n) := det_congr fun a k ha _ => by
  unfold chA
  rw [List.getElem?_eq_getElem (show a < c.length by omega)]
  show rowW n a c[a] k = rowW n a (c.getD a n) k
  rw [show c.getD a n = c[a] by rw [List.getD_eq_getElem?_getD, List.getElem?_eq_getElem (show a < c.length by omega)]; rfl]
theorem goN_out {k : Nat} (h : ¬ i < n) : goN n c k i = i := by
  induction k with
  | zero => rfl
  | succ k ih =>
    show goF n c (goN n c k i) = i
    rw [ih]
    unfold goF
    rw [if_neg h]
theorem goN_add {k : Nat} : ∀ l : Nat, goN n c (l + k) i = goN n c l (goN n c k i)
  | 0 => by rw [Nat.zero_add]; rfl
  | l + 1 => by
    rw [show l + 1 + k = (l + k) + 1 by omega]
    show goF n c (goN n c (l + k) i) = goF n c (goN n c l (goN n c k i))
    rw [goN_add l]
theorem goN_first {k : Nat} : goN n c (k + 1) i = goN n c k (goF n c i) := by
  rw [show k + 1 = k + 1 from rfl, goN_add k]
  rfl
theorem det_comes (h : comes n c) : det n (chM n fun i => c.getD i n) = 1 := by
  have ex : ∀ i, ∃ k, ¬ goN n c k i < n := fun i => by
    by_cases hi : i < n
    · exact ⟨n, h i hi⟩
    · exact ⟨0, hi⟩
  have least : ∀ i, ∃ k, ¬ goN n c k i < n ∧ ∀ j, j < k → goN n c j i < n := fun i => by
    obtain ⟨k, hk⟩ := ex i
    induction k with
    | zero => exact ⟨0, hk, fun j hj => by omega⟩
    | succ k ih =>
      by_cases h2 : goN n c k i < n
      · refine ⟨k + 1, hk, fun j hj => ?_⟩
        refine Classical.byContradiction fun z => ?_
        have : goN n c (k - j + j) i = goN n c j i := by rw [goN_add]; exact goN_out z
        rw [show k - j + j = k by omega] at this
        rw [this] at h2
        exact z h2
      · exact ih h2
  refine ch_out (d := fun i => Classical.choose (least i)) fun i hi hf => ?_
  obtain ⟨a1, a2⟩ := Classical.choose_spec (least i)
  obtain ⟨b1, b2⟩ := Classical.choose_spec (least (c.getD i n))
  have hg : goF n c i = c.getD i n := by unfold goF; rw [if_pos hi]
  show Classical.choose (least (c.getD i n)) < Classical.choose (least i)
  generalize Classical.choose (least i) = ka at a1 a2 ⊢
  generalize Classical.choose (least (c.getD i n)) = kb at b1 b2 ⊢
  refine Classical.byContradiction fun z => ?_
  cases ka with
  | zero => exact a1 hi
  | succ ka =>
    rw [goN_first, hg] at a1
    exact a1 (b2 ka (by omega))
theorem det_round (h : ¬ comes n c) : det n (chM n fun i => c.getD i n) = 0 := by
  obtain ⟨i, hi, hn⟩ : ∃ i, i < n ∧ goN n c n i < n := by
    refine Classical.byContradiction fun z => h fun i hi hn => z ⟨i, hi, hn⟩
  have lt : ∀ k, k ≤ n → goN n c k i < n := fun k hk => by
    refine Classical.byContradiction fun z => ?_
    have : goN n c (n - k + k) i = goN n c k i := by rw [goN_add]; exact goN_out z
    rw [show n - k + k = n by omega] at this
    rw [this] at hn
    exact z hn
  obtain ⟨a, b, hab, hb, heq⟩ : ∃ a b, a < b ∧ b ≤ n ∧ goN n c a i = goN n c b i := by
    refine Classical.byContradiction fun z => ?_
    have nd : ((List.range (n + 1)).map fun k => goN n c k i).Nodup := by
      refine List.pairwise_map.mpr (List.Pairwise.imp_of_mem (fun {x y} hx hy hxy he => z ⟨x, y, hxy, ?_, he⟩) List.pairwise_lt_range)
      have := List.mem_range.mp hy
      omega
    have := Hg.nd_len (ms := List.range n) nd fun y hy => by
      obtain ⟨k, hk, rfl⟩ := List.mem_map.mp hy
      have := List.mem_range.mp hk
      exact List.mem_range.mpr (lt k (by omega))
    rw [List.length_map, List.length_range, List.length_range] at this
    omega
  have hj := lt a (by omega)
  have step : ∀ k, k + a ≤ n → goN n c k (goN n c a i) < n := fun k hk => by
    rw [← goN_add]
    exact lt _ hk
  have hper : goN n c (b - a) (goN n c a i) = goN n c a i := by
    rw [← goN_add, show b - a + a = b by omega, heq]
  generalize goN n c a i = j at hj step hper
  obtain ⟨p, hp0, hpb, hpp, hmin⟩ : ∃ p, 0 < p ∧ p ≤ b - a ∧ goN n c p j = j ∧ ∀ q, 0 < q → q < p → goN n c q j ≠ j := by
    have : ∀ N p, p ≤ N → 0 < p → p ≤ b - a → goN n c p j = j → ∃ p, 0 < p ∧ p ≤ b - a ∧ goN n c p j = j ∧ ∀ q, 0 < q → q < p → goN n c q j ≠ j := fun N => by
      induction N with
      | zero => intro p h1 h2; omega
      | succ N ih =>
        intro p h1 h2 h3 h4
        by_cases hq : ∃ q, 0 < q ∧ q < p ∧ goN n c q j = j
        · obtain ⟨q, q1, q2, q3⟩ := hq
          exact ih q (by omega) q1 (by omega) q3
        · exact ⟨p, h2, h3, h4, fun q q1 q2 q3 => hq ⟨q, q1, q2, q3⟩⟩
    exact this (b - a) (b - a) (Nat.le_refl _) (by omega) (Nat.le_refl _) hper
  have eq : ∀ k, k ≤ p → itf (fun i => c.getD i n) k j = goN n c k j := fun k => by
    induction k with
    | zero => intro _; rfl
    | succ k ih =>
      intro hk
      show c.getD (itf (fun i => c.getD i n) k j) n = goF n c (goN n c k j)
      rw [ih (by omega)]
      unfold goF
      rw [if_pos (step k (by omega))]
  refine ch_round (i := j) (m := p - 1) hj (fun k hk => ?_) ?_ fun k h1 h2 => ?_
  · rw [eq (k + 1) (by omega)]
    exact step (k + 1) (by omega)
  · rw [show p - 1 + 1 = p by omega, eq p (Nat.le_refl _), hpp]
  · rw [eq k (by omega)]
    exact hmin k h1 (by omega)
theorem det_count [DecidablePred (comes n)] : det n (chA n Ws []) = (((allC Ws n).filter fun c => decide (comes n c)).length : Nat) := by
  rw [chA_all (Nat.le_refl n)]
  have key : ∀ l : List (List Nat), (∀ c ∈ l, c.length = n) → (l.map fun c => det n (chA n Ws c)).sum = ((l.filter fun c => decide (comes n c)).length : Nat) := fun l => by
    induction l with
    | nil => intro _; rfl
    | cons c l ih =>
      intro hl
      rw [List.map_cons, List.sum_cons, ih fun c hc => hl c (List.mem_cons_of_mem _ hc), chA_full (hl c (List.mem_cons_self ..)), List.filter_cons]
      by_cases hc : comes n c
      · rw [det_comes hc, if_pos (decide_eq_true hc), List.length_cons]
        omega
      · rw [det_round hc, if_neg (by rw [decide_eq_false hc]; exact Bool.false_ne_true)]
        omega
  exact key _ fun c hc => allC_len hc
end
end Dt

set_option linter.all false
namespace Dt
noncomputable def cE (words : List (List Nat)) (o : List Nat) : Int := ((words.countP fun w => decide (w.drop 1 = o) : Nat) : Int)
noncomputable def rI (texts : List (List Nat)) (t : List Nat) (words : List (List Nat)) : List Int := texts.map fun o => if o = t then ((words.length : Nat) : Int) - cE words t else - cE words o
noncomputable def wS (ls : List (List Nat)) (g : List Nat → List (List Nat)) (i : Nat) : List Nat := (g (ls.getD i [])).map fun w => ls.idxOf (w.drop 1)
theorem cE_cons {w : List Nat} {ws : List (List Nat)} {o : List Nat} : cE (w :: ws) o = cE ws o + if w.drop 1 = o then 1 else 0 := by
  unfold cE
  rw [List.countP_cons]
  by_cases h : w.drop 1 = o
  · rw [if_pos (decide_eq_true h), if_pos h]; omega
  · rw [if_neg (fun z => h (of_decide_eq_true z)), if_neg h]; omega
theorem sum_rowW {ls : List (List Nat)} (hnd : ls.Nodup) {i k : Nat} (hk : k < ls.length) : ∀ ws : List (List Nat), ((ws.map fun w => ls.idxOf (w.drop 1)).map fun w => rowW ls.length i w k).sum = (if i = k then ((ws.length : Nat) : Int) else 0) - cE ws ls[k]
  | [] => by
    show (0 : Int) = _ - ((0 : Nat) : Int)
    split <;> simp
  | w :: ws => by
    rw [List.map_cons, List.map_cons, List.sum_cons, sum_rowW hnd hk ws, cE_cons]
    have e : (if ls.idxOf (w.drop 1) < ls.length then un (ls.idxOf (w.drop 1)) k else 0) = if w.drop 1 = ls[k] then (1 : Int) else 0 := by
      by_cases h : w.drop 1 = ls[k]
      · rw [if_pos h, h, hnd.idxOf_getElem, if_pos hk]
        simp [un]
      · rw [if_neg h]
        split
        · rename_i hlt
          have hne : ls.idxOf (w.drop 1) ≠ k := fun z => h (by
            have := List.getElem_idxOf hlt
            subst z
            exact this.symm)
          unfold un
          rw [if_neg (Ne.symm hne)]
        · rfl
    show un i k - (if ls.idxOf (w.drop 1) < ls.length then un (ls.idxOf (w.drop 1)) k else 0) + _ = _
    rw [e, List.length_cons]
    by_cases hik : i = k
    · rw [if_pos hik, if_pos hik, hik]
      simp [un]
      omega
    · rw [if_neg hik, if_neg hik]
      simp [un, hik, Ne.symm hik]
      omega
theorem det_rows {ls : List (List Nat)} (hnd : ls.Nodup) (g : List Nat → List (List Nat)) : det ls.length (ent (ls.map fun t => rI ls t (g t))) = det ls.length (chA ls.length (wS ls g) []) := det_congr fun i k hi hk => by
  show ((ls.map fun t => rI ls t (g t)).getD i []).getD k 0 = ((wS ls g i).map fun w => rowW ls.length i w k).sum
  unfold wS
  rw [sum_rowW hnd hk, List.getD_eq_getElem?_getD, List.getD_eq_getElem?_getD, List.getElem?_map, List.getElem?_eq_getElem hi]
  show ((rI ls ls[i] (g ls[i]))[k]?).getD 0 = _
  unfold rI
  rw [List.getElem?_map, List.getElem?_eq_getElem hk, List.getD_eq_getElem?_getD, List.getElem?_eq_getElem hi]
  show (if ls[k] = ls[i] then _ else _) = (if i = k then (((g ls[i]).length : Nat) : Int) else 0) - cE (g ls[i]) ls[k]
  by_cases hik : i = k
  · subst hik
    rw [if_pos rfl, if_pos rfl]
  · rw [if_neg hik, if_neg (fun z => hik (by have a := hnd.idxOf_getElem i hi; have b := hnd.idxOf_getElem k hk; rw [z, a] at b; exact b)), Int.zero_sub]
end Dt

set_option linter.all false
namespace Dt
noncomputable def sT (ls : List (List Nat)) (cw : List Nat → List Nat) (t : List Nat) : List Nat := if t ∈ ls then (cw t).drop 1 else t
noncomputable def iT (ls : List (List Nat)) (cw : List Nat → List Nat) : Nat → List Nat → List Nat
  | 0, t => t
  | k + 1, t => sT ls cw (iT ls cw k t)
noncomputable def plc (ls : List (List Nat)) (cw : List Nat → List Nat) : List Nat := ls.map fun t => ls.idxOf ((cw t).drop 1)
theorem goN_iT {ls : List (List Nat)} (cw : List Nat → List Nat) {t : List Nat} : ∀ k : Nat, goN ls.length (plc ls cw) k (ls.idxOf t) = ls.idxOf (iT ls cw k t)
  | 0 => rfl
  | k + 1 => by
    show goF ls.length (plc ls cw) (goN ls.length (plc ls cw) k (ls.idxOf t)) = ls.idxOf (sT ls cw (iT ls cw k t))
    rw [goN_iT cw k]
    unfold goF sT
    by_cases h : iT ls cw k t ∈ ls
    · have hl : ls.idxOf (iT ls cw k t) < ls.length := List.idxOf_lt_length_of_mem h
      rw [if_pos hl, if_pos h]
      unfold plc
      rw [List.getD_eq_getElem?_getD, List.getElem?_map, List.getElem?_eq_getElem hl, List.getElem_idxOf hl]
      rfl
    · have hl : ¬ ls.idxOf (iT ls cw k t) < ls.length := fun z => h (List.idxOf_lt_length_iff.mp z)
      rw [if_neg hl, if_neg h]
theorem comes_iff {ls : List (List Nat)} (hnd : ls.Nodup) (cw : List Nat → List Nat) : comes ls.length (plc ls cw) ↔ (ls.all fun t => decide (iT ls cw ls.length t ∉ ls)) = true := by
  rw [List.all_eq_true]
  constructor
  · intro h t ht
    refine decide_eq_true fun z => h (ls.idxOf t) (List.idxOf_lt_length_of_mem ht) ?_
    rw [goN_iT]
    exact List.idxOf_lt_length_of_mem z
  · intro h i hi z
    have e := goN_iT (ls := ls) cw (t := ls[i]) ls.length
    rw [hnd.idxOf_getElem i hi] at e
    rw [e] at z
    exact of_decide_eq_true (h ls[i] (List.getElem_mem hi)) (List.idxOf_lt_length_iff.mp z)
end Dt

set_option linter.all false
namespace Dt
inductive R2 {α β : Type} (R : α → β → Prop) : List α → List β → Prop
  | nil : R2 R [] []
  | cons {a : α} {b : β} {as : List α} {bs : List β} : R a b → R2 R as bs → R2 R (a :: as) (b :: bs)
section
variable {α β : Type} {R R' : α → β → Prop} {as : List α} {bs : List β}
end
noncomputable abbrev W := List Nat
noncomputable def fset (f : W → W) (t w : W) : W → W := fun x => if x = t then w else f x
theorem fset_comm {f : W → W} {a b x y : W} (h : a ≠ b) : fset (fset f a x) b y = fset (fset f b y) a x := by
  funext z
  unfold fset
  by_cases h1 : z = b
  · rw [if_pos h1, if_neg (fun e => h (e.symm.trans h1)), if_pos h1]
  · rw [if_neg h1, if_neg h1]
theorem fset_self {f : W → W} {t w : W} : fset f t w t = w := by unfold fset; rw [if_pos rfl]
theorem fset_ne {f : W → W} {t w x : W} (h : x ≠ t) : fset f t w x = f x := by unfold fset; rw [if_neg h]
noncomputable def chs (g : W → List W) : List W → List (W → W)
  | [] => [fun _ => []]
  | t :: ls => (chs g ls).flatMap fun f => (g t).map fun w => fset f t w
theorem chs_mem {g : W → List W} : ∀ {ls : List W} {f : W → W}, f ∈ chs g ls → ∀ t ∈ ls, f t ∈ g t
  | t :: ls, f, h, x, hx => by
    obtain ⟨f', h1, h2⟩ := List.mem_flatMap.mp h
    obtain ⟨w, hw, rfl⟩ := List.mem_map.mp h2
    by_cases e : x = t
    · subst e; rw [fset_self]; exact hw
    · rw [fset_ne e]; exact chs_mem h1 x ((List.mem_cons.mp hx).resolve_left e)
theorem flatMap_swap {α β γ : Type} {F : α → β → γ} (as : List α) (bs : List β) : (as.flatMap fun a => bs.map fun b => F a b).Perm (bs.flatMap fun b => as.map fun a => F a b) := by
  induction as with
  | nil => simp
  | cons a as ih =>
    rw [List.flatMap_cons]
    refine (List.Perm.append_left _ ih).trans ?_
    clear ih
    induction bs with
    | nil => simp
    | cons b bs ih2 =>
      rw [List.flatMap_cons, List.flatMap_cons, List.map_cons, List.map_cons, List.cons_append, List.cons_append]
      refine List.Perm.cons _ ?_
      refine List.Perm.trans ?_ (List.Perm.append_left _ ih2)
      rw [← List.append_assoc, ← List.append_assoc]
      exact List.Perm.append_right _ List.perm_append_comm
theorem flatMap_congr_perm {α β : Type} {F G : α → List β} : ∀ {l : List α}, (∀ a ∈ l, (F a).Perm (G a)) → (l.flatMap F).Perm (l.flatMap G)
  | [], _ => by simp
  | a :: l, h => by
    rw [List.flatMap_cons, List.flatMap_cons]
    exact (h a (List.mem_cons_self ..)).append (flatMap_congr_perm fun b hb => h b (List.mem_cons_of_mem _ hb))
theorem chs_perm {g : W → List W} {ls ms : List W} (h : ls.Perm ms) : ls.Nodup → (chs g ls).Perm (chs g ms) := by
  induction h with
  | nil => intro _; exact .refl _
  | cons t _ ih => intro hn; exact (ih (List.nodup_cons.mp hn).2).flatMap_right _
  | swap a b l =>
    intro hn
    have hab : b ≠ a := fun e => (List.nodup_cons.mp hn).1 (e ▸ List.mem_cons_self ..)
    show (((chs g l).flatMap fun f => (g a).map fun w => fset f a w).flatMap fun f => (g b).map fun w => fset f b w).Perm (((chs g l).flatMap fun f => (g b).map fun w => fset f b w).flatMap fun f => (g a).map fun w => fset f a w)
    rw [List.flatMap_assoc, List.flatMap_assoc]
    refine flatMap_congr_perm fun f _ => ?_
    rw [List.flatMap_map, List.flatMap_map]
    have e : (fun x => (g a).map fun y => fset (fset f b x) a y) = fun x => (g a).map fun y => fset (fset f a y) b x := by
      funext x; congr 1; funext y; exact fset_comm hab
    have e2 := flatMap_swap (F := fun x y => fset (fset f a x) b y) (g a) (g b)
    refine e2.trans ?_
    rw [e]
  | trans h1 _ ih1 ih2 => intro hn; exact (ih1 hn).trans (ih2 (h1.nodup_iff.mp hn))
noncomputable def cmT (ls : List W) (cw : W → W) : Bool := ls.all fun t => decide (iT ls cw ls.length t ∉ ls)
theorem iT_perm {ls ms : List W} (h : ∀ t, t ∈ ls ↔ t ∈ ms) {cw : W → W} {t : W} : ∀ k, iT ls cw k t = iT ms cw k t
  | 0 => rfl
  | k + 1 => by
    show sT ls cw (iT ls cw k t) = sT ms cw (iT ms cw k t)
    rw [iT_perm h k]
    unfold sT
    by_cases e : iT ms cw k t ∈ ms
    · rw [if_pos e, if_pos ((h _).mpr e)]
    · rw [if_neg e, if_neg (fun z => e ((h _).mp z))]
theorem cmT_perm {ls ms : List W} (h : ls.Perm ms) (cw : W → W) : cmT ls cw = cmT ms cw := by
  unfold cmT
  rw [Bool.eq_iff_iff, List.all_eq_true, List.all_eq_true]
  have hm : ∀ t, t ∈ ls ↔ t ∈ ms := fun t => h.mem_iff
  constructor
  · intro q t ht
    have := of_decide_eq_true (q t ((hm t).mpr ht))
    rw [iT_perm hm, h.length_eq] at this
    exact decide_eq_true fun z => this ((hm _).mpr z)
  · intro q t ht
    have := of_decide_eq_true (q t ((hm t).mp ht))
    rw [← iT_perm hm, ← h.length_eq] at this
    exact decide_eq_true fun z => this ((hm _).mp z)
noncomputable def nC (ls : List W) (g : W → List W) : Nat := ((chs g ls).filter (cmT ls)).length
theorem nC_perm {ls ms : List W} (h : ls.Perm ms) (hn : ls.Nodup) (g : W → List W) : nC ls g = nC ms g := by
  unfold nC
  rw [((chs_perm (g := g) h hn).filter (cmT ls)).length_eq]
  congr 2
  funext f
  exact cmT_perm h f
theorem chs_congr {g g' : W → List W} : ∀ {ls : List W}, (∀ t ∈ ls, g t = g' t) → chs g ls = chs g' ls
  | [], _ => rfl
  | t :: ls, h => by
    show (chs g ls).flatMap _ = (chs g' ls).flatMap _
    rw [chs_congr fun x hx => h x (List.mem_cons_of_mem _ hx), h t (List.mem_cons_self ..)]
theorem nC_congr {ls : List W} {g g' : W → List W} (h : ∀ t ∈ ls, g t = g' t) : nC ls g = nC ls g' := by unfold nC; rw [chs_congr h]
theorem allC_chs {ls : List W} (hn : ls.Nodup) {g : W → List W} : ∀ m, m ≤ ls.length → allC (wS ls g) m = (chs g (ls.take m).reverse).map fun f => (ls.take m).map fun t => ls.idxOf ((f t).drop 1)
  | 0, _ => by rw [List.take_zero]; rfl
  | m + 1, h => by
    have hm : m < ls.length := h
    have ht : ls.take (m + 1) = ls.take m ++ [ls[m]] := by rw [List.take_add_one, List.getElem?_eq_getElem hm]; rfl
    rw [ht, List.reverse_append]
    show (allC (wS ls g) m).flatMap _ = ((chs g (ls.take m).reverse).flatMap fun f => (g ls[m]).map fun w => fset f ls[m] w).map _
    rw [allC_chs hn m (by omega), List.flatMap_map, List.map_flatMap]
    have hnot : ls[m] ∉ ls.take m := fun z => by
      have nd : (ls.take m ++ [ls[m]]).Nodup := ht ▸ hn.sublist (List.take_sublist (m + 1) ls)
      exact (List.nodup_append.mp nd).2.2 _ z _ (List.mem_singleton.mpr rfl) rfl
    congr 1
    funext f
    unfold wS
    rw [List.getD_eq_getElem?_getD, List.getElem?_eq_getElem hm, List.map_map, List.map_map]
    refine List.map_congr_left fun w _ => ?_
    show (ls.take m).map _ ++ [_] = (ls.take m ++ [ls[m]]).map _
    rw [List.map_append, List.map_singleton]
    congr 1
    · refine List.map_congr_left fun t ht => ?_
      show _ = ls.idxOf ((fset f ls[m] w t).drop 1)
      rw [fset_ne (fun e => hnot (by rw [← e]; exact ht))]
    · show _ = [ls.idxOf ((fset f ls[m] w ls[m]).drop 1)]
      rw [fset_self]
theorem det_nC {ls : List W} (hn : ls.Nodup) (g : W → List W) : det ls.length (ent (ls.map fun t => rI ls t (g t))) = ((nC ls g : Nat) : Int) := by
  classical
  rw [det_rows hn, det_count, allC_chs hn ls.length (Nat.le_refl _), List.take_length]
  rw [nC_perm (List.reverse_perm ls).symm hn g]
  unfold nC
  rw [List.filter_map, List.length_map]
  congr 3
  funext f
  rw [cmT_perm (List.reverse_perm ls)]
  show decide (comes ls.length (plc ls f)) = cmT ls f
  rw [Bool.eq_iff_iff, decide_eq_true_iff]
  exact comes_iff hn f
end Dt

set_option linter.all false
namespace Hg
variable {bg en : List Nat → List Nat}
noncomputable def Tr (bg en : List Nat → List Nat) : List Nat → List (List Nat) → List Nat → Prop
  | p, [], q => p = q
  | p, w :: ws, q => bg w = p ∧ Tr bg en (en w) ws q
theorem Tr.snoc {w : List Nat} : ∀ {ws : List (List Nat)} {p : List Nat}, Tr bg en p ws (bg w) → Tr bg en p (ws ++ [w]) (en w)
  | [], _, h => ⟨h.symm, rfl⟩
  | _ :: _, _, h => ⟨h.1, Tr.snoc h.2⟩
theorem Tr.take : ∀ {ws : List (List Nat)} {p q : List Nat} (k : Nat), Tr bg en p ws q → ∃ r, Tr bg en p (ws.take k) r
  | _, p, _, 0, _ => ⟨p, by rw [List.take_zero]; rfl⟩
  | [], p, _, _ + 1, _ => ⟨p, rfl⟩
  | _ :: ws, _, _, k + 1, h => by
    obtain ⟨r, hr⟩ := Tr.take k h.2
    exact ⟨r, h.1, hr⟩
theorem Tr.last {w : List Nat} : ∀ {ws : List (List Nat)} {p q : List Nat}, Tr bg en p ws q → ws[ws.length - 1]? = some w → q = en w
  | [], _, _, _, e => by simp at e
  | [v], _, _, h, e => by
    have e' : v = w := by simpa using e
    rw [← e']
    exact h.2.symm
  | _ :: v :: ws, _, _, h, e => Tr.last (ws := v :: ws) h.2 (by simpa using e)
end Hg

set_option linter.all false
namespace Wd
open Hg
noncomputable def beg (l : W) : W := l.take (l.length - 1)
noncomputable def fin (l : W) : W := l.drop 1
noncomputable def sl (t : W) (i j : Nat) : W := (t.drop i).take (j - i)
noncomputable def hd (w : W) : Nat := w.getD 0 0
section
variable {t : W} {n a b c d : Nat}
end
end Wd

set_option linter.all false
namespace Wd
section
variable {r g : W} {n : Nat}
end
end Wd

namespace Wd
noncomputable def num (k : Nat) (w : W) : Nat := w.foldl (fun a c => a * k + (c - 97)) 0
end Wd

namespace Wd
noncomputable def Okk (k : Nat) (w : W) : Prop := ∀ c ∈ w, 97 ≤ c ∧ c < 97 + k
noncomputable def Lst (w : W) : Prop := w = least w
noncomputable def fill (k n : Nat) (p : W) : W := p ++ List.replicate (n - p.length) (96 + k)
noncomputable instance (w : W) : Decidable (Lst w) := inferInstanceAs (Decidable (w = least w))
set_option genInjectivity false in
structure LW (k n : Nat) (w : W) : Prop where
  len : w.length = n
  ok : Okk k w
  lst : Lst w
end Wd

namespace Wd
noncomputable def Nn (k : Nat) (w : W) (m : Nat) : Prop := ∀ v, LW k w.length v → ∀ p, m ≤ p → p < w.length → v.take p = w.take p → ¬ w.getD p 0 < v.getD p 0
end Wd

namespace Wd
end Wd

set_option linter.all false
namespace Wd
end Wd

namespace Wd
end Wd

set_option linter.all false
namespace Wd
end Wd

set_option linter.all false
namespace Wd
section
variable {k n : Nat} {t : W}
end
end Wd

set_option linter.all false
namespace Wd
open Hg
noncomputable def lst (us : List W) : W := us.getD (us.length - 1) []
noncomputable def ext (ws us : List W) : List (List W) := (ws.filter fun w => decide (beg w = fin (lst us)) && !decide (w ∈ us)).map fun w => us ++ [w]
section
variable {ws us : List W} {w0 w : W} {n k : Nat}
end
end Wd

set_option linter.all false
namespace Wd
open Hg
noncomputable def cnt (f : W → W) (E : List W) (v : W) : Nat := (E.filter fun w => decide (f w = v)).length
noncomputable def Bal (E : List W) (s t : W) : Prop := ∀ v, cnt beg E v + (if v = t then 1 else 0) = cnt fin E v + (if v = s then 1 else 0)
section
variable {E L us : List W} {s t v p q w : W}
theorem cnt_cons (f : W → W) (e : W) (E : List W) (v : W) : cnt f (e :: E) v = (if f e = v then 1 else 0) + cnt f E v := by
  unfold cnt
  rw [List.filter_cons]
  by_cases h : f e = v
  · rw [if_pos (decide_eq_true h), if_pos h, List.length_cons, Nat.add_comm]
  · rw [if_neg (by rw [decide_eq_false h]; exact Bool.false_ne_true), if_neg h, Nat.zero_add]
theorem cnt_app (f : W → W) (A B : List W) (v : W) : cnt f (A ++ B) v = cnt f A v + cnt f B v := by
  unfold cnt
  rw [List.filter_append, List.length_append]
theorem cnt_perm {A B : List W} (f : W → W) (h : A.Perm B) (v : W) : cnt f A v = cnt f B v := (h.filter _).length_eq
theorem Bal.perm {A B : List W} (h : Bal A s t) (hp : A.Perm B) : Bal B s t := fun v => by rw [← cnt_perm beg hp, ← cnt_perm fin hp]; exact h v
theorem tr_bal : ∀ {us : List W} {p : W}, Tr beg fin p us q → Bal us p q
  | [], p, h => fun v => by
    have h : p = q := h
    subst h
    rfl
  | w :: us, p, h => fun v => by
    have ih := tr_bal h.2 v
    have e : beg w = p := h.1
    rw [cnt_cons, cnt_cons]
    have e1 : (if v = p then 1 else 0) = (if beg w = v then 1 else 0) := by
      by_cases c : v = p
      · rw [if_pos c, if_pos (by rw [e, c])]
      · rw [if_neg c, if_neg (fun z => c (by rw [← z, e]))]
    have e2 : (if v = fin w then 1 else 0) = (if fin w = v then 1 else 0) := by
      by_cases c : v = fin w
      · rw [if_pos c, if_pos c.symm]
      · rw [if_neg c, if_neg (fun z => c z.symm)]
    omega
theorem Bal.rest (h : Bal E s t) (hp : E.Perm (us ++ L)) (ht : Tr beg fin s us q) : Bal L q t := fun v => by
  have h1 := (h.perm hp) v
  have h2 := tr_bal ht v
  rw [cnt_app, cnt_app] at h1
  omega
end
end Wd

set_option linter.all false
namespace Dt
open Wd Hg
section
variable {ts : List W} {f : W → W}
theorem iT_out {t : W} (h : t ∉ ts) : ∀ k, iT ts f k t = t
  | 0 => rfl
  | k + 1 => by
    show sT ts f (iT ts f k t) = t
    rw [iT_out h k]
    unfold sT
    rw [if_neg h]
theorem iT_add {t : W} : ∀ l k, iT ts f (l + k) t = iT ts f l (iT ts f k t)
  | 0, k => by rw [Nat.zero_add]; rfl
  | l + 1, k => by
    rw [show l + 1 + k = (l + k) + 1 by omega]
    show sT ts f (iT ts f (l + k) t) = sT ts f (iT ts f l (iT ts f k t))
    rw [iT_add l k]
theorem cmT_iff : cmT ts f = true ↔ ∀ χ : W → Prop, (∀ t, χ t → t ∈ ts ∧ χ ((f t).drop 1)) → ∀ t, ¬ χ t := by
  constructor
  · intro h χ hc t ht
    have key : ∀ k, χ (iT ts f k t) := fun k => by
      induction k with
      | zero => exact ht
      | succ k ih =>
        show χ (sT ts f (iT ts f k t))
        unfold sT
        rw [if_pos (hc _ ih).1]
        exact (hc _ ih).2
    exact of_decide_eq_true (List.all_eq_true.mp h t (hc t ht).1) (hc _ (key ts.length)).1
  · intro h
    refine List.all_eq_true.mpr fun t ht => decide_eq_true fun hn => ?_
    have lt : ∀ k, k ≤ ts.length → iT ts f k t ∈ ts := fun k hk => by
      refine Classical.byContradiction fun z => ?_
      have e : iT ts f (ts.length - k + k) t = iT ts f k t := by rw [iT_add]; exact iT_out z _
      rw [show ts.length - k + k = ts.length by omega] at e
      rw [e] at hn
      exact z hn
    obtain ⟨a, b, hab, hb, heq⟩ : ∃ a b, a < b ∧ b ≤ ts.length ∧ iT ts f a t = iT ts f b t := by
      refine Classical.byContradiction fun z => ?_
      have nd : ((List.range (ts.length + 1)).map fun k => iT ts f k t).Nodup := by
        refine List.pairwise_map.mpr (List.Pairwise.imp_of_mem (fun {x y} hx hy hxy he => z ⟨x, y, hxy, ?_, he⟩) List.pairwise_lt_range)
        have := List.mem_range.mp hy
        omega
      have := Hg.nd_len (ms := ts) nd fun y hy => by
        obtain ⟨k, hk, rfl⟩ := List.mem_map.mp hy
        have := List.mem_range.mp hk
        exact lt k (by omega)
      rw [List.length_map, List.length_range] at this
      omega
    refine h (fun u => ∃ k, a ≤ k ∧ k < b ∧ u = iT ts f k t) (fun u ⟨k, h1, h2, h3⟩ => ?_) (iT ts f a t) ⟨a, Nat.le_refl _, hab, rfl⟩
    subst h3
    refine ⟨lt k (by omega), ?_⟩
    have e : (f (iT ts f k t)).drop 1 = iT ts f (k + 1) t := by
      show _ = sT ts f (iT ts f k t)
      unfold sT
      rw [if_pos (lt k (by omega))]
    rw [e]
    by_cases hk : k + 1 < b
    · exact ⟨k + 1, by omega, hk, rfl⟩
    · exact ⟨a, Nat.le_refl _, hab, by rw [heq, show b = k + 1 by omega]⟩
end
noncomputable def fct : Nat → Nat
  | 0 => 1
  | n + 1 => (n + 1) * fct n
theorem fct_pos : ∀ n, 0 < fct n
  | 0 => by decide
  | n + 1 => Nat.mul_pos (Nat.succ_pos n) (fct_pos n)
noncomputable def pF (c : W → Nat) : List W → Nat
  | [] => 1
  | t :: ts => fct (c t - 1) * pF c ts
theorem pF_pos {c : W → Nat} : ∀ ts, 0 < pF c ts
  | [] => by show 0 < 1; decide
  | t :: ts => Nat.mul_pos (fct_pos _) (pF_pos ts)
theorem pF_congr {c c' : W → Nat} : ∀ {ts : List W}, (∀ t ∈ ts, c t = c' t) → pF c ts = pF c' ts
  | [], _ => rfl
  | t :: ts, h => by
    show fct (c t - 1) * pF c ts = fct (c' t - 1) * pF c' ts
    rw [h t (List.mem_cons_self ..), pF_congr fun u hu => h u (List.mem_cons_of_mem _ hu)]
theorem pF_perm {c : W → Nat} {ts us : List W} (h : ts.Perm us) : pF c ts = pF c us := by
  induction h with
  | nil => rfl
  | cons t _ ih => show fct (c t - 1) * _ = fct (c t - 1) * _; rw [ih]
  | swap a b l => show fct (c b - 1) * (fct (c a - 1) * pF c l) = fct (c a - 1) * (fct (c b - 1) * pF c l); rw [Nat.mul_left_comm]
  | trans _ _ h1 h2 => exact h1.trans h2
noncomputable def og (E : List W) (t : W) : List W := E.filter fun w => decide (beg w = t)
noncomputable def rm (E : List W) (w : W) : List W := E.filter fun x => !decide (x = w)
section
variable {E : List W} {a b t w : W}
theorem og_len : (og E t).length = cnt beg E t := rfl
theorem mem_og : w ∈ og E t ↔ w ∈ E ∧ beg w = t := by unfold og; rw [List.mem_filter, decide_eq_true_iff]
theorem mem_rm {x : W} : x ∈ rm E w ↔ x ∈ E ∧ x ≠ w := by
  unfold rm
  rw [List.mem_filter, Bool.not_eq_true', decide_eq_false_iff_not]
theorem rm_nd (h : E.Nodup) : (rm E w).Nodup := h.sublist List.filter_sublist
theorem rm_perm (h : E.Nodup) (hw : w ∈ E) : E.Perm (w :: rm E w) := by
  refine (List.perm_ext_iff_of_nodup h (List.nodup_cons.mpr ⟨fun z => (mem_rm.mp z).2 rfl, rm_nd h⟩)).mpr fun x => ?_
  rw [List.mem_cons, mem_rm]
  constructor
  · intro hx
    by_cases e : x = w
    · exact .inl e
    · exact .inr ⟨hx, e⟩
  · rintro (e | e)
    · rw [e]; exact hw
    · exact e.1
theorem rm_len (h : E.Nodup) (hw : w ∈ E) : (rm E w).length + 1 = E.length := by
  have := (rm_perm h hw).length_eq
  rw [List.length_cons] at this
  omega
theorem rm_bal (h : E.Nodup) (hw : w ∈ E) (hb : Bal E (beg w) b) : Bal (rm E w) (fin w) b := hb.rest (us := [w]) (rm_perm h hw) ⟨rfl, rfl⟩
theorem rm_cnt (h : E.Nodup) (hw : w ∈ E) (f : W → W) (v : W) : cnt f E v = (if f w = v then 1 else 0) + cnt f (rm E w) v := by
  rw [cnt_perm f (rm_perm h hw), cnt_cons]
theorem og_rm (h : beg w ≠ t) : og (rm E w) t = og E t := by
  unfold og rm
  rw [List.filter_filter]
  refine List.filter_congr fun x _ => ?_
  by_cases e : beg x = t
  · have : x ≠ w := fun z => h (by rw [← z]; exact e)
    simp [e, this]
  · simp [e]
theorem og_rm_same (h : beg w = t) : og (rm E w) t = (og E t).filter fun x => !decide (x = w) := by
  unfold og rm
  rw [List.filter_filter, List.filter_filter]
  refine List.filter_congr fun x _ => ?_
  rw [Bool.and_comm]
end
noncomputable def ordN : Nat → List W → W → W → List (List W)
  | 0, _, a, b => if a = b then [[]] else []
  | n + 1, E, a, b => (og E a).flatMap fun w => (ordN n (rm E w) (fin w) b).map fun us => w :: us
noncomputable def eN (E : List W) (a b : W) : Nat := (ordN E.length E a b).length
theorem mem_ord : ∀ {n : Nat} {E : List W} {a b : W} {us : List W}, E.length = n → E.Nodup → (us ∈ ordN n E a b ↔ us.Perm E ∧ Tr beg fin a us b)
  | 0, E, a, b, us, hl, _ => by
    obtain rfl := List.length_eq_zero_iff.mp hl
    show us ∈ (if a = b then [[]] else []) ↔ _
    constructor
    · intro h
      by_cases e : a = b
      · rw [if_pos e] at h
        rw [List.mem_singleton.mp h]
        exact ⟨.nil, e⟩
      · rw [if_neg e] at h
        cases h
    · rintro ⟨h1, h2⟩
      obtain rfl := List.perm_nil.mp h1
      have e : a = b := h2
      rw [if_pos e]
      exact List.mem_singleton.mpr rfl
  | n + 1, E, a, b, us, hl, hn => by
    show us ∈ (og E a).flatMap (fun w => (ordN n (rm E w) (fin w) b).map fun us => w :: us) ↔ _
    rw [List.mem_flatMap]
    constructor
    · rintro ⟨w, hw, h⟩
      obtain ⟨vs, hv, rfl⟩ := List.mem_map.mp h
      obtain ⟨hwE, hwb⟩ := mem_og.mp hw
      have hl' : (rm E w).length = n := by have := rm_len hn hwE; omega
      obtain ⟨h1, h2⟩ := (mem_ord hl' (rm_nd hn)).mp hv
      exact ⟨(h1.cons w).trans (rm_perm hn hwE).symm, hwb, h2⟩
    · rintro ⟨h1, h2⟩
      cases us with
      | nil => rw [← h1.length_eq] at hl; cases hl
      | cons w vs =>
        have hwE : w ∈ E := h1.mem_iff.mp (List.mem_cons_self ..)
        have hl' : (rm E w).length = n := by have := rm_len hn hwE; omega
        refine ⟨w, mem_og.mpr ⟨hwE, h2.1⟩, List.mem_map.mpr ⟨vs, (mem_ord hl' (rm_nd hn)).mpr ⟨?_, h2.2⟩, rfl⟩⟩
        exact ((h1.trans (rm_perm hn hwE)).cons_inv)
theorem ord_nd : ∀ {n : Nat} {E : List W} {a b : W}, E.length = n → E.Nodup → (ordN n E a b).Nodup
  | 0, E, a, b, _, _ => by
    show (if a = b then [[]] else []).Nodup
    split <;> simp
  | n + 1, E, a, b, hl, hn => by
    show ((og E a).flatMap fun w => (ordN n (rm E w) (fin w) b).map fun us => w :: us).Nodup
    have key : ∀ l : List W, l.Nodup → (∀ w ∈ l, w ∈ E) → (l.flatMap fun w => (ordN n (rm E w) (fin w) b).map fun us => w :: us).Nodup := fun l => by
      induction l with
      | nil => intro _ _; exact List.nodup_nil
      | cons w l ih =>
        intro h1 h2
        rw [List.nodup_cons] at h1
        rw [List.flatMap_cons]
        have hwE := h2 w (List.mem_cons_self ..)
        refine List.nodup_append.mpr ⟨?_, ih h1.2 fun x hx => h2 x (List.mem_cons_of_mem _ hx), fun x hx y hy e => ?_⟩
        · exact List.pairwise_map.mpr ((ord_nd (by have := rm_len hn hwE; omega) (rm_nd hn)).imp fun h z => h (List.cons.inj z).2)
        · obtain ⟨us, _, rfl⟩ := List.mem_map.mp hx
          obtain ⟨v, hv, hy⟩ := List.mem_flatMap.mp hy
          obtain ⟨vs, _, rfl⟩ := List.mem_map.mp hy
          exact h1.1 ((List.cons.inj e).1 ▸ hv)
    exact key _ (hn.sublist List.filter_sublist) fun w hw => (mem_og.mp hw).1
theorem eN_step {E : List W} (hn : E.Nodup) {a b : W} (hne : E ≠ []) : eN E a b = ((og E a).map fun w => eN (rm E w) (fin w) b).sum := by
  obtain ⟨n, hl⟩ : ∃ n, E.length = n + 1 := ⟨E.length - 1, by have := List.length_pos_iff.mpr hne; omega⟩
  unfold eN
  rw [hl]
  show ((og E a).flatMap fun w => (ordN n (rm E w) (fin w) b).map fun us => w :: us).length = _
  rw [List.length_flatMap]
  congr 1
  refine List.map_congr_left fun w hw => ?_
  have := rm_len hn (mem_og.mp hw).1
  rw [List.length_map, show (rm E w).length = n by omega]
noncomputable def Txs (E : List W) (b : W) (ts : List W) : Prop := ts.Nodup ∧ ∀ t, t ∈ ts ↔ t ≠ b ∧ ∃ w ∈ E, beg w = t
noncomputable def bst (E : List W) (b : W) (ts : List W) : Nat := fct (cnt beg E b) * pF (cnt beg E) ts * nC ts (og E)
theorem Txs.perm {E : List W} {b : W} {ts us : List W} (h1 : Txs E b ts) (h2 : Txs E b us) : ts.Perm us := (List.perm_ext_iff_of_nodup h1.1 h2.1).mpr fun t => by rw [h1.2, h2.2]
theorem bst_any {E : List W} {b : W} {ts us : List W} (h1 : Txs E b ts) (h2 : Txs E b us) : bst E b ts = bst E b us := by
  unfold bst
  rw [pF_perm (h1.perm h2), nC_perm (h1.perm h2) h1.1]
noncomputable def nW (ts : List W) (a : W) (g : W → List W) (w : W) : Nat := ((chs g ts).filter fun f => cmT (a :: ts) (fset f a w)).length
theorem nC_cons {ts : List W} {a : W} {g : W → List W} : nC (a :: ts) g = ((g a).map (nW ts a g)).sum := by
  show (((chs g ts).flatMap fun f => (g a).map fun w => fset f a w).filter (cmT (a :: ts))).length = ((g a).map fun w => ((chs g ts).filter fun f => cmT (a :: ts) (fset f a w)).length).sum
  generalize chs g ts = l
  induction l with
  | nil =>
    show 0 = ((g a).map fun w => 0).sum
    generalize g a = l
    induction l with
    | nil => rfl
    | cons w l ih => rw [List.map_cons, List.sum_cons, ← ih]
  | cons f l ih =>
    rw [List.flatMap_cons, List.filter_append, List.length_append, ih]
    clear ih
    generalize g a = m
    induction m with
    | nil => rfl
    | cons w m ih =>
      rw [List.map_cons, List.map_cons, List.map_cons, List.sum_cons, List.sum_cons, List.filter_cons, List.filter_cons]
      by_cases hc : cmT (a :: ts) (fset f a w) = true
      · rw [if_pos hc, if_pos hc, List.length_cons, List.length_cons]; omega
      · rw [if_neg hc, if_neg hc]; omega
theorem nW_congr {ts : List W} {a w : W} {g g' : W → List W} (h : ∀ t ∈ ts, g t = g' t) : nW ts a g w = nW ts a g' w := by unfold nW; rw [chs_congr h]
theorem sum_without {f : W → Nat} {w : W} : ∀ {l : List W}, l.Nodup → w ∈ l → ((l.filter fun x => !decide (x = w)).map f).sum + f w = (l.map f).sum
  | x :: l, hn, hw => by
    rw [List.nodup_cons] at hn
    by_cases e : x = w
    · subst e
      rw [List.filter_cons_of_neg (by simp), List.map_cons, List.sum_cons, List.filter_eq_self.mpr fun y hy => by have : y ≠ x := fun z => hn.1 (z ▸ hy); simp [this]]
      omega
    · rw [List.filter_cons_of_pos (by simp [e]), List.map_cons, List.sum_cons, List.map_cons, List.sum_cons, ← sum_without hn.2 ((List.mem_cons.mp hw).resolve_left (Ne.symm e))]
      omega
theorem sum_all {S : Nat} {f h : W → Nat} : ∀ {l : List W}, (∀ w ∈ l, h w + f w = S) → (l.map h).sum + (l.map f).sum = l.length * S
  | [], _ => by simp
  | w :: l, hh => by
    have e := hh w (List.mem_cons_self ..)
    have ih := sum_all (l := l) fun x hx => hh x (List.mem_cons_of_mem _ hx)
    rw [List.map_cons, List.sum_cons, List.map_cons, List.sum_cons, List.length_cons, Nat.add_mul, Nat.one_mul]
    omega
theorem sum_const {c : Nat} {f : W → Nat} : ∀ {l : List W}, (∀ w ∈ l, f w = c) → (l.map f).sum = l.length * c
  | [], _ => by simp
  | w :: l, h => by
    rw [List.map_cons, List.sum_cons, h w (List.mem_cons_self ..), sum_const fun x hx => h x (List.mem_cons_of_mem _ hx), List.length_cons, Nat.add_mul, Nat.one_mul, Nat.add_comm]
theorem sumL_mul {c : Nat} {f : W → Nat} : ∀ l : List W, (l.map fun w => c * f w).sum = c * (l.map f).sum
  | [] => rfl
  | w :: l => by rw [List.map_cons, List.sum_cons, sumL_mul l, List.map_cons, List.sum_cons, Nat.mul_add]
theorem nC_leaf {ts : List W} {a w : W} {g : W → List W} (ha : a ∉ ts) (hg : g a = [w]) (hw : w.drop 1 ≠ a) (hl : ∀ t ∈ ts, ∀ x ∈ g t, x.drop 1 ≠ a) : nC (a :: ts) g = nC ts g := by
  rw [nC_cons, hg]
  show nW ts a g w + 0 = _
  rw [Nat.add_zero]
  unfold nW nC
  congr 1
  refine List.filter_congr fun f hf => ?_
  rw [Bool.eq_iff_iff, cmT_iff, cmT_iff]
  have hm : ∀ t ∈ ts, f t ∈ g t := chs_mem hf
  constructor
  · intro h χ hc t ht
    refine h χ (fun u hu => ?_) t ht
    obtain ⟨h1, h2⟩ := hc u hu
    have hne : u ≠ a := fun z => ha (z ▸ h1)
    exact ⟨List.mem_cons_of_mem _ h1, by rw [fset_ne hne]; exact h2⟩
  · intro h χ hc t ht
    have key := h (fun u => χ u ∧ u ≠ a) fun u ⟨h1, h2⟩ => by
      obtain ⟨h3, h4⟩ := hc u h1
      rw [fset_ne h2] at h4
      have hu := (List.mem_cons.mp h3).resolve_left h2
      exact ⟨hu, h4, hl u hu _ (hm u hu)⟩
    have hat : ∀ u, χ u → u = a := fun u hu => Classical.byContradiction fun z => key u ⟨hu, z⟩
    obtain rfl := hat t ht
    have h2 := (hc t ht).2
    rw [fset_self] at h2
    exact hw (hat _ h2)
theorem nC_round {ts : List W} {g : W → List W} (hne : ts ≠ []) (h : ∀ t ∈ ts, ∀ x ∈ g t, x.drop 1 ∈ ts) : nC ts g = 0 := by
  unfold nC
  rw [List.length_eq_zero_iff, List.filter_eq_nil_iff]
  intro f hf hc
  obtain ⟨t, ht⟩ := List.exists_mem_of_ne_nil _ hne
  exact cmT_iff.mp hc (fun u => u ∈ ts) (fun u hu => ⟨hu, h u hu _ (chs_mem hf u hu)⟩) t ht
theorem bal_loop {E : List W} {b : W} (hb : Bal E b b) (v : W) : cnt beg E v = cnt fin E v := by
  have := hb v
  omega
theorem best : ∀ (n : Nat) {E : List W} {a b : W} {ts : List W}, E.length = n → E.Nodup → Bal E a b → Txs E b ts → eN E a b = bst E b ts
  | 0, E, a, b, ts, hl, hn, hb, ht => by
    obtain rfl := List.length_eq_zero_iff.mp hl
    have hab : a = b := by
      have h := hb a
      rw [if_pos (rfl : a = a)] at h
      refine Classical.byContradiction fun z => ?_
      rw [if_neg z] at h
      cases h
    obtain rfl : ts = [] := List.eq_nil_iff_forall_not_mem.mpr fun t h => by
      obtain ⟨_, w, hw, _⟩ := (ht.2 t).mp h
      cases hw
    show (if a = b then [[]] else ([] : List (List W))).length = 1
    rw [if_pos hab]
    rfl
  | n + 1, E, a, b, ts, hl, hn, hb, ht => by
    have hne : E ≠ [] := fun z => by rw [z] at hl; cases hl
    rw [eN_step hn hne]
    have hlw : ∀ w ∈ og E a, (rm E w).length = n := fun w hw => by have := rm_len hn (mem_og.mp hw).1; omega
    have hbw : ∀ w ∈ og E a, Bal (rm E w) (fin w) b := fun w hw => by
      obtain ⟨h1, h2⟩ := mem_og.mp hw
      exact rm_bal hn h1 (h2.symm ▸ hb)
    by_cases hab : a = b
    · subst hab
      by_cases h0 : cnt beg E a = 0
      · have e : og E a = [] := List.length_eq_zero_iff.mp h0
        rw [e]
        show 0 = fct _ * _ * nC ts (og E)
        have hin : ∀ w ∈ E, fin w ∈ ts := fun w hw => by
          have h1 : 0 < cnt fin E (fin w) := List.length_pos_of_mem (List.mem_filter.mpr ⟨hw, decide_eq_true rfl⟩)
          rw [← bal_loop hb] at h1
          obtain ⟨x, hx⟩ := List.exists_mem_of_length_pos h1
          obtain ⟨hx1, hx2⟩ := List.mem_filter.mp hx
          refine (ht.2 _).mpr ⟨fun z => ?_, x, hx1, of_decide_eq_true hx2⟩
          rw [z, h0] at h1
          cases h1
        obtain ⟨w, hw⟩ := List.exists_mem_of_ne_nil _ hne
        rw [nC_round (List.ne_nil_of_mem (hin w hw)) fun t _ x hx => hin x (mem_og.mp hx).1, Nat.mul_zero]
      · have hc : ∀ w ∈ og E a, eN (rm E w) (fin w) a = fct (cnt beg E a - 1) * pF (cnt beg E) ts * nC ts (og E) := fun w hw => by
          obtain ⟨hw1, hw2⟩ := mem_og.mp hw
          have htw : Txs (rm E w) a ts := ⟨ht.1, fun t => by
            rw [ht.2]
            constructor
            · rintro ⟨h1, x, h2, h3⟩
              exact ⟨h1, x, mem_rm.mpr ⟨h2, fun z => h1 (by rw [← h3, z, hw2])⟩, h3⟩
            · rintro ⟨h1, x, h2, h3⟩
              exact ⟨h1, x, (mem_rm.mp h2).1, h3⟩⟩
          rw [best n (hlw w hw) (rm_nd hn) (hbw w hw) htw]
          unfold bst
          have e1 := rm_cnt hn hw1 beg a
          rw [if_pos hw2] at e1
          rw [show cnt beg (rm E w) a = cnt beg E a - 1 by omega]
          rw [pF_congr (c' := cnt beg E) fun t ht' => by
            have e2 := rm_cnt hn hw1 beg t
            rw [if_neg (fun z => ((ht.2 t).mp ht').1 (by rw [← z, hw2]))] at e2
            omega]
          rw [nC_congr (g' := og E) fun t ht' => og_rm (fun z => ((ht.2 t).mp ht').1 (by rw [← z, hw2]))]
        rw [sum_const hc, og_len]
        unfold bst
        obtain ⟨m, hm⟩ : ∃ m, cnt beg E a = m + 1 := ⟨cnt beg E a - 1, by omega⟩
        rw [hm]
        show (m + 1) * (fct m * _ * _) = (m + 1) * fct m * _ * _
        rw [Nat.mul_assoc, Nat.mul_assoc, Nat.mul_assoc]
    · have hca : cnt beg E a = cnt fin E a + 1 := by
        have := hb a
        rw [if_neg hab, if_pos rfl] at this
        omega
      have hat : a ∈ ts := by
        obtain ⟨w, hw⟩ := List.exists_mem_of_length_pos (show 0 < (og E a).length by rw [og_len]; omega)
        exact (ht.2 a).mpr ⟨hab, w, mem_og.mp hw⟩
      obtain ⟨us, hp⟩ : ∃ us, ts.Perm (a :: us) := ⟨ts.erase a, List.perm_cons_erase hat⟩
      have ht' : Txs E b (a :: us) := ⟨hp.nodup_iff.mp ht.1, fun t => by rw [← hp.mem_iff]; exact ht.2 t⟩
      rw [bst_any ht ht']
      have hau : a ∉ us := (List.nodup_cons.mp ht'.1).1
      have hcu : ∀ w ∈ og E a, pF (cnt beg (rm E w)) us = pF (cnt beg E) us := fun w hw => pF_congr fun t htu => by
        obtain ⟨hw1, hw2⟩ := mem_og.mp hw
        have e2 := rm_cnt hn hw1 beg t
        rw [if_neg (fun z => hau (by rw [← hw2, z]; exact htu))] at e2
        omega
      have hcb : ∀ w ∈ og E a, cnt beg (rm E w) b = cnt beg E b := fun w hw => by
        obtain ⟨hw1, hw2⟩ := mem_og.mp hw
        have e2 := rm_cnt hn hw1 beg b
        rw [if_neg (fun z => hab (by rw [← hw2, z]))] at e2
        omega
      by_cases h1 : cnt beg E a = 1
      · obtain ⟨w, hw⟩ := List.length_eq_one_iff.mp (show (og E a).length = 1 from h1)
        have hwm : w ∈ og E a := by rw [hw]; exact List.mem_singleton.mpr rfl
        obtain ⟨hw1, hw2⟩ := mem_og.mp hwm
        have hnf : ∀ x ∈ E, x.drop 1 ≠ a := fun x hx z => by
          have : 0 < cnt fin E a := List.length_pos_of_mem (List.mem_filter.mpr ⟨hx, decide_eq_true z⟩)
          omega
        have htw : Txs (rm E w) b us := ⟨(List.nodup_cons.mp ht'.1).2, fun t => by
          constructor
          · intro htu
            obtain ⟨h3, x, h4, h5⟩ := (ht'.2 t).mp (List.mem_cons_of_mem _ htu)
            exact ⟨h3, x, mem_rm.mpr ⟨h4, fun z => hau (by rw [← hw2, ← z, h5]; exact htu)⟩, h5⟩
          · rintro ⟨h3, x, h4, h5⟩
            obtain ⟨h6, h7⟩ := mem_rm.mp h4
            refine (List.mem_cons.mp ((ht'.2 t).mpr ⟨h3, x, h6, h5⟩)).resolve_left fun z => h7 ?_
            have : x ∈ og E a := mem_og.mpr ⟨h6, h5.trans z⟩
            rw [hw] at this
            exact List.mem_singleton.mp this⟩
        rw [hw]
        show eN (rm E w) (fin w) b + 0 = _
        rw [Nat.add_zero, best n (hlw w hwm) (rm_nd hn) (hbw w hwm) htw]
        unfold bst
        rw [hcb w hwm, hcu w hwm, nC_leaf hau hw (hnf w hw1) fun t _ x hx => hnf x (mem_og.mp hx).1]
        rw [nC_congr (g' := og E) fun t htu => og_rm (fun z => hau (by rw [← hw2, z]; exact htu))]
        show fct _ * pF _ us * _ = fct _ * (fct (cnt beg E a - 1) * pF _ us) * _
        rw [h1]
        show _ = fct _ * (1 * pF _ us) * _
        rw [Nat.one_mul]
      · have hc : ∀ w ∈ og E a, eN (rm E w) (fin w) b = fct (cnt beg E b) * (fct (cnt beg E a - 2) * pF (cnt beg E) us) * nC (a :: us) (og (rm E w)) := fun w hw => by
          obtain ⟨hw1, hw2⟩ := mem_og.mp hw
          have e1 := rm_cnt hn hw1 beg a
          rw [if_pos hw2] at e1
          have htw : Txs (rm E w) b (a :: us) := ⟨ht'.1, fun t => by
            rw [ht'.2]
            constructor
            · rintro ⟨h3, x, h4, h5⟩
              by_cases hta : t = a
              · obtain ⟨y, hy⟩ := List.exists_mem_of_length_pos (show 0 < (og (rm E w) a).length by rw [og_len]; omega)
                exact ⟨h3, y, (mem_og.mp hy).1, by rw [(mem_og.mp hy).2, hta]⟩
              · exact ⟨h3, x, mem_rm.mpr ⟨h4, fun z => hta (by rw [← h5, z, hw2])⟩, h5⟩
            · rintro ⟨h3, x, h4, h5⟩
              exact ⟨h3, x, (mem_rm.mp h4).1, h5⟩⟩
          rw [best n (hlw w hw) (rm_nd hn) (hbw w hw) htw]
          unfold bst
          rw [hcb w hw]
          show _ * (fct (cnt beg (rm E w) a - 1) * pF (cnt beg (rm E w)) us) * _ = _
          rw [hcu w hw, show cnt beg (rm E w) a - 1 = cnt beg E a - 2 by omega]
        rw [List.map_congr_left hc, sumL_mul]
        have hS : ∀ w ∈ og E a, nC (a :: us) (og (rm E w)) + nW us a (og E) w = nC (a :: us) (og E) := fun w hw => by
          obtain ⟨hw1, hw2⟩ := mem_og.mp hw
          rw [nC_cons, nC_cons, og_rm_same hw2, ← sum_without (l := og E a) (f := nW us a (og E)) (hn.sublist List.filter_sublist) hw]
          congr 2
          refine List.map_congr_left fun x _ => nW_congr fun t htu => og_rm (fun z => hau (by rw [← hw2, z]; exact htu))
        have hsum := sum_all hS
        rw [← nC_cons (g := og E), og_len] at hsum
        unfold bst
        show _ = fct (cnt beg E b) * (fct (cnt beg E a - 1) * pF (cnt beg E) us) * nC (a :: us) (og E)
        obtain ⟨m, hm⟩ : ∃ m, cnt beg E a = m + 2 := ⟨cnt beg E a - 2, by omega⟩
        rw [hm] at hsum ⊢
        have e3 : ((og E a).map fun w => nC (a :: us) (og (rm E w))).sum = (m + 1) * nC (a :: us) (og E) := by
          rw [show m + 2 = (m + 1) + 1 from rfl, Nat.add_mul, Nat.one_mul] at hsum
          omega
        rw [e3]
        show fct _ * (fct m * _) * ((m + 1) * _) = fct _ * ((m + 1) * fct m * _) * _
        generalize fct (cnt beg E b) = A
        generalize fct m = B
        generalize pF (cnt beg E) us = C
        generalize nC (a :: us) (og E) = D
        rw [Nat.mul_assoc (m + 1) B C, Nat.mul_left_comm A (m + 1) (B * C), Nat.mul_comm (m + 1) (A * (B * C)), Nat.mul_assoc (A * (B * C)) (m + 1) D]
end Dt

set_option linter.all false
namespace Dt
open Wd Hg
noncomputable def rotTo (e : W) (us : List W) : List W := us.drop (us.idxOf e) ++ us.take (us.idxOf e)
theorem tr_app : ∀ {xs ys : List W} {p q : W}, Tr beg fin p (xs ++ ys) q ↔ ∃ r, Tr beg fin p xs r ∧ Tr beg fin r ys q
  | [], ys, p, q => ⟨fun h => ⟨p, rfl, h⟩, fun ⟨r, h1, h2⟩ => by have e : p = r := h1; rw [e]; exact h2⟩
  | x :: xs, ys, p, q => by
    constructor
    · rintro ⟨h1, h2⟩
      obtain ⟨r, h3, h4⟩ := tr_app.mp h2
      exact ⟨r, ⟨h1, h3⟩, h4⟩
    · rintro ⟨r, ⟨h1, h3⟩, h4⟩
      exact ⟨h1, tr_app.mpr ⟨r, h3, h4⟩⟩
theorem split_at {e : W} {us : List W} (h : e ∈ us) : ∃ xs ys, us = xs ++ e :: ys ∧ e ∉ xs := by
  induction us with
  | nil => cases h
  | cons x us ih =>
    by_cases hx : x = e
    · exact ⟨[], us, by rw [hx]; rfl, fun z => by cases z⟩
    · obtain ⟨xs, ys, h1, h2⟩ := ih ((List.mem_cons.mp h).resolve_left (Ne.symm hx))
      exact ⟨x :: xs, ys, by rw [h1]; rfl, fun z => (List.mem_cons.mp z).elim (fun w => hx w.symm) h2⟩
theorem idxOf_split {e : W} {xs ys : List W} (h : e ∉ xs) : (xs ++ e :: ys).idxOf e = xs.length := by
  induction xs with
  | nil => rw [List.nil_append, List.idxOf_cons_self]; rfl
  | cons x xs ih =>
    have hx : x ≠ e := fun z => h (z ▸ List.mem_cons_self ..)
    rw [List.cons_append, List.idxOf_cons, ih fun z => h (List.mem_cons_of_mem _ z), beq_false_of_ne hx]
    rfl
theorem rotTo_split {e : W} {xs ys : List W} (h : e ∉ xs) : rotTo e (xs ++ e :: ys) = e :: (ys ++ xs) := by
  unfold rotTo
  rw [idxOf_split h, List.drop_left, List.take_left]
  rfl
theorem rot_back {e e' : W} {us : List W} (hn : (e :: us).Nodup) (h : e' ∈ e :: us) : rotTo e (rotTo e' (e :: us)) = e :: us := by
  obtain ⟨xs, ys, h1, h2⟩ := split_at h
  rw [h1, rotTo_split h2]
  cases xs with
  | nil =>
    have h3 : e = e' := (List.cons.inj h1).1
    subst h3
    rw [List.append_nil, List.nil_append]
    have := rotTo_split (e := e) (xs := []) (ys := ys) (fun z => by cases z)
    rw [List.nil_append, List.append_nil] at this
    exact this
  | cons x xs =>
    obtain ⟨h3, h4⟩ := List.cons.inj h1
    subst h3
    have hne : e ∉ e' :: ys := fun z => by
      rw [List.nodup_cons, h4] at hn
      exact hn.1 (List.mem_append_right _ z)
    rw [show e' :: (ys ++ e :: xs) = (e' :: ys) ++ e :: xs from rfl, rotTo_split hne]
    rfl
noncomputable def rds (E : List W) (e : W) : List (List W) := ordN (rm E e).length (rm E e) (fin e) (beg e)
theorem mem_rds {E : List W} {e : W} {us : List W} (hn : E.Nodup) (he : e ∈ E) : us ∈ rds E e ↔ (e :: us).Perm E ∧ Tr beg fin (beg e) (e :: us) (beg e) := by
  unfold rds
  rw [mem_ord rfl (rm_nd hn)]
  constructor
  · rintro ⟨h1, h2⟩
    exact ⟨(h1.cons e).trans (rm_perm hn he).symm, rfl, h2⟩
  · rintro ⟨h1, _, h2⟩
    exact ⟨(h1.trans (rm_perm hn he)).cons_inv, h2⟩
theorem rds_le {E : List W} {e e' : W} (hn : E.Nodup) (he : e ∈ E) (he' : e' ∈ E) : (rds E e).length ≤ (rds E e').length := by
  have inj : ((rds E e).map fun us => (rotTo e' (e :: us)).tail).Nodup := by
    refine List.pairwise_map.mpr (List.Pairwise.imp_of_mem (fun {x y} hx hy hne heq => hne ?_) (ord_nd rfl (rm_nd hn)))
    obtain ⟨p1, _⟩ := (mem_rds hn he).mp hx
    obtain ⟨p2, _⟩ := (mem_rds hn he).mp hy
    have n1 := p1.nodup_iff.mpr hn
    have n2 := p2.nodup_iff.mpr hn
    have m1 : e' ∈ e :: x := p1.mem_iff.mpr he'
    have m2 : e' ∈ e :: y := p2.mem_iff.mpr he'
    have hd : ∀ {z : List W}, e' ∈ e :: z → rotTo e' (e :: z) = e' :: (rotTo e' (e :: z)).tail := fun {z} hz => by
      obtain ⟨xs, ys, h1, h2⟩ := split_at hz
      rw [h1, rotTo_split h2]
      rfl
    have e1 := rot_back n1 m1
    have e2 := rot_back n2 m2
    rw [hd m1, heq, ← hd m2, e2] at e1
    exact (List.cons.inj e1).2.symm
  have := Hg.nd_len (ms := rds E e') inj fun z hz => by
    obtain ⟨us, hu, rfl⟩ := List.mem_map.mp hz
    obtain ⟨h1, h2⟩ := (mem_rds hn he).mp hu
    obtain ⟨xs, ys, h3, h4⟩ := split_at (h1.mem_iff.mpr he')
    rw [h3, rotTo_split h4]
    show ys ++ xs ∈ _
    rw [h3] at h1 h2
    obtain ⟨r, t1, t2⟩ := tr_app.mp h2
    have hr : beg e' = r := t2.1
    subst hr
    refine (mem_rds hn he').mpr ⟨?_, rfl, tr_app.mpr ⟨_, t2.2, t1⟩⟩
    refine List.Perm.trans ?_ h1
    exact (List.perm_append_comm (l₁ := e' :: ys) (l₂ := xs))
  rw [List.length_map] at this
  exact this
theorem rds_same {E : List W} {e e' : W} (hn : E.Nodup) (he : e ∈ E) (he' : e' ∈ E) : eN (rm E e) (fin e) (beg e) = eN (rm E e') (fin e') (beg e') :=
  Nat.le_antisymm (rds_le hn he he') (rds_le hn he' he)
theorem eN_loop {E : List W} {e : W} (hn : E.Nodup) (he : e ∈ E) {p : W} : eN E p p = cnt beg E p * eN (rm E e) (fin e) (beg e) := by
  rw [eN_step hn (List.ne_nil_of_mem he), sum_const (c := eN (rm E e) (fin e) (beg e)) fun w hw => ?_, og_len]
  obtain ⟨h1, h2⟩ := mem_og.mp hw
  rw [← h2]
  exact rds_same hn h1 he
noncomputable def All (E : List W) (ts : List W) : Prop := ts.Nodup ∧ ∀ t, t ∈ ts ↔ ∃ w ∈ E, beg w = t
theorem rounds_trees {E : List W} {e : W} (hn : E.Nodup) (he : e ∈ E) {p : W} (hb : Bal E p p) {ts us : List W} (ha : All E us) (ht : Txs E p ts) (hp : p ∈ us) : eN (rm E e) (fin e) (beg e) = pF (cnt beg E) us * nC ts (og E) := by
  have h1 := best E.length rfl hn hb ht
  rw [eN_loop hn he] at h1
  have hc : 0 < cnt beg E p := by
    obtain ⟨w, hw, e⟩ := (ha.2 p).mp hp
    exact List.length_pos_of_mem (List.mem_filter.mpr ⟨hw, decide_eq_true e⟩)
  obtain ⟨m, hm⟩ : ∃ m, cnt beg E p = m + 1 := ⟨cnt beg E p - 1, by omega⟩
  have hpt : us.Perm (p :: ts) := (List.perm_ext_iff_of_nodup ha.1 (List.nodup_cons.mpr ⟨fun z => ((ht.2 p).mp z).1 rfl, ht.1⟩)).mpr fun t => by
    rw [List.mem_cons, ht.2, ha.2]
    constructor
    · intro h
      by_cases z : t = p
      · exact .inl z
      · exact .inr ⟨z, h⟩
    · rintro (h | h)
      · rw [h]; exact (ha.2 p).mp hp
      · exact h.2
  rw [pF_perm hpt]
  show _ = fct (cnt beg E p - 1) * pF (cnt beg E) ts * _
  unfold bst at h1
  rw [hm] at h1 ⊢
  have h1 : (m + 1) * eN (rm E e) (fin e) (beg e) = (m + 1) * fct m * pF (cnt beg E) ts * nC ts (og E) := h1
  rw [Nat.mul_assoc (m + 1), Nat.mul_assoc (m + 1)] at h1
  exact Nat.eq_of_mul_eq_mul_left (Nat.succ_pos m) h1
theorem trees_alike {E : List W} (hn : E.Nodup) {p q : W} (hb : ∀ v, Bal E v v) {ts us vs : List W} (ha : All E us) (h1 : Txs E p ts) (h2 : Txs E q vs) (hp : p ∈ us) (hq : q ∈ us) : nC ts (og E) = nC vs (og E) := by
  obtain ⟨e, he, _⟩ := (ha.2 p).mp hp
  have e1 := rounds_trees hn he (hb p) ha h1 hp
  have e2 := rounds_trees hn he (hb q) ha h2 hq
  rw [e1] at e2
  exact Nat.eq_of_mul_eq_mul_left (pF_pos _) e2
theorem bal_any {E : List W} {p : W} (h : Bal E p p) (v : W) : Bal E v v := fun u => by
  have := h u
  omega
theorem trees_some {E : List W} (hn : E.Nodup) {p a : W} {vs : List W} (hv : vs.Perm E) (htr : Tr beg fin a vs a) {ts : List W} (h1 : Txs E p ts) (hp : ∃ w ∈ E, beg w = p) : 0 < nC ts (og E) := by
  have hb : Bal E a a := (tr_bal htr).perm hv
  obtain ⟨w, hw, hwp⟩ := hp
  have hwv := hv.mem_iff.mpr hw
  obtain ⟨xs, ys, h3, h4⟩ := split_at hwv
  rw [h3] at htr hv
  obtain ⟨r, t1, t2⟩ := tr_app.mp htr
  have hr : beg w = r := t2.1
  have hmem : (w :: (ys ++ xs)) ∈ ordN E.length E p p := (mem_ord rfl hn).mpr ⟨(List.perm_append_comm (l₁ := w :: ys) (l₂ := xs)).trans hv, hwp, tr_app.mpr ⟨a, t2.2, by rw [← hwp, hr]; exact t1⟩⟩
  have h5 : 0 < eN E p p := List.length_pos_of_mem hmem
  rw [best E.length rfl hn (bal_any hb p) h1] at h5
  unfold bst at h5
  exact Nat.pos_of_ne_zero fun z => by rw [z, Nat.mul_zero] at h5; cases h5
end Dt

set_option linter.all false
namespace Dt
open Wd Hg
end Dt

set_option linter.all false
namespace Dt
open Wd Hg
end Dt

namespace Wd
noncomputable def it (f : W → W) : Nat → W → W
  | 0, w => w
  | k + 1, w => f (it f k w)
section
variable {f : W → W} {L : List W} {w : W} {p : Nat}
end
end Wd

set_option linter.all false
namespace Wd
section
variable {f : W → W} {r : W} {n : Nat} {L : List W}
end
end Wd

set_option linter.all false
namespace Wd
open Hg
section
variable {ms us xs ys : List W} {p q r t e w0 : W} {n : Nat}
end
end Wd

set_option linter.all false
namespace Wd
open Hg
section
variable {ms us vs : List W} {p q m0 t : W} {n : Nat}
end
end Wd

set_option linter.all false
namespace Dt
open Wd Hg
section
variable {m0 : W} {us vs ms : List W} {n : Nat}
end
end Dt

set_option linter.all false
namespace Dt
open Wd Hg
theorem nC_cut {ts : List W} {t : W} {g : W → List W} (hn : ts.Nodup) (ht : t ∈ ts) : ((g t).map fun w => nC ts (fun x => if x = t then [w] else g x)).sum = nC ts g := by
  have hp := List.perm_cons_erase ht
  have hn' := hp.nodup_iff.mp hn
  have hnt : t ∉ ts.erase t := (List.nodup_cons.mp hn').1
  rw [nC_perm hp hn, nC_cons]
  congr 1
  refine List.map_congr_left fun w _ => ?_
  rw [nC_perm hp hn, nC_cons]
  show (List.map (nW (ts.erase t) t _) (if t = t then [w] else g t)).sum = _
  rw [if_pos rfl]
  show nW (ts.erase t) t _ w + 0 = _
  rw [Nat.add_zero]
  exact nW_congr fun x hx => by
    have hne : x ≠ t := fun z => hnt (z ▸ hx)
    rw [if_neg hne]
noncomputable def chk (n : Nat) (L A U : List (List Int)) : Bool := (List.range n).all fun i => (List.range n).all fun k =>
  (decide (k ≤ i) || decide (ent L i k = 0)) && (decide (i ≤ k) || decide (ent U i k = 0)) && decide ((sumN n fun j => ent L i j * ent A j k) = ent U i k)
theorem det_cert {n : Nat} {L A U : List (List Int)} {d : Int} (h : chk n L A U = true) (hd : pI n (fun i => ent L i i) * d = pI n fun i => ent U i i) (hne : pI n (fun i => ent L i i) ≠ 0) : det n (ent A) = d := by
  have hc : ∀ i k, i < n → k < n → (k ≤ i ∨ ent L i k = 0) ∧ (i ≤ k ∨ ent U i k = 0) ∧ (sumN n fun j => ent L i j * ent A j k) = ent U i k := fun i k hi hk => by
    have h1 := List.all_eq_true.mp (List.all_eq_true.mp h i (List.mem_range.mpr hi)) k (List.mem_range.mpr hk)
    rw [Bool.and_eq_true, Bool.and_eq_true, Bool.or_eq_true, Bool.or_eq_true, decide_eq_true_iff, decide_eq_true_iff, decide_eq_true_iff, decide_eq_true_iff, decide_eq_true_iff] at h1
    exact ⟨h1.1.1, h1.1.2, h1.2⟩
  have e1 := det_prod (n := n) (T := ent L) (B := ent A) fun i k hik hk => ((hc i k (by omega) hk).1).resolve_left (by omega)
  have e2 : det n (fun i j => sumN n fun k => ent L i k * ent A k j) = det n (ent U) := det_congr fun i k hi hk => (hc i k hi hk).2.2
  have e3 := det_upper (n := n) (U := ent U) fun i k hki hi => ((hc i k hi (by omega)).2.1).resolve_left (by omega)
  rw [e2, e3, ← hd] at e1
  exact (Int.eq_of_mul_eq_mul_left hne e1).symm
theorem bal_begin {E : List W} {p : W} (hb : Bal E p p) {w : W} (hw : w ∈ E) : ∃ x ∈ E, beg x = fin w := by
  have h1 : 0 < cnt fin E (fin w) := List.length_pos_of_mem (List.mem_filter.mpr ⟨hw, decide_eq_true rfl⟩)
  rw [← bal_loop hb] at h1
  obtain ⟨x, hx⟩ := List.exists_mem_of_length_pos h1
  obtain ⟨hx1, hx2⟩ := List.mem_filter.mp hx
  exact ⟨x, hx1, of_decide_eq_true hx2⟩
end Dt

set_option Elab.async false
set_option linter.all false
set_option maxRecDepth 100000
set_option maxHeartbeats 4000000

namespace L2
open PySem PySem.Spec PyProof.Rows

noncomputable def tx (l : List Nat) : Str := ⟨l.toArray⟩
noncomputable abbrev T (l : List Nat) : V := .str (tx l)
theorem tx_len (l : List Nat) : (tx l).length = l.length := by simp [tx, Str.length]
theorem tx_cps (l : List Nat) : (tx l).cps.toList = l := by simp [tx]
theorem tx_eta (x : Str) : tx x.cps.toList = x := by cases x; simp [tx]
theorem tx_inj {a b : List Nat} (h : tx a = tx b) : a = b := by
  have e := congrArg (fun x : Str => x.cps.toList) h
  simpa [tx] using e
theorem T_inj {a b : List Nat} (h : T a = T b) : a = b := tx_inj (V.str.inj h)
theorem T_dec {a b : List Nat} : decide (T a = T b) = decide (a = b) := by
  rw [Bool.eq_iff_iff, decide_eq_true_iff, decide_eq_true_iff]
  exact ⟨T_inj, fun h => by rw [h]⟩
theorem tx_app (a b : List Nat) : tx a ++ tx b = tx (a ++ b) := by
  rw [← tx_eta (tx a ++ tx b), PySem.W.KT.app_list, tx_cps, tx_cps]

section
variable {X : Cx}
theorem op_add_T : OpR X (binaryOp .Add) (fun x y H Q => ∃ a, x = T a ∧ ∃ b, y = T b ∧ a.length + b.length ≤ sizeLine ∧ Q (T (a ++ b)) H) := by
  intro pins s σ H x y v u Q I rx ry h
  obtain ⟨a, e1, b, e2, hz, q⟩ := h
  exact op_add_str pins s σ H x y v u Q I rx ry ⟨tx a, tx b, e1, e2, by rw [tx_len, tx_len]; exact hz, by rw [tx_app]; exact q⟩
theorem op_eq_T : OpR X (compareOp .Eq) (fun x y H Q => ∃ a, x = T a ∧ ∃ b, y = T b ∧ Q (.bl (decide (a = b))) H) := by
  intro pins s σ H x y v u Q I rx ry h
  obtain ⟨a, rfl, b, rfl, q⟩ := h
  exact op_eq pins s σ H _ _ v u Q I rx ry ⟨rfl, by rw [T_dec]; exact q⟩
theorem op_ne_T : OpR X (compareOp .NotEq) (fun x y H Q => ∃ a, x = T a ∧ ∃ b, y = T b ∧ Q (.bl (!decide (a = b))) H) := by
  intro pins s σ H x y v u Q I rx ry h
  obtain ⟨a, rfl, b, rfl, q⟩ := h
  exact op_ne pins s σ H _ _ v u Q I rx ry ⟨rfl, by rw [T_dec]; exact q⟩
theorem op_eq_I : OpR X (compareOp .Eq) (fun x y H Q => ∃ a, x = .int a ∧ ∃ b, y = .int b ∧ Q (.bl (decide (a = b))) H) := by
  intro pins s σ H x y v u Q I rx ry h
  obtain ⟨a, rfl, b, rfl, q⟩ := h
  exact op_eq pins s σ H _ _ v u Q I rx ry ⟨rfl, by rw [dec_int, Bool.beq_eq_decide_eq]; exact q⟩
theorem op_ne_I : OpR X (compareOp .NotEq) (fun x y H Q => ∃ a, x = .int a ∧ ∃ b, y = .int b ∧ Q (.bl (!decide (a = b))) H) := by
  intro pins s σ H x y v u Q I rx ry h
  obtain ⟨a, rfl, b, rfl, q⟩ := h
  exact op_ne pins s σ H _ _ v u Q I rx ry ⟨rfl, by rw [dec_int, Bool.beq_eq_decide_eq]; exact q⟩
noncomputable def cutL (l : List Nat) (lo hi : Option Int) : List Nat := (l.drop (HT.sIx l.length 0 lo)).take (HT.sIx l.length l.length hi - HT.sIx l.length 0 lo)
theorem clip_sIx (v : Option Int) (n d : Nat) : (match v with | none => (d : Int) | some i => max 0 (min (if i < 0 then i + (n : Int) else i) (n : Int))) = ((HT.sIx n d v : Nat) : Int) := by
  cases v with
  | none => rfl
  | some i =>
    show max 0 (min (if i < 0 then i + (n : Int) else i) (n : Int)) = (((if i < 0 then (i + (n : Int)).toNat else min i.toNat n) : Nat) : Int)
    by_cases hi : i < 0
    · simp only [if_pos hi]; omega
    · simp only [if_neg hi]; omega
theorem indices_sIx (lo hi : Option Int) (n : Nat) : Builtin.Str.strSliceIndices lo hi 1 n = Builtin.Str.strSliceIndices (some ((HT.sIx n 0 lo : Nat) : Int)) (some ((HT.sIx n n hi : Nat) : Int)) 1 n := by
  have h1 := HT.sIx_le n 0 (Nat.zero_le _) lo
  have h2 := HT.sIx_le n n (Nat.le_refl _) hi
  have c1 := clip_sIx lo n 0
  have c2 := clip_sIx hi n n
  have d1 := clip_sIx (some ((HT.sIx n 0 lo : Nat) : Int)) n 0
  have d2 := clip_sIx (some ((HT.sIx n n hi : Nat) : Int)) n n
  rw [HT.sIx_nat, Nat.min_eq_left h1] at d1
  rw [HT.sIx_nat, Nat.min_eq_left h2] at d2
  unfold Builtin.Str.strSliceIndices
  simp only [show ((1 : Int) > 0) from by decide, if_true]
  have g : ∀ a b c d : Int, a = c → b = d → sliceRange a b 1 = sliceRange c d 1 := fun a b c d h1 h2 => by rw [h1, h2]
  exact g _ _ _ _ (c1.trans d1.symm) (c2.trans d2.symm)
theorem slice_tx (l : List Nat) (lo hi : Option Int) : Txt.slice (tx l) lo hi = tx (cutL l lo hi) := by
  have h1 := HT.sIx_le l.length 0 (Nat.zero_le _) lo
  have h2 := HT.sIx_le l.length l.length (Nat.le_refl _) hi
  unfold Txt.slice
  rw [tx_len, indices_sIx]
  by_cases hab : HT.sIx l.length 0 lo ≤ HT.sIx l.length l.length hi
  · have e := StrLaws.sliceText_nat (tx l) hab (by rw [tx_len]; exact h2)
    unfold StrLaws.sliceText at e
    rw [tx_len, tx_cps] at e
    exact e
  · have e0 : Builtin.Str.strSliceIndices (some ((HT.sIx l.length 0 lo : Nat) : Int)) (some ((HT.sIx l.length l.length hi : Nat) : Int)) 1 l.length = [] := by
      unfold Builtin.Str.strSliceIndices sliceRange
      have n1 : ¬ (((HT.sIx l.length 0 lo : Nat) : Int) < 0) := by omega
      have n2 : ¬ (((HT.sIx l.length l.length hi : Nat) : Int) < 0) := by omega
      simp only [show ((1 : Int) > 0) from by decide, if_true, if_neg n1, if_neg n2]
      have n3 : ¬ (max (0 : Int) (min ((HT.sIx l.length 0 lo : Nat) : Int) (l.length : Int)) < max (0 : Int) (min ((HT.sIx l.length l.length hi : Nat) : Int) (l.length : Int))) := by omega
      simp [n3]
    have e1 : cutL l lo hi = [] := by
      unfold cutL
      rw [show HT.sIx l.length l.length hi - HT.sIx l.length 0 lo = 0 by omega, List.take_zero]
    rw [e0, e1]
    cases l with
    | nil => rfl
    | cons c r => rfl
theorem sl_T : SlR X (fun x lo hi H Q => ∃ a, x = T a ∧ a.length ≤ sizeLine ∧ Q (T (cutL a lo hi)) H) := by
  intro pins s σ H x v vl vu lo hi sl Q I rx hs pl pu h
  obtain ⟨a, rfl, hz, q⟩ := h
  obtain ⟨t, rfl⟩ := rx
  obtain ⟨l, hl1, hl2⟩ : ∃ l : Option (Int × Tok), partValue l = vl ∧ l.map (·.1) = lo := by
    cases pl with
    | none => exact ⟨none, rfl, rfl⟩
    | int i t => exact ⟨some (i, t), rfl, rfl⟩
  obtain ⟨u, hu1, hu2⟩ : ∃ u : Option (Int × Tok), partValue u = vu ∧ u.map (·.1) = hi := by
    cases pu with
    | none => exact ⟨none, rfl, rfl⟩
    | int i t => exact ⟨some (i, t), rfl, rfl⟩
  refine ⟨"str", _, F.slot_str_getitem.lookup, typeIs_str _ _ _, ?_⟩
  have hsl : s.heap.IsSlice sl l u none := by
    obtain ⟨o, ho, hc, hd⟩ := hs
    exact ⟨o, ho, hc, by rw [hl1, hu1]; exact hd⟩
  refine wpAny_getItem_str_slice hsl rfl ?_
  have key : (if ((1 : Int) == 1 && (Builtin.Str.strSliceIndices lo hi 1 (tx a).length).length == (tx a).length) = true then (tx a) else ⟨((Builtin.Str.strSliceIndices lo hi 1 (tx a).length).filterMap ((tx a).cps[·]?)).toArray⟩) = tx (cutL a lo hi) := slice_tx a lo hi
  unfold sliceMade slicePicked
  rw [hl2, hu2]
  refine post_val_or_str ⟨?_, fun t' k => ?_⟩
  · show (Txt.slice (tx a) lo hi).length ≤ sizeLine
    exact Nat.le_trans (Txt.slice_le _ _ _) (by rw [tx_len]; exact hz)
  · refine ⟨T (cutL a lo hi), H, I.tok _, ⟨t', ?_⟩, q⟩
    exact congrArg (fun z => Value.str z t') key

theorem rep_length (n : Nat) (l : List Nat) : (Wd.rep n l).length = n * l.length := Wd.rep_len n l
theorem foldl_cps (n : Nat) (c : Array Nat) : ∀ acc : Array Nat, (List.replicate n c).foldl (· ++ ·) acc = acc ++ (Wd.rep n c.toList).toArray := by
  induction n with
  | zero => intro acc; simp [Wd.rep]
  | succ n ih =>
    intro acc
    rw [List.replicate_succ, List.foldl_cons, ih]
    rw [Wd.rep_succ, Array.append_assoc]
    congr 1
    apply Array.ext'
    simp
theorem mul_tx (n : Nat) (l : List Nat) : Txt.mul (tx l) (n : Int) = tx (Wd.rep n l) := by
  unfold Txt.mul
  by_cases h1 : (n : Int) < 1
  · have e : n = 0 := by omega
    subst e
    rw [if_pos h1]
    rfl
  · rw [if_neg h1]
    by_cases h2 : ((n : Int) == 1 || (tx l).length == 0) = true
    · rw [if_pos h2]
      rw [Bool.or_eq_true, beq_iff_eq, beq_iff_eq, tx_len] at h2
      rcases h2 with h2 | h2
      · have e : n = 1 := by omega
        subst e
        rw [Wd.rep_one]
      · have e : l = [] := List.length_eq_zero_iff.mp h2
        subst e
        have : Wd.rep n [] = [] := List.length_eq_zero_iff.mp (by rw [rep_length]; simp)
        rw [this]
    · rw [if_neg h2, Int.toNat_natCast, foldl_cps]
      simp [tx]
theorem op_mul_T : OpR X (binaryOp .Mult) (fun x y H Q => ∃ a, x = T a ∧ ∃ n : Nat, y = .int n ∧ (n ≤ sizeLine ∧ n * a.length ≤ sizeLine) ∧ Q (T (Wd.rep n a)) H) := by
  intro pins s σ H x y v u Q I rx ry h
  obtain ⟨a, rfl, n, rfl, ⟨h1, h2⟩, q⟩ := h
  obtain ⟨t, rfl⟩ := rx
  obtain ⟨t', rfl⟩ := ry
  have hs : sizeLine = 16777216 := sizeLine_eq
  refine SB.mul ⟨?_, ?_, ?_⟩ fun t' k => ⟨T (Wd.rep n a), H, I.tok _, ⟨t', by rw [mul_tx]⟩, q⟩
  · have e1 : decide ((n : Int) < -(2 ^ 63 : Int)) = false := decide_eq_false (by omega)
    have e2 : decide ((n : Int) ≥ 2 ^ 63) = false := decide_eq_false (by omega)
    rw [e1, e2]
    rfl
  · intro hn _
    rw [tx_len]
    have h3 : n * a.length ≤ 16777216 := by omega
    intro hc
    have h4 : ((n * a.length : Nat) : Int) ≤ 16777216 := by omega
    have hn' : (0 : Int) < n := by omega
    have h5 : ((2 ^ 63 - 1) / (n : Int)) * n ≤ 2 ^ 63 - 1 := Int.ediv_mul_le _ (by omega)
    have h6 : (2 ^ 63 - 1 : Int) < ((2 ^ 63 - 1) / (n : Int) + 1) * n := Int.lt_ediv_add_one_mul_self _ hn'
    have h7 : ((2 ^ 63 - 1) / (n : Int) + 1) * n ≤ (a.length : Int) * n := Int.mul_le_mul_of_nonneg_right (by omega) (by omega)
    have h8 : ((n * a.length : Nat) : Int) = (a.length : Int) * n := by rw [Int.natCast_mul, Int.mul_comm]
    omega
  · intro hn _
    rw [tx_len, Int.toNat_natCast, Nat.mul_comm]
    unfold Builtin.Str.tooLong
    exact decide_eq_false (by omega)

theorem strsAre_T : ∀ {ls : List (List Nat)} {us : List Value}, Vals (ls.map T) us → StrsAre us (ls.map tx)
  | [], us, r => by
    cases r
    exact .nil
  | l :: ls, us, r => by
    rw [List.map_cons] at r
    cases r with
    | cons r1 r2 =>
      obtain ⟨t, rfl⟩ := r1
      exact .cons _ _ (strsAre_T r2)
end
end L2
namespace L2
theorem cutL_from {w : List Nat} {k : Nat} (h : k ≤ w.length) : cutL w (some (k : Int)) none = w.drop k := by
  unfold cutL
  rw [HT.sIx_nat, HT.sIx_none, Nat.min_eq_left h]
  exact List.take_of_length_le (by rw [List.length_drop]; omega)
theorem cutL_to {w : List Nat} {k : Nat} (h : k ≤ w.length) : cutL w none (some (k : Int)) = w.take k := by
  unfold cutL
  rw [HT.sIx_nat, HT.sIx_none, Nat.min_eq_left h, List.drop_zero, Nat.sub_zero]
end L2

set_option Elab.async false
set_option linter.all false
set_option maxRecDepth 100000
set_option maxHeartbeats 4000000

namespace L2
open PySem PySem.Spec PyProof.Rows

set_option genInjectivity false in
structure CompSc (N N' : List Str) (sc scope : Scope) (x : Str) : Prop where
  kind : scope.kind = .function
  cell : ∀ y ∈ scope.names, y.2 ≠ .cell
  names : ∀ y ∈ scope.names, y.2 = .local → scope.names.lookup y.1 = some .local
  var : scope.names.lookup x = some .local
  ok : ∀ y ∈ scope.names, y.2 = .free → sc.names.lookup y.1 = some .cell ∨ sc.names.lookup y.1 = some .free
  hd : N'[0]? = some x
  len : N'.length = N.length + 1
  sub : ∀ i, i < N.length → N'[i + 1]? = N[i]? ∨ (N'[i + 1]?.map fun y => scope.names.lookup y) = some none
  noe : scope.names.lookup ("" : Str) = none
  nol : ∀ y ∈ N'.tail, scope.names.lookup y ≠ some .local
  nd : N'.Nodup

noncomputable def closOf (cells : List (Str × Addr)) : List (Str × NameKind) → List (Str × Addr) → List (Str × Addr)
  | [], acc => acc
  | (n, k) :: r, acc => closOf cells r (if k == .free then (n, (cells.lookup n).getD 0) :: acc else acc)
theorem clos_sound {cells : List (Str × Addr)} {y : Str} {c : Addr} : ∀ (names : List (Str × NameKind)) (acc : List (Str × Addr)), (∀ z ∈ names, z.2 = .free → ∃ c, cells.lookup z.1 = some c) →
    (acc.lookup y = some c → cells.lookup y = some c) → (closOf cells names acc).lookup y = some c → cells.lookup y = some c
  | [], acc, _, ha, h => ha h
  | (n, k) :: r, acc, hz, ha, h => by
    unfold closOf at h
    refine clos_sound r _ (fun z hm => hz z (List.mem_cons_of_mem _ hm)) (fun q => ?_) h
    split at q
    · rename_i hk
      obtain ⟨c', e⟩ := hz (n, k) List.mem_cons_self (by simpa using hk)
      rw [List.lookup_cons] at q
      split at q
      · rename_i he
        have : y = n := by simpa using he
        subst this
        rw [e] at q
        rw [e]
        exact q
      · exact ha q
    · exact ha q
theorem clos_acc {cells : List (Str × Addr)} {y : Str} : ∀ (names : List (Str × NameKind)) (acc : List (Str × Addr)), (∃ c, acc.lookup y = some c) → ∃ c, (closOf cells names acc).lookup y = some c
  | [], acc, h => h
  | (n, k) :: r, acc, ⟨c, h⟩ => by
    unfold closOf
    refine clos_acc r _ ?_
    split
    · rw [List.lookup_cons]
      split
      · exact ⟨_, rfl⟩
      · exact ⟨c, h⟩
    · exact ⟨c, h⟩
theorem clos_has {cells : List (Str × Addr)} {y : Str} : ∀ (names : List (Str × NameKind)) (acc : List (Str × Addr)), (y, NameKind.free) ∈ names → ∃ c, (closOf cells names acc).lookup y = some c
  | (n, k) :: r, acc, h => by
    unfold closOf
    rcases List.mem_cons.mp h with e | h
    · cases e
      refine clos_acc r _ ⟨(cells.lookup y).getD 0, ?_⟩
      simp
    · exact clos_has r _ h
theorem clos_eq {scope : Scope} {env : Env} (h : ∀ z ∈ scope.names, z.2 = .free → ∃ c, env.cells.lookup z.1 = some c) : closureFor scope env = pure (closOf env.cells scope.names []) := by
  have gen : ∀ (names : List (Str × NameKind)) (acc : List (Str × Addr)), (∀ z ∈ names, z.2 = .free → ∃ c, env.cells.lookup z.1 = some c) →
      (forIn names acc fun (x : Str × NameKind) (r : List (Str × Addr)) => (if (x.2 == NameKind.free) = true then (do let a ← cellOf env x.1; pure (ForInStep.yield ((x.1, a) :: r))) else pure (ForInStep.yield r) : Sem (ForInStep (List (Str × Addr))))) = (pure (closOf env.cells names acc) : Sem (List (Str × Addr))) := by
    intro names
    induction names with
    | nil => intro acc _; rfl
    | cons z r ih =>
      intro acc hz
      obtain ⟨n, k⟩ := z
      rw [List.forIn_cons]
      unfold closOf
      by_cases hk : (k == NameKind.free) = true
      · obtain ⟨c, e⟩ := hz (n, k) List.mem_cons_self (by simpa using hk)
        have e' : env.cells.lookup n = some c := e
        simp only [hk, if_true, cellOf, e', pure_bind, Option.getD_some]
        exact ih _ fun z hm => hz z (List.mem_cons_of_mem _ hm)
      · simp only [hk, Bool.false_eq_true, if_false, pure_bind]
        exact ih _ fun z hm => hz z (List.mem_cons_of_mem _ hm)
  have g := gen scope.names [] h
  unfold closureFor
  refine Eq.trans ?_ (congrArg (fun (m : Sem (List (Str × Addr))) => m >>= fun cs => pure cs) g)
  rfl
theorem relabel_lookup (scope : Scope) (env : Env) (y : Str) : (relabel scope env).names.lookup y = (scope.names.lookup y).map fun k => if (k == NameKind.free && env.scope.kind == .function && env.kindOf y == some .cell) = true then NameKind.cell else k := by
  unfold relabel
  show List.lookup y (scope.names.map fun (n, k) => if (k == NameKind.free && env.scope.kind == .function && env.kindOf n == some .cell) = true then (n, NameKind.cell) else (n, k)) = _
  induction scope.names with
  | nil => rfl
  | cons z r ih =>
    obtain ⟨n, k⟩ := z
    rw [List.map_cons]
    by_cases hy : (y == n) = true
    · have e : y = n := by simpa using hy
      subst e
      by_cases hc : (k == NameKind.free && env.scope.kind == .function && env.kindOf y == some .cell) = true
      · simp only [hc, if_true, List.lookup_cons, beq_self_eq_true, Option.map_some]
      · simp only [hc, if_false, List.lookup_cons, beq_self_eq_true, Option.map_some, Bool.false_eq_true]
    · have hy' : (y == n) = false := by simpa using hy
      by_cases hc : (k == NameKind.free && env.scope.kind == .function && env.kindOf n == some .cell) = true
      · simp only [hc, if_true, List.lookup_cons, hy']
        exact ih
      · simp only [hc, if_false, List.lookup_cons, hy', Bool.false_eq_true]
        exact ih
theorem lookup_mem {κ : Type} : ∀ {l : List (Str × κ)} {y : Str} {k : κ}, l.lookup y = some k → (y, k) ∈ l := fun h => PySem.mem_of_lookup h

noncomputable abbrev cxComp (X : Cx) (N' : List Str) (scope : Scope) (cl : List (Str × Addr)) (C : Addr) (s : Shared) (H : Hp) (fp : List Addr) : Cx :=
  { X with env := compEnvC scope cl C X.env, N := N', s₀ := s, H₀ := H, outer := X.stack, stack := X.stack, ex := fp, fn := fun _ => false, xe := fun _ _ => False }

noncomputable abbrev tstF (cds : List Expr) (env : Env) : Sem Bool := forIn cds true fun c r => if r = true then do let ok ← isTrue c env (eval c env); pure (ForInStep.yield ok) else pure (ForInStep.yield r)
noncomputable def PTL (X : Cx) (cds : List Expr) (t : TT) : Prop :=
  ∀ (pins : List (Addr × Obj)) (s : Shared) (σ : St) (H : Hp) (Q : Bool → Hp → Prop), Inv X pins σ H s → t σ H Q → wpAny (model X.prog X.w) X.A (tstF cds X.env) (TP X pins σ Q) X.xe s
theorem ptl_nil {X : Cx} : PTL X [] (fun _ H k => k true H) := fun pins s σ H Q I q => wpAny_tests_nil ⟨H, I, q⟩
theorem ptl_one {X : Cx} {cd : Expr} {tc : TT} (h : PT X cd tc) : PTL X [cd] tc := fun pins s σ H Q I q => wpAny_tests_one (h pins s σ H Q I q)
theorem codeAny_compLoop_ts {prog : Program} {w : World} {A : Around} {R : Result → Shared → Prop} {s : Shared} {elt target iter : Expr} {cds : List Expr} {scope : Scope} {pos : Pos} {it acc : Value} {env : Env} (I : Nat → Shared → Prop)
    (turn : ∀ n s, I n s → wpAny (model prog w) A (pyNext it) (fun r s₁ => match r with
      | none => R (.ok .next) s₁
      | some v => wpAny (model prog w) A (letOwnedTupleGo target it v) (fun _ s₁' => wpAny (model prog w) A (assign target env v) (fun _ s₂ => wpAny (model prog w) A (tstF cds env) (fun ok s₂' =>
          if ok = true then wpAny (model prog w) A (eval elt env) (fun x s₃ =>
            wpAny (model prog w) A (call (.builtin "list.append") [acc, x]) (fun _ s₄ => ∃ m, m < n ∧ I m s₄) (fun _ _ => False) s₃) (fun _ _ => False) s₂'
          else ∃ m, m < n ∧ I m s₂') (fun _ _ => False) s₂) (fun _ _ => False) s₁') (fun _ _ => False) s₁) (fun _ _ => False) s)
    (n : Nat) (h : I n s) :
    codeAny (model prog w) A (.compLoop (.ListComp elt [⟨target, iter, cds, 0⟩] scope pos) 0 it acc env) R s := by
  refine codeAny_loop rfl I (fun n s hI => ?_) n h
  show wpAny _ A ((compTurn (.ListComp elt [⟨target, iter, cds, 0⟩] scope pos) 0 it acc env).onRaise (fun x => do noteFrame x env; theTreesLotGoes x)) _ _ s
  refine wpAny_noted ?_
  rw [compTurn_list]
  refine wpAny_bind (wpAny_standAt (wpAny_bind (wpAny_mono (turn n s hI) (fun r s₁ h₁ => ?_) fun _ _ h' => h'.elim)))
  cases r with
  | none => exact wpAny_pure h₁
  | some v =>
    refine wpAny_bind (wpAny_mono h₁ (fun _ s₀ h₀ => ?_) fun _ _ h' => h'.elim)
    refine wpAny_bind (wpAny_mono h₀ (fun _ s₂ h₂ => ?_) fun _ _ h' => h'.elim)
    refine wpAny_bind ((wpAny_mono h₂ (fun ok s₃ h₃ => ?_) fun _ _ h' => h'.elim))
    cases ok with
    | false => exact wpAny_pure ⟨rfl, by simpa using h₃⟩
    | true =>
      have h₃' := h₃
      simp only [if_true] at h₃'
      exact wpAny_bind (wpAny_bind (wpAny_mono h₃' (fun x s₄ h₄ => wpAny_bind (wpAny_mono h₄ (fun _ s₅ h₅ => wpAny_pure (wpAny_pure ⟨rfl, h₅⟩)) fun _ _ h' => h'.elim)) fun _ _ h' => h'.elim))
theorem codeAny_compLoop_any {prog : Program} {w : World} {A : Around} {R : Result → Shared → Prop} {s : Shared} {elt target iter : Expr} {scope : Scope} {pos : Pos} {it acc : Value} {env : Env} (I : Nat → Shared → Prop)
    (turn : ∀ n s, I n s → wpAny (model prog w) A (pyNext it) (fun r s₁ => match r with
      | none => R (.ok .next) s₁
      | some v => wpAny (model prog w) A (letOwnedTupleGo target it v) (fun _ s₁' => wpAny (model prog w) A (assign target env v) (fun _ s₂ => wpAny (model prog w) A (eval elt env) (fun x s₃ =>
          wpAny (model prog w) A (call (.builtin "list.append") [acc, x]) (fun _ s₄ => ∃ m, m < n ∧ I m s₄) (fun _ _ => False) s₃)
          (fun _ _ => False) s₂) (fun _ _ => False) s₁') (fun _ _ => False) s₁) (fun _ _ => False) s)
    (n : Nat) (h : I n s) :
    codeAny (model prog w) A (.compLoop (.ListComp elt [⟨target, iter, [], 0⟩] scope pos) 0 it acc env) R s := by
  refine codeAny_loop rfl I (fun n s hI => ?_) n h
  show wpAny _ _ ((compTurn (.ListComp elt [⟨target, iter, [], 0⟩] scope pos) 0 it acc env).onRaise (fun x => do noteFrame x env; theTreesLotGoes x)) _ _ s
  refine wpAny_noted ?_
  rw [compTurn_list1]
  refine wpAny_bind (wpAny_standAt (wpAny_bind (wpAny_mono (turn n s hI) (fun r s₁ h₁ => ?_) fun _ _ h' => h'.elim)))
  cases r with
  | none => exact wpAny_pure h₁
  | some v =>
    refine wpAny_bind (wpAny_mono h₁ (fun _ s₁' h₁' => ?_) fun _ _ h' => h'.elim)
    exact wpAny_bind (wpAny_mono h₁' (fun _ s₂ h₂ => wpAny_bind (wpAny_bind (wpAny_mono h₂ (fun x s₃ h₃ => wpAny_bind (wpAny_mono h₃
      (fun _ s₄ h₄ => wpAny_pure (wpAny_pure ⟨rfl, h₄⟩)) fun _ _ h' => h'.elim)) fun _ _ h' => h'.elim))) fun _ _ h' => h'.elim)

noncomputable def compAt (te : TE) (σ : St) (Q : VK) (J : It) (H1 : Hp) : Prop := ∀ D, H1 D = none → ∃ W : Nat → Nat → List V → Hp → Prop, (∃ m, W 0 m [] (upd H1 D (.lst []))) ∧ ∀ i m ys H2, W i m ys H2 →
  (J.stop i H2 ∧ Q (.ref D) H2) ∨ (J.go i H2 ∧ ys.length < sizeLine ∧ ∃ N : V → Hp → Prop, (∀ v H', N v H' → H' D = some (.lst ys) ∧ ∃ m', m' < m ∧ W (i + 1) m' (ys ++ [v]) (upd H' D (.lst (ys ++ [v])))) ∧
    ∀ y H', J.yld i H2 y H' → te (some y :: σ) H' N)
noncomputable def tComp (wi : TI) (te : TE) : TE := fun σ H Q => wi σ H (compAt te σ Q)

noncomputable def compAtF (tc : TT) (te : TE) (σ : St) (Q : VK) (J : It) (H1 : Hp) : Prop := ∀ D, H1 D = none → ∃ W : Nat → Nat → List V → Hp → Prop, (∃ m, W 0 m [] (upd H1 D (.lst []))) ∧ ∀ i m ys H2, W i m ys H2 →
  (J.stop i H2 ∧ Q (.ref D) H2) ∨ (J.go i H2 ∧ ys.length < sizeLine ∧ ∃ N : V → Hp → Prop, (∀ v H', N v H' → H' D = some (.lst ys) ∧ ∃ m', m' < m ∧ W (i + 1) m' (ys ++ [v]) (upd H' D (.lst (ys ++ [v])))) ∧
    ∃ Nn : Hp → Prop, (∀ H', Nn H' → ∃ m', m' < m ∧ W (i + 1) m' ys H') ∧
    ∀ y H', J.yld i H2 y H' → tc (some y :: σ) H' fun b H'' => if b = true then te (some y :: σ) H'' N else Nn H'')
noncomputable def tCompF (wi : TI) (tc : TT) (te : TE) : TE := fun σ H Q => wi σ H (compAtF tc te σ Q)

section
variable {X : Cx} {N' : List Str} {scope : Scope} {x : Str} {px : Pos} {elt iter : Expr} {cds : List Expr} {pos : Pos} {te : TE} {tc : TT} {wi : TI}

theorem compx_core (S : CompSc X.N N' X.env.scope scope x) (hc : X.calm = true) (ht : ∀ cl C s H fp, PTL (cxComp X N' scope cl C s H fp) cds tc) (he : ∀ cl C s H fp, PE (cxComp X N' scope cl C s H fp) elt te)
    {pins : List (Addr × Obj)} {σ : St} {H : Hp} {s : Shared} {Q : VK} {E : Value → Shared → Prop} {RR : Value → Addr → Result → Shared → Prop} {it : Addr} {fp : List Addr} {tn : Nat → Heap → Prop} {J : It}
    (I : Inv X pins σ H s) (T : Turn X.prog X.w X.K (.Name x px) J fp it tn) (st : tn 0 s.heap) (f2 : ∀ b ∈ fp, FpOk X pins H b)
    (hw : compAtF tc te σ Q J H)
    (hRR : ∀ D C s' H', Inv X pins σ H' s' → (∃ m, s'.heap.Ns C m) → C ≠ X.env.locals → (∀ y c, X.env.cells.lookup y = some c → c ≠ C) → H' C = none → X.s₀.heap.objs.size ≤ C → (∀ p ∈ X.pn ++ pins, p.1 ≠ C) → Q (.ref D) H' → RR (.ref D) C (.ok .next) s') :
    ∃ cl, closureFor scope X.env = pure cl ∧ wpAny (model X.prog X.w) X.A (newList []) (fun acc s₃ => wpAny (model X.prog X.w) X.A (newFunctionEnv scope X.env.globals cl [] X.env.qual none .none (some X.env)) (fun cenv s₄ =>
      codeAny (model X.prog X.w) X.A (.compStart (.ListComp elt [⟨.Name x px, iter, cds, 0⟩] scope pos) 0 (.ref it) acc { cenv with scope := relabel scope X.env }) (RR acc cenv.locals) s₄) E s₃) E s := by
  have hfree : ∀ z ∈ scope.names, z.2 = .free → ∃ c, X.env.cells.lookup z.1 = some c := fun z hz hk => by
    rcases S.ok z hz hk with q | q
    · exact I.ok.has z.1 (.inl q)
    · exact I.ok.has z.1 (.inr q)
  refine ⟨_, clos_eq hfree, ?_⟩
  have clS : ∀ y c, (closOf X.env.cells scope.names []).lookup y = some c → X.env.cells.lookup y = some c := fun y c => clos_sound scope.names [] hfree fun q => by cases q
  generalize hcl : closOf X.env.cells scope.names [] = cl at clS
  have clH : ∀ y, scope.names.lookup y = some .free → ∃ c, cl.lookup y = some c := fun y hy => by
    rw [← hcl]
    exact clos_has scope.names [] (lookup_mem hy)
  refine wpAny_newObj_type (wpAny_newFunctionEnv S.cell (by intro y hy; simp at hy) (fun h₁ hns₁ hsb₁ => ?_) S.kind)
  have I3 : Inv X pins σ (upd H s.heap.objs.size (.lst [])) { s with heap := s.heap.push { cls := .type "list", data := .seq ([] : List Value).toArray } } := I.lnew (t' := s.toks) .nil (Nat.zero_le _)
  obtain ⟨W, ⟨m0, w0⟩, turn⟩ := hw s.heap.objs.size I.fresh
  dsimp only at hns₁ hsb₁ ⊢
  generalize hs3 : ({ s with heap := s.heap.push { cls := .type "list", data := .seq ([] : List Value).toArray } } : Shared) = s3 at I3
  have hh3 : s3.heap = s.heap.push { cls := .type "list", data := .seq ([] : List Value).toArray } := by rw [← hs3]
  have hsz3 : s3.heap.objs.size = s.heap.objs.size + 1 := by rw [hh3, Heap.size_push]
  rw [← hh3] at hns₁ hsb₁ ⊢
  have old : ∀ b o, s3.heap.get? b = some o → h₁.get? b = some o := fun b o e => hsb₁.extBut b o (by have := Heap.lt_size e; exact Nat.ne_of_lt this) (Heap.get?_push_of_some _ e)
  have old0 : ∀ b o, s.heap.get? b = some o → h₁.get? b = some o := fun b o e => old b o (by rw [hh3]; exact Heap.get?_push_of_some _ e)
  have CneL : s3.heap.objs.size ≠ X.env.locals := Nat.ne_of_gt I3.lt
  have CneC : ∀ y c, X.env.cells.lookup y = some c → c ≠ s3.heap.objs.size := fun y c e z => by
    obtain ⟨v, q⟩ := I3.cell y c e
    have := q.lt
    rw [z] at this
    exact absurd this (Nat.lt_irrefl _)
  have CneP : ∀ p ∈ X.pn ++ pins, p.1 ≠ s3.heap.objs.size := fun p hp z => by
    have := Heap.lt_size (I3.pin p hp).1
    rw [z] at this
    exact absurd this (Nat.lt_irrefl _)
  have CfreeH : ∀ b o, s3.heap.get? b = some o → b < s3.heap.objs.size := fun b o e => by have := Heap.lt_size e; exact this
  have fpLt : ∀ b ∈ fp, b < s3.heap.objs.size := fun b hb => by
    obtain ⟨o, e, _⟩ := T.obj 0 s.heap st b hb
    rw [hsz3]
    exact Nat.lt_succ_of_lt (Heap.lt_size e)
  have fpD : ∀ b ∈ fp, b ≠ s.heap.objs.size := fun b hb => by
    obtain ⟨o, e, _⟩ := T.obj 0 s.heap st b hb
    exact Nat.ne_of_lt (Heap.lt_size e)

  have ok' : (cxComp X N' scope cl s3.heap.objs.size s3 (upd H s.heap.objs.size (.lst [])) fp).Ok := by
    refine ⟨I3.ok.mod, ?_, I3.ok.glob, I3.ok.blt, Nat.le_refl _, fun y z c h1 h2 => I3.ok.inj y z c (clS y c h1) (clS z c h2), fun y hy => ?_, fun y c hf => (by cases hf), I3.ok.hd, I3.ok.frames, .inl rfl, fun b hb => ⟨Nat.ne_of_lt (fpLt b hb), fun y c e => (f2 b hb).2.2.2.2.1 y c (clS y c e)⟩,
      fun b o e => I3.bs b o e, Nat.le_trans I3.ok.bsz I3.sz, fun b o e hb => ?_, fun b hb z => ?_, I3.stack, I3.stkFree⟩
    · show (relabel scope X.env).kind = .function
      exact S.kind
    · have hy' : (relabel scope X.env).names.lookup y = some .cell ∨ (relabel scope X.env).names.lookup y = some .free := hy
      rw [relabel_lookup] at hy'
      cases q : scope.names.lookup y with
      | none => rw [q] at hy'; rcases hy' with z | z <;> cases z
      | some k =>
        have hm := lookup_mem q
        cases k with
        | free => exact clH y q
        | cell => exact absurd rfl (S.cell _ hm)
        | «local» => rw [q] at hy'; rcases hy' with z | z <;> simp at z
        | globalExplicit => rw [q] at hy'; rcases hy' with z | z <;> simp at z
        | globalImplicit => rw [q] at hy'; rcases hy' with z | z <;> simp at z
    · rcases (f2 b hb).2.2.2.1 with z | z
      · exact I.ok.noex b o e z
      · exact absurd (Nat.lt_of_lt_of_le (Heap.lt_size e) (Nat.le_trans I.ok.bsz z)) (Nat.lt_irrefl _)
    · rcases List.mem_cons.mp (I3.stkSub b z) with q | q
      · exact (f2 b hb).2.1 q
      · exact (f2 b hb).2.2.1 q
  have fpOk' : ∀ {H' : Hp}, (∀ b ∈ fp, H' b = none) → ∀ b ∈ fp, FpOk (cxComp X N' scope cl s3.heap.objs.size s3 (upd H s.heap.objs.size (.lst [])) fp) pins H' b := fun hn b hb =>
    ⟨hn b hb, Nat.ne_of_lt (fpLt b hb), fun z => by
      rcases List.mem_cons.mp (I3.stkSub b z) with q | q
      · exact (f2 b hb).2.1 q
      · exact (f2 b hb).2.2.1 q, .inl hb, fun y c e => (f2 b hb).2.2.2.2.1 y c (clS y c e), (f2 b hb).2.2.2.2.2⟩
  have I4 : Inv (cxComp X N' scope cl s3.heap.objs.size s3 (upd H s.heap.objs.size (.lst [])) fp) pins (none :: σ) (upd H s.heap.objs.size (.lst [])) { s3 with heap := h₁, toks := s3.toks + ([] : List (Str × Value)).length } := by
    refine ⟨ok', rfl, I3.bare, Un.kept old, ⟨_, hns₁, fun i y v e1 e2 vis => ?_⟩, fun y c e => ?_, ?_, fun y c e => I3.freeC y c (clS y c e), fun p hp => ?_, I3.hok.kept old, ?_⟩
    · cases i with
      | zero => cases e2
      | succ i =>
        have e2' : σ[i]? = some (some v) := by simpa using e2
        have hi : i < X.N.length := by rw [← I3.len]; exact (List.getElem?_eq_some_iff.mp e2').1
        have vis' : (relabel scope X.env).names.lookup y = some .local ∨ (relabel scope X.env).names.lookup y = some .cell ∨ (relabel scope X.env).names.lookup y = some .free := vis
        have e1' : N'[i + 1]? = some y := e1
        rcases S.sub i hi with q | q
        · rw [e1'] at q
          have hy : X.N[i]? = some y := q.symm
          have hmem : y ∈ N'.tail := by
            rw [List.mem_iff_getElem?]
            exact ⟨i, by rw [List.getElem?_tail]; exact e1'⟩
          have hfr : scope.names.lookup y = some .free := by
            rw [relabel_lookup] at vis'
            cases q2 : scope.names.lookup y with
            | none => rw [q2] at vis'; rcases vis' with z | z | z <;> cases z
            | some k =>
              cases k with
              | free => rfl
              | cell => exact absurd rfl (S.cell _ (lookup_mem q2))
              | «local» => exact absurd q2 (S.nol y hmem)
              | globalExplicit => rw [q2] at vis'; rcases vis' with z | z | z <;> simp at z
              | globalImplicit => rw [q2] at vis'; rcases vis' with z | z | z <;> simp at z
          have hok := S.ok (y, .free) (lookup_mem hfr) rfl
          obtain ⟨m, hn, hl⟩ := I3.loc
          have visX : Vis X.env.scope y := by
            rcases hok with z | z
            · exact .inr (.inl z)
            · exact .inr (.inr z)
          obtain ⟨u, r, l⟩ := hl i y v hy e2' visX
          refine ⟨u, r, .inr ⟨?_, ?_⟩⟩
          · show (relabel scope X.env).names.lookup y = some .cell ∨ (relabel scope X.env).names.lookup y = some .free
            rw [relabel_lookup, hfr, Option.map_some]
            by_cases hcnd : (NameKind.free == NameKind.free && X.env.scope.kind == .function && X.env.kindOf y == some .cell) = true
            · left
              rw [if_pos hcnd]
            · right
              rw [if_neg hcnd]
          · rcases l with ⟨k, _⟩ | ⟨k, c, e, z⟩
            · have k' : X.env.scope.names.lookup y = some .local := k
              have hok' : X.env.scope.names.lookup y = some .cell ∨ X.env.scope.names.lookup y = some .free := hok
              rw [k'] at hok'
              rcases hok' with z | z <;> cases z
            · obtain ⟨c', e'⟩ := clH y hfr
              have e3 := clS y c' e'
              rw [e] at e3
              cases e3
              obtain ⟨o, ho, hd⟩ := z
              exact ⟨c, e', o, old c o ho, hd⟩
        · rw [e1'] at q
          have q : scope.names.lookup y = none := Option.some.inj q
          rw [relabel_lookup, q] at vis'
          rcases vis' with z | z | z <;> cases z
    · obtain ⟨v, o, ho, hd⟩ := I3.cell y c (clS y c e)
      exact ⟨v, o, old c o ho, hd⟩
    · show upd H s.heap.objs.size (.lst []) s3.heap.objs.size = none
      exact I3.hok.fresh (Nat.le_refl _)
    · obtain ⟨e, n, ne, nf, d⟩ := I3.pin p hp
      refine ⟨old _ _ e, n, CneP p hp, fun z => ?_, d⟩
      rcases List.mem_cons.mp (I3.stkSub p.1 z) with q | q
      · exact ne q
      · exact nf q
    · show (none :: σ).length = N'.length
      rw [S.len, List.length_cons, I3.len]
  have st4 : tn 0 h₁ := T.keep 0 s.heap h₁ st fun b _ o e => old0 b o e

  have loop : ∀ s₄ : Shared, s₄ = { s3 with heap := h₁, toks := s3.toks + ([] : List (Str × Value)).length } →
      codeAny (model X.prog X.w) X.A (.compLoop (.ListComp elt [⟨.Name x px, iter, cds, 0⟩] scope pos) 0 (.ref it) (.ref s.heap.objs.size) (compEnvC scope cl s3.heap.objs.size X.env)) (RR (.ref s.heap.objs.size) s3.heap.objs.size) s₄ := by
    rintro s₄ rfl
    refine codeAny_compLoop_ts (fun n s' => ∃ i v0 ys H', Inv (cxComp X N' scope cl s3.heap.objs.size s3 (upd H s.heap.objs.size (.lst [])) fp) pins (v0 :: σ) H' s' ∧ tn i s'.heap ∧ (∀ b ∈ fp, H' b = none) ∧ W i n ys H') ?_ m0
      ⟨0, none, [], _, I4, st4, fun b hb => by rw [upd_ne (fpD b hb)]; exact (f2 b hb).1, w0⟩
    rintro n s5 ⟨i, v0, ys, H5, I5, st5, fr5, w5⟩
    rcases turn i n ys H5 w5 with ⟨stop, qn⟩ | ⟨go, hz, N, hN, Nn, hNn, step⟩
    · refine thn (T.done (cxComp X N' scope cl s3.heap.objs.size s3 (upd H s.heap.objs.size (.lst [])) fp) rfl rfl rfl hc i pins s5 (v0 :: σ) H5 (fun _ _ => False) I5 (fpOk' fr5) st5 stop) fun r s6 ⟨hr, I6⟩ => ?_
      subst hr
      have hch : ∀ b ∈ fp, (b ∈ X.ex ∨ X.s₀.heap.objs.size ≤ b) ∧ b ≠ X.env.locals ∧ (∀ x c, X.env.cells.lookup x = some c → c ≠ b) ∧ ∀ p ∈ X.pn ++ pins, p.1 ≠ b := fun b hb =>
        ⟨(f2 b hb).2.2.2.1, (f2 b hb).2.1, (f2 b hb).2.2.2.2.1, (f2 b hb).2.2.2.2.2⟩
      have I7 : Inv X pins σ H5 s6 := I3.call' (ch := fp) I6.os I6.base I6.hok I6.bare hch
      obtain ⟨m, hm, _⟩ := I6.loc
      exact hRR s.heap.objs.size s3.heap.objs.size s6 H5 I7 ⟨m, hm⟩ CneL CneC I6.free (Nat.le_trans I3.sz (Nat.le_refl _)) CneP qn
    · refine thn (T.item (cxComp X N' scope cl s3.heap.objs.size s3 (upd H s.heap.objs.size (.lst [])) fp) rfl rfl rfl hc i pins s5 (v0 :: σ) H5 (fun _ _ => False) I5 (fpOk' fr5) st5 go) fun r s6 ⟨u, hr, h6⟩ => ?_
      subst hr
      refine thn h6 fun _ s7 ⟨y, H7, I7, r7, y7, st7, fr7⟩ => ?_
      have I7' := I7.pinned (fpOk' fr7) (T.obj _ _ st7)
      refine wpAny_assign_Name (store_ok (i := 0) (v := y) I7' S.nd S.hd (.inl (lookup_relabel_local S.var)) r7 (fun s8 I8 => ?_) (.inr (lookup_relabel_local S.var)))
      have I8' : Inv (cxComp X N' scope cl s3.heap.objs.size s3 (upd H s.heap.objs.size (.lst [])) fp) (pins ++ pinsAt fp s7.heap) (some y :: σ) H7 s8 := I8
      refine thn (ht cl s3.heap.objs.size s3 (upd H s.heap.objs.size (.lst [])) fp _ s8 (some y :: σ) H7 (fun b H'' => if b = true then te (some y :: σ) H'' N else Nn H'') I8' (step y H7 y7)) fun okb s8 ⟨H8, I8, q8⟩ => ?_
      cases okb with
      | false =>
        have q8' : Nn H8 := by simpa using q8
        obtain ⟨m', hm, w9⟩ := hNn H8 q8'
        refine ⟨m', hm, i + 1, some y, ys, _, I8.unpinned, T.keep _ _ _ st7 fun b hb o e => (I8.pin (b, o) (List.mem_append_right _ (List.mem_append_right _ (mem_pinsAt hb e)))).1, fun b hb => ?_, w9⟩
        obtain ⟨o, e, d⟩ := T.obj _ _ st7 b hb
        exact (I8.pin (b, o) (List.mem_append_right _ (List.mem_append_right _ (mem_pinsAt hb e)))).2.1
      | true =>
        refine thn (he cl s3.heap.objs.size s3 (upd H s.heap.objs.size (.lst [])) fp _ s8 (some y :: σ) H8 N I8 (by simpa using q8)) fun w s9 ⟨v, H9, I9, r9, q9⟩ => ?_
        obtain ⟨hD9, m', hm, w9⟩ := hN v H9 q9
        refine thn (mt_append _ s9 (some y :: σ) H9 (.ref s.heap.objs.size) [v] (.ref s.heap.objs.size) [w] (fun z H10 => z = .non ∧ H10 = upd H9 s.heap.objs.size (.lst (ys ++ [v]))) I9 rfl (.cons r9 .nil) ⟨s.heap.objs.size, ys, v, rfl, rfl, hD9, hz, rfl, rfl⟩) fun _ s10 ⟨z, H10, I10, _, ez, e10⟩ => ?_
        subst e10
        refine ⟨m', hm, i + 1, some y, ys ++ [v], _, I10.unpinned, T.keep _ _ _ st7 fun b hb o e => (I10.pin (b, o) (List.mem_append_right _ (List.mem_append_right _ (mem_pinsAt hb e)))).1, fun b hb => ?_, w9⟩
        obtain ⟨o, e, d⟩ := T.obj _ _ st7 b hb
        exact (I10.pin (b, o) (List.mem_append_right _ (List.mem_append_right _ (mem_pinsAt hb e)))).2.1
  exact codeAny_compStart_list (loop _ (by rw [← hs3])) (T.self X.A 0 _ _ _ st4 (loop _ (by rw [← hs3])))
theorem compAt.toF {te : TE} {σ : St} {Q : VK} {J : It} {H : Hp} (hw : compAt te σ Q J H) : compAtF (fun _ H k => k true H) te σ Q J H := fun D hD => by
  obtain ⟨W, h0, hW⟩ := hw D hD
  refine ⟨W, h0, fun i m ys H2 hw2 => ?_⟩
  rcases hW i m ys H2 hw2 with g | ⟨g1, g2, N, g3, g4⟩
  · exact .inl g
  · exact .inr ⟨g1, g2, N, g3, fun _ => False, fun _ z => z.elim, fun y H' hy => iteT (g4 y H' hy)⟩
theorem pe_compx {at' : St → VK → It → Hp → Prop} (S : CompSc X.N N' X.env.scope scope x) (hc : X.calm = true) (hi : PI X (.Name x px) iter wi) (ht : ∀ cl C s H fp, PTL (cxComp X N' scope cl C s H fp) cds tc) (he : ∀ cl C s H fp, PE (cxComp X N' scope cl C s H fp) elt te) (cv : ∀ σ Q J H, at' σ Q J H → compAtF tc te σ Q J H)
    (hs : ∀ x, foldedSetIterable iter X.env x = pure x := by intro _; rfl) : PE X (.ListComp elt [⟨.Name x px, iter, cds, 0⟩] scope pos) (fun σ H Q => wi σ H (at' σ Q)) := by
  intro pins s σ H Q I h
  rw [eval_ListComp]
  have hfree : ∀ z ∈ scope.names, z.2 = .free → ∃ c, X.env.cells.lookup z.1 = some c := fun z hz hk => by
    rcases S.ok z hz hk with q | q
    · exact I.ok.has z.1 (.inl q)
    · exact I.ok.has z.1 (.inr q)
  refine wpAny_comprehension_free (use := none) rfl hs (clos_eq hfree) S.kind S.names (thn (hi pins s σ H _ I h) fun xv s1 h1 => thn h1 fun itv s2 h2 => ?_)
  obtain ⟨it, fp, tn, J, H2, e, I2, T, st2, f2, hw⟩ := h2
  subst e
  obtain ⟨cl, hcl, hrun⟩ := compx_core (tc := tc) (cds := cds) (elt := elt) (iter := iter) (pos := pos) (px := px) (E := X.xe) (RR := fun acc C => compPost (model X.prog X.w) X.A X.xe none (EP X pins σ Q) acc C) S hc ht he I2 T st2 f2 (cv _ _ _ _ hw) (fun D C s' H' I' ⟨m, hm⟩ n1 n2 n3 n4 n5 q =>
    ⟨m, hm, fun h' hsb => ⟨.ref D, H', I'.turned (it := C) (t' := s'.toks) (fun b o hb e => (hsb.2 b hb).trans e) n3 n1 (.inr n4) n2 n5, rfl, q⟩⟩)
  have ecl : (pure (closOf X.env.cells scope.names []) : Sem (List (Str × Addr))) = pure cl := (clos_eq hfree).symm.trans hcl
  have ecl' : closOf X.env.cells scope.names [] = cl := by
    injection ecl
  rw [ecl']
  exact hrun
theorem ps_setCompx {at' : St → VK → It → Hp → Prop} {i : Nat} {y : Str} {py spos : Pos} (S : CompSc X.N N' X.env.scope scope x) (hc : X.calm = true) (hi : PI X (.Name x px) iter wi) (ht : ∀ cl C s H fp, PTL (cxComp X N' scope cl C s H fp) cds tc) (he : ∀ cl C s H fp, PE (cxComp X N' scope cl C s H fp) elt te) (cv : ∀ σ Q J H, at' σ Q J H → compAtF tc te σ Q J H)
    (hN : X.N.Nodup) (hy : X.N[i]? = some y) (hyl : X.env.scope.names.lookup y = some .local)
    (hsw : swapsWith (.ListComp elt [⟨.Name x px, iter, cds, 0⟩] scope pos) (some (.Name y py)) spos.line X.env = pure true := by rfl)
    (hs : ∀ x, foldedSetIterable iter X.env x = pure x := by intro _; rfl) : PS X (.Assign [.Name y py] (.ListComp elt [⟨.Name x px, iter, cds, 0⟩] scope pos) spos) (tAsg (fun σ H Q => wi σ H (at' σ Q)) (gName i)) := by
  intro pins s σ H D0 I h
  have hfree : ∀ z ∈ scope.names, z.2 = .free → ∃ c, X.env.cells.lookup z.1 = some c := fun z hz hk => by
    rcases S.ok z hz hk with q | q
    · exact I.ok.has z.1 (.inl q)
    · exact I.ok.has z.1 (.inr q)
  rw [exec_Assign_Name_used _ _ _ _ hsw]
  refine wpAny_bind (wpAny_standAt (wpAny_bind ?_))
  show wpAny _ X.A (do let _ ← comprehension (.ListComp elt [⟨.Name x px, iter, cds, 0⟩] scope pos) scope X.env _ (newList []) false (eval iter X.env) (some (assign (.Name y py) X.env))) _ _ s
  refine wpAny_bind (wpAny_mono (wpAny_comprehension_free (use := some (assign (.Name y py) X.env)) (Q := fun _ s' => SP X pins D0 .next s') rfl hs (clos_eq hfree) S.kind S.names
    (thn (hi pins s σ H _ I h) fun xv s1 h1 => thn h1 fun itv s2 h2 => ?_)) (fun _ s' hq => wpAny_pure (wpAny_pure hq)) fun _ _ e => e)
  obtain ⟨it, fp, tn, J, H2, e, I2, T, st2, f2, hw⟩ := h2
  subst e
  obtain ⟨cl, hcl, hrun⟩ := compx_core (tc := tc) (cds := cds) (elt := elt) (iter := iter) (pos := pos) (px := px) (E := X.xe) (Q := fun x H1 => gName i x σ H1 D0.nx) (RR := fun acc C => compPost (model X.prog X.w) X.A X.xe (some (assign (.Name y py) X.env)) (fun _ s' => SP X pins D0 .next s') acc C) S hc ht he I2 T st2 f2 (cv _ _ _ _ hw) (fun D C s' H' I' ⟨m, hm⟩ n1 n2 n3 n4 n5 q => by
    show wpAny _ X.A (assign (.Name y py) X.env (.ref D)) _ _ _
    refine wpAny_assign_Name (store_ok2 (i := i) (v := .ref D) I' hN hy (.inl hyl) rfl (fun s'' I'' ⟨a, hsa, hwa⟩ => ?_) (.inr hyl))
    have haC : C ≠ a := by
      rcases hwa with z | z
      · rw [z]; exact n1
      · intro z2
        exact n2 y a z z2.symm
    refine ⟨m, hm.sameBut hsa haC, fun h' hsb => ?_⟩
    exact ⟨_, H', I''.turned (it := C) (t' := s''.toks) (fun b o hb e => (hsb.2 b hb).trans e) n3 n1 (.inr n4) n2 n5, q⟩)
  have ecl : (pure (closOf X.env.cells scope.names []) : Sem (List (Str × Addr))) = pure cl := (clos_eq hfree).symm.trans hcl
  have ecl' : closOf X.env.cells scope.names [] = cl := by
    injection ecl
  rw [ecl']
  exact hrun
theorem pe_comp (S : CompSc X.N N' X.env.scope scope x) (hc : X.calm = true) (hi : PI X (.Name x px) iter wi) (he : ∀ cl C s H fp, PE (cxComp X N' scope cl C s H fp) elt te)
    (hs : ∀ x, foldedSetIterable iter X.env x = pure x := by intro _; rfl) : PE X (.ListComp elt [⟨.Name x px, iter, [], 0⟩] scope pos) (tComp wi te) :=
  pe_compx (at' := fun σ Q => compAt te σ Q) S hc hi (fun _ _ _ _ _ => ptl_nil) he (fun _ _ _ _ h => h.toF) hs
theorem ps_setComp {i : Nat} {y : Str} {py spos : Pos} (S : CompSc X.N N' X.env.scope scope x) (hc : X.calm = true) (hi : PI X (.Name x px) iter wi) (he : ∀ cl C s H fp, PE (cxComp X N' scope cl C s H fp) elt te)
    (hN : X.N.Nodup) (hy : X.N[i]? = some y) (hyl : X.env.scope.names.lookup y = some .local)
    (hsw : swapsWith (.ListComp elt [⟨.Name x px, iter, [], 0⟩] scope pos) (some (.Name y py)) spos.line X.env = pure true := by rfl)
    (hs : ∀ x, foldedSetIterable iter X.env x = pure x := by intro _; rfl) : PS X (.Assign [.Name y py] (.ListComp elt [⟨.Name x px, iter, [], 0⟩] scope pos) spos) (tAsg (tComp wi te) (gName i)) :=
  ps_setCompx (at' := fun σ Q => compAt te σ Q) S hc hi (fun _ _ _ _ _ => ptl_nil) he (fun _ _ _ _ h => h.toF) hN hy hyl hsw hs
end

end L2

set_option Elab.async false
set_option linter.all false
set_option maxRecDepth 100000
set_option maxHeartbeats 4000000

namespace L2
open PySem PySem.Spec PyProof.Rows

set_option genInjectivity false in
structure Cal (P : Program) (w : World) (K : PySem.W.Frag) (mg : Str → Option Value) (base : Heap) (CX : CXT) (x : Str) (k : Nat) (ps : List Str) (sp : Sp) : Prop where
  ex : ∃ (f : Addr) (fd : FuncData), FnOk P w K mg base CX k f fd ps sp ∧ mg x = some (.ref f) ∧ PySem.W.keepIn K (.ref f) = true ∧ Binds K fd ps []
section
variable {X : Cx}
theorem pe_cal {CX : CXT} {x : Str} {j k : Nat} {ps : List Str} {sp : Sp} {E : XK} {e : Expr} {es : List Expr} {t : TA} {p pos : Pos} (c : Cal X.prog X.w X.K X.mg X.base CX x j ps sp) (hr : Room k X.A) (hx : Passes CX X E) (ha : PA X (e :: es) t)
    (hjk : j ≤ k := by decide) (hg : Gl X x := by rfl) (hdb : (x == ("__debug__" : Str)) = false := by decide) (he : starEach (e :: es) X.env = (false, eval e X.env) :: starEach es X.env := by rfl) (hpl : (backTo pos (starEach es X.env)).any (·.1) = false := by rfl) :
    PE X (.Call (.Name x p) (e :: es) [] pos) (tCall sp [] E t) := by
  obtain ⟨f, fd, F, hm, hk, hb⟩ := c.ex
  exact pe_call F (hr.mono hjk) hg hm hk hb .nil hx ha hdb he hpl

theorem pe_strT (l : List Nat) {x : Str} {j pos} (h : x = tx l) : PE X (.Constant (.str x) j pos) (tC (T l)) := by
  subst h
  exact pe_str
theorem call_len_T : CallR X (.builtin "len") (fun xs H Q => ∃ (l : List Nat), xs = [T l] ∧ l.length ≤ sizeLine ∧ Q (.int (l.length : Nat)) H) := by
  intro pins s σ H xs us Q I r h
  obtain ⟨l, e, hz, q⟩ := h
  exact call_len_str pins s σ H xs us Q I r ⟨tx l, e, by rw [tx_len]; exact hz, by rw [tx_len]; exact q⟩
theorem ix_T : IxR X (fun x y H Q => ∃ (l : List Nat), x = T l ∧ ∃ (i : Int), y = .int i ∧ l.length ≤ sizeLine ∧ ∃ c, atI l i = some c ∧ Q (T [c]) H) := by
  intro value slice pins s σ H x y v u Q I rx ry h hs
  obtain ⟨l, e1, i, e2, hz, c, hc, q⟩ := h
  exact ix_str value slice pins s σ H x y v u Q I rx ry ⟨tx l, i, c, e1, e2, by rw [tx_len]; exact hz, by rw [tx_cps]; exact hc, q⟩ hs

theorem call_isinst : CallR X (.builtin "isinstance") (fun xs H Q => ∃ (x : V) (c : String) (t : Value) (b : Bool), xs = [x, .ty c] ∧ TyOf X.K H x t ∧ PySem.W.kitOne X.K t (.type c) = some b ∧ Q (.bl b) H) := by
  intro pins s σ H xs us Q I r h
  obtain ⟨x, c, t, b, rfl, ty, e, q⟩ := h
  obtain ⟨u, w', rfl, ru, rw'⟩ := vals2 r
  cases (show w' = Value.type c from rw')
  exact isinst_ok I ru ty e fun tk => ⟨.bl b, H, I.tok tk, rfl, q⟩
theorem kit_same {K : PySem.W.Frag} (T : String) : PySem.W.kitOne K (.type T) (.type T) = some true := by
  unfold PySem.W.kitOne
  rw [if_pos (by simp)]
theorem kit_int_bool {K : PySem.W.Frag} : PySem.W.kitOne K (.type "int") (.type "bool") = some false := by
  unfold PySem.W.kitOne
  rw [if_neg (by decide)]
  rfl

theorem op_catL : OpR X (binaryOp .Add) (fun x y H Q => ∃ (l b : Addr) (xs zs : List V), x = .ref l ∧ y = .ref b ∧ SqL X.K H l xs ∧ SqL X.K H b zs ∧ xs.length + zs.length ≤ sizeLine ∧ ∀ p, H p = none → Q (.ref p) (upd H p (.lst (xs ++ zs)))) := by
  intro pins s σ H x y v u Q I rx ry h
  obtain ⟨l, b, xs, zs, rfl, rfl, hH, hB, hz, q⟩ := h
  cases rx
  cases ry
  obtain ⟨its, r, ⟨⟨cls, dd, data, sl⟩, n, ho, hc, hdd, hd⟩, _⟩ := I.list hH
  obtain ⟨its2, r2, ⟨⟨cls2, dd2, data2, sl2⟩, n2, ho2, hc2, hdd2, hd2⟩, _⟩ := I.list hB
  simp only at hc hd hc2 hd2
  subst hc hd hc2 hd2
  have e : its.toArray ++ its2.toArray = (its ++ its2).toArray := by simp
  refine concat_meets ⟨_, ho, rfl⟩ ⟨_, ho2, rfl⟩ noFill_list_add seq_list_add PySem.F.slot_list_add PySem.F.entry_list_add (PySem.F.args_list_add_2 _ _) (list_addW l b its.toArray its2.toArray n n2 dd dd2 sl sl2 (by rw [List.size_toArray, List.size_toArray, ← r.length, ← r2.length]; exact hz)) ⟨ho, ho2, ?_⟩
  rw [e]
  exact ⟨.ref _, _, I.lnew (t' := s.toks) (r.append r2) (by rw [List.length_append]; exact hz), rfl, q _ I.fresh⟩

theorem all_flat (ls : List (List Nat)) : (ls.map T).all flatV = true := by
  rw [List.all_map, List.all_eq_true]
  intro l _
  rfl
end
end L2

set_option Elab.async false
set_option linter.all false
set_option maxRecDepth 100000
set_option maxHeartbeats 4000000

namespace L2
open PySem PySem.Spec PyProof.Rows

set_option genInjectivity false in
structure Fly (P : Program) (w : World) (outer : List Env) (H : Hp) (s : Shared) (a : Addr) (cls : Value) (H' : Hp) (s' : Shared) : Prop where
  os : s'.os = s.os
  bare : AllBare s'.gens
  ex : ∃ (B : Heap) (t : Addr), Heap.FlyingW B outer a cls (.ref t) s'.heap ∧ HOk P w H' B ∧ (∀ b o, s.heap.get? b = some o → H b = none → b ∉ frs outer → B.get? b = some o) ∧
    ∀ b o, s.heap.get? b = some o → b ∉ frs outer → ∃ o', B.get? b = some o'
  slot : ∀ b o, s.heap.get? b = some o → H b = none → b ∈ frs outer → ∃ sl, s'.heap.get? b = some { o with slots := sl }
  free : ∀ b o, s.heap.get? b = some o → H b = none → H' b = none
  tups : ∀ b xs, H b = some (.tup xs) → H' b = some (.tup xs)
  frzs : ∀ b o u, H b = some (.frz o u) → H' b = some (.frz o u)
  tbls : ∀ b ps, H b = some (.tbl ps) → ∃ more, H' b = some (.tbl (ps ++ more))
noncomputable def CX1 (P : Program) (w : World) : CXT := fun outer H s E e s' => ∃ a cls H', e = .ref a ∧ Fly P w outer H s a cls H' s' ∧ E cls none H'

section
variable {X : Cx} {pins : List (Addr × Obj)} {σ : St} {H H' : Hp} {s s' : Shared} {a : Addr} {cls : Value} {E : Value → Shared → Prop}

set_option genInjectivity false in
structure Own (X : Cx) : Prop where
  stk : X.stack = X.env :: X.outer
  fr : X.env.frame = some X.env.locals
  ex : X.ex = []
theorem Own.frs (O : Own X) {b : Addr} : b ∈ frs X.stack ↔ b = X.env.locals ∨ b ∈ frs X.outer := by
  unfold L2.frs
  rw [O.stk, List.filterMap_cons, O.fr]
  exact List.mem_cons
theorem Inv.oldNe (I : Inv X pins σ H s) {b : Addr} {o : Obj} (e : X.s₀.heap.get? b = some o) : b ≠ X.env.locals := Nat.ne_of_lt (Nat.lt_of_lt_of_le (Heap.lt_size e) I.ok.above)
theorem Inv.hidHok (I : Inv X pins σ H s) : HOk X.prog X.w H (PySem.W.hideAll s.heap (L2.frs X.stack)) := fun b u e =>
  (I.hok b u e).stay (fun c v hc q => PySem.W.hideAll_get _ q fun hm => by
    have n := I.stkFree c hm
    rcases hc with z | z
    · rw [z, e] at n
      cases n
    · rw [z] at n
      cases n) (fun _ q => q) fun _ _ q => q
theorem Fly.raised {args : List Value} {h : Heap} (I : Inv X pins σ H s) (O : Own X) (hx : Heap.MadeExcOf s.heap h a cls args) :
    wpAny (model X.prog X.w) X.A (leaving X.env (.ref a)) (fun _ s'' => Fly X.prog X.w X.outer X.H₀ X.s₀ a cls H s'') E { s with heap := h } := by
  have hst := I.stack
  have hin : ∀ env ∈ X.stack, ∀ b, env.frame = some b → b ∈ L2.frs X.stack := fun env he b hb => List.mem_filterMap.mpr ⟨env, he, hb⟩
  have hl := PySem.W.funFrames_hide hst hin
  rw [O.stk] at hl
  have hfr := I.ok.frames
  rw [O.stk] at hfr
  have noEx : ∀ b, b ∉ X.ex := fun b z => by
    rw [O.ex] at z
    cases z
  refine wpAny_leaves_madeW (s := { s with heap := h }) hfr O.fr (fun b o q => PySem.W.of_hideAll _ q) hl hx fun h' t x1 x2 x3 x4 => ?_
  have notIn : ∀ b o, X.s₀.heap.get? b = some o → b ∉ L2.frs X.outer → b ∉ L2.frs (X.env :: X.outer) := fun b o e nb z => by
    rw [← O.stk] at z
    rcases O.frs.mp z with q | q
    · exact I.oldNe e q
    · exact nb q
  have hokB := I.hidHok
  rw [O.stk] at hokB
  refine ⟨I.os, I.bare, ⟨_, t, x1, hokB, fun b o e n nb => ?_, fun b o e nb => ?_⟩, fun b o e n hb => ?_, fun b o e n => I.base.free b o e n (noEx b), I.base.tups, I.base.frzs, I.base.tbls⟩
  · exact PySem.W.hideAll_get _ (I.base.keep b o e n nb (noEx b)) (notIn b o e nb)
  · obtain ⟨o', e'⟩ := I.base.there b o e (noEx b)
    exact ⟨o', PySem.W.hideAll_get _ e' (notIn b o e nb)⟩
  · obtain ⟨sl, e1⟩ := I.base.slot b o e n hb (noEx b)
    obtain ⟨_, o2, e2, hd⟩ := I.funs.mem hb
    rw [e1] at e2
    cases e2
    obtain ⟨sl2, e3⟩ := x4 b _ (hx.keeps b _ e1) hd
    exact ⟨sl2, e3⟩
theorem Fly.on (I : Inv X pins σ H s) (O : Own X) (Y : Fly X.prog X.w X.stack H s a cls H' s') :
    wpAny (model X.prog X.w) X.A (leaving X.env (.ref a)) (fun _ s'' => Fly X.prog X.w X.outer X.H₀ X.s₀ a cls H' s'') E s' := by
  obtain ⟨B, t, hfl, hokB, kp, th⟩ := Y.ex
  have hfr := I.ok.frames
  rw [O.stk] at hfr hfl
  have noEx : ∀ b, b ∉ X.ex := fun b z => by
    rw [O.ex] at z
    cases z
  have notIn : ∀ b o, X.s₀.heap.get? b = some o → b ∉ L2.frs X.outer → b ∉ L2.frs X.stack := fun b o e nb z => by
    rcases O.frs.mp z with q | q
    · exact I.oldNe e q
    · exact nb q
  refine wpAny_leaves_onW hfr O.fr hfl fun h' x1 x2 => ?_
  refine ⟨Y.os.trans I.os, Y.bare, ⟨B, t, x1, hokB, fun b o e n nb => kp b o (I.base.keep b o e n nb (noEx b)) (I.base.free b o e n (noEx b)) (notIn b o e nb), fun b o e nb => ?_⟩, fun b o e n hb => ?_, fun b o e n => ?_,
    fun b xs q => Y.tups b xs (I.base.tups b xs q), fun b o u q => Y.frzs b o u (I.base.frzs b o u q), fun b ps q => ?_⟩
  · obtain ⟨o', e'⟩ := I.base.there b o e (noEx b)
    exact th b o' e' (notIn b o e nb)
  · obtain ⟨sl, e1⟩ := I.base.slot b o e n hb (noEx b)
    obtain ⟨_, o2, e2, hd⟩ := I.funs.mem hb
    rw [e1] at e2
    cases e2
    obtain ⟨sl2, e3⟩ := Y.slot b _ e1 (I.base.free b o e n (noEx b)) (O.frs.mpr (.inr hb))
    obtain ⟨sl3, e4⟩ := x2 b _ e3 hd
    exact ⟨sl3, e4⟩
  · obtain ⟨o', e'⟩ := I.base.there b o e (noEx b)
    exact Y.free b o' e' (I.base.free b o e n (noEx b))
  · obtain ⟨m1, e1⟩ := I.base.tbls b ps q
    obtain ⟨m2, e2⟩ := Y.tbls b _ e1
    exact ⟨m1 ++ m2, by rw [e2, Array.append_assoc]⟩
end

noncomputable abbrev bmVE : List Value := [.type "ValueError", .type "Exception", .type "BaseException", .type "object"]
set_option genInjectivity false in
structure Exc (K : PySem.W.Frag) (mg : Str → Option Value) (x : Str) (C : Addr) : Prop where
  mg : mg x = some (.ref C)
  is : PySem.W.excIn K C bmVE "ValueError.__new__" = true
theorem Exc.own {K : PySem.W.Frag} {mg : Str → Option Value} {x : Str} {C : Addr} {h : Heap} (c : Exc K mg x C) (X : K.In h) : OwnCls x C bmVE "ValueError.__new__" mg h := by
  refine ⟨c.mg, ?_⟩
  have q := c.is
  unfold PySem.W.excIn at q
  split at q
  · rename_i dd cd sl ho
    split at q
    · rename_i C' bm k0 k1 k2 k3 n k5 hm hs
      simp only [beq_iff_eq, Bool.not_eq_true', Bool.and_eq_true] at q
      obtain ⟨⟨⟨⟨⟨g1, g2⟩, g3⟩, g4⟩, g5⟩, g6⟩ := q
      subst g1 g2
      obtain ⟨nm, bs, mro, ns, qn, hd, sn, sub, ab, col, del⟩ := cd
      have hsl : sl = #[k0, k1, k2, k3, some (.builtin "ValueError.__new__"), k5] := by
        cases sl with
        | mk l =>
          have hs' : l = _ := hs
          rw [hs']
      have hm' : mro = _ := hm
      have g3' : del = false := g3
      subst hsl hm' g3'
      refine ⟨bm, ns, nm, qn, bs, hd, sn, sub, ab, col, dd, k0, k1, k2, k3, k5, h.nsMap ns, X _ _ ho, ?_, ?_, ?_⟩
      · exact .of_isNs (PySem.W.isNs_of_in X g5)
      · exact PySem.W.nsMap_none_of_in X g5 g6
      · exact PySem.W.tail_of_in X g4
    · cases q
  · cases q
noncomputable def tRaise (E : Value → Hp → Prop) (C : Addr) (t : TA) : TS := fun _ σ H => t σ H fun vs H1 => vs.length ≤ sizeLine ∧ E (.ref C) H1
theorem ps_raise {x : Str} {C : Addr} {e₀ : Expr} {rest : List Expr} {np cpos pos : Pos} {t : TA} {E : Value → Hp → Prop} (c : Exc X.K X.mg x C) (hc : X.calm = true)
    (hE : ∀ (pins : List (Addr × Obj)) (σ : St) (H : Hp) (s : Shared) (h : Heap) (a : Addr) (args : List Value), Inv X pins σ H s → Heap.MadeExcOf s.heap h a (.ref C) args → E (.ref C) H → X.xe (.ref a) { s with heap := h })
    (ha : PA X (e₀ :: rest) t) (hg : Gl X x := by rfl) (hd : (x == ("__debug__" : Str)) = false := by decide)
    (he : starEach (e₀ :: rest) X.env = (false, eval e₀ X.env) :: starEach rest X.env := by rfl) (hpl : (backTo cpos (starEach rest X.env)).any (·.1) = false := by rfl) :
    PS X (.Raise (some (.Call (.Name x np) (e₀ :: rest) [] cpos)) none pos) (tRaise E C t) := by
  intro pins s σ H D I h
  have O := c.own I.mod.kin
  obtain ⟨tl, N, nm, q, bs, hdct, sn, sub, ab, col, dd, k0, k1, k2, k3, k5, mN, hC, hN, hni, T⟩ := O.obj
  refine wpAny_Raise_call_subT (C := C) (nm := nm) (q := q) (N := N) (bs := bs) (bm := tl) (hdct := hdct) (sn := sn) (sub := sub) (ab := ab) (col := col) (dd := dd) (k0 := k0) (k1 := k1) (k2 := k2) (k3 := k3) (k5 := k5) PySem.F.excBase_ValueError (mN := mN)
    (T.hasType (by decide +kernel)) (I.ok.hd hc) (by rw [he]; show (false || (backTo cpos (starEach rest X.env)).any (·.1)) = false; rw [hpl]; rfl) hni (ld_glob I hg c.mg ⟨rfl, ?_⟩ hd)
  have hA := ha cpos pins s σ H _ I h
  rw [he] at hA ⊢
  refine Calls.evalArgs_plain (thn hA fun us s2 ⟨vs, H2, I2, r2, hz, q2⟩ => ?_)
  exact ⟨rfl, by rw [← r2.length]; exact hz, I2.bk _ _ hC, hN.keeps I2.bk, T.keeps I2.bk, fun h' e hx => hE pins σ H2 s2 h' e us I2 hx q2⟩

section
variable {P : Program} {w : World} {K : PySem.W.Frag} {mg : Str → Option Value} {base : Heap} {N : List Str} {qual : Str} {scope : Scope} {f : Addr} {cdv : Value} {A : Around} {outer : List Env} {s : Shared} {H : Hp} {E : XK}
theorem ownX {CX : CXT} : Own (cxOf CX P w K mg base N qual scope f cdv A outer s H E) := ⟨rfl, rfl, rfl⟩
theorem passX : Passes (CX1 P w) (cxOf (CX1 P w) P w K mg base N qual scope f cdv A outer s H E) E := fun pins σ H1 s1 e s' I h => by
  obtain ⟨a, cls, H', rfl, Y, q⟩ := h
  exact thn (Fly.on I ownX Y) fun _ s'' Z => ⟨a, cls, H', rfl, Z, q⟩
theorem raiseX {C : Addr} {pins : List (Addr × Obj)} {σ : St} {H1 : Hp} {s1 : Shared} {h : Heap} {a : Addr} {args : List Value} (I : Inv (cxOf (CX1 P w) P w K mg base N qual scope f cdv A outer s H E) pins σ H1 s1) (hx : Heap.MadeExcOf s1.heap h a (.ref C) args) (q : E (.ref C) none H1) :
    (cxOf (CX1 P w) P w K mg base N qual scope f cdv A outer s H E).xe (.ref a) { s1 with heap := h } := thn (Fly.raised I ownX hx) fun _ s'' Z => ⟨a, .ref C, H1, rfl, Z, q⟩
theorem pass1 {X : Cx} : Passes (CX1 P w) X E0 := fun _ _ _ _ _ _ _ h => by
  obtain ⟨_, _, _, _, _, q⟩ := h
  exact q.elim
theorem Fun.okX {x qual : Str} {st : Stmt} {f : Addr} {fd : FuncData} {N ps : List Str} {k : Nat} {sp : Sp} (F : Fun K x qual st f fd) (S : FnScope N ps (defScope st)) (len : ∀ vs H Q E, sp vs H Q E → vs.length = ps.length)
    (hbody : ∀ (cdv : Value) (A : Around) (outer : List Env) (s : Shared) (H : Hp) (vs : List V) (Q : VK) (E : XK), Room k (A.deeper (envOfC qual (defScope st) s.heap.objs.size f cdv)) → sp vs H Q E →
      ∃ t, PSs (cxOf (CX1 P w) P w K mg base N qual (defScope st) f cdv A outer s H E) (defBody st) t ∧ t { nx := fun _ H' => Q .non H', rt := Q } (start N vs) H) : FnOk P w K mg base (CX1 P w) (k + 1) f fd ps sp := by
  obtain ⟨oc, od, kV, doc, pm, an, cdv, ct, osl, rfl, lk, hcd⟩ := F.ex
  exact fn_of lk hcd S len fun A outer s H vs Q E hr hsp => hbody cdv A outer s H vs Q E hr hsp
end
end L2

set_option Elab.async false
set_option linter.all false
set_option maxRecDepth 100000
set_option maxHeartbeats 4000000

namespace L2
open PySem PySem.Spec PyProof.Rows

noncomputable def XP (X : Cx) (pins : List (Addr × Obj)) (R : St → Value → Hp → Prop) (e : Value) (s' : Shared) : Prop :=
  ∃ a cls σ' H s1 H', e = .ref a ∧ Inv X pins σ' H s1 ∧ Fly X.prog X.w X.stack H s1 a cls H' s' ∧ R σ' cls H'
noncomputable abbrev TTy := Ends → (St → Value → Hp → Prop) → St → Hp → Prop
noncomputable def PTy (X : Cx) (st : List Stmt) (t : TTy) : Prop :=
  ∀ (pins : List (Addr × Obj)) (s : Shared) (σ : St) (H : Hp) (D : Ends) (R : St → Value → Hp → Prop), Inv X pins σ H s → t D R σ H → wpAny (model X.prog X.w) X.A (execs st X.env) (SP X pins D) (XP X pins R) s
section
variable {X : Cx}
noncomputable abbrev TH := Ends → St → Value → Hp → Prop
noncomputable def PH (X : Cx) (hs : List ExceptHandler) (t : TH) : Prop :=
  ∀ (pins : List (Addr × Obj)) (σ : St) (H : Hp) (s : Shared) (a : Addr) (cls : Value) (H' : Hp) (s' : Shared) (D : Ends), Inv X pins σ H s → Fly X.prog X.w X.stack H s a cls H' s' → t D σ cls H' →
    wpAny (model X.prog X.w) X.A (handleBy (.ref a) X.env hs) (SP X pins D) X.xe s'
end
end L2

set_option Elab.async false
set_option linter.all false
set_option maxRecDepth 100000
set_option maxHeartbeats 4000000

namespace L2
open PySem PySem.Spec PyProof.Rows

namespace RV
section
variable {prog : Program} {w : World} {A : Around} {E : Value → Shared → Prop} {s : Shared}
end
end RV

section
variable {X : Cx}
theorem rising_pw : ∀ (x : List Nat) (ls : List (List Nat)), risingS (tx x) (ls.map tx) = true → (∀ y ∈ ls, ¬ y < x) ∧ ls.Pairwise (fun a b => ¬ b < a)
  | x, [], _ => ⟨fun _ h => (by cases h), .nil⟩
  | x, y :: ls, h => by
    have h' : (!ltCps (tx y).cps.toList (tx x).cps.toList && risingS (tx y) (ls.map tx)) = true := h
    rw [Bool.and_eq_true, tx_cps, tx_cps, ltCps_eq] at h'
    obtain ⟨a, b⟩ := rising_pw y ls h'.2
    have h1 : ¬ y < x := by simpa using h'.1
    refine ⟨fun z hz => ?_, List.pairwise_cons.mpr ⟨a, b⟩⟩
    rcases List.mem_cons.mp hz with rfl | hz
    · exact h1
    · exact Wd.lele h1 (a z hz)
theorem sorted_pw : ∀ (ls : List (List Nat)), sortedS (ls.map tx) = true → ls.Pairwise (fun a b => ¬ b < a)
  | [], _ => .nil
  | x :: ls, h => List.pairwise_cons.mpr (rising_pw x ls h)
theorem strs_back : ∀ {us : List Value} {ss : List Str}, StrsAre us ss → Vals ((ss.map fun x => x.cps.toList).map T) us
  | _, _, .nil => .nil
  | _, _, .cons x t h => .cons ⟨t, by show Value.str x t = Value.str (tx x.cps.toList) t; rw [tx_eta]⟩ (strs_back h)
theorem call_sortedT : CallR X (.builtin "sorted") (fun xs H Q => ∃ (p : Addr) (ls : List (List Nat)), xs = [.ref p] ∧ SqL X.K H p (ls.map T) ∧ ls.length < 64 ∧ ∀ (ms : List (List Nat)) (D : Addr), H D = none → ms.Perm ls → ms.Pairwise (fun a b => ¬ b < a) → Q (.ref D) (upd H D (.lst (ms.map T)))) := by
  intro pins s σ H xs us Q I r h
  obtain ⟨p, ls, rfl, hq, h64, q⟩ := h
  obtain ⟨u, rfl, ru⟩ := vals1 r
  cases ru
  obtain ⟨its, rv, pl, hz⟩ := I.list hq
  have hlen := rv.length
  rw [List.length_map] at hlen
  refine sorted_strs pl.isList (strsAre_T rv) (by omega) fun out ss' a1 a2 a3 => ?_
  obtain ⟨e, he⟩ := sortedAll_at s.heap its out
  have em : (ss'.map fun x => x.cps.toList).map tx = ss' := by
    rw [List.map_map]
    conv => rhs; rw [← List.map_id ss']
    exact List.map_congr_left fun x _ => tx_eta x
  have hp : (ss'.map fun x => x.cps.toList).Perm ls := by
    have z := a2.map fun x => x.cps.toList
    have e2 : (ls.map tx).map (fun x => x.cps.toList) = ls := by
      rw [List.map_map]
      conv => rhs; rw [← List.map_id ls]
      exact List.map_congr_left fun x _ => tx_cps x
    rw [e2] at z
    exact z
  have hpl := hp.length_eq
  refine ⟨.ref _, _, I.laid (t' := s.toks) (fun _ _ => sortedAll_old) (Nat.le_succ _) (o := .lst ((ss'.map fun x => x.cps.toList).map T)) ⟨by rw [List.length_map, hpl]; rw [List.length_map] at hz; exact hz, out.toList, e, strs_back a1, by simpa using he⟩, rfl, q _ _ (I.hok.fresh (Nat.le_succ _)) hp (sorted_pw _ (by rw [em]; exact a3))⟩

end
end L2

set_option Elab.async false
set_option linter.all false
set_option maxRecDepth 100000
set_option maxHeartbeats 4000000

namespace L2
open PySem PySem.Spec PyProof.Rows

noncomputable def nub : List (List Nat) → List (List Nat) → List (List Nat)
  | acc, [] => acc
  | acc, l :: ls => if l ∈ acc then nub acc ls else nub (acc ++ [l]) ls
noncomputable def nubTo (ls : List (List Nat)) : Nat → List (List Nat)
  | 0 => []
  | i + 1 => if ls.getD i [] ∈ nubTo ls i then nubTo ls i else nubTo ls i ++ [ls.getD i []]
theorem nubTo_len (ls : List (List Nat)) : ∀ i, (nubTo ls i).length ≤ i
  | 0 => Nat.le_refl _
  | i + 1 => by
    have h := nubTo_len ls i
    rw [nubTo]
    split
    · omega
    · rw [List.length_append, List.length_singleton]
      omega
theorem nubTo_nodup (ls : List (List Nat)) : ∀ i, (nubTo ls i).Nodup
  | 0 => List.nodup_nil
  | i + 1 => by
    have h := nubTo_nodup ls i
    rw [nubTo]
    split
    · exact h
    · rename_i hn
      refine List.nodup_append.mpr ⟨h, by simp, fun a ha b hb e => ?_⟩
      have hb' : b = ls.getD i [] := by simpa using hb
      rw [e, hb'] at ha
      exact hn ha
theorem nubTo_mem (ls : List (List Nat)) (x : List Nat) : ∀ i, i ≤ ls.length → (x ∈ nubTo ls i ↔ x ∈ ls.take i)
  | 0, _ => by simp [nubTo]
  | i + 1, hi => by
    have h := nubTo_mem ls x i (by omega)
    have e : ls.take (i + 1) = ls.take i ++ [ls.getD i []] := by
      rw [List.take_add_one, List.getD_eq_getElem?_getD, List.getElem?_eq_getElem (by omega)]
      rfl
    rw [e, List.mem_append, nubTo]
    split
    · rename_i hm
      rw [h]
      constructor
      · exact .inl
      · rintro (q | q)
        · exact q
        · have q' : x = ls.getD i [] := by simpa using q
          rw [q', ← nubTo_mem ls _ i (by omega)]
          exact hm
    · rw [List.mem_append, h]
noncomputable def uniq (ls : List (List Nat)) : List (List Nat) := nubTo ls ls.length
theorem uniq_nodup (ls : List (List Nat)) : (uniq ls).Nodup := nubTo_nodup ls _
theorem uniq_mem (ls : List (List Nat)) (x : List Nat) : x ∈ uniq ls ↔ x ∈ ls := by
  rw [uniq, nubTo_mem ls x _ (Nat.le_refl _), List.take_length]

namespace SE
section
variable {prog : Program} {w : World} {A : Around} {R : Result → Shared → Prop} {J : Addr} {fp wr : List Addr} {G : Array GenState → Array GenState → Prop} {n : Nat} {P : Nat → Value → Prop} {St : Nat → Shared → Prop}
noncomputable abbrev Has (prog : Program) (w : World) (h : Heap) (D : Addr) (ms : List (List Nat)) : Prop := h.SetOf (PySem.strKind prog w) D (fun x => decide (x.cps.toList ∈ ms)) ms.length
theorem Has.at {h h' : Heap} {D : Addr} {ms : List (List Nat)} (x : Has prog w h D ms) (k : ∀ o, h.get? D = some o → h'.get? D = some o) : Has prog w h' D ms := by
  obtain ⟨o, es, ep, tb, ho, r⟩ := x
  exact ⟨o, es, ep, tb, k o ho, r⟩
theorem loop (W : WalksS prog w A.in1 J fp wr G n P St) {D : Addr} (hD : D ∉ fp) (ls : List (List Nat)) (hv : ∀ i v, P i v → ∃ t, v = Value.str (tx (ls.getD i [])) t) (hn : n + 1 < scanBound) :
    ∀ (k i : Nat) (s : Shared), n - i = k → i ≤ n → St i s → Has prog w s.heap D (nubTo ls i) →
      (∀ s', Moved (D :: wr) G s s' → Has prog w s'.heap D (nubTo ls n) → R (.ok (.ret .none)) s') → codeAny (model prog w) A (.builtin "set.update.loop" ⟨[.ref D, .ref J], []⟩) R s := by
  have hDw : D ∉ wr := fun z => hD (W.sub _ z)
  have up : ∀ b ∈ wr, b ∈ D :: wr := fun b hb => .tail _ hb
  intro k
  induction k with
  | zero =>
    intro i s hk hi st hs hR
    obtain rfl : i = n := by omega
    refine codeAny_builtin PyProof.Rows.F.entry_set_update_loop ?_
    rw [Around.under_plainId PyProof.Rows.F.plain_set_update_loop]
    refine wpAny_bind (m := pyNext (.ref J)) (W.done s _ _ st fun s2 mv => ?_)
    exact (show wpAny _ A.in1 (ret Value.none) _ _ s2 from wpAny_pure (hR s2 (mv.mono up) (hs.at fun o e => mv.heap D o hDw e)))
  | succ k ih =>
    intro i s hk hi st hs hR
    have hlt : i < n := by omega
    refine codeAny_builtin PyProof.Rows.F.entry_set_update_loop ?_
    rw [Around.under_plainId PyProof.Rows.F.plain_set_update_loop]
    refine wpAny_bind (m := pyNext (.ref J)) (W.item i s _ _ hlt st fun v s2 pv st2 mv => ?_)
    obtain ⟨t, rfl⟩ := hv i v pv
    have hs2 := hs.at fun o e => mv.heap D o hDw e
    refine wpAny_bind (m := holding [Value.str (tx (ls.getD i [])) t] (setAdd D (.str (tx (ls.getD i [])) t))) (wpAny_holding ?_)
    unfold setAdd
    refine wpAny_holding (wpAny_bind ((PySem.strKind prog w).pyHash (k := tx (ls.getD i [])) (strKind_is _ _ _ _) ?_))
    have hl := nubTo_len ls i
    refine wpAny_setAddHashed_of (knd := PySem.strKind prog w) (s := { s2 with toks := s2.toks + 1 }) (strKind_is _ _ _ _) rfl hs2 (by omega) fun h3 sb x3 => ?_
    have x4 : Has prog w h3 D (nubTo ls (i + 1)) := by
      refine PyProof.Rows.SetOf_congr x3 (fun y => ?_) ?_
      · rw [nubTo]
        split
        · rename_i hm
          rw [Bool.eq_iff_iff, Bool.or_eq_true, decide_eq_true_iff, decide_eq_true_iff]
          constructor
          · rintro (q | q)
            · exact q
            · rw [q, tx_cps]
              exact hm
          · exact .inl
        · rw [Bool.eq_iff_iff, Bool.or_eq_true, decide_eq_true_iff, decide_eq_true_iff, decide_eq_true_iff, List.mem_append, List.mem_singleton]
          constructor
          · rintro (q | q)
            · exact .inl q
            · right
              rw [q, tx_cps]
          · rintro (q | q)
            · exact .inl q
            · right
              rw [← q, tx_eta]
      · rw [tx_cps, nubTo]
        by_cases hm : ls.getD i [] ∈ nubTo ls i
        · rw [if_pos hm, if_pos (decide_eq_true hm)]
        · rw [if_neg hm, if_neg (by rw [decide_eq_false hm]; exact Bool.false_ne_true), List.length_append]
          rfl
    refine wpAny_pure ⟨plainId_quiet PyProof.Rows.F.plain_set_update_loop _, ih (i + 1) _ (by omega) hlt (W.frame _ s2 _ _ st2 (Nat.le_succ _) fun b hb o e => (sb.2 b fun z => hD (z ▸ hb)).trans e) x4 fun s5 m5 x5 => ?_⟩
    refine hR s5 (Moved.trans W.gtrans ((mv.mono up).then_heap (Nat.le_succ _) fun b o hb e => (sb.2 b fun z => hb (z ▸ .head _)).trans e) m5) x5

variable {E : Value → Shared → Prop} {s : Shared}
theorem call_of {l : Addr} {its : Array Value} {ls : List (List Nat)} {Q : Value → Shared → Prop} (hh : A.handled = none) (hl : s.heap.IsList l its) (hv : ∀ i v, its[i]? = some v → ∃ t, v = Value.str (tx (ls.getD i [])) t) (hn : its.size + 1 < scanBound)
    (h : ∀ (h' : Heap) (tk : Nat), Has prog w h' s.heap.objs.size (nubTo ls its.size) → (∀ b o, s.heap.get? b = some o → h'.get? b = some o) → Q (.ref s.heap.objs.size) { s with heap := h', toks := tk }) :
    wpAny (model prog w) A (call (.type "set") [.ref l]) Q E s := by
  obtain ⟨mc, mt, f0⟩ := F.called_set.mro
  have f1 := F.called_set.made; have f2 := F.called_set.sub; have f3 := F.called_set.notType; have f4 := F.called_set.canCreate; have f5 := F.typeCall_set_1 (.ref l)
  refine wpAny_call (codeAny_of_tree (show wpAny _ _ (callAny (.type "set") _) _ _ _ from wpAny_pure ⟨Code.quiet_builtin _ (by decide +kernel), codeAny_builtin F.entry_type_call ?_⟩))
  rw [Around.under_plain (weight_type_call_type "set" [.ref l] []) rfl]
  repeat (any_goals (first | wp_step | assumption))
  refine codeAny_mono (code_set_new_1 (.ref l) (E := E) (Q₁ := fun ob s1 => ∃ b : Bool, ob = .ref s.heap.objs.size ∧ s1 = { s with heap := s.heap.push { cls := .type "set", dict := none, data := .set #[] 0 (.fresh 0 0 b) } }) fun b => ⟨b, rfl, rfl⟩) fun r s1 hr => ?_
  cases r with
  | error e => exact hr
  | ok fl =>
    cases fl with
    | ret ob =>
      obtain ⟨b, rfl, rfl⟩ := hr
      generalize hob : ({ cls := .type "set", dict := none, data := .set #[] 0 (.fresh 0 0 b) } : Obj) = ob
      have hD : (s.heap.push ob).get? s.heap.objs.size = some ob := Heap.get?_push_size _ (by rw [← hob]; rfl)
      have hT : Shared.TypeIs { s with heap := s.heap.push ob } (.ref s.heap.objs.size) "set" := ⟨_, hD, by rw [← hob]⟩
      have f6 := F.called_set.init.lookup; have f7 := F.called_set.init.bind (.ref s.heap.objs.size)
      repeat (any_goals (first | wp_step | assumption))
      refine codeAny_mono (codeAny_call_builtin (R := wants (fun r s2 => r = .none ∧ ∃ h' tk, s2 = { s with heap := h', toks := tk } ∧ Has prog w h' s.heap.objs.size (nubTo ls its.size) ∧ ∀ b o, s.heap.get? b = some o → h'.get? b = some o) E)
        F.called_set.init.plain F.entry_set_init (check_set_init_1 hT ?_)) fun r2 s2 hr2 => ?_
      · obtain ⟨⟨oc, od, odt, osl⟩, hol, hcl, nl, hdl⟩ := id hl
        simp only at hcl hdl
        subst hcl hdl
        have hol' : (s.heap.push ob).get? l = some { cls := .type "list", dict := od, data := .seq its nl, slots := osl } := Heap.get?_push_of_some _ hol
        have f8 := F.sub_list_set; have f9 := F.sub_list_frozenset
        have f10 : (Value.type "list" == Value.type "dict") = false := by decide
        have hl1 : (s.heap.push ob).IsList l its := ⟨_, hol', rfl, nl, rfl⟩
        subst hob
        unfold Builtin.«set.__init__» noKeywords Builtin.Frozenset.updateFrom
        generalize hPI : pyIter = PI
        wp_walk
        subst hPI
        refine wpAny_pyIter_list hl1 ?_
        refine wpAny_bind (wpAny_runValue ?_)
        have hlt : l < s.heap.objs.size := Heap.lt_size hol
        have hh3 : A.in1.in1.in1.handled = none := by simp [hh]
        have hsz : (s.heap.push { cls := .type "set", dict := none, data := .set #[] 0 (.fresh 0 0 b) }).objs.size = s.heap.objs.size + 1 := Heap.size_push _ _
        have hne : l ≠ (s.heap.push { cls := .type "set", dict := none, data := .set #[] 0 (.fresh 0 0 b) }).objs.size := by rw [hsz]; exact Nat.ne_of_lt (Nat.lt_succ_of_lt hlt)
        have hfp : s.heap.objs.size ∉ [(s.heap.push { cls := .type "set", dict := none, data := .set #[] 0 (.fresh 0 0 b) }).objs.size, l] := by
          rw [hsz]
          intro z
          rcases List.mem_cons.mp z with e | e
          · exact Nat.ne_of_lt (Nat.lt_succ_self _) e
          · exact Nat.ne_of_gt hlt (List.mem_singleton.mp e)
        refine loop ((Walks.list hh3 _ l hne its).toS) (D := s.heap.objs.size) hfp ls hv hn (its.size - 0) 0 _ (by omega) (Nat.zero_le _) ⟨⟨_, Heap.get?_push_size _ rfl, rfl, rfl⟩, hl1.push _⟩ ?_ fun s3 mv x3 => ?_
        · have hg : ((s.heap.push { cls := .type "set", dict := none, data := .set #[] 0 (.fresh 0 0 b) }).push { cls := .type "list_iterator", data := .fields #[.ref l, .int 0 0] }).get? s.heap.objs.size = some { cls := .type "set", dict := none, data := .set #[] 0 (.fresh 0 0 b) } := Heap.get?_push_of_some _ hD
          exact PyProof.Rows.SetOf_congr ((PyProof.Rows.setObjOf_fresh (knd := PySem.strKind prog w) b).setOf hg (by unfold scanBound; omega)) (fun _ => rfl) rfl
        · obtain ⟨h3, g3, d3, tk3, os3⟩ := s3
          obtain rfl : g3 = s.gens := mv.gens
          obtain rfl : d3 = s.drawn := mv.drawn
          obtain rfl : os3 = s.os := mv.os
          refine wpAny_pure (show wpAny _ _ (ret Value.none) _ _ _ from wpAny_pure ⟨rfl, h3, tk3, rfl, x3, fun c o e => ?_⟩)
          have hc := Heap.lt_size e
          exact mv.heap c o (show c ∉ [s.heap.objs.size, (s.heap.push { cls := .type "set", dict := none, data := .set #[] 0 (.fresh 0 0 b) }).objs.size] by
            rw [hsz]
            intro z
            rcases List.mem_cons.mp z with e | e
            · exact Nat.ne_of_lt hc e
            · exact Nat.ne_of_lt (Nat.lt_succ_of_lt hc) (List.mem_singleton.mp e)) (Heap.get?_push_of_some _ (Heap.get?_push_of_some _ e))
      · cases r2 with
        | error e => exact hr2
        | ok fl2 =>
          cases fl2 with
          | ret r =>
            obtain ⟨rfl, h3, tk, rfl, x3, k3⟩ := hr2
            repeat (any_goals (first | wp_step | assumption))
            exact h _ _ x3 k3
          | _ => exact hr2.elim
    | _ => exact hr.elim
end
end SE

noncomputable def SetT (P : Program) (w : World) (D : Addr) (ms : List (List Nat)) : HO := .ext fun h => SE.Has P w h D ms
section
variable {X : Cx}
theorem str_at {ls : List (List Nat)} {us : List Value} (r : Vals (ls.map T) us) {i : Nat} {v : Value} (h : us[i]? = some v) : ∃ t, v = Value.str (tx (ls.getD i [])) t := by
  have hl := r.length
  rw [List.length_map] at hl
  have hi : i < ls.length := by have := (List.getElem?_eq_some_iff.mp h).1; omega
  obtain ⟨u, h1, h2⟩ := r.get (i := i) (x := T ls[i]) (by rw [List.getElem?_map, List.getElem?_eq_getElem hi]; rfl)
  rw [h] at h1
  cases h1
  rw [List.getD_eq_getElem?_getD, List.getElem?_eq_getElem hi]
  exact h2
theorem call_setT (hc : X.calm = true) : CallR X (.type "set") (fun xs H Q => ∃ (p : Addr) (ls : List (List Nat)), xs = [.ref p] ∧ SqL X.K H p (ls.map T) ∧ ls.length + 1 < 4096 ∧ ∀ D, H D = none → Q (.ref D) (upd H D (SetT X.prog X.w D (uniq ls)))) := by
  intro pins s σ H xs us Q I r h
  obtain ⟨p, ls, rfl, hq, hz, q⟩ := h
  obtain ⟨u, rfl, ru⟩ := vals1 r
  cases ru
  obtain ⟨its, rv, pl, _⟩ := I.list hq
  have hlen := rv.length
  rw [List.length_map] at hlen
  refine SE.call_of (I.ok.hd hc) pl.isList (ls := ls) (fun i v e => str_at rv (by simpa using e)) (by rw [List.size_toArray]; unfold scanBound; omega) fun h' tk x k => ?_
  have e : nubTo ls its.toArray.size = uniq ls := by rw [List.size_toArray, ← hlen]; rfl
  rw [e] at x
  have hf : H s.heap.objs.size = none := I.hok.fresh (Nat.le_refl _)
  refine ⟨.ref s.heap.objs.size, _, I.laid (t' := tk) k (Nat.le_refl _) (o := SetT X.prog X.w s.heap.objs.size (uniq ls)) ?_, rfl, q _ hf⟩
  refine ⟨x, ?_, fun h1 h2 x1 kk => x1.at kk⟩
  obtain ⟨o, _, _, _, ho, _⟩ := x
  exact ⟨o, ho⟩
theorem call_lenS : CallR X (.builtin "len") (fun xs H Q => ∃ (D : Addr) (ms : List (List Nat)), xs = [.ref D] ∧ H D = some (SetT X.prog X.w D ms) ∧ Q (.int (ms.length : Nat)) H) := by
  intro pins s σ H xs us Q I r h
  obtain ⟨D, ms, rfl, hD, q⟩ := h
  obtain ⟨u, rfl, ru⟩ := vals1 r
  cases ru
  obtain ⟨⟨o, es, ep, tb, ho, hex, hd, _, _, hb, hf, hn⟩, _⟩ := (show ObjOk X.prog X.w H s.heap D (SetT X.prog X.w D ms) from I.hok D _ hD)
  have hb' : es.size < 4096 := hb
  exact call_len_set ho hex hd hf (by omega) ⟨.int (ms.length : Nat), H, I.tok _, ⟨s.toks + 1, by rw [← hn]⟩, q⟩

end
end L2

set_option Elab.async false
set_option linter.all false
set_option maxRecDepth 100000
set_option maxHeartbeats 4000000

namespace L2
open PySem PySem.Spec PyProof.Rows
section
variable {X : Cx}
namespace LM
end LM
theorem call_len_K (K : PySem.W.Frag) (hK : X.K = K) : CallR X (.builtin "len") (fun xs H Q => ∃ p ys, xs = [.ref p] ∧ (SqL K H p ys ∨ SqT K H p ys) ∧ Q (.int ys.length) H) := by
  subst hK
  exact call_len_seq
theorem ix_list_K (K : PySem.W.Frag) (hK : X.K = K) : IxR X (rIxL K) := by
  subst hK
  exact ix_list
end
end L2

set_option Elab.async false
set_option linter.all false
set_option maxRecDepth 100000
set_option maxHeartbeats 4000000

namespace L2
open PySem PySem.Spec PyProof.Rows

noncomputable def Itx (l : List Nat) : It := ⟨fun i _ => i < l.length, fun i H x H' => H' = H ∧ ∃ c, l[i]? = some c ∧ x = T [c], fun i _ => l.length ≤ i⟩
theorem turn_text {P : Program} {w : World} {K : PySem.W.Frag} {tg : Expr} {it : Addr} {ty : String} {l : List Nat} {t : Tok} (hty : ty = "str_ascii_iterator" ∨ ty = "str_iterator")
    (W : ∀ A : Around, A.handled = none → Walks P w A it [it] [it] (tx l).cps.size (SignAt (tx l)) (fun i h => h.IsStrIter it ty (tx l) t i)) : Turn P w K tg (Itx l) [it] it (fun i h => h.IsStrIter it ty (tx l) t i) where
  mem := by simp
  obj := fun i h st b hb => by
    have e : b = it := by simpa using hb
    subst e
    obtain ⟨o, e, c, d⟩ := st
    exact ⟨o, e, fun v z => by rw [d] at z; cases z⟩
  keep := fun i h h' st k => by
    obtain ⟨o, e, r⟩ := st
    exact ⟨o, k it (by simp) o e, r⟩
  item := by
    intro X hP hw hK hc i pins s σ H E I hf st hg
    subst hP hw hK
    obtain ⟨f0, f1, f2, f3, f4, f5⟩ := hf it (by simp)
    refine (W X.A (I.ok.hd hc)).item i s _ _ (by have : i < l.length := hg; simpa [tx] using this) st fun v h' tk hv st' kk => ?_
    obtain ⟨c, u, hcu, rfl⟩ := hv
    have I1 : Inv X pins σ H { s with heap := h', toks := tk } := I.turned (fun b o hb e => kk b o (by simpa using hb) e) f0 f1 f3 f4 f5
    obtain ⟨o, e, cl, d⟩ := id st'
    refine ⟨_, rfl, go_of (s := { s with heap := h', toks := tk }) (n := ty) e cl d (by rcases hty with rfl | rfl <;> decide) ⟨T [c], H, I1, ⟨u, rfl⟩, ⟨rfl, c, ?_, rfl⟩, st', fun b hb => (hf b hb).1⟩⟩
    simpa [tx] using hcu
  done := by
    intro X hP hw hK hc i pins s σ H E I hf st hg
    subst hP hw hK
    obtain ⟨f0, f1, f2, f3, f4, f5⟩ := hf it (by simp)
    have hn : l.length ≤ i := hg
    obtain ⟨o, e, cl, d⟩ := id st
    rcases hty with rfl | rfl
    · exact wpAny_pyNext_ascii_end (I.ok.hd hc) st (by simpa [tx] using hn) fun h' eb => ⟨rfl, I.turned (t' := s.toks) (fun b o hb e => eb b o hb e) f0 f1 f3 f4 f5⟩
    · exact wpAny_pyNext_wide_end (I.ok.hd hc) st (by simpa [tx] using hn) fun h' eb => ⟨rfl, I.turned (t' := s.toks) (fun b o hb e => eb b o hb e) f0 f1 f3 f4 f5⟩
  self := fun A i s Q E st h => by
    rcases hty with rfl | rfl
    · exact wpAny_pyIter_striter_ascii st h
    · exact wpAny_pyIter_striter_wide st h
noncomputable def iStr (tl : TE) : TI := fun σ H R => tl σ H fun x H1 => ∃ l, x = T l ∧ R (Itx l) H1
section
variable {X : Cx} {tg : Expr}
theorem pi_str {e : Expr} {tl : TE} (hl : PE X e tl) : PI X tg e (iStr tl) := by
  intro pins s σ H R I h
  refine thn (hl pins s σ H _ I h) fun v s1 ⟨x, H1, I1, r1, q1⟩ => ?_
  obtain ⟨l, rfl, q⟩ := q1
  obtain ⟨t, rfl⟩ := r1
  have fin : ∀ (ty : String) (o : Obj), (ty = "str_ascii_iterator" ∨ ty = "str_iterator") → (∀ A : Around, A.handled = none → Walks X.prog X.w A s1.heap.objs.size [s1.heap.objs.size] [s1.heap.objs.size] (tx l).cps.size (SignAt (tx l)) (fun i h => h.IsStrIter s1.heap.objs.size ty (tx l) t i)) →
      (s1.heap.push o).IsStrIter s1.heap.objs.size ty (tx l) t 0 → PIE X pins σ tg R (.ref s1.heap.objs.size) { s1 with heap := s1.heap.push o } := fun ty o hty W st => by
    refine ⟨s1.heap.objs.size, [s1.heap.objs.size], _, _, H1, rfl, I1.kept (t' := s1.toks) fun b o e => Heap.get?_push_of_some _ e, turn_text hty W, st, fun b hb => ?_, q⟩
    have e : b = s1.heap.objs.size := by simpa using hb
    subst e
    exact I1.fpOk (Nat.le_refl _) (I1.hok.fresh (Nat.le_refl _))
  cases ha : (tx l).cps.all (· < 128)
  · exact wpAny_pyIter_wide ha (fin "str_iterator" _ (.inr rfl) (fun A hA => Walks.strWide hA _ (tx l) t) ⟨_, Heap.get?_push_size _ rfl, rfl, rfl⟩)
  · exact wpAny_pyIter_ascii ha (fin "str_ascii_iterator" _ (.inl rfl) (fun A hA => Walks.strAscii hA _ (tx l) t) ⟨_, Heap.get?_push_size _ rfl, rfl, rfl⟩)
end
theorem for_text {l : List Nat} {g : TG} {tb : TS} {D : Ends} {σ : St} {H : Hp} (Pv : Nat → St → Hp → Prop) (h0 : Pv 0 σ H)
    (hs : ∀ i c σ H, l[i]? = some c → Pv i σ H → g (T [c]) σ H fun σ2 H2 => tb { D with nx := Pv (i + 1), ct := Pv (i + 1), bk := D.nx } σ2 H2) (hd : ∀ σ H, Pv l.length σ H → D.nx σ H) :
    ∃ W : Nat → Nat → St → Hp → Prop, (∃ m, W 0 m σ H) ∧ ∀ i m σ H, W i m σ H →
      ((Itx l).stop i H ∧ D.nx σ H) ∨ ((Itx l).go i H ∧ ∃ N : St → Hp → Prop, (∀ σ' H', N σ' H' → ∃ m', m' < m ∧ W (i + 1) m' σ' H') ∧ ∀ x H', (Itx l).yld i H x H' → g x σ H' fun σ2 H2 => tb { D with nx := N, ct := N, bk := D.nx } σ2 H2) := by
  refine ⟨fun i m σ H => m = l.length - i ∧ i ≤ l.length ∧ Pv i σ H, ⟨l.length, by simp, Nat.zero_le _, h0⟩, ?_⟩
  rintro i m σ H ⟨rfl, hi, p⟩
  by_cases hlt : i < l.length
  · refine .inr ⟨hlt, Pv (i + 1), fun σ' H' p' => ⟨l.length - (i + 1), by omega, rfl, hlt, p'⟩, fun x H' y => ?_⟩
    obtain ⟨rfl, c, hc, rfl⟩ := y
    exact hs i c σ _ hc p
  · obtain rfl : i = l.length := by omega
    exact .inl ⟨Nat.le_refl _, hd σ H p⟩

section
variable {X : Cx}
theorem op_notin_sT : OpR X (compareOp .NotIn) (fun x y H Q => ∃ c, x = T [c] ∧ ∃ l, y = T l ∧ Q (.bl (!decide (c ∈ l))) H) := by
  intro pins s σ H x y v u Q I rx ry h
  obtain ⟨c, e1, l, e2, q⟩ := h
  exact op_notin_str pins s σ H x y v u Q I rx ry ⟨tx [c], tx l, e1, e2, by rw [show tx [c] = ⟨#[c]⟩ from rfl, StrLaws.found_one, tx_cps]; exact q⟩
namespace RV
variable {prog : Program} {w : World} {A : Around} {E : Value → Shared → Prop} {s : Shared}
end RV
end
end L2

set_option Elab.async false
set_option linter.all false
set_option maxRecDepth 100000
set_option maxHeartbeats 4000000

namespace L2
open PySem PySem.Spec PyProof.Rows

section
variable {P : Program} {w : World} {K : PySem.W.Frag} {mg : Str → Option Value} {base : Heap}
theorem Fun.okN {x qual : Str} {st : Stmt} {f : Addr} {fd : FuncData} {N ps : List Str} {k : Nat} {sp : Sp} (F : Fun K x qual st f fd) (S : FnScope N ps (defScope st)) (len : ∀ vs H Q E, sp vs H Q E → vs.length = ps.length)
    (hbody : ∀ (cdv : Value) (A : Around) (outer : List Env) (s : Shared) (H : Hp) (vs : List V) (Q : VK) (E : XK), Room k (A.deeper (envOfC qual (defScope st) s.heap.objs.size f cdv)) → sp vs H Q E →
      ∃ t, PSs (cxOf (CX1 P w) P w K mg base N qual (defScope st) f cdv A outer s H E).nox (defBody st) t ∧ t { nx := fun _ H' => Q .non H', rt := Q } (start N vs) H) : FnOk P w K mg base (CX1 P w) (k + 1) f fd ps sp := by
  obtain ⟨oc, od, kV, doc, pm, an, cdv, ct, osl, rfl, lk, hcd⟩ := F.ex
  refine fn_of lk hcd S len fun A outer s H vs Q E hr hsp => ?_
  obtain ⟨t, h, q⟩ := hbody cdv A outer s H vs Q E hr hsp
  exact ⟨t, h.nox, q⟩
end

namespace EX
open PySem.W PySem.Calls PySem.Builtin PySem.Builtin.ObjectAttr PySem.Builtin.Getset_descriptor
variable {prog : Program} {w : World} {A : Around} {E : Value → Shared → Prop} {s : Shared} {K : PySem.W.Frag} {a C : Addr}
end EX
section
variable {X : Cx}
end
end L2

set_option Elab.async false
set_option linter.all false
set_option maxRecDepth 100000
set_option maxHeartbeats 4000000

namespace L2
open PySem PySem.Spec PyProof.Rows
section
variable {X : Cx} {es : List Expr} {te : TE} {t : TA}
theorem pa_cC {c : Const} {j : Nat} {p : Pos} (ha : PE X (.Constant c j p) te) (hr : PA X es t) : PA X (.Constant c j p :: es) (tCons te t) := pa_cons ha hr rfl
theorem pa_cT {as : List Expr} {k} {p : Pos} (ha : PE X (.Tuple as k p) te) (hr : PA X es t) : PA X (.Tuple as k p :: es) (tCons te t) := pa_cons ha hr rfl
noncomputable def cPairs : List ((Int × Nat × Pos) × (Int × Nat × Pos) × Nat × Pos) → List Expr
  | [] => []
  | ((i, j, p), (i', j', p'), k, q) :: r => .Tuple [.Constant (.int i) j p, .Constant (.int i') j' p'] k q :: cPairs r
noncomputable def tPairs : List (Int × Int) → TA
  | [] => fun _ H Q => Q [] H
  | (a, b) :: r => fun σ H Q => ∀ t, H t = none → tPairs r σ (upd H t (.tup [.int a, .int b])) fun vs H1 => Q (.ref t :: vs) H1
theorem pa_pairs : ∀ l : List ((Int × Nat × Pos) × (Int × Nat × Pos) × Nat × Pos), PA X (cPairs l) (tPairs (l.map fun x => (x.1.1, x.2.1.1)))
  | [] => pa_nil
  | ((i, j, p), (i', j', p'), k, q) :: r => fun pos pins s σ H Q I h => by
    have h0 : PE X (.Tuple [.Constant (.int i) j p, .Constant (.int i') j' p'] k q) (tTup (tCons (tC (.int i)) (tCons (tC (.int i')) tNil))) := pe_tup (pa_cC pe_int (pa_cC pe_int pa_nil))
    refine pa_cT (X := X) h0 (pa_pairs r) pos pins s σ H Q I ⟨?_, fun t ht => h t ht⟩
    have hs : sizeLine = 16777216 := sizeLine_eq
    show 2 ≤ sizeLine
    omega
theorem pairs_use : ∀ (l : List (Int × Int)) {σ : St} {H : Hp} {Q : List V → Hp → Prop},
    (∀ vs H1, vs.length = l.length → Same H H1 → (∀ (j : Nat) (p : Int × Int), l[j]? = some p → ∃ t, vs[j]? = some (.ref t) ∧ H1 t = some (.tup [.int p.1, .int p.2])) → Q vs H1) → tPairs l σ H Q
  | [], _, H, _, h => h [] H rfl (Same.refl _) fun j p e => by cases e
  | (a, b) :: r, σ, H, Q, h => fun t ht => by
    refine pairs_use r fun vs H1 hl hs hv => h (.ref t :: vs) H1 (by rw [List.length_cons, hl, List.length_cons]) (fun c o e => hs c o (by rw [upd_ne (ne_of_none e ht)]; exact e)) fun j p e => ?_
    cases j with
    | zero =>
      have e' : (a, b) = p := by simpa using e
      subst e'
      exact ⟨t, rfl, hs t _ upd_same⟩
    | succ j =>
      obtain ⟨t', h1, h2⟩ := hv j p (by simpa using e)
      exact ⟨t', by simpa using h1, h2⟩
end
end L2

set_option Elab.async false
set_option linter.all false
set_option maxRecDepth 100000
set_option maxHeartbeats 4000000

namespace L2
open PySem PySem.Spec PyProof.Rows
section
variable {X : Cx} {tg : Expr}
end
end L2

set_option Elab.async false
set_option linter.all false
set_option maxRecDepth 100000
namespace L2
open PySem
section
variable {X : Cx} {N' : List Str} {scope : Scope} {x : Str} {px : Pos} {elt iter cd : Expr} {pos : Pos} {te : TE} {tc : TT} {wi : TI}

theorem pe_compf (S : CompSc X.N N' X.env.scope scope x) (hc : X.calm = true) (hi : PI X (.Name x px) iter wi) (ht : ∀ cl C s H fp, PT (cxComp X N' scope cl C s H fp) cd tc) (he : ∀ cl C s H fp, PE (cxComp X N' scope cl C s H fp) elt te)
    (hs : ∀ x, foldedSetIterable iter X.env x = pure x := by intro _; rfl) : PE X (.ListComp elt [⟨.Name x px, iter, [cd], 0⟩] scope pos) (tCompF wi tc te) :=
  pe_compx (at' := fun σ Q => compAtF tc te σ Q) S hc hi (fun cl C s H fp => ptl_one (ht cl C s H fp)) he (fun _ _ _ _ h => h) hs
theorem ps_setCompf {i : Nat} {y : Str} {py spos : Pos} (S : CompSc X.N N' X.env.scope scope x) (hc : X.calm = true) (hi : PI X (.Name x px) iter wi) (ht : ∀ cl C s H fp, PT (cxComp X N' scope cl C s H fp) cd tc) (he : ∀ cl C s H fp, PE (cxComp X N' scope cl C s H fp) elt te)
    (hN : X.N.Nodup) (hy : X.N[i]? = some y) (hyl : X.env.scope.names.lookup y = some .local)
    (hsw : swapsWith (.ListComp elt [⟨.Name x px, iter, [cd], 0⟩] scope pos) (some (.Name y py)) spos.line X.env = pure true := by rfl)
    (hs : ∀ x, foldedSetIterable iter X.env x = pure x := by intro _; rfl) : PS X (.Assign [.Name y py] (.ListComp elt [⟨.Name x px, iter, [cd], 0⟩] scope pos) spos) (tAsg (tCompF wi tc te) (gName i)) :=
  ps_setCompx (at' := fun σ Q => compAtF tc te σ Q) S hc hi (fun cl C s H fp => ptl_one (ht cl C s H fp)) he (fun _ _ _ _ h => h) hN hy hyl hsw hs
end

section
variable {X : Cx}
end
theorem take_filter {α : Type} (p : α → Bool) (l : List α) (i : Nat) (v : α) (h : l[i]? = some v) : (l.take (i + 1)).filter p = (l.take i).filter p ++ (if p v then [v] else []) := by
  rw [List.take_add_one, h, List.filter_append]
  cases hp : p v <;> simp [hp]
theorem filter_take_len {α : Type} (p : α → Bool) (l : List α) (i : Nat) : ((l.take i).filter p).length ≤ i := by
  have h1 := List.length_filter_le p (l.take i)
  rw [List.length_take] at h1
  omega
theorem cutL_take (w : List Nat) (k : Nat) : cutL w none (some (k : Int)) = w.take k := by
  unfold cutL
  rw [HT.sIx_nat, HT.sIx_none, List.drop_zero, Nat.sub_zero]
  by_cases h : k ≤ w.length
  · rw [Nat.min_eq_left h]
  · rw [Nat.min_eq_right (by omega), List.take_length, List.take_of_length_le (by omega)]
end L2

set_option autoImplicit false
set_option linter.all false
set_option maxRecDepth 100000
namespace SR
open PySem PyProof.Rows
set_option genInjectivity false in
structure SB (kd : SortKind) (z : Array Keyed) (st : SortSt) : Prop where
  prm : (arrOf st).Perm z
  knd : kindOf st = kd
  ffl : failedOf st = none
set_option genInjectivity false in
structure Kp (lo : Nat) (st st' : SortSt) : Prop where
  low : ∀ k, k < lo → (arrOf st')[k]? = (arrOf st)[k]?
  pen : pendingOf st' = pendingOf st
section
variable {prog : Program} {w : World} {A : Around} {E : Value → Shared → Prop} {s : Shared} {z : Array Keyed} {κ : KeyKind} {kd : SortKind}
end
end SR

set_option autoImplicit false
set_option linter.all false
set_option maxRecDepth 100000
namespace SR
open PySem PyProof.Rows
noncomputable def gal' : Bool → Keyed → Array Keyed → Nat → Nat → Nat → StateT SortSt Sem (Option Nat) := sortPriv% PySem.Builtin.gallop
noncomputable def bq (left : Bool) (key : Keyed) (arr : Array Keyed) (base : Nat) (i : Nat) : StateT SortSt Sem (Option Bool) := do
  let x ← elem' arr (base + i)
  if left then lt' x key else return (← lt' key x).map (!·)
section
variable {prog : Program} {w : World} {A : Around} {E : Value → Shared → Prop} {s : Shared} {z : Array Keyed} {κ : KeyKind} {kd : SortKind}
end
end SR

set_option autoImplicit false
set_option linter.all false
set_option maxRecDepth 100000
namespace SR
open PySem PyProof.Rows
section
variable {prog : Program} {w : World} {A : Around} {E : Value → Shared → Prop} {s : Shared} {z : Array Keyed} {κ : KeyKind} {kd : SortKind}
end
end SR

set_option autoImplicit false
set_option linter.all false
set_option maxRecDepth 100000
namespace SR
open PySem PyProof.Rows
section
variable {prog : Program} {w : World} {A : Around} {E : Value → Shared → Prop} {s : Shared} {κ : KeyKind} {kd : SortKind}
end
end SR

set_option autoImplicit false
set_option linter.all false
set_option maxRecDepth 100000
namespace SR
open PySem PyProof.Rows
noncomputable def rt (a : Array Keyed) (n : Nat) : List Keyed := (a.toList.take n).reverse
section
variable {prog : Program} {w : World} {A : Around} {E : Value → Shared → Prop} {s : Shared} {κ : KeyKind} {kd : SortKind}
noncomputable abbrev HiSt := Option (Array Keyed) × Nat × Nat × Array Keyed × Nat × Nat × Nat
noncomputable def hi3 (a b o : Array Keyed) (i j g p q : Nat) : StateT SortSt Sem (ForInStep HiSt) := do
  let x ← elem' a (i - 1)
  if (i - 1 == 0) = true then pure (ForInStep.done (some (a.extract 0 (i - 1) ++ b.extract 0 j ++ (o.push x).reverse), i - 1, j, o.push x, g, p, q))
  else if (decide (p < 7) && decide (q < 7)) = true then pure (ForInStep.done (none, i - 1, j, o.push x, g, p, q)) else pure (ForInStep.yield (none, i - 1, j, o.push x, g, p, q))
noncomputable def hi2 (a b o : Array Keyed) (i j g p q : Nat) : StateT SortSt Sem (ForInStep HiSt) := do
  let x ← elem' b j
  if (j == 1) = true then pure (ForInStep.done (some (b.extract 0 j ++ a.extract 0 i ++ (o.push x).reverse), i, j, o.push x, g, p, q))
  else do
    let u ← elem' a (i - 1)
    let z ← gal' true u b 0 j (j - 1)
    match z with
    | some y =>
      if j - y > 0 then
        if (y == 1) = true then pure (ForInStep.done (some (b.extract 0 y ++ a.extract 0 i ++ (o.push x ++ (b.extract y j).reverse).reverse), i, y, o.push x ++ (b.extract y j).reverse, g, p, j - y))
        else if (y == 0) = true then pure (ForInStep.done (some (a.extract 0 i ++ b.extract 0 y ++ (o.push x ++ (b.extract y j).reverse).reverse), i, y, o.push x ++ (b.extract y j).reverse, g, p, j - y))
        else hi3 a b (o.push x ++ (b.extract y j).reverse) i y g p (j - y)
      else hi3 a b (o.push x) i j g p (j - y)
    | _ => pure (ForInStep.done (some (a.extract 0 i ++ b.extract 0 j ++ (o.push x).reverse), i, j, o.push x, g, p, q))
end
end SR

set_option autoImplicit false
set_option linter.all false
set_option maxRecDepth 100000
namespace SR
open PySem PyProof.Rows
noncomputable def sg (xs : Array Keyed) (l n : Nat) : List Keyed := (xs.toList.drop l).take n
section
variable {κ : KeyKind} {kd : SortKind}
end
end SR

set_option autoImplicit false
set_option linter.all false
set_option maxRecDepth 100000
namespace SR
open PySem PyProof.Rows
section
variable {prog : Program} {w : World} {A : Around} {E : Value → Shared → Prop} {s : Shared} {z : Array Keyed} {κ : KeyKind} {kd : SortKind}
end
end SR

set_option autoImplicit false
set_option linter.all false
set_option maxRecDepth 100000
namespace SR
open PySem PyProof.Rows
section
variable {κ : KeyKind} {kd : SortKind}
end
section
variable {prog : Program} {w : World} {A : Around} {E : Value → Shared → Prop} {s : Shared} {z : Array Keyed} {κ : KeyKind} {kd : SortKind}
end
end SR

set_option autoImplicit false
set_option linter.all false
set_option maxRecDepth 100000
set_option maxHeartbeats 200000
namespace SR
open PySem PyProof.Rows PySem.Spec
section
variable {prog : Program} {w : World} {A : Around} {E : Value → Shared → Prop} {s : Shared}
end
end SR

set_option Elab.async false
set_option linter.all false
set_option maxRecDepth 100000
namespace L2
open PySem PyProof.Rows PySem.Spec
section
variable {X : Cx}
end
end L2

set_option Elab.async false
set_option linter.all false
set_option maxRecDepth 100000
namespace L2
open PySem PyProof.Rows PySem.Spec
section
variable {X : Cx}
theorem vals_countP {x : V} : ∀ {xs : List V} {us : List Value}, Vals xs us → xs.all flatV = true → us.countP (eqU x) = xs.countP (fun y => eqV y x)
  | _, _, .nil, _ => rfl
  | y :: xs, u :: us, .cons r t, f => by
    rw [List.all_cons, Bool.and_eq_true] at f
    rw [List.countP_cons, List.countP_cons, vals_countP t f.2, eqU_of r f.1]
theorem mt_countV : MtR X "list.count" (fun x xs H Q => ∃ (p : Addr) (ys : List V) (a : V), x = .ref p ∧ xs = [a] ∧ SqL X.K H p ys ∧ ys.all flatV = true ∧ flatV a = true ∧ Q (.int ((ys.countP (fun y => eqV y a) : Nat) : Int)) H) := by
  intro pins s σ H x xs v us Q I rx rs h
  obtain ⟨p, ys, a, rfl, rfl, hq, hf, ha, q⟩ := h
  cases rx
  obtain ⟨u, rfl, ru⟩ := vals1 rs
  obtain ⟨its, r, ⟨⟨cls, dd, data, sl⟩, n, ho, hc, hdd, hd⟩, hz⟩ := I.list hq
  simp only at hc hd
  subst hc hd
  refine call_meets PySem.F.slot_list_count ⟨_, ho, rfl⟩ PySem.F.entry_list_count (PySem.F.args_list_count_2 _ _) (SeqAt.list_countAt p its.toArray n dd sl u (eqU a))
    ⟨ho, fun y hy => mem_eqAt ru ha r hf y (by simpa using hy), ⟨.int ((ys.countP (fun y => eqV y a) : Nat) : Int), H, I.tok _, ⟨s.toks, by rw [← vals_countP r hf]⟩, q⟩⟩
theorem call_sumX (hc : X.calm = true) : CallR X (.builtin "sum") (fun xs H Q => ∃ (p : Addr) (ns : List Int), xs = [.ref p] ∧ SqL X.K H p (ns.map V.int) ∧ Q (.int ns.sum) H) := by
  intro pins s σ H xs us Q I r h
  obtain ⟨p, ns, rfl, hq, q⟩ := h
  obtain ⟨u, rfl, ru⟩ := vals1 r
  cases ru
  obtain ⟨its, rv, pl, _⟩ := I.list hq
  have hia := intsAre_of rv
  have hnum := hia.numsOf
  obtain ⟨ys, hx⟩ := hia.allInts.items
  have hl := pl.isList
  rw [hx] at hl
  have e : preSum (numAt ys) ys.size = ns.sum := by
    rw [preSum_eq, List.take_of_length_le (by simp)]
    rw [← hnum, show its = its.toArray.toList from by simp, hx, nums_intItems]
  exact sum_intListG (I.ok.hd hc) hl fun h' tk t' hk => ⟨.int ns.sum, H, I.kept hk, ⟨t', by rw [e]⟩, q⟩
end
end L2

namespace L2
open PySem PyProof.Rows PySem.Spec
section
variable {X : Cx}
theorem mt_countK (K : PySem.W.Frag) (hK : X.K = K) : MtR X "list.count" (fun x xs H Q => ∃ (p : Addr) (ys : List V) (a : V), x = .ref p ∧ xs = [a] ∧ SqL K H p ys ∧ ys.all flatV = true ∧ flatV a = true ∧ Q (.int ((ys.countP (fun y => eqV y a) : Nat) : Int)) H) := by
  subst hK
  exact mt_countV
theorem pe_bmK (K : PySem.W.Frag) (hK : X.K = K) {o e : Expr} {es : List Expr} {to : TE} {t : TA} {name : Str} {apos cpos : Pos} {T id : String} {r : V → List V → Hp → VK → Prop}
    (pa : PlainAttrs T) (slot : Slot T name id) (hty : typeOf (.builtin id) = pure (.type "method_descriptor")) (hm : MtR X id r) (ho : PE X o to) (ha : PA X (e :: es) t)
    (b1 : attributeBase o name X.env (eval o X.env) = eval o X.env := by rfl)
    (b2 : ((backTo cpos (starEach (e :: es) X.env)).all (fun x => !x.1) && (backToKw cpos (keywordEach [] X.env)).all (fun x => x.1.isSome) && decide ((e :: es).length + ([] : List Keyword).length + (if ([] : List Keyword).isEmpty then 0 else 1) < 30)) = true := by rfl)
    (b3 : (apos.endLine == cpos.line) = true := by rfl) (b4 : starEach (e :: es) X.env = (false, eval e X.env) :: starEach es X.env := by rfl) (b5 : (backTo cpos (starEach es X.env)).any (·.1) = false := by rfl) :
    PE X (.Call (.Attribute o name apos) (e :: es) [] cpos) (tBM K T r to t) := by
  subst hK
  exact pe_bm pa slot hty hm ho ha b1 b2 b3 b4 b5
end
end L2

set_option Elab.async false
set_option linter.all false
set_option maxRecDepth 100000
set_option Elab.async false
set_option linter.all false
set_option maxRecDepth 100000
namespace L2
open PySem PySem.Spec PyProof.Rows

end L2

namespace L2
open PySem PySem.Spec PyProof.Rows

section
variable (P : Program) (w : World)
end

section
variable {P : Program} {w : World} {H H' : Hp} {h h' : Heap} {a : Addr} {o : HO}
end

section
variable {P : Program} {w : World} {H : Hp} {h h' : Heap} {x e : Addr} {o' : HO}
end

section
variable {fs fs' ex ex' : List Addr} {H H1 H2 : Hp} {h h1 h2 h' : Heap} {a x e : Addr} {o : HO}
end

end L2

namespace L2
open PySem PySem.Spec PyProof.Rows

section
variable {X : Cx} {pins : List (Addr × Obj)} {σ : List (Option V)} {H H' : Hp} {s : Shared} {h' : Heap}

end

end L2

namespace L2
open PySem PySem.Spec PyProof.Rows
section
variable {X : Cx}

variable {a b : Expr} {ta tb : TE} {pos : Pos}
variable {tA tB' : TT} {rest : List Expr}
end
end L2

namespace L2
open PySem PySem.Spec PyProof.Rows

section
variable {X : Cx} {pins : List (Addr × Obj)} {σ : St} {H : Hp} {s : Shared} {a : Addr} {xs ys : List V}
end

section
variable {X : Cx} {pins : List (Addr × Obj)} {σ : St} {H : Hp} {s : Shared} {E : Value → Shared → Prop}
end

section
variable {X : Cx} {st : Stmt} {rest : List Stmt} {t u : TS} {e : Expr} {te : TE} {pos : Pos}
end

section
variable {X : Cx} {pos : Pos}
end

section
variable {X : Cx} {pos : Pos}
end

end L2

namespace L2
open PySem PySem.Spec PyProof.Rows
section
variable {X : Cx} {tg : Expr}
end

end L2

namespace L2
open PySem PySem.Spec PyProof.Rows

section
variable {X : Cx} {a b c : Expr} {ta tb tc : TE} {pos : Pos}

end

section
variable {X : Cx} {a b c : Expr} {ta tb tc : TE} {pos : Pos}
end
end L2

namespace L2
open PySem PySem.Spec PyProof.Rows

section
variable {prog : Program} {w : World} {A : Around} {E : Value → Shared → Prop} {s : Shared} {K : PySem.W.Frag} {x dx C f : Addr} {mA : Str → Option Value} {name : Str} {v : Value}

end

section
variable {P : Program} {w : World} {H H' : Hp} {h h' : Heap} {a C dx : Addr} {fs fs' : List (Str × V)}
end

section
variable {X : Cx} {pins : List (Addr × Obj)} {σ : St} {H : Hp} {s : Shared} {a C dx : Addr} {fs : List (Str × V)} {f : Str} {v : V} {A : Around} {E : Value → Shared → Prop}

end

section
variable {X : Cx} {o e value : Expr} {f : Str} {pos pos' tpos : Pos} {ta tv : TE}
end

section
variable {X : Cx} {pins : List (Addr × Obj)} {σ : St} {H : Hp} {s : Shared} {A : Around} {E : Value → Shared → Prop} {Q : Value → Shared → Prop} {c : Value} {b : Bool}
end
end L2

namespace L2
open PySem PySem.Spec PyProof.Rows

section
variable {X : Cx} {e : Expr} {es : List Expr} {te : TE} {t : TA} {pos : Pos}
end

section
variable {X : Cx} {pins : List (Addr × Obj)} {σ : St} {H : Hp} {s s' : Shared}
end

section
variable {X : Cx} {CX : CXT} {k : Nat} {f C : Addr} {fd : FuncData} {ps : List Str} {sp : Sp} {dvs : List V} {ds : List Value} {E : XK} {x m : Str} {p pos apos : Pos} {e o : Expr} {es : List Expr} {ta : TE} {t : TA}

end

section
variable {X : Cx} {CX : CXT} {k : Nat} {f C : Addr} {fd : FuncData} {ps ks : List Str} {sp : Sp} {E : XK} {x m : Str} {p pos apos kpos : Pos} {e o : Expr} {es : List Expr} {kws : List Keyword} {te ta : TE} {t tk : TA} {nm : Option Str}
variable {g : List Value → List Value → List Value} {gV : List V → List V → List V}
end

end L2

namespace L2
open PySem PySem.Spec PyProof.Rows
section
variable {X : Cx} {x : Str} {p pos : Pos} {e : Expr} {es : List Expr} {t : TA} {id T : String} {r : List V → Hp → VK → Prop}

end
end L2

namespace L2
open PySem PySem.Spec PyProof.Rows

section
variable {κ : Type} [DecidableEq κ]
noncomputable def valV (kvs : List (κ × V)) (k : κ) : Option V := (kvs.find? fun kv => decide (kv.1 = k)).map (·.2)
noncomputable def putK (kvs : List (κ × V)) (k : κ) (v : V) : List (κ × V) :=
  if (kvs.any fun kv => decide (kv.1 = k)) = true then kvs.map (fun kv => if kv.1 = k then (kv.1, v) else kv) else kvs ++ [(k, v)]
theorem valV_pos {p : κ × V} {r : List (κ × V)} {k : κ} (e : p.1 = k) : valV (p :: r) k = some p.2 := by simp [valV, List.find?_cons, e]
theorem valV_neg {p : κ × V} {r : List (κ × V)} {k : κ} (e : ¬ p.1 = k) : valV (p :: r) k = valV r k := by simp [valV, List.find?_cons, e]
theorem valV_any (k : κ) : ∀ kvs : List (κ × V), (kvs.any fun kv => decide (kv.1 = k)) = (valV kvs k).isSome
  | [] => rfl
  | p :: r => by
    rw [List.any_cons]
    by_cases e : p.1 = k
    · simp only [valV_pos e, decide_eq_true e, Bool.true_or, Option.isSome_some]
    · rw [valV_neg e, decide_eq_false e, Bool.false_or]; exact valV_any k r
theorem length_putK (kvs : List (κ × V)) (k : κ) (v : V) : (putK kvs k v).length ≤ kvs.length + 1 := by
  unfold putK
  split
  · rw [List.length_map]; omega
  · rw [List.length_append, List.length_cons, List.length_nil]; omega
theorem RelO.isSome_eq {o : Option V} {u : Option Value} (r : RelO o u) : o.isSome = u.isSome := by
  cases o with
  | none => cases u with
    | none => rfl
    | some _ => exact (show False from r).elim
  | some _ => cases u with
    | none => exact (show False from r).elim
    | some _ => rfl
theorem KV.val {kvs : List (κ × V)} {vs : List (κ × Value)} (r : KV kvs vs) (k : κ) : RelO (valV kvs k) (valueAt vs k) := by
  unfold KV at r
  induction r with
  | nil => exact True.intro
  | @cons p q ps qs h t ih =>
    obtain ⟨h1, h2⟩ := h
    by_cases e : p.1 = k
    · have e' : q.1 = k := h1.symm.trans e
      have b : valueAt (q :: qs) k = some q.2 := by simp [valueAt, List.find?_cons, e']
      rw [valV_pos e, b]; exact h2
    · have e' : ¬ q.1 = k := fun z => e (h1.trans z)
      have b : valueAt (q :: qs) k = valueAt qs k := by simp [valueAt, List.find?_cons, e']
      rw [valV_neg e, b]; exact ih
theorem KV.any {kvs : List (κ × V)} {vs : List (κ × Value)} (r : KV kvs vs) (k : κ) : (kvs.any fun kv => decide (kv.1 = k)) = vs.any fun kv => decide (kv.1 = k) := by
  unfold KV at r
  induction r with
  | nil => rfl
  | cons h t ih => rw [List.any_cons, List.any_cons, ih, h.1]
theorem KV.repl {kvs : List (κ × V)} {vs : List (κ × Value)} (r : KV kvs vs) (k : κ) {y : V} {u : Value} (ry : RelV y u) :
    KV (kvs.map fun kv => if kv.1 = k then (kv.1, y) else kv) (vs.map fun kv => if kv.1 = k then (kv.1, u) else kv) := by
  unfold KV at r ⊢
  induction r with
  | nil => exact .nil
  | @cons p q ps qs h t ih =>
    rw [List.map_cons, List.map_cons]
    refine .cons ?_ ih
    obtain ⟨h1, h2⟩ := h
    by_cases e : p.1 = k
    · rw [if_pos e, if_pos (h1.symm.trans e)]; exact ⟨h1, ry⟩
    · rw [if_neg e, if_neg (fun z => e (h1.trans z))]; exact ⟨h1, h2⟩
theorem KV.put {kvs : List (κ × V)} {vs : List (κ × Value)} (r : KV kvs vs) (k : κ) {y : V} {u : Value} (ry : RelV y u) : KV (putK kvs k y) (stored vs k u) := by
  unfold putK stored
  rw [r.any k]
  by_cases e : (vs.any fun kv => decide (kv.1 = k)) = true
  · rw [if_pos e, if_pos e]; exact r.repl k ry
  · rw [if_neg e, if_neg e]; exact Paired.snoc r ⟨rfl, ry⟩
theorem KV.length {kvs : List (κ × V)} {vs : List (κ × Value)} (r : KV kvs vs) : kvs.length = vs.length := Paired.length r
end


theorem kV_is {P : Program} {w : World} {k : Key} {u : Value} (r : RelV (kV k) u) : (mixKind P w).is k u = true := by
  cases k with
  | inl i => obtain ⟨t, e⟩ := (show ∃ t, u = Value.int i t from r); subst e; exact mixKind_int P w i t
  | inr x => obtain ⟨t, e⟩ := (show ∃ t, u = Value.str x t from r); subst e; exact mixKind_str P w x t
theorem items_are {P : Program} {w : World} : ∀ {ks : List Key} {us : List Value}, Vals (ks.map kV) us → ItemsAre (mixKind P w) ks us
  | [], _, r => by rw [List.map_nil] at r; cases r; exact .nil
  | k :: ks, _, r => by
    rw [List.map_cons] at r
    cases r with
    | cons h t => exact .cons (kV_is h) (items_are t)

noncomputable abbrev KT (H : Hp) : List (List Key × V) → List (List Key × Addr × Value) → Prop := Paired fun p q => p.1 = q.1 ∧ H q.2.1 = some (.tup (p.1.map kV)) ∧ RelV p.2 q.2.2
theorem KT.val {H : Hp} {kvs : List (List Key × V)} {xs : List (List Key × Addr × Value)} (r : KT H kvs xs) (k : List Key) : RelO (valV kvs k) ((atKey xs k).map (·.2)) := by
  induction r with
  | nil => exact True.intro
  | @cons p q ps qs h t ih =>
    obtain ⟨h1, _, h2⟩ := h
    by_cases e : p.1 = k
    · have e' : q.1 = k := h1.symm.trans e
      have b : atKey (q :: qs) k = some q.2 := by simp [atKey, List.find?_cons, e']
      rw [valV_pos e, b]; exact h2
    · have e' : ¬ q.1 = k := fun z => e (h1.trans z)
      have b : atKey (q :: qs) k = atKey qs k := by simp [atKey, List.find?_cons, e']
      rw [valV_neg e, b]; exact ih
theorem KT.repl {H : Hp} {kvs : List (List Key × V)} {xs : List (List Key × Addr × Value)} (r : KT H kvs xs) (k : List Key) {y : V} {u : Value} (ry : RelV y u) :
    KT H (kvs.map fun kv => if kv.1 = k then (kv.1, y) else kv) (xs.map (putAt k u)) := by
  induction r with
  | nil => exact .nil
  | @cons p q ps qs h t ih =>
    rw [List.map_cons, List.map_cons]
    refine .cons ?_ ih
    obtain ⟨h1, h2, h3⟩ := h
    unfold putAt
    by_cases e : p.1 = k
    · rw [if_pos e, if_pos (h1.symm.trans e)]; exact ⟨h1, h2, ry⟩
    · rw [if_neg e, if_neg (fun z => e (h1.trans z))]; exact ⟨h1, h2, h3⟩
theorem KT.put {H : Hp} {kvs : List (List Key × V)} {xs : List (List Key × Addr × Value)} (r : KT H kvs xs) (k : List Key) {b : Addr} {y : V} {u : Value} (hb : H b = some (.tup (k.map kV))) (ry : RelV y u) :
    KT H (putK kvs k y) (storedH xs k b u) := by
  have e : (kvs.any fun kv => decide (kv.1 = k)) = (atKey xs k).isSome := by
    rw [valV_any, (r.val k).isSome_eq, Option.isSome_map]
  unfold putK storedH
  rw [e]
  by_cases q : (atKey xs k).isSome = true
  · rw [if_pos q, if_pos q]; exact r.repl k ry
  · rw [if_neg q, if_neg q]; exact Paired.snoc r ⟨rfl, hb, ry⟩
theorem KT.keeps {H H' : Hp} {kvs : List (List Key × V)} {xs : List (List Key × Addr × Value)} (r : KT H kvs xs) (ht : ∀ b ys, H b = some (.tup ys) → H' b = some (.tup ys)) : KT H' kvs xs :=
  Paired.mapP r fun _ _ z => ⟨z.1, ht _ _ z.2.1, z.2.2⟩

section
variable {P : Program} {w : World} {H : Hp} {h : Heap} {a : Addr}
theorem rd_of {u : HO} (ok : HOk P w H h) (e : Rd H a u) : ObjOk P w H h a u := e.ok ok
theorem dk_rd {kvs : List (Key × V)} (ok : HOk P w H h) (e : Rd H a (.dK kvs)) : kvs.length ≤ sizeLine ∧ (a == sysModules) = false ∧ ∃ vs, KV kvs vs ∧ h.DictOf (mixKind P w) a vs :=
  show ObjOk P w H h a (.dK kvs) from rd_of ok e
theorem dk_of {kvs : List (Key × V)} (ok : HOk P w H h) (e : H a = some (.dK kvs)) : kvs.length ≤ sizeLine ∧ (a == sysModules) = false ∧ ∃ vs, KV kvs vs ∧ h.DictOf (mixKind P w) a vs := dk_rd ok (.inl e)
theorem key_of {ks : List Key} (ok : HOk P w H h) (e : H a = some (.tup (ks.map kV))) : (tupleKind (mixKind P w)).is h ks a := by
  obtain ⟨_, its, r, o, h1, h2, n, h3⟩ := (show ObjOk P w H h a (.tup (ks.map kV)) from ok a _ e)
  exact ⟨o, its.toArray, n, h1, h2, h3, by simpa using items_are r⟩
theorem dt_rd {kvs : List (List Key × V)} (ok : HOk P w H h) (e : Rd H a (.dT kvs)) : kvs.length ≤ sizeLine ∧ (a == sysModules) = false ∧
    ∃ xs, KT H kvs xs ∧ h.DictOfH (tupleKind (mixKind P w)) a xs := by
  obtain ⟨z, y, xs, r, o, es, ep, h1, h2, h3, h4, h5⟩ := (show ObjOk P w H h a (.dT kvs) from rd_of ok e)
  refine ⟨z, y, xs, r, o, es, ep, h1, h2, h3, h4, fun x hx => ?_, h5⟩
  have all : ∀ {l : List (List Key × V)} {m : List (List Key × Addr × Value)}, KT H l m → ∀ x ∈ m, (tupleKind (mixKind P w)).is h x.1 x.2.1 := by
    intro l m q
    induction q with
    | nil => intro x hx; exact nomatch hx
    | @cons p q ps qs hq t ih =>
      intro x hx
      rcases List.mem_cons.mp hx with e | hx
      · subst e
        exact key_of ok (by rw [← hq.1]; exact hq.2.1)
      · exact ih x hx
  exact all r x hx
theorem dt_of {kvs : List (List Key × V)} (ok : HOk P w H h) (e : H a = some (.dT kvs)) : kvs.length ≤ sizeLine ∧ (a == sysModules) = false ∧
    ∃ xs, KT H kvs xs ∧ h.DictOfH (tupleKind (mixKind P w)) a xs := dt_rd ok (.inl e)
end

noncomputable def DGet (H : Hp) (a : Addr) (y : V) (r : Option V) : Prop :=
  (∃ kvs k, Rd H a (.dK kvs) ∧ y = kV k ∧ r = valV kvs k) ∨ ∃ kvs k b, Rd H a (.dT kvs) ∧ y = .ref b ∧ H b = some (.tup (k.map kV)) ∧ r = valV kvs k
noncomputable def DPut (H : Hp) (a : Addr) (y v : V) (H' : Hp) : Prop :=
  (∃ kvs k, H a = some (.dK kvs) ∧ y = kV k ∧ kvs.length < sizeLine ∧ H' = upd H a (.dK (putK kvs k v))) ∨
  ∃ kvs k b, H a = some (.dT kvs) ∧ y = .ref b ∧ H b = some (.tup (k.map kV)) ∧ kvs.length < sizeLine ∧ H' = upd H a (.dT (putK kvs k v))
theorem DGet.k {H : Hp} {a : Addr} {kvs : List (Key × V)} {k : Key} (e : H a = some (.dK kvs)) : DGet H a (kV k) (valV kvs k) := .inl ⟨kvs, k, .inl e, rfl, rfl⟩
theorem DPut.k {H : Hp} {a : Addr} {kvs : List (Key × V)} {k : Key} {v : V} (e : H a = some (.dK kvs)) (hl : kvs.length < sizeLine) : DPut H a (kV k) v (upd H a (.dK (putK kvs k v))) := .inl ⟨kvs, k, e, rfl, hl, rfl⟩
section
variable {X : Cx} {pins : List (Addr × Obj)} {σ : St} {H : Hp} {s : Shared} {a : Addr} {y v : V} {u r : Value} {o : Option V} {A : Around} {E : Value → Shared → Prop}

theorem Inv.big (I : Inv X pins σ H s) : sysModules < s.heap.objs.size := by
  have h : mainGlobals < s.heap.objs.size := (I.mod.glob.keeps I.bk).lt
  exact Nat.lt_trans (by decide) h

theorem d_getItem {Q : Value → Shared → Prop} (hu : A.units + 1 < cLine) (I : Inv X pins σ H s) (g : DGet H a y (some v)) (ry : RelV y u) (h : ∀ w' s', Inv X pins σ H s' → RelV v w' → Q w' s') :
    wpAny (model X.prog X.w) A (getItem (.ref a) u) Q E s := by
  rcases g with ⟨kvs, k, e, ey, l⟩ | ⟨kvs, k, b, e, ey, eb, l⟩
  · subst ey
    obtain ⟨z, hd, vs, rel, dd⟩ := dk_rd I.hok e
    obtain ⟨w', hw, rw'⟩ := RelO.some_of (v := v) (o := valueAt vs k) (by rw [l]; exact rel.val k)
    exact wpAny_getItem_of (kV_is ry) dd.mapOf hw (h w' _ (I.tok _) rw')
  · subst ey
    cases (show u = Value.ref b from ry)
    obtain ⟨z, hd, xs, rel, dd⟩ := dt_rd I.hok e
    obtain ⟨w', hw, rw'⟩ := RelO.some_of (v := v) (o := (atKey xs k).map (·.2)) (by rw [l]; exact rel.val k)
    obtain ⟨p, hp, hp2⟩ := Option.map_eq_some_iff.mp hw
    refine wpAny_getItem_heap (tupleKind_room_in1 hu) (key_of I.hok eb) dd hp ?_
    rw [hp2]
    exact h w' _ (I.tok _) rw'
theorem d_write {h' : Heap} {t' : Nat} {ob : HO} (I : Inv X pins σ H s) (mu : Mut (H a)) (hs : Heap.SameBut a s.heap h') (he : ∃ q, h'.get? a = some q) (new : ObjOk X.prog X.w (upd H a ob) h' a ob) :
    Inv X pins σ (upd H a ob) { s with heap := h', toks := t' } :=
  I.write (x := a) (e := a) mu (.inl rfl) (fun b q hb z => (hs.2 b hb).trans z) he new
theorem dk_new {P : Program} {w : World} {H' : Hp} {h' : Heap} {kvs : List (Key × V)} {vs : List (Key × Value)} (z : kvs.length ≤ sizeLine) (hd : (a == sysModules) = false) (rel : KV kvs vs) (dd : h'.DictOf (mixKind P w) a vs) :
    ObjOk P w H' h' a (.dK kvs) := ⟨z, hd, vs, rel, dd⟩
theorem d_setItem {H' : Hp} {Q : Unit → Shared → Prop} (hu : A.units + 1 < cLine) (I : Inv X pins σ H s) (g : DPut H a y v H') (ry : RelV y u) (rv : RelV v r) (h : ∀ s', Inv X pins σ H' s' → Q () s') :
    wpAny (model X.prog X.w) A (setItem (.ref a) u r) Q E s := by
  rcases g with ⟨kvs, k, e, ey, l, eH⟩ | ⟨kvs, k, b, e, ey, eb, l, eH⟩
  · subst ey eH
    obtain ⟨z, hd, vs, rel, dd⟩ := dk_of I.hok e
    have hz : vs.length ≤ sizeLine := by rw [← rel.length]; exact z
    have hl : (putK kvs k v).length ≤ sizeLine := by have := length_putK kvs k v; omega
    refine wpAny_setItem_pairs (hsz := hz) (kV_is ry) dd fun h' dd' hs => h _ ?_
    have he : ∃ q, h'.get? a = some q := let ⟨q, _, _, hq, _⟩ := dd'; ⟨q, hq⟩
    exact d_write I (by rw [e]; exact True.intro) hs he (dk_new hl hd (rel.put k rv) dd')
  · subst ey eH
    cases (show u = Value.ref b from ry)
    obtain ⟨z, hd, xs, rel, dd⟩ := dt_of I.hok e
    have hz : xs.length ≤ sizeLine := by rw [← Paired.length rel]; exact z
    have hl : (putK kvs k v).length ≤ sizeLine := by have := length_putK kvs k v; omega
    refine wpAny_setItem_heap (hsz := hz) (tupleKind_room_in1 hu) (key_of I.hok eb) dd fun h' dd' hs => h _ ?_
    obtain ⟨q, es, ep, hq, h2, h3, h4, _, h5⟩ := dd'
    refine d_write I (by rw [e]; exact True.intro) hs ⟨q, hq⟩ ⟨hl, hd, _, (rel.put k eb rv).keeps fun c ys ec => ?_, q, es, ep, hq, h2, h3, h4, h5⟩
    rw [upd_ne (ne_of ec e (fun z => nomatch z))]
    exact ec
end

section
variable {X : Cx} {pins : List (Addr × Obj)} {σ : St} {H : Hp} {s : Shared} {a : Addr} {kvs : List (Key × V)} {k : Key} {u : Value} {A : Around} {E : Value → Shared → Prop}
end


noncomputable def NoSl (i : Expr) : Prop := ∀ ov iv, subscripted i false ov iv = operate [ov, iv] (getItem ov iv)
theorem subD_of {prog : Program} {w : World} {A : Around} {E : Value → Shared → Prop} {s : Shared} {env : Env} {value slice : Expr} {pos : Pos} {T id : String} {Q : Value → Shared → Prop}
    (hl : typeLookup (.type T) "__getitem__" = pure (some (.builtin id))) (hs : NoSl slice)
    (h : wpAny (model prog w) A (eval value env) (fun o s₁ => wpAny (model prog w) A (eval slice env) (fun i s₂ => s₂.TypeIs o T ∧ wpAny (model prog w) A (getItem o i) Q E s₂) E s₁) E s) :
    wpAny (model prog w) A (eval (.Subscript value slice pos) env) Q E s := by
  refine Subscript_ (wpAny_mono h (fun o s₁ h₁ => wpAny_mono h₁ (fun i s₂ h₂ => ?_) fun _ _ x => x) fun _ _ x => x)
  obtain ⟨hT, h₂⟩ := h₂
  unfold subscriptTail
  refine wpAny_bind ?_
  rw [getitemInPython_of_ne hT.not_modules]
  refine wpAny_bind (wpAny_specialOf hT hl ?_)
  have fin : wpAny (model prog w) A (subscripted slice false o i) (fun r s₃ => wpAny (model prog w) A (letTemporaryGo value o r >>= fun _ => pure r) Q E s₃) E s₂ := by
    rw [hs o i]
    exact wpAny_operating (wpAny_mono h₂ (fun r s₃ h₃ => wpAny_bind (wpAny_letTemporaryGo (wpAny_pure h₃))) fun _ _ x => x)
  first
    | exact wpAny_pure (wpAny_bind fin)
    | exact wpAny_bind (wpAny_pure (wpAny_bind fin))
    | exact wpAny_bind fin

theorem dict_typeIs {X : Cx} {pins : List (Addr × Obj)} {σ : St} {H : Hp} {s : Shared} {a : Addr} {y : V} {o : Option V} (I : Inv X pins σ H s) (g : DGet H a y o) : s.TypeIs (.ref a) "dict" := by
  rcases g with ⟨kvs, k, e, _, _⟩ | ⟨kvs, k, b, e, _, _, _⟩
  · obtain ⟨_, _, vs, _, dd⟩ := dk_rd I.hok e
    exact dd.typeIs
  · obtain ⟨_, _, xs, _, dd⟩ := dt_rd I.hok e
    exact dd.typeIs
noncomputable def tDGet (td ty : TE) : TE := fun σ H Q => td σ H fun x H1 => ty σ H1 fun y H2 => ∃ a v, x = .ref a ∧ DGet H2 a y (some v) ∧ Q v H2
noncomputable def sDPut (td ty tv : TE) : TS := fun D σ H => tv σ H fun v H1 => td σ H1 fun x H2 => ty σ H2 fun y H3 => ∃ a H4, x = .ref a ∧ DPut H3 a y v H4 ∧ D.nx σ H4
section
variable {X : Cx} {o i e value : Expr} {pos pos' tpos : Pos} {td ty tv : TE}
theorem pe_dget (hu : X.A.units + 1 < cLine) (ho : PE X o td) (hi : PE X i ty) (hs : NoSl i) : PE X (.Subscript o i pos) (tDGet td ty) := by
  intro pins s σ H Q I h
  refine subD_of PySem.F.slot_dict_getitem.lookup hs (thn (ho pins s σ H _ I h) fun u s1 ⟨x, H1, I1, rx, q1⟩ => thn (hi pins s1 σ H1 _ I1 q1) fun iv s2 ⟨y, H2, I2, ry, a, v, ex, g, q2⟩ => ?_)
  subst ex
  obtain rfl : u = Value.ref a := rx
  exact ⟨dict_typeIs I2 g, d_getItem hu I2 g ry fun w' s3 I3 rw' => ⟨v, H2, I3, rw', q2⟩⟩
theorem ps_dput (hu : X.A.units + 1 < cLine) (ho : PE X o td) (hi : PE X i ty) (hv : PE X value tv) (hs : swapsWith value (some (.Subscript o i pos')) pos.line X.env = pure false) :
    PS X (.Assign [.Subscript o i pos'] value pos) (sDPut td ty tv) := by
  intro pins s σ H D I h
  refine wpAny_Assign_Subscript (thn (hv pins s σ H _ I h) fun r s1 ⟨v, H1, I1, rv, q1⟩ => thn (ho pins s1 σ H1 _ I1 q1) fun u s2 ⟨x, H2, I2, rx, q2⟩ => thn (hi pins s2 σ H2 _ I2 q2) fun iv s3 ⟨y, H3, I3, ry, a, H4, ex, g, q3⟩ => ?_) hs
  subst ex
  obtain rfl : u = Value.ref a := rx
  exact d_setItem hu I3 g ry rv fun s4 I4 => ⟨σ, H4, I4, q3⟩
end


theorem dk_empty {P : Program} {w : World} {H : Hp} (h : Heap) (hb : sysModules < h.objs.size) : ObjOk P w H (h.push { cls := .type "dict", data := .dict #[] }) h.objs.size (.dK []) :=
  ⟨Nat.zero_le _, beq_eq_false_iff_ne.mpr (Ne.symm (Nat.ne_of_lt hb)), [], .nil, Heap.DictOf.new h⟩
noncomputable def tDNewK : TE := fun _ H Q => ∀ p, H p = none → Q (.ref p) (upd H p (.dK []))
section
variable {X : Cx} {pos : Pos}
theorem pe_dnewK : PE X (.Dict [] [] pos) tDNewK := fun pins s σ H Q I h =>
  wpAny_Dict_empty ⟨.ref s.heap.objs.size, _, I.laid (a := s.heap.objs.size) (o := .dK []) (t' := s.toks) (fun _ _ q => Heap.get?_push_of_some _ q) (Nat.le_refl _) (dk_empty s.heap I.big), rfl, h _ (I.hok.fresh (Nat.le_refl _))⟩
end

set_option genInjectivity false in
structure M1 (X : Cx) (o : Expr) (m : Str) (apos : Pos) (e : Expr) (cpos : Pos) : Prop where
  base : attributeBase o m X.env (eval o X.env) = eval o X.env
  few : ((backTo cpos (starEach [e] X.env)).all (fun x => !x.1) && (backToKw cpos (keywordEach [] X.env)).all (fun x => x.1.isSome)
    && decide (([e] : List Expr).length + ([] : List Keyword).length + (if ([] : List Keyword).isEmpty then 0 else 1) < 30)) = true
  line : (apos.endLine == cpos.line) = true
  trees : backTo cpos (starEach [e] X.env) = [(false, eval e X.env)]
set_option genInjectivity false in
structure M2 (X : Cx) (o : Expr) (m : Str) (apos : Pos) (e f : Expr) (cpos : Pos) : Prop where
  base : attributeBase o m X.env (eval o X.env) = eval o X.env
  few : ((backTo cpos (starEach [e, f] X.env)).all (fun x => !x.1) && (backToKw cpos (keywordEach [] X.env)).all (fun x => x.1.isSome)
    && decide (([e, f] : List Expr).length + ([] : List Keyword).length + (if ([] : List Keyword).isEmpty then 0 else 1) < 30)) = true
  line : (apos.endLine == cpos.line) = true
  trees : backTo cpos (starEach [e, f] X.env) = [(false, eval e X.env), (false, eval f X.env)]

section
variable {X : Cx} {pins : List (Addr × Obj)} {σ : St} {H : Hp} {s : Shared} {a : Addr} {y d : V} {u r : Value} {o : Option V} {A : Around} {E : Value → Shared → Prop}
end

section
variable {X : Cx} {o e f : Expr} {apos cpos : Pos} {td ty tx : TE}
end

section
variable {X : Cx} {pins : List (Addr × Obj)} {σ : St} {H : Hp} {s : Shared} {a : Addr} {kvs : List (Key × V)} {A : Around} {E : Value → Shared → Prop}
theorem d_copyOf {Q : Value → Shared → Prop} (I : Inv X pins σ H s) (e : Rd H a (.dK kvs)) (h : ∀ p s', H p = none → Inv X pins σ (upd H p (.dK kvs)) s' → Q (.ref p) s') : wpAny (model X.prog X.w) A (call (.type "dict") [.ref a]) Q E s := by
  obtain ⟨z, hd, vs, rel, dd⟩ := dk_rd I.hok e
  refine kt_call_dict hd dd (by rw [← rel.length]; exact z) fun h' dd' hs => ?_
  refine h _ _ (I.hok.fresh (Nat.le_refl _)) (I.laid (a := s.heap.objs.size) (o := .dK kvs) (t' := s.toks) (fun b q hq => ?_) (Nat.le_refl _) (dk_new z (beq_eq_false_iff_ne.mpr (Ne.symm (Nat.ne_of_lt I.big))) rel dd'))
  exact (hs.2 b (Nat.ne_of_lt (Heap.lt_size hq))).trans (Heap.get?_push_of_some _ hq)
end


section
variable {X : Cx} {pins : List (Addr × Obj)} {σ : St} {H : Hp} {s : Shared} {a : Addr} {y : V} {u : Value} {A : Around} {E : Value → Shared → Prop}
end
end L2

namespace Att
open PySem PySem.W PySem.Calls PyProof.Rows

section
variable {prog : Program} {w : World} {A : Around} {E : Value → Shared → Prop} {s : Shared} {K : Frag}

end
end Att

namespace L2
open PySem PySem.Spec PyProof.Rows

end L2

namespace L2
open PySem PySem.Spec PyProof.Rows

end L2

namespace L2
open PySem PySem.Spec PyProof.Rows

section
variable {P : Program} {w : World} {K : PySem.W.Frag} {mg : Str → Option Value} {base : Heap}
end
section
variable {X : Cx}
end

section
variable {κ : Type} [DecidableEq κ]
end
end L2


set_option Elab.async false
set_option linter.all false
set_option maxRecDepth 100000
set_option maxHeartbeats 400000
namespace L2
open PySem PySem.Spec PyProof.Rows
namespace RT
noncomputable def obj (x : Str) (t : Tok) (i : Int) : Obj := { cls := .type "reversed", data := .fields #[.str x t, rawInt i] }
noncomputable def Is (h : Heap) (a : Addr) (x : Str) (t : Tok) (i : Int) : Prop := ∃ o, h.get? a = some o ∧ o.cls = .type "reversed" ∧ o.data = .fields #[.str x t, rawInt i]
section
variable {prog : Program} {w : World} {A : Around} {E : Value → Shared → Prop} {s : Shared}
end
section
variable {prog : Program} {w : World} {A : Around} {E : Value → Shared → Prop} {s : Shared}
end
end RT
section
variable {X : Cx}
end
end L2

set_option Elab.async false
set_option linter.all false
set_option maxRecDepth 100000
namespace L2
open PySem PySem.Spec PyProof.Rows
section
variable {X : Cx}
end
end L2
namespace L2
open PySem PySem.Spec PyProof.Rows
set_option genInjectivity false in
structure Cam (P : Program) (w : World) (K : PySem.W.Frag) (mg : Str → Option Value) (base : Heap) (CX : CXT) (x : Str) (C : Addr) (k : Nat) (ps : List Str) (sp : Sp) : Prop where
  ex : ∃ (f : Addr) (fd : FuncData), FnOk P w K mg base CX k f fd ps sp ∧ Mk K C f ∧ mg x = some (.ref C) ∧ Binds K fd ps []
section
variable {X : Cx}
theorem pe_mak {CX : CXT} {x : Str} {C : Addr} {j k : Nat} {ps : List Str} {sp : Sp} {E : XK} {e : Expr} {es : List Expr} {t : TA} {p pos : Pos} (c : Cam X.prog X.w X.K X.mg X.base CX x C j ps sp) (hr : Room k X.A) (hx : Passes CX X E) (ha : PA X (e :: es) t)
    (hjk : j + 1 ≤ k := by decide) (hg : Gl X x := by rfl) (b1 : (x == ("__debug__" : Str)) = false := by decide) (b2 : starEach (e :: es) X.env = (false, eval e X.env) :: starEach es X.env := by rfl) (b3 : (backTo pos (starEach es X.env)).any (·.1) = false := by rfl) :
    PE X (.Call (.Name x p) (e :: es) [] pos) (tMake C sp [] E t) := by
  obtain ⟨f, fd, F, M, hm, hb⟩ := c.ex
  exact pe_make M F (hr.mono hjk) hg hm hb .nil hx ha b1 b2 b3
end
end L2

set_option Elab.async false
set_option linter.all false
set_option maxRecDepth 100000
set_option maxHeartbeats 4000000
namespace L2
open PySem PySem.Spec PyProof.Rows
section
variable {X : Cx}
end
namespace SE
section
variable {prog : Program} {w : World} {A : Around} {E : Value → Shared → Prop} {s : Shared}
end
end SE
section
variable {X : Cx}
end
end L2

set_option Elab.async false
set_option linter.all false
set_option maxRecDepth 100000
namespace ST
open PySem PySem.SetTable

noncomputable def it (M : Nat) : Nat → Nat → Nat
  | 0, i => i
  | s + 1, i => it M s ((i * 5 + 1) % M)
theorem it_add (M : Nat) : ∀ s t i, it M (s + t) i = it M t (it M s i)
  | 0, t, i => by rw [Nat.zero_add]; rfl
  | s + 1, t, i => by rw [Nat.add_right_comm]; exact it_add M s t _
noncomputable def orbit (M : Nat) : Nat → Nat → List Nat
  | 0, _ => []
  | s + 1, i => i :: orbit M s ((i * 5 + 1) % M)
theorem orbit_it {M : Nat} : ∀ {n i j : Nat}, j ∈ orbit M n i → ∃ s, s < n ∧ it M s i = j
  | n + 1, i, j, h => by
    rw [orbit, List.mem_cons] at h
    rcases h with h | h
    · exact ⟨0, by omega, h.symm⟩
    · obtain ⟨s, h1, h2⟩ := orbit_it h
      exact ⟨s + 1, by omega, h2⟩
noncomputable def full (M : Nat) : Bool := it M M 0 == 0 && (List.range M).all fun j => (orbit M M 0).contains j
theorem full_hits {M : Nat} (h : full M = true) {a j : Nat} (ha : a < M) (hj : j < M) : ∃ s, s < M ∧ it M s a = j := by
  rw [full, Bool.and_eq_true, beq_iff_eq, List.all_eq_true] at h
  have hit : ∀ x, x < M → ∃ s, s < M ∧ it M s 0 = x := fun x hx => orbit_it (by have := h.2 x (List.mem_range.mpr hx); simpa using this)
  obtain ⟨s0, h0, e0⟩ := hit a ha
  obtain ⟨s1, h1, e1⟩ := hit j hj
  rcases Nat.lt_or_ge s1 s0 with z | z
  · refine ⟨M - s0 + s1, by omega, ?_⟩
    have w : it M (M - s0) a = 0 := by rw [← e0, ← it_add, show s0 + (M - s0) = M by omega, h.1]
    rw [it_add, w, e1]
  · refine ⟨s1 - s0, by omega, ?_⟩
    rw [← e0, ← it_add, show s0 + (s1 - s0) = s1 by omega, e1]
noncomputable def Size (M : Nat) : Prop := M = 8 ∨ M = 16 ∨ M = 32 ∨ M = 64 ∨ M = 128 ∨ M = 256 ∨ M = 512
theorem Size.full {M : Nat} (h : Size M) : full M = true := by
  rcases h with rfl | rfl | rfl | rfl | rfl | rfl | rfl <;> decide +kernel
theorem Size.pos {M : Nat} (h : Size M) : 8 ≤ M := by
  rcases h with rfl | rfl | rfl | rfl | rfl | rfl | rfl <;> decide

noncomputable def lp (mask : Nat) : Nat → Nat → Nat → Nat × Nat
  | 0, i, p => (i, p)
  | s + 1, i, p => lp mask s (leap mask i p).1 (leap mask i p).2
theorem lp_add (mask : Nat) : ∀ s t i p, lp mask (s + t) i p = lp mask t (lp mask s i p).1 (lp mask s i p).2
  | 0, t, i, p => by rw [Nat.zero_add]; rfl
  | s + 1, t, i, p => by rw [Nat.add_right_comm]; exact lp_add mask s t _ _
theorem lp_p (mask : Nat) : ∀ s i p, (lp mask s i p).2 = p / 32 ^ s
  | 0, i, p => by rw [Nat.pow_zero, Nat.div_one]; rfl
  | s + 1, i, p => by
    show (lp mask s _ (p / 32)).2 = _
    rw [lp_p mask s, Nat.div_div_eq_div_mul, Nat.pow_succ, Nat.mul_comm]
theorem lp_it (mask : Nat) : ∀ s i, (lp mask s i 0).1 = it (mask + 1) s i
  | 0, i => rfl
  | s + 1, i => by
    show (lp mask s ((i * 5 + 1 + 0 / 32) % (mask + 1)) (0 / 32)).1 = _
    rw [Nat.zero_div, Nat.add_zero]
    exact lp_it mask s _
theorem lp_lt (mask : Nat) : ∀ s i p, i < mask + 1 → (lp mask s i p).1 < mask + 1
  | 0, i, p, h => h
  | s + 1, i, p, h => lp_lt mask s _ _ (Nat.mod_lt _ (Nat.succ_pos _))
theorem runEnd_ge (mask i : Nat) : i ≤ runEnd mask i := by
  unfold runEnd
  split <;> omega
theorem free_none {mask : Nat} {owner : Array (Option Nat)} : ∀ {fuel i p : Nat}, layClean.free mask owner fuel i p = none → ∀ s, s < fuel → (owner.getD (lp mask s i p).1 (some 0)).isNone = false
  | fuel + 1, i, p, h, s, hs => by
    rw [layClean.free] at h
    split at h
    · cases h
    · rename_i hf
      cases s with
      | zero =>
        have := List.find?_eq_none.mp hf 0 (List.mem_range.mpr (by have := runEnd_ge mask i; omega))
        rw [Nat.add_zero] at this
        exact Bool.eq_false_iff.mpr this
      | succ s => exact free_none h s (by omega)
theorem free_some {mask : Nat} {owner : Array (Option Nat)} : ∀ {fuel i p j : Nat}, layClean.free mask owner fuel i p = some j → (owner.getD j (some 0)).isNone = true
  | fuel + 1, i, p, j, h => by
    rw [layClean.free] at h
    split at h
    · rename_i k hf
      cases h
      have := List.find?_some hf
      exact this
    · exact free_some h
theorem free_ok {mask : Nat} {owner : Array (Option Nat)} {i p j : Nat} (hM : Size (mask + 1)) (hi : i < mask + 1) (hp : p < 2 ^ 64) (hj : j < mask + 1) (he : (owner.getD j (some 0)).isNone = true) :
    ∃ k, layClean.free mask owner (turns mask) i p = some k ∧ (owner.getD k (some 0)).isNone = true := by
  cases hf : layClean.free mask owner (turns mask) i p with
  | some k => exact ⟨k, rfl, free_some hf⟩
  | none =>
    exfalso
    have h13 : (lp mask 13 i p).2 = 0 := by
      rw [lp_p]
      exact Nat.div_eq_of_lt (Nat.lt_trans hp (by decide))
    obtain ⟨s, hs, e⟩ := full_hits hM.full (lp_lt mask 13 i p hi) hj
    have z := free_none hf (13 + s) (by unfold turns; omega)
    rw [lp_add, h13, lp_it, e, he] at z
    cases z

theorem fm_congr {α β : Type} {f g : α → Option β} : ∀ l : List α, (∀ i ∈ l, f i = g i) → l.filterMap f = l.filterMap g
  | [], _ => rfl
  | x :: l, h => by
    have ih := fm_congr l fun i hi => h i (List.mem_cons_of_mem _ hi)
    rw [List.filterMap_cons, List.filterMap_cons, h x (List.mem_cons_self ..), ih]
noncomputable def vals (N : Nat) (f : Nat → Option Nat) : List Nat := (List.range N).filterMap f
theorem fm_upd {f g : Nat → Option Nat} {j v : Nat} (hf : f j = none) (hg : g j = some v) (he : ∀ i, i ≠ j → g i = f i) : ∀ l : List Nat, l.Nodup → j ∈ l → (l.filterMap g).Perm (v :: l.filterMap f)
  | x :: l, nd, hm => by
    rw [List.nodup_cons] at nd
    by_cases e : x = j
    · subst e
      rw [List.filterMap_cons_some hg, List.filterMap_cons_none hf]
      have : l.filterMap g = l.filterMap f := fm_congr l fun i hi => he i fun z => nd.1 (z ▸ hi)
      rw [this]
    · have hm' : j ∈ l := by
        rcases List.mem_cons.mp hm with z | z
        · exact absurd z.symm e
        · exact z
      have ih := fm_upd hf hg he l nd.2 hm'
      have hx := he x e
      cases h : f x with
      | none => rw [List.filterMap_cons_none (hx.trans h), List.filterMap_cons_none h]; exact ih
      | some y =>
        rw [List.filterMap_cons_some (hx.trans h), List.filterMap_cons_some h]
        exact (ih.cons y).trans (List.Perm.swap ..)
theorem fm_full {f : Nat → Option Nat} : ∀ l : List Nat, (∀ i ∈ l, (f i).isNone = false) → (l.filterMap f).length = l.length
  | [], _ => rfl
  | x :: l, h => by
    have hx := h x (List.mem_cons_self ..)
    cases e : f x with
    | none => rw [e] at hx; cases hx
    | some y => rw [List.filterMap_cons_some e, List.length_cons, List.length_cons, fm_full l fun i hi => h i (List.mem_cons_of_mem _ hi)]
noncomputable def Good (mask : Nat) (owner : Array (Option Nat)) (k : Nat) : Prop := owner.size = mask + 1 ∧ (vals (mask + 1) fun j => owner.getD j none).Perm (List.range k)
theorem getD_some {owner : Array (Option Nat)} {j : Nat} (h : j < owner.size) : owner.getD j (some 0) = owner.getD j none := by
  simp [Array.getD, h]
theorem layStep {mask : Nat} (hM : Size (mask + 1)) {owner : Array (Option Nat)} {k : Nat} (g : Good mask owner k) (hk : k < mask + 1) (h : Int) :
    ∃ j, layClean.free mask owner (turns mask) (bits h % (mask + 1)) (bits h) = some j ∧ Good mask (owner.setIfInBounds j (some k)) (k + 1) := by
  obtain ⟨hs, hp⟩ := g
  obtain ⟨j0, hj0, he0⟩ : ∃ j, j < mask + 1 ∧ (owner.getD j (some 0)).isNone = true := by
    apply Classical.byContradiction
    intro hno
    have := fm_full (f := fun j => owner.getD j none) (List.range (mask + 1)) fun i hi => by
      have hi' := List.mem_range.mp hi
      have e := getD_some (owner := owner) (j := i) (by omega)
      cases z : (owner.getD i none).isNone with
      | false => rfl
      | true => exact absurd ⟨i, hi', by rw [e]; exact z⟩ hno
    rw [List.length_range] at this
    have h2 := hp.length_eq
    rw [List.length_range] at h2
    unfold vals at h2
    omega
  obtain ⟨j, e1, e2⟩ := free_ok hM (i := bits h % (mask + 1)) (p := bits h) (Nat.mod_lt _ (Nat.succ_pos _)) (by unfold bits; omega) hj0 he0
  have hj : j < owner.size := by
    rcases Nat.lt_or_ge j owner.size with z | z
    · exact z
    · rw [Array.getD, dif_neg (by omega)] at e2
      cases e2
  refine ⟨j, e1, by rw [Array.size_setIfInBounds]; exact hs, ?_⟩
  have hf : (fun i => owner.getD i none) j = none := by
    show owner.getD j none = none
    rw [getD_some hj] at e2
    cases z : owner.getD j none with
    | none => rfl
    | some y => rw [z] at e2; cases e2
  have hg : (fun i => (owner.setIfInBounds j (some k)).getD i none) j = some k := by
    show (owner.setIfInBounds j (some k)).getD j none = some k
    simp [Array.getD, hj]
  have q := fm_upd hf hg (fun i hi => by
    show (owner.setIfInBounds j (some k)).getD i none = owner.getD i none
    rw [Array.getD_eq_getD_getElem?, Array.getD_eq_getD_getElem?, Array.getElem?_setIfInBounds_ne (Ne.symm hi)]) (List.range (mask + 1)) List.nodup_range (List.mem_range.mpr (by omega))
  refine q.trans ?_
  rw [show List.range (k + 1) = List.range k ++ [k] from List.range_succ]
  exact (hp.cons k).trans (List.perm_append_singleton ..).symm
theorem layAll {mask : Nat} (hM : Size (mask + 1)) : ∀ (hs : List Int) (owner : Array (Option Nat)) (k : Nat), Good mask owner k → k + hs.length ≤ mask + 1 →
    ∃ o', (hs.foldl (fun acc h => do
      let (owner, k) ← acc
      let j ← layClean.free mask owner (turns mask) (bits h % (mask + 1)) (bits h)
      pure (owner.setIfInBounds j (some k), k + 1)) (some (owner, k))) = some (o', k + hs.length) ∧ Good mask o' (k + hs.length)
  | [], owner, k, g, _ => ⟨owner, rfl, g⟩
  | h :: hs, owner, k, g, hk => by
    rw [List.length_cons] at hk
    obtain ⟨j, e, g'⟩ := layStep hM g (by omega) h
    obtain ⟨o', e', g''⟩ := layAll hM hs _ _ g' (by omega)
    refine ⟨o', ?_, by rw [List.length_cons, show k + (hs.length + 1) = k + 1 + hs.length by omega]; exact g''⟩
    rw [List.foldl_cons, List.length_cons, show k + (hs.length + 1) = k + 1 + hs.length by omega, ← e']
    congr 1
    show (layClean.free mask owner (turns mask) (bits h % (mask + 1)) (bits h)).bind _ = _
    rw [e]
    rfl
theorem good_nil (mask : Nat) : Good mask (Array.replicate (mask + 1) none) 0 := by
  refine ⟨Array.size_replicate, ?_⟩
  have : vals (mask + 1) (fun j => (Array.replicate (mask + 1) (none : Option Nat)).getD j none) = [] := by
    unfold vals
    refine List.filterMap_eq_nil_iff.mpr fun i _ => ?_
    rw [Array.getD_eq_getD_getElem?, Array.getElem?_replicate]
    split <;> rfl
  rw [this]
  exact List.Perm.refl _
theorem laid_ok {mask finger moves : Nat} {led plain : Bool} {hashes : Array Int} (hM : Size (mask + 1)) (hn : hashes.size ≤ mask) :
    ∃ (t : SetTable) (order : Array Nat), laid mask finger moves led plain hashes = some (t, order) ∧ order.toList.Perm (List.range hashes.size) ∧ t.place.size = hashes.size ∧ t.mask = mask ∧ t.dummies = #[] ∧ t.led = led ∧ t.plain = plain := by
  obtain ⟨o, e, g⟩ := layAll hM hashes.toList _ 0 (good_nil mask) (by rw [Array.length_toList]; omega)
  have hc : layClean mask hashes = some o := by
    unfold layClean
    rw [← Array.foldl_toList]
    refine (congrArg (Option.map (·.1)) e).trans ?_
    rfl
  have em : ((List.range (mask + 1)).filterMap fun j => (o.getD j none).map (j, ·)).map (·.2) = vals (mask + 1) fun j => o.getD j none := by
    rw [List.map_filterMap]
    unfold vals
    refine fm_congr _ fun i _ => ?_
    cases o.getD i none <;> rfl
  have gp : (vals (mask + 1) fun j => o.getD j none).Perm (List.range hashes.size) := by
    have := g.2
    rw [Nat.zero_add, Array.length_toList] at this
    exact this
  refine ⟨_, _, by unfold laid; rw [hc]; rfl, by rw [em]; exact gp, ?_, rfl, rfl, rfl, rfl⟩
  show (((List.range (mask + 1)).filterMap fun j => (o.getD j none).map (j, ·)).map (·.1)).toArray.size = _
  have hl := congrArg List.length em
  rw [List.length_map] at hl
  rw [List.size_toArray, List.length_map, hl, gp.length_eq, List.length_range]
end ST

set_option Elab.async false
set_option linter.all false
set_option maxRecDepth 100000
set_option maxHeartbeats 4000000
namespace SS
open PySem PyProof.Rows
noncomputable def byT (w : World) : Bool := w.params.followText "set-order"
noncomputable def keyV : Value → Str
  | .str x _ => x
  | _ => Str.empty
noncomputable def El (w : World) (e : Int × Value) : Prop := e.1 = hashStr w (keyV e.2) ∧ ∃ t, e.2 = .str (keyV e.2) t
noncomputable def Els (w : World) (es : List (Int × Value)) (ms : List Str) : Prop := (∀ e ∈ es, El w e) ∧ (es.map fun e => keyV e.2).Perm ms
theorem Els.perm {w : World} {es es' : List (Int × Value)} {ms : List Str} (h : Els w es ms) (p : es'.Perm es) : Els w es' ms := ⟨fun e he => h.1 e (p.mem_iff.mp he), (p.map _).trans h.2⟩
theorem Els.of {w : World} {prog : Program} {es : List (Int × Value)} {ms : List Str} (h : Els w es ms) : ElemsOf (PySem.strKind prog w) es := fun e he => by
  obtain ⟨h1, t, h2⟩ := h.1 e he
  refine ⟨⟨keyV e.2, ?_, h1⟩, ?_⟩
  · rw [h2]
    exact strKind_is prog w _ t
  · rw [h2]
    rfl
theorem Els.len {w : World} {es : List (Int × Value)} {ms : List Str} (h : Els w es ms) : es.length = ms.length := by
  have := h.2.length_eq
  rwa [List.length_map] at this
theorem Els.has {w : World} {prog : Program} {es : List (Int × Value)} {ms : List Str} (h : Els w es ms) (k : Str) : k ∈ ms ↔ ∃ e ∈ es, (PySem.strKind prog w).is k e.2 = true := by
  rw [← h.2.mem_iff, List.mem_map]
  constructor
  · rintro ⟨e, he, rfl⟩
    obtain ⟨_, t, h2⟩ := h.1 e he
    refine ⟨e, he, ?_⟩
    conv => lhs; arg 3; rw [h2]
    exact strKind_is prog w _ t
  · rintro ⟨e, he, hk⟩
    obtain ⟨t, ht⟩ := Value.isStrOf_shape hk
    exact ⟨e, he, by rw [ht]; rfl⟩
noncomputable def Is (w : World) (h : Heap) (a : Addr) (ms : List Str) : Prop :=
  ∃ o es ep t, h.get? a = some o ∧ o.ExactSet ∧ o.data = .set es ep t ∧ Els w es.toList ms ∧ ms.Nodup ∧ es.size < scanBound ∧ t.fits es.size = true ∧ (byT w = true ∨ t.led = true) ∧ (es.size = 0 ∨ t.plain = false)
theorem Is.at {w : World} {h h' : Heap} {a : Addr} {ms : List Str} (x : Is w h a ms) (e : ∀ o, h.get? a = some o → h'.get? a = some o) : Is w h' a ms := let ⟨o, es, ep, t, ho, r⟩ := x; ⟨o, es, ep, t, e o ho, r⟩
theorem Is.there {w : World} {h : Heap} {a : Addr} {ms : List Str} (x : Is w h a ms) : ∃ o, h.get? a = some o := let ⟨o, _, _, _, ho, _⟩ := x; ⟨o, ho⟩
theorem layNew_led (t : SetTable) (es : Array (Int × Value)) (h : Int) (x : Value) : (layNew t es h x).2.1.led = t.led := by
  unfold layNew
  split
  · rename_i slot wd _
    show ((t.put slot).1.orStandIn _).led = t.led
    unfold SetTable.orStandIn
    split <;> rfl
  · rfl
theorem laid_marks {mask finger moves : Nat} {led plain : Bool} {hs : Array Int} {t : SetTable} {o : Array Nat} (h : SetTable.laid mask finger moves led plain hs = some (t, o)) : t.led = led ∧ t.plain = plain := by
  unfold SetTable.laid at h
  cases hc : SetTable.layClean mask hs with
  | none => rw [hc] at h; cases h
  | some ow =>
    rw [hc] at h
    have h' := Option.some.inj h
    rw [← (Prod.mk.inj h').1]
    exact ⟨rfl, rfl⟩
theorem relayAll_marks (t : SetTable) (es : Array (Int × Value)) (n : Nat) (hp : t.plain = false) : (relayAll t es n).2.1.led = t.led ∧ (relayAll t es n).2.1.plain = false := by
  unfold relayAll
  split
  · rename_i t' order e
    obtain ⟨h1, h2⟩ := laid_marks e
    dsimp only
    split
    · exact ⟨h1, h2.trans hp⟩
    · exact ⟨rfl, rfl⟩
  · exact ⟨rfl, rfl⟩
section
variable {prog : Program} {w : World} {A : Around} {E : Value → Shared → Prop} {s : Shared}
theorem Is.store (prog : Program) {a : Addr} {o : Obj} {es es' : Array (Int × Value)} {ep : Nat} {t t' : SetTable} {h : Heap} {ms : List Str} (ho : h.get? a = some o) (hex : o.ExactSet) (hd : o.data = .set es ep t) (hel : Els w es'.toList ms) (hnd : ms.Nodup) (hb : es'.size < scanBound) (hf : t'.fits es'.size = true)
    (hl : byT w = true ∨ t'.led = true) (hp : es'.size = 0 ∨ t'.plain = false) : (h.update a (Obj.putSet es' t')).get? a = some { o with data := .set es' (ep + 1) t' } ∧ Is w (h.update a (Obj.putSet es' t')) a ms := by
  have hg := (SetOf_store (knd := PySem.strKind prog w) (S' := fun k => decide (k ∈ ms)) ho hex hd hel.of (fun k => by rw [decide_eq_true_iff]; exact hel.has k) hb hf).1
  exact ⟨hg, _, es', ep + 1, t', hg, hex, rfl, hel, hnd, hb, hf, hl, hp⟩
theorem add_ok {a : Addr} {ms : List Str} {k : Str} {tk : Tok} {Q : Bool → Shared → Prop} (hS : Is w s.heap a ms) (hroom : ms.length + 1 < scanBound)
    (h : ∀ h' ms', Heap.SameBut a s.heap h' → Is w h' a ms' → (∀ x, x ∈ ms' ↔ x ∈ ms ∨ x = k) → ms'.length ≤ ms.length + 1 → Q (!decide (k ∈ ms)) { s with heap := h' }) :
    wpAny (model prog w) A (setAddHashed a (.str k tk) (hashStr w k)) Q E s := by
  obtain ⟨o, es, ep, t, ho, hex, hd, hel, hnd, hb, hf, hl, hp⟩ := hS
  have hn : es.size = ms.length := by rw [← hel.len, Array.length_toList]
  have hkey : (PySem.strKind prog w).is k (.str k tk) = true := strKind_is prog w k tk
  unfold setAddHashed setAddHashedIn
  refine wpAny_holding (wpAny_bind (wpAny_setState_of ho hd hf ?_))
  dsimp only
  rw [byScan_of (knd := PySem.strKind prog w) (x := .str k tk) rfl hb hel.of]
  simp only [↓reduceIte]
  unfold setAddByScan
  refine wpAny_bind (wpAny_bind (wpAny_rule (wpAny_bind (wpAny_setScan_of (knd := PySem.strKind prog w) hkey ho hd hf hel.of ?_))))
  cases hr : List.findIdx? (fun e => (PySem.strKind prog w).is k e.2) es.toList with
  | some j =>
    dsimp only
    obtain ⟨hj, hpj, _⟩ := List.findIdx?_eq_some_iff_getElem.mp hr
    have hm : k ∈ ms := (hel.has (prog := prog) k).mpr ⟨es.toList[j], List.getElem_mem hj, hpj⟩
    refine wpAny_pure (wpAny_pure ?_)
    have z := h s.heap ms (Heap.SameBut.refl a s.heap) ⟨o, es, ep, t, ho, hex, hd, hel, hnd, hb, hf, hl, hp⟩ (fun x => ⟨.inl, fun q => q.elim id fun e => e ▸ hm⟩) (by omega)
    rw [decide_eq_true hm] at z
    exact z
  | none =>
    dsimp only
    have hm : ¬ k ∈ ms := fun z => by
      obtain ⟨e, he, q⟩ := (hel.has (prog := prog) k).mp z
      have := List.findIdx?_eq_none_iff.mp hr e he
      rw [q] at this
      cases this
    have gw : ∀ (b : Bool) {s₁ : Shared} {Q' : Unit → Shared → Prop}, Q' () s₁ → wpAny (model prog w) A (match b with | true => rule "set.scan.the-table-gave-way" | false => pure ()) Q' E s₁ := fun b s₁ Q' hq => by
      cases b
      · exact wpAny_pure hq
      · exact wpAny_rule hq
    have hperm := layNew_perm t es (hashStr w k) (.str k tk)
    have hfits := layNew_fits t es (hashStr w k) (.str k tk)
    have hled := layNew_led t es (hashStr w k) (.str k tk)
    generalize hL : layNew t es (hashStr w k) (.str k tk) = L at hperm hfits hled ⊢
    obtain ⟨es1, t1, wasDummy, gave⟩ := L
    dsimp only at hperm hfits hled ⊢
    rw [Array.toList_push] at hperm
    have hel1 : Els w es1.toList (ms ++ [k]) := by
      refine Els.perm ⟨fun e he => ?_, ?_⟩ hperm
      · rcases List.mem_append.mp he with z | z
        · exact hel.1 e z
        · have e' : e = (hashStr w k, .str k tk) := by simpa using z
          rw [e']
          exact ⟨rfl, tk, rfl⟩
      · rw [List.map_append]
        exact hel.2.append_right _
    have hnd1 : (ms ++ [k]).Nodup := List.nodup_append.mpr ⟨hnd, by simp, fun x hx y hy e => hm (by have : y = k := by simpa using hy
                                                                                                    rw [← this, ← e]; exact hx)⟩
    have hsz1 : es1.size = ms.length + 1 := by rw [← Array.length_toList, hel1.len, List.length_append, List.length_singleton]
    have hb1 : es1.size < scanBound := by omega
    have fin : ∀ h', Heap.SameBut a s.heap h' → Is w h' a (ms ++ [k]) → Q true { s with heap := h' } := fun h' sb x => by
      have z := h h' (ms ++ [k]) sb x (fun y => by rw [List.mem_append, List.mem_singleton]) (by rw [List.length_append, List.length_singleton]; omega)
      rw [decide_eq_false hm] at z
      exact z
    have tail : ∀ t2 : SetTable, t2.fits es1.size = true → (byT w = true ∨ t2.led = true) → t2.plain = false → wpAny (model prog w) A (do
        storeSet a es1 t2
        if (!wasDummy && t2.tooFull) = true then do
            (match (relayAll t2 es1 (SetTable.grown es1.size)).2.2 with | true => rule "set.scan.the-table-gave-way" | false => pure ())
            storeSet a (relayAll t2 es1 (SetTable.grown es1.size)).1 (relayAll t2 es1 (SetTable.grown es1.size)).2.1
            pure (some true)
          else pure (some true)) (fun r s' => wpAny (model prog w) A (match r with | some added => pure added | none => setAddHashedIn a (.str k tk) (hashStr w k) 99999) Q E s') E s := fun t2 hf2 hl2 hp2 => by
      refine wpAny_bind (wpAny_storeSet_of ho hd ?_ (fits_of_scanBound hb1))
      obtain ⟨ho1, hS1⟩ := Is.store prog ho hex hd hel1 hnd1 hb1 hf2 hl2 (.inr hp2)
      have sb1 := Heap.SameBut.update s.heap a (Obj.putSet es1 t2)
      split
      · have q1 := relayAll_perm t2 es1 (SetTable.grown es1.size)
        have q2 := relayAll_fits t2 es1 (SetTable.grown es1.size)
        have q3 := relayAll_marks t2 es1 (SetTable.grown es1.size) hp2
        generalize relayAll t2 es1 (SetTable.grown es1.size) = Rl at q1 q2 q3 ⊢
        obtain ⟨es2, t3, g2⟩ := Rl
        dsimp only at q1 q2 q3 ⊢
        have hel2 := hel1.perm q1
        have hsz : es2.size = es1.size := by rw [← Array.length_toList, q1.length_eq, Array.length_toList]
        have hb2 : es2.size < scanBound := by omega
        refine wpAny_bind (gw _ (wpAny_bind (wpAny_storeSet_of ho1 rfl ?_ (fits_of_scanBound hb2))))
        obtain ⟨_, hS2⟩ := Is.store prog ho1 hex rfl hel2 hnd1 hb2 q2 (hl2.imp id fun z => q3.1.trans z) (.inr q3.2)
        exact wpAny_pure (wpAny_pure (fin _ (sb1.trans (Heap.SameBut.update _ a _)) hS2))
      · exact wpAny_pure (wpAny_pure (fin _ sb1 hS1))
    refine wpAny_bind (gw _ ?_)
    have hl1 : byT w = true ∨ t1.led = true := hl.imp id fun z => hled.trans z
    split
    · refine wpAny_bind (wpAny_pure ?_)
      simp only [Bool.false_eq_true, ↓reduceIte]
      exact tail { t1 with plain := false } (SetTable.fits_plain_off hfits) hl1 rfl
    · rename_i hpl
      refine wpAny_bind (wpAny_pure ?_)
      simp only [↓reduceIte]
      exact tail t1 hfits hl1 (Bool.eq_false_iff.mpr hpl)
end
end SS

set_option Elab.async false
set_option linter.all false
set_option maxRecDepth 100000
set_option maxHeartbeats 4000000
namespace SS
open PySem PyProof.Rows

theorem above_ok : ∀ n, n ≤ 256 → ST.Size (SetTable.sizeAbove n) ∧ n < SetTable.sizeAbove n := by
  have key : ∀ n, n < 257 → (SetTable.sizeAbove n = 8 ∨ SetTable.sizeAbove n = 16 ∨ SetTable.sizeAbove n = 32 ∨ SetTable.sizeAbove n = 64 ∨ SetTable.sizeAbove n = 128 ∨ SetTable.sizeAbove n = 256 ∨ SetTable.sizeAbove n = 512) ∧ n < SetTable.sizeAbove n := by decide +kernel
  exact fun n h => key n (by omega)
theorem reorder_perm {es : Array (Int × Value)} {order : Array Nat} (h : order.toList.Perm (List.range es.size)) : (order.filterMap (es[·]?)).toList.Perm es.toList := by
  rw [Array.toList_filterMap]
  exact (h.filterMap _).trans (by rw [filterMap_getElem?_range])
theorem erase_perm {α : Type} : ∀ (l : List α) (i : Nat) (h : i < l.length), (l[i] :: l.eraseIdx i).Perm l
  | x :: l, 0, _ => List.Perm.refl _
  | x :: l, i + 1, h => by
    have h' : i < l.length := by simpa using h
    have ih := erase_perm l i h'
    exact (List.Perm.swap x (l[i]'h') (l.eraseIdx i)).trans (ih.cons x)
theorem pick_perm {α : Type} (next : Nat → Nat) (xs : Array α) : (pickOrder next xs).toList.Perm xs.toList := by
  have key : ∀ (fuel k : Nat) (left : List α) (out : Array α), left.length = fuel → (pickOrder.go next fuel k left out).toList.Perm (out.toList ++ left) := by
    intro fuel
    induction fuel with
    | zero =>
      intro k left out hl
      obtain rfl := List.length_eq_zero_iff.mp hl
      rw [pickOrder.go, List.append_nil]
    | succ fuel ih =>
      intro k left out hl
      have hlt : next k % left.length < left.length := Nat.mod_lt _ (by omega)
      rw [pickOrder.go, List.getElem?_eq_getElem hlt]
      dsimp only
      refine (ih _ _ _ (by rw [List.length_eraseIdx_of_lt hlt]; omega)).trans ?_
      rw [Array.toList_push, List.append_assoc]
      refine List.Perm.append_left _ ?_
      exact erase_perm left _ hlt
  have z := key xs.size 0 xs.toList #[] (Array.length_toList)
  simpa [pickOrder] using z
section
variable {prog : Program} {w : World} {A : Around} {E : Value → Shared → Prop} {s : Shared}
theorem byText_ok {Q : Bool → Shared → Prop} (h : Q (byT w) s) : wpAny (model prog w) A setsByText Q E s := by
  unfold setsByText
  exact wpAny_bind (wpAny_askSetting (wpAny_pure h))
theorem relay_ok {a : Addr} {ms : List Str} {n : Nat} {Q : Unit → Shared → Prop} {o : Obj} {es : Array (Int × Value)} {ep : Nat} {t : SetTable} (ho : s.heap.get? a = some o) (hd : o.data = .set es ep t) (hf : t.fits es.size = true) (hn : n ≤ 256) (hm : es.size ≤ n)
    (h : ∀ (es' : Array (Int × Value)) (t' : SetTable), es'.toList.Perm es.toList → t'.place.size = es.size → t'.mask + 1 = SetTable.sizeAbove n → t'.dummies = #[] → t'.led = t.led → t'.plain = t.plain → Q () { s with heap := s.heap.update a (Obj.putSet es' t') }) :
    wpAny (model prog w) A (setRelay a n) Q E s := by
  obtain ⟨hM, hlt⟩ := above_ok n hn
  have h8 := hM.pos
  unfold setRelay
  refine wpAny_bind (wpAny_setState_of ho hd hf ?_)
  dsimp only
  have hs : sizeLine = 16777216 := sizeLine_eq
  have hsl : ¬ SetTable.sizeAbove n > sizeLine := by
    rcases hM with e | e | e | e | e | e | e <;> omega
  rw [if_neg hsl]
  obtain ⟨t', order, e1, e2, e3, e4, e5, e6, e7⟩ := ST.laid_ok (mask := SetTable.sizeAbove n - 1) (finger := t.finger) (moves := t.movedTo (SetTable.sizeAbove n - 1)) (led := t.led) (plain := t.plain) (hashes := es.map (·.1)) (by rw [Nat.sub_add_cancel (by omega)]; exact hM) (by rw [Array.size_map]; omega)
  have e1' : t.relaid (es.map (·.1)) n = some (t', order) := e1
  rw [e1']
  rw [Array.size_map] at e2 e3
  have hp := reorder_perm e2
  have hsz : (order.filterMap (es[·]?)).size = es.size := by rw [← Array.length_toList, hp.length_eq, Array.length_toList]
  refine wpAny_bind (m := (do
    if ((order.filterMap (es[·]?)).size != es.size) = true then unsupported "internal:set-table-lost-an-element"
    pure (order.filterMap (es[·]?), t'))) ?_
  rw [hsz, bne_self_eq_false, if_neg Bool.false_ne_true]
  refine wpAny_pure ?_
  exact wpAny_storeSet_of ho hd (h _ _ hp e3 (by rw [e4]; omega) e5 e6 e7) (by rw [hsz]; omega)
theorem quiet_ok {a b : Addr} {ms ms' : List Str} {Q : Bool → Shared → Prop} (h1 : Is w s.heap a ms) (h2 : Is w s.heap b ms') (h : Q true s) : wpAny (model prog w) A (setsQuiet [a, b]) Q E s := by
  unfold setsQuiet
  refine wpAny_bind ?_
  refine wpAny_forIn_list _ (fun rest r s' => r = (none, ()) ∧ s' = s ∧ ∀ c ∈ rest, ∃ ks, Is w s.heap c ks) _ ?_ ?_ _ _ ⟨rfl, rfl, fun c hc => ?_⟩
  · rintro c rest r s' ⟨rfl, rfl, hall⟩
    obtain ⟨ks, hc⟩ := hall c (List.mem_cons_self ..)
    obtain ⟨o, es, ep, t, ho, hex, hd, hel, hnd, hb, hf, _⟩ := hc
    refine wpAny_bind (wpAny_setEntries_of ho hd hf (wpAny_bind ?_))
    rw [← Array.forIn_toList]
    refine wpAny_forIn_list _ (fun rest r s2 => r = (none, ()) ∧ s2 = s' ∧ ∀ e ∈ rest, El w e) _ ?_ ?_ _ _ ⟨rfl, rfl, hel.1⟩
    · rintro ⟨hh, x⟩ rest2 r s2 ⟨rfl, rfl, hall2⟩
      obtain ⟨_, tk, e⟩ := hall2 _ (List.mem_cons_self ..)
      dsimp only at e ⊢
      rw [e]
      exact wpAny_pure ⟨rfl, rfl, fun u hu => hall2 u (List.mem_cons_of_mem _ hu)⟩
    · rintro r s2 ⟨rfl, rfl, _⟩
      exact wpAny_pure ⟨rfl, rfl, fun u hu => hall u (List.mem_cons_of_mem _ hu)⟩
  · rintro r s' ⟨rfl, rfl, _⟩
    exact wpAny_pure h
  · rcases List.mem_cons.mp hc with rfl | hc
    · exact ⟨ms, h1⟩
    · rcases List.mem_cons.mp hc with rfl | hc
      · exact ⟨ms', h2⟩
      · cases hc
theorem walkU {a b : Addr} {ms1 ms2 : List Str} {Q : Array (Int × Value) → Shared → Prop} (h1 : Is w s.heap a ms1) (hne : ms1 ≠ []) (h2 : Is w s.heap b ms2) (h : ∀ es : Array (Int × Value), Els w es.toList ms2 → Q es s) :
    wpAny (model prog w) A (setWalkUnseen b [a] (some a)) Q E s := by
  obtain ⟨o, es, ep, t, ho, hex, hd, hel, hnd, hb, hf, hl, hp⟩ := id h2
  unfold setWalkUnseen
  refine wpAny_bind (wpAny_setState_of ho hd hf ?_)
  dsimp only
  refine wpAny_bind (byText_ok ?_)
  have walk : ∀ Q' : Array (Int × Value) → Shared → Prop, (byT w = true ∨ es.size ≤ 1) → (∀ es' : Array (Int × Value), Els w es'.toList ms2 → Q' es' s) → wpAny (model prog w) A (setWalk b) Q' E s := fun Q' hc hQ => by
    unfold setWalk
    refine wpAny_bind (wpAny_setState_of ho hd hf ?_)
    dsimp only
    refine wpAny_bind (byText_ok ?_)
    by_cases hby : byT w = true
    · rw [if_pos hby]
      refine wpAny_bind (wpAny_askSetting (wpAny_pure (hQ _ (hel.perm (pick_perm _ _)))))
    · rw [if_neg hby]
      have h1 : es.size ≤ 1 := hc.resolve_left hby
      have hdr : (!t.plain && decide (es.size > 1)) = false := by
        rw [decide_eq_false (by omega), Bool.and_false]
      have hml : (!t.led && decide (es.size > 1)) = false := by
        rw [decide_eq_false (by omega), Bool.and_false]
      show wpAny _ _ (if (!t.plain && decide (es.size > 1)) = true then _ else _) _ _ s
      rw [hdr, if_neg Bool.false_ne_true]
      refine wpAny_bind (m := if (!t.led && decide (es.size > 1)) = true then unsupported "set:maker-not-led" else pure ()) ?_
      rw [hml, if_neg Bool.false_ne_true]
      exact wpAny_pure (wpAny_pure (hQ _ hel))
  by_cases hc : byT w = true ∨ es.size ≤ 1
  · have e : (byT w || (t.led && t.plain) || decide (es.size ≤ 1)) = true := by
      rcases hc with z | z
      · rw [z]; simp
      · rw [decide_eq_true z]; simp
    rw [e, if_pos rfl]
    exact walk _ hc h
  · have hby : byT w = false := Bool.eq_false_iff.mpr fun z => hc (.inl z)
    have hs1 : ¬ es.size ≤ 1 := fun z => hc (.inr z)
    have hpl : t.plain = false := hp.resolve_left (by omega)
    have hld : t.led = true := hl.resolve_left (by rw [hby]; exact Bool.false_ne_true)
    have e : (byT w || (t.led && t.plain) || decide (es.size ≤ 1)) = false := by
      rw [hby, hpl, decide_eq_false hs1]; simp
    rw [e, if_neg Bool.false_ne_true]
    refine wpAny_bind (quiet_ok h2 h1 ?_)
    simp only [Bool.not_true, Bool.false_eq_true, ↓reduceIte]
    refine wpAny_bind (wpAny_rule ?_)
    obtain ⟨o1, es1, ep1, t1, ho1, hex1, hd1, hel1, hnd1, hb1, hf1, hl1, hp1⟩ := id h1
    refine wpAny_bind (wpAny_setState_of ho1 hd1 hf1 ?_)
    dsimp only
    have hs0 : es1.size ≠ 0 := fun z => hne (List.length_eq_zero_iff.mp (by rw [← hel1.len, Array.length_toList]; exact z))
    have hpl1 : t1.plain = false := hp1.resolve_left hs0
    have hc2 : (t1.led && !t.led || t1.plain && !t.plain) = false := by
      rw [hld, hpl1]; simp
    rw [hc2, if_neg Bool.false_ne_true]
    exact wpAny_pure (h es hel)
theorem room_ok {a : Addr} {ms : List Str} {m : Nat} {Q : Unit → Shared → Prop} (hS : Is w s.heap a ms) (hm : ms.length + m ≤ 128) (h : ∀ h', Heap.SameBut a s.heap h' → Is w h' a ms → Q () { s with heap := h' }) : wpAny (model prog w) A (setRoomFor a m) Q E s := by
  obtain ⟨o, es, ep, t, ho, hex, hd, hel, hnd, hb, hf, hl, hp⟩ := id hS
  have hn : es.size = ms.length := by rw [← hel.len, Array.length_toList]
  have hpsz : t.place.size = es.size := by
    simp only [SetTable.fits, Bool.and_eq_true, beq_iff_eq] at hf
    exact hf.1
  unfold setRoomFor
  refine wpAny_bind (wpAny_setState_of ho hd hf ?_)
  dsimp only
  unfold SetTable.roomFor
  by_cases hc : (t.fill + m) * 5 ≥ t.mask * 3
  · rw [if_pos hc]
    refine relay_ok (ms := ms) ho hd hf (by omega) (by omega) fun es' t' p1 p2 p3 p4 p5 p6 => ?_
    have hsz : es'.size = es.size := by rw [← Array.length_toList, p1.length_eq, Array.length_toList]
    have h8 := (above_ok ((t.place.size + m) * 2) (by omega)).2
    have hf' : t'.fits es'.size = true := by
      simp only [SetTable.fits, Bool.and_eq_true, beq_iff_eq, decide_eq_true_eq, SetTable.fill, p4]
      exact ⟨by omega, by show t'.place.size + 0 ≤ t'.mask; omega⟩
    exact h _ (Heap.SameBut.update _ a _) (Is.store prog ho hex hd (hel.perm p1) hnd (by omega) hf' (hl.imp id fun z => p5.trans z) (hp.imp (fun z => by omega) fun z => p6.trans z)).2
  · rw [if_neg hc]
    exact wpAny_pure (h s.heap (Heap.SameBut.refl a _) hS)
theorem merge_on {a b : Addr} {ms1 ms2 : List Str} {each : Sem Unit} {Q : Unit → Shared → Prop} (hab : a ≠ b) (h1 : Is w s.heap a ms1) (h2 : Is w s.heap b ms2) (hne : ms1 ≠ []) (hsz : ms1.length + ms2.length ≤ 128)
    (heach : ∀ (s' : Shared) (Q' : Unit → Shared → Prop), (∀ o, s.heap.get? b = some o → s'.heap.get? b = some o) → Q' () s' → wpAny (model prog w) A each Q' E s')
    (h : ∀ h' ms', Heap.SameBut a s.heap h' → Is w h' a ms' → (∀ x, x ∈ ms' ↔ x ∈ ms1 ∨ x ∈ ms2) → ms'.length ≤ ms1.length + ms2.length → Q () { s with heap := h' }) : wpAny (model prog w) A (setMerge a b each) Q E s := by
  obtain ⟨o, es, ep, t, ho, hex, hd, hel, hnd, hb, hf, hl, hp⟩ := id h2
  have hn : es.size = ms2.length := by rw [← hel.len, Array.length_toList]
  unfold setMerge
  rw [if_neg (show ¬ ((a == b) = true) by rw [beq_iff_eq]; exact hab)]
  refine wpAny_bind (wpAny_setState_of ho hd hf ?_)
  dsimp only
  by_cases h0 : es.isEmpty = true
  · rw [if_pos h0]
    have e0 : ms2 = [] := List.length_eq_zero_iff.mp (by rw [← hn]; simpa using h0)
    exact wpAny_pure (h s.heap ms1 (Heap.SameBut.refl a _) h1 (fun x => by rw [e0]; simp) (by omega))
  rw [if_neg h0]
  refine wpAny_bind (room_ok h1 (by omega) fun h3 sb3 i3 => ?_)
  have hb3 : h3.get? b = some o := (sb3.2 b (Ne.symm hab)).trans ho
  have h2' : Is w h3 b ms2 := ⟨o, es, ep, t, hb3, hex, hd, hel, hnd, hb, hf, hl, hp⟩
  obtain ⟨o3, es3, ep3, t3, ho3, hex3, hd3, hel3, hnd3, hb3', hf3, hl3, hp3⟩ := id i3
  refine wpAny_bind (wpAny_setState_of (s := { s with heap := h3 }) ho3 hd3 hf3 ?_)
  dsimp only
  have hroad : t3.road t = .oneByOne := by
    unfold SetTable.road
    have hp : t3.place.size = es3.size := by
      simp only [SetTable.fits, Bool.and_eq_true, beq_iff_eq] at hf3
      exact hf3.1
    have hpos : 0 < es3.size := by
      rw [← Array.length_toList, hel3.len]
      exact List.length_pos_iff.mpr hne
    rw [if_pos]
    rw [bne_iff_ne]
    unfold SetTable.fill
    omega
  rw [hroad]
  dsimp only
  refine wpAny_bind (walkU (s := { s with heap := h3 }) i3 hne h2' fun es4 hel4 => wpAny_bind ?_)
  rw [← Array.forIn_toList]
  refine wpAny_forIn_list _ (fun rest _ s' => ∃ dn ms', es4.toList = dn ++ rest ∧ s' = { s with heap := s'.heap } ∧ Heap.SameBut a s.heap s'.heap ∧ Is w s'.heap a ms' ∧ (∀ x, x ∈ ms' ↔ x ∈ ms1 ∨ ∃ e ∈ dn, x = keyV e.2) ∧ ms'.length ≤ ms1.length + dn.length) _ ?_ ?_ _ _ ⟨[], ms1, rfl, rfl, sb3, i3, fun x => by simp, by simp⟩
  · rintro ⟨hh, x⟩ rest u s' ⟨dn, ms', e1, e2, sb, i4, hm, hle⟩
    obtain ⟨q1, tk, q2⟩ := hel4.1 (hh, x) (by rw [e1]; simp)
    dsimp only at q1 q2 ⊢
    have hlen : dn.length + (rest.length + 1) = ms2.length := by
      have := congrArg List.length e1
      rw [hel4.len, List.length_append, List.length_cons] at this
      omega
    rw [q2, q1]
    have sb128 : scanBound = 4096 := rfl
    refine wpAny_bind (wpAny_holding (add_ok (s := s') i4 (by omega) fun h5 ms5 sb5 i5 hm5 hl5 => ?_))
    have hb5 : h5.get? b = some o := (sb5.2 b (Ne.symm hab)).trans ((sb.2 b (Ne.symm hab)).trans ho)
    refine wpAny_bind (heach _ _ (fun o' z => ?_) ?_)
    · rw [ho] at z
      cases z
      exact hb5
    · refine wpAny_bind (wpAny_setState_of (s := { s' with heap := h5 }) hb5 hd hf ?_)
      dsimp only
      rw [bne_self_eq_false, if_neg Bool.false_ne_true]
      refine wpAny_pure ⟨dn ++ [(hh, x)], ms5, by rw [e1, List.append_assoc]; rfl, by rw [e2], sb.trans sb5, i5, fun y => ?_, by rw [List.length_append, List.length_singleton]; omega⟩
      rw [hm5, hm]
      constructor
      · rintro ((z | ⟨e, he, rfl⟩) | rfl)
        · exact .inl z
        · exact .inr ⟨e, List.mem_append_left _ he, rfl⟩
        · exact .inr ⟨(hh, x), by simp, rfl⟩
      · rintro (z | ⟨e, he, rfl⟩)
        · exact .inl (.inl z)
        · rcases List.mem_append.mp he with z | z
          · exact .inl (.inr ⟨e, z, rfl⟩)
          · have : e = (hh, x) := by simpa using z
            subst this
            exact .inr rfl
  · rintro u s' ⟨dn, ms', e1, e2, sb, i4, hm, hle⟩
    rw [List.append_nil] at e1
    rw [e2]
    refine wpAny_pure (h _ ms' sb i4 (fun x => ?_) ?_)
    · rw [hm, ← e1, ← hel4.2.mem_iff, List.mem_map]
      exact or_congr Iff.rfl ⟨fun ⟨e, he, z⟩ => ⟨e, he, z.symm⟩, fun ⟨e, he, z⟩ => ⟨e, he, z.symm⟩⟩
    · have := congrArg List.length e1
      rw [hel4.len] at this
      omega
end
end SS

set_option Elab.async false
set_option linter.all false
set_option maxRecDepth 100000
set_option maxHeartbeats 4000000
namespace SS
open PySem PyProof.Rows
section
variable {prog : Program} {w : World} {A : Around} {E : Value → Shared → Prop} {s : Shared}
noncomputable def freshO (w : World) : Obj := { cls := .type "set", dict := none, data := .set #[] 0 (.fresh 0 0 (!byT w)) }
theorem new_ok {Q : Value → Shared → Prop} (h : Q (.ref s.heap.objs.size) { s with heap := s.heap.push (freshO w) }) : wpAny (model prog w) A (newSet (.type "set")) Q E s := by
  unfold newSet
  refine wpAny_bind (byText_ok ?_)
  dsimp only
  simp only [newObj]
  exact wpAny_bind (wpAny_alloc (wpAny_pure h))
theorem Is.fresh (h : Heap) : Is w (h.push (freshO w)) h.objs.size [] := by
  refine ⟨freshO w, #[], 0, .fresh 0 0 (!byT w), Heap.get?_push_size _ rfl, ⟨rfl, rfl, rfl⟩, rfl, ⟨fun e he => by simp at he, by simp⟩, List.nodup_nil, by decide, rfl, ?_, .inl rfl⟩
  cases byT w
  · exact .inr rfl
  · exact .inl rfl
theorem room_new {a : Addr} {n : Nat} {Q : Unit → Shared → Prop} (ho1 : s.heap.get? a = some (freshO w)) (hn : n ≤ 128)
    (h : ∀ (h3 : Heap) (o3 : Obj) (ep3 : Nat) (t3 : SetTable), Heap.SameBut a s.heap h3 → h3.get? a = some o3 → o3.ExactSet → o3.data = .set #[] ep3 t3 → t3.place.size = 0 → t3.dummies = #[] → ST.Size (t3.mask + 1) → n ≤ t3.mask → (byT w = true ∨ t3.led = true) → Q () { s with heap := h3 }) :
    wpAny (model prog w) A (setRoomFor a n) Q E s := by
  have hled : byT w = true ∨ (!byT w) = true := by cases byT w <;> simp
  unfold setRoomFor
  refine wpAny_bind (wpAny_setState_of ho1 rfl rfl ?_)
  dsimp only
  unfold SetTable.roomFor
  by_cases hc : ((SetTable.fresh 0 0 (!byT w)).fill + n) * 5 ≥ (SetTable.fresh 0 0 (!byT w)).mask * 3
  · rw [if_pos hc]
    refine relay_ok (ms := []) ho1 rfl rfl (by show (0 + n) * 2 ≤ 256; omega) (Nat.zero_le _) fun es' t' p1 p2 p3 p4 p5 p6 => ?_
    obtain rfl : es' = #[] := by
      have := p1.length_eq
      rw [Array.length_toList] at this
      exact Array.eq_empty_of_size_eq_zero this
    obtain ⟨hM, hlt⟩ := above_ok ((0 + n) * 2) (by omega)
    have p3' : t'.mask + 1 = SetTable.sizeAbove ((0 + n) * 2) := p3
    have hg : (s.heap.update a (Obj.putSet #[] t')).get? a = some { freshO w with data := .set #[] (0 + 1) t' } := by
      have := Heap.get?_update_self (Obj.putSet #[] t') ho1 (by rw [putSet_of (o := freshO w) #[] t' rfl]; rfl)
      rw [putSet_of (o := freshO w) #[] t' rfl] at this
      exact this
    exact h _ _ 1 t' (Heap.SameBut.update _ a _) hg ⟨rfl, rfl, rfl⟩ rfl p2 p4 (by rw [p3']; exact hM) (by omega) (hled.imp id fun z => p5.trans z)
  · rw [if_neg hc]
    have hc' : ¬ (0 + n) * 5 ≥ 7 * 3 := hc
    exact wpAny_pure (h s.heap (freshO w) 0 _ (Heap.SameBut.refl a _) ho1 ⟨rfl, rfl, rfl⟩ rfl rfl rfl (.inl rfl) (by show n ≤ 7; omega) hled)
theorem merge_new {a b : Addr} {ms : List Str} {Q : Unit → Shared → Prop} (hab : a ≠ b) (ho1 : s.heap.get? a = some (freshO w)) (h2 : Is w s.heap b ms) (hsz : ms.length ≤ 128)
    (h : ∀ h', Heap.SameBut a s.heap h' → Is w h' a ms → Q () { s with heap := h' }) : wpAny (model prog w) A (setMerge a b) Q E s := by
  obtain ⟨o, es, ep, t, ho, hex, hd, hel, hnd, hb, hf, hl, hp⟩ := id h2
  have hn : es.size = ms.length := by rw [← hel.len, Array.length_toList]
  have hled : byT w = true ∨ (!byT w) = true := by cases byT w <;> simp
  unfold setMerge
  rw [if_neg (show ¬ ((a == b) = true) by rw [beq_iff_eq]; exact hab)]
  refine wpAny_bind (wpAny_setState_of ho hd hf ?_)
  dsimp only
  by_cases h0 : es.isEmpty = true
  · rw [if_pos h0]
    have e0 : ms = [] := List.length_eq_zero_iff.mp (by rw [← hn]; simpa using h0)
    subst e0
    exact wpAny_pure (h s.heap (Heap.SameBut.refl a _) ⟨freshO w, #[], 0, .fresh 0 0 (!byT w), ho1, ⟨rfl, rfl, rfl⟩, rfl, ⟨fun e he => by simp at he, by simp⟩, List.nodup_nil, by decide, rfl, hled, .inl rfl⟩)
  rw [if_neg h0]
  have hpos : 0 < es.size := by
    rcases Nat.eq_zero_or_pos es.size with z | z
    · exact absurd (by simpa using z) h0
    · exact z
  have hpl : t.plain = false := hp.resolve_left (by omega)
  refine wpAny_bind (room_new ho1 (by omega) fun h3 o3 ep3 t3 sb3 ho3 hex3 hd3 hps hdu hM hle hld3 => ?_)
  have hf3 : t3.fits (#[] : Array (Int × Value)).size = true := by
    simp only [SetTable.fits, Bool.and_eq_true, beq_iff_eq, decide_eq_true_eq, SetTable.fill, hdu]
    exact ⟨hps, by show t3.place.size + 0 ≤ t3.mask; omega⟩
  refine wpAny_bind (wpAny_setState_of (s := { s with heap := h3 }) ho3 hd3 hf3 ?_)
  dsimp only
  have hled3 : byT w = true ∨ (t3.led && t.led) = true := by
    rcases hld3 with z | z
    · exact .inl z
    · rcases hl with y | y
      · exact .inl y
      · exact .inr (by rw [z, y]; rfl)
  have hfill : (t3.fill != 0) = false := by
    unfold SetTable.fill
    rw [hps, hdu]
    rfl
  unfold SetTable.road
  rw [hfill, if_neg Bool.false_ne_true]
  by_cases hm : (t3.mask == t.mask && t.dummies.isEmpty) = true
  · rw [if_pos hm]
    dsimp only
    refine wpAny_storeSet_of (s := { s with heap := h3 }) ho3 hd3 ?_ (fits_of_scanBound hb)
    exact h _ (sb3.trans (Heap.SameBut.update _ a _)) (Is.store prog (t' := { mask := t.mask, place := t.place, dummies := t.dummies, finger := t3.finger, led := t3.led && t.led, moves := t3.moves, plain := t3.plain && t.plain }) ho3 hex3 hd3 hel hnd hb hf hled3 (.inr (by show (t3.plain && t.plain) = false; rw [hpl, Bool.and_false]))).2
  · rw [if_neg hm]
    dsimp only
    obtain ⟨t', order, e1, e2, e3, e4, e5, e6, e7⟩ := ST.laid_ok (finger := t3.finger) (moves := t3.moves) (led := t3.led && t.led) (plain := t3.plain && t.plain) (hashes := es.map (·.1)) hM (by rw [Array.size_map]; exact hle)
    rw [e1]
    rw [Array.size_map] at e2 e3
    have hpm := reorder_perm e2
    have hsz' : (order.filterMap (es[·]?)).size = es.size := by rw [← Array.length_toList, hpm.length_eq, Array.length_toList]
    refine wpAny_bind (m := (do
      if ((order.filterMap (es[·]?)).size != es.size) = true then unsupported "internal:set-table-lost-an-element"
      pure (order.filterMap (es[·]?), t'))) ?_
    rw [hsz', bne_self_eq_false, if_neg Bool.false_ne_true]
    refine wpAny_pure ?_
    refine wpAny_storeSet_of (s := { s with heap := h3 }) ho3 hd3 ?_ (by rw [hsz']; exact fits_of_scanBound hb)
    have hf' : t'.fits (order.filterMap (es[·]?)).size = true := by
      simp only [SetTable.fits, Bool.and_eq_true, beq_iff_eq, decide_eq_true_eq, SetTable.fill, e5]
      exact ⟨by omega, by show t'.place.size + 0 ≤ t'.mask; omega⟩
    exact h _ (sb3.trans (Heap.SameBut.update _ a _)) (Is.store prog ho3 hex3 hd3 (hel.perm hpm) hnd (by rw [hsz']; exact hb) hf' (by rw [e6]; exact hled3) (.inr (by rw [e7, hpl, Bool.and_false]))).2
theorem Is.ty {a : Addr} {ms : List Str} (x : Is w s.heap a ms) : s.TypeIs (.ref a) "set" := by
  obtain ⟨o, _, _, _, ho, hex, _⟩ := x
  exact ⟨o, ho, hex.1⟩
theorem copy_ok {b : Addr} {ms : List Str} {Q : Value → Shared → Prop} (h2 : Is w s.heap b ms) (hsz : ms.length ≤ 128)
    (h : ∀ h', (∀ x o, s.heap.get? x = some o → h'.get? x = some o) → Is w h' s.heap.objs.size ms → Q (.ref s.heap.objs.size) { s with heap := h' }) : wpAny (model prog w) A (Builtin.Frozenset.copyOf b) Q E s := by
  unfold Builtin.Frozenset.copyOf Builtin.Frozenset.baseOf
  refine wpAny_bind (wpAny_bind (wpAny_isInstance h2.ty sub_set_self (wpAny_pure ?_)))
  rw [if_pos rfl]
  refine wpAny_bind (new_ok ?_)
  refine wpAny_bind (m := Builtin.Frozenset.addrOf (.ref s.heap.objs.size)) (wpAny_pure ?_)
  obtain ⟨o, ho⟩ := h2.there
  have hlt := Heap.lt_size ho
  refine wpAny_bind (merge_new (s := { s with heap := s.heap.push (freshO w) }) (Nat.ne_of_gt hlt) (Heap.get?_push_size _ rfl) (h2.at fun o e => Heap.get?_push_of_some _ e) hsz fun h' sb i => wpAny_pure ?_)
  exact h h' (fun x o e => (sb.2 x (Nat.ne_of_lt (Heap.lt_size e))).trans (Heap.get?_push_of_some _ e)) i
theorem entry_or : entryFor table "set.__or__" = some Builtin.«frozenset.__or__» :=
  entryFor_alias (id' := "frozenset.__or__") (by kernel_rfl) (by first | rfl | decide +kernel | (unfold String.splitOn; simp +decide [String.splitOnAux])) (by decide +kernel) (by kernel_rfl)
theorem or_ok {a b : Addr} {ms1 ms2 : List Str} {Q : Value → Shared → Prop} (hab : a ≠ b) (h1 : Is w s.heap a ms1) (h2 : Is w s.heap b ms2) (hne : ms1 ≠ []) (hsz : ms1.length + ms2.length ≤ 128)
    (h : ∀ h' ms', (∀ x o, s.heap.get? x = some o → h'.get? x = some o) → Is w h' s.heap.objs.size ms' → (∀ x, x ∈ ms' ↔ x ∈ ms1 ∨ x ∈ ms2) → ms'.length ≤ ms1.length + ms2.length → Q (.ref s.heap.objs.size) { s with heap := h' }) :
    wpAny (model prog w) A (binaryOp .BitOr (.ref a) (.ref b)) Q E s := by
  refine wpAny_binaryOp_same h1.ty h2.ty F.fills_set_or F.slot_set_or (wpAny_call_entry F.slot_set_or h1.ty entry_or ?_ (F.args_set_or_2 _ _))
  refine wpAny_bind (m := Builtin.Frozenset.slot1 "__or__" ⟨[.ref a, .ref b], []⟩) (wpAny_pure (a := (Value.ref a, Value.ref b)) ?_)
  dsimp only
  simp only [Bool.false_eq_true, ↓reduceIte]
  have any : ∀ (c : Addr) (ms : List Str) (A' : Around) (s' : Shared) (Q' : Bool → Shared → Prop), Is w s'.heap c ms → Q' true s' → wpAny (model prog w) A' (Builtin.Frozenset.isAnySet (.ref c)) Q' E s' := fun c ms A' s' Q' hc hQ => by
    unfold Builtin.Frozenset.isAnySet
    refine wpAny_bind (m := isInstance (.ref c) (.type "set")) (wpAny_isInstance hc.ty sub_set_self ?_)
    exact wpAny_pure hQ
  refine wpAny_bind (m := Builtin.Frozenset.isAnySet (.ref a) <&&> Builtin.Frozenset.isAnySet (.ref b)) ?_
  refine wpAny_bind (m := Builtin.Frozenset.isAnySet (.ref a)) (any a ms1 _ s _ h1 ?_)
  refine any b ms2 _ s _ h2 ?_
  simp only [Bool.not_true, Bool.false_eq_true, ↓reduceIte]
  refine wpAny_bind (m := Builtin.Frozenset.addrOf (.ref a)) (wpAny_pure ?_)
  refine wpAny_bind ?_
  refine wpAny_bind (m := Builtin.Frozenset.copyOf a) (copy_ok h1 (by omega) fun h3 kp3 i3 => ?_)
  have hb : (Value.ref b != Value.ref a) = true := by
    rw [bne_iff_ne]
    exact fun z => hab (by cases z; rfl)
  have hlt := Heap.lt_size h2.there.choose_spec
  have h2' : Is w h3 b ms2 := h2.at fun o e => kp3 b o e
  have nb : s.heap.objs.size ≠ b := Nat.ne_of_gt hlt
  rw [hb, if_pos rfl]
  refine wpAny_bind (m := holding [.ref s.heap.objs.size] (do Builtin.Frozenset.updateFrom _ (← Builtin.Frozenset.addrOf (.ref s.heap.objs.size)) (.ref b))) (wpAny_holding ?_)
  refine wpAny_bind (m := Builtin.Frozenset.addrOf (.ref s.heap.objs.size)) (wpAny_pure ?_)
  unfold Builtin.Frozenset.updateFrom
  refine wpAny_bind (m := Builtin.Frozenset.isAnySet (.ref b)) (any b ms2 _ { s with heap := h3 } _ h2' ?_)
  rw [if_pos rfl]
  refine wpAny_bind (m := Builtin.Frozenset.addrOf (.ref b)) (wpAny_pure ?_)
  unfold Builtin.Frozenset.merge
  obtain ⟨o, es, ep, t, ho, hex, hd, hel, hnd, hbs, hf, hl, hp⟩ := id h2'
  refine wpAny_bind (wpAny_setEpoch_of (s := { s with heap := h3 }) ho hd hf ?_)
  refine merge_on (s := { s with heap := h3 }) nb i3 h2' hne hsz (fun s' Q' keep hQ => ?_) fun h4 ms' sb4 i4 hm hle => ?_
  · unfold Builtin.Frozenset.unchanged
    refine wpAny_bind (wpAny_setEpoch_of (s := s') (keep o ho) hd hf ?_)
    rw [bne_self_eq_false, if_neg Bool.false_ne_true]
    exact wpAny_pure hQ
  · refine wpAny_pure (wpAny_pure ⟨_, rfl, (by intro z; cases z), h h4 ms' (fun x o' e => (sb4.2 x (Nat.ne_of_lt (Heap.lt_size e))).trans (kp3 x o' e)) i4 hm hle⟩)
end
end SS

set_option Elab.async false
set_option linter.all false
set_option maxRecDepth 100000
set_option maxHeartbeats 4000000
namespace SS
open PySem PyProof.Rows
theorem slot_next : Slot "set_iterator" "__next__" "set_iterator.__next__" :=
  .of (owner := "set_iterator") (n := "__next__") (by rw [typeLookup_type, builtinLookup_eq_fast]; kernel_rfl) (by decide +kernel) (by decide +kernel) (by decide +kernel) (by first | exact .inl (by decide +kernel) | exact .inr (by decide +kernel)) (by rw [isSubtype_type]; kernel_rfl)
theorem entry_next : entryFor table "set_iterator.__next__" = some Builtin.«set_iterator.__next__» := entryFor_of_tree (by kernel_rfl)
theorem args_next (a : Value) : argsOk "set_iterator.__next__" ⟨[a], []⟩ := by unfold argsOk; kernel_rfl
theorem slot_self : Slot "set_iterator" "__iter__" "set_iterator.__iter__" :=
  .of (owner := "set_iterator") (n := "__iter__") (by rw [typeLookup_type, builtinLookup_eq_fast]; kernel_rfl) (by decide +kernel) (by decide +kernel) (by decide +kernel) (by first | exact .inl (by decide +kernel) | exact .inr (by decide +kernel)) (by rw [isSubtype_type]; kernel_rfl)
theorem args_self (a : Value) : argsOk "set_iterator.__iter__" ⟨[a], []⟩ := by unfold argsOk; kernel_rfl
theorem entry_self : entryFor table "set_iterator.__iter__" = some Builtin.«dict_keyiterator.__iter__» :=
  entryFor_alias (id' := "dict_keyiterator.__iter__") (by kernel_rfl) (by first | rfl | decide +kernel | (unfold String.splitOn; simp +decide [String.splitOnAux])) (by decide +kernel) (by kernel_rfl)
theorem entry_iter : entryFor table "set.__iter__" = some Builtin.«frozenset.__iter__» :=
  entryFor_alias (id' := "frozenset.__iter__") (by kernel_rfl) (by first | rfl | decide +kernel | (unfold String.splitOn; simp +decide [String.splitOnAux])) (by decide +kernel) (by kernel_rfl)
noncomputable def It (h : Heap) (I a : Addr) (first : Value) (i n ep : Nat) : Prop := ∃ o, h.get? I = some o ∧ o.cls = .type "set_iterator" ∧ o.data = .fields #[first, rawInt (i : Int), .ref a, rawInt (n : Int), rawInt (ep : Int)]
theorem It.at {h h' : Heap} {I a : Addr} {first : Value} {i n ep : Nat} (x : It h I a first i n ep) (e : ∀ o, h.get? I = some o → h'.get? I = some o) : It h' I a first i n ep := let ⟨o, ho, r⟩ := x; ⟨o, e _ ho, r⟩
section
variable {prog : Program} {w : World} {A : Around} {E : Value → Shared → Prop} {s : Shared}
theorem It.ty {I a : Addr} {first : Value} {i n ep : Nat} (x : It s.heap I a first i n ep) : s.TypeIs (.ref I) "set_iterator" := let ⟨o, ho, hc, _⟩ := x; ⟨o, ho, hc⟩
theorem stop_ok {α : Type} {I : Addr} {s0 s : Shared} {Q : Option Value → Shared → Prop} (hh : A.handled = none) (hQ : ∀ h', (∀ b o, s.heap.get? b = some o → h'.get? b = some o) → Q none { s with heap := h' }) :
    wpAny (model prog w) A.in1 (newExc (.type "StopIteration") [] >>= fun e => (raiseNew e : Sem Fin)) (fun fin s' => ∃ v, fin = .done (.ret v) ∧ wpAny (model prog w) A (pure (some v)) Q E s')
      (fun e s' => wpAny (model prog w) A (do if ← isInstance e (.type "StopIteration") then pure none else throw e) Q E s') s := by
  refine wpAny_bind ?_
  simp only [newExc, newTuple]
  refine wpAny_bind (wpAny_newObj_type ?_ (by size_fits))
  refine wpAny_bind (m := firstArgMember _ _) (wpAny_of_eq (a := Value.none) (by first | rfl | (simp only [firstArgMember]; rfl)) ?_)
  refine wpAny_newObj_type ?_ (by size_fits)
  simp only [raiseNew]
  refine wpAny_bind (wpAny_handled ?_)
  first | rw [show A.in1.handled = none from hh] | rw [hh]
  refine wpAny_bind (wpAny_pure (wpAny_throw ?_))
  refine wpAny_bind (wpAny_isInstance (T := "StopIteration") (b := true) ⟨_, Heap.get?_push_size _ rfl, rfl⟩ isSubtype_stop ?_)
  refine wpAny_pure (hQ _ fun b ob eb => ?_)
  exact Heap.get?_push_of_some _ (Heap.get?_push_of_some _ eb)
end
end SS

set_option Elab.async false
set_option linter.all false
set_option maxRecDepth 100000
set_option maxHeartbeats 4000000
namespace SS
open PySem PyProof.Rows
section
variable {prog : Program} {w : World} {A : Around} {E : Value → Shared → Prop} {s : Shared}
theorem item_int {I a : Addr} {o : Obj} {es : Array (Int × Value)} {ep i slot nx : Nat} {t : SetTable} {x : Value} {Q : Option Value → Shared → Prop} (hI : It s.heap I a (rawInt (slot : Int)) i es.size ep) (hne : a ≠ I) (ho : s.heap.get? a = some o) (hd : o.data = .set es ep t) (hf : t.fits es.size = true)
    (hN : ∀ (A' : Around) (E' : Value → Shared → Prop) (Q' : Option (Value × Nat) → Shared → Prop), Q' (some (x, nx)) s → wpAny (model prog w) A' (setNext a slot i ep) Q' E' s)
    (hQ : ∀ h', It h' I a (rawInt (nx : Int)) (i + 1) es.size ep → Heap.SameBut I s.heap h' → Q (some x) { s with heap := h' }) : wpAny (model prog w) A (pyNext (.ref I)) Q E s := by
  obtain ⟨oi, hoi, hci, hdi⟩ := id hI
  unfold pyNext
  refine wpAny_bind (wpAny_attempt (wpAny_callSpecial?_slot (name := Str.ofString "__next__") hI.ty slot_next (wpAny_call_entry slot_next hI.ty entry_next ?_ (args_next _))))
  unfold Builtin.«set_iterator.__next__»
  refine wpAny_bind (wpAny_of_eq (a := (Value.ref I, [])) rfl ?_)
  try dsimp only
  refine wpAny_bind (wpAny_fieldsOf hoi hdi ?_)
  dsimp only [rawInt]
  refine wpAny_bind (wpAny_setEntries_of ho hd hf ?_)
  rw [if_neg (by simp)]
  refine wpAny_bind (m := setNext a (slot : Int).toNat (i : Int).toNat (ep : Int).toNat) ?_
  rw [Int.toNat_natCast, Int.toNat_natCast, Int.toNat_natCast]
  refine hN _ _ _ ?_
  dsimp only
  refine wpAny_bind (wpAny_setField hoi hdi (by simp) ?_)
  have h2 := Heap.get?_update_self (Obj.mapFields (·.setIfInBounds 0 (rawInt (nx : Int)))) hoi (Obj.isFreed_of_fields (Obj.data_mapFields hdi _))
  refine wpAny_bind (wpAny_setField h2 (Obj.data_mapFields hdi _) (by simp) ?_)
  refine wpAny_pure ⟨_, rfl, wpAny_pure (hQ _ ?_ ((Heap.SameBut.update ..).trans (Heap.SameBut.update ..)))⟩
  exact ⟨_, Heap.get?_update_self _ h2 (Obj.isFreed_of_fields (Obj.data_mapFields (Obj.data_mapFields hdi _) _)), (Obj.cls_mapFields ..).trans ((Obj.cls_mapFields ..).trans hci), by rw [Obj.data_mapFields (Obj.data_mapFields hdi _)]; simp [rawInt]⟩
theorem end_int {I a : Addr} {o : Obj} {es : Array (Int × Value)} {ep i slot : Nat} {t : SetTable} {Q : Option Value → Shared → Prop} (hh : A.handled = none) (hI : It s.heap I a (rawInt (slot : Int)) i es.size ep) (hne : a ≠ I) (ho : s.heap.get? a = some o) (hd : o.data = .set es ep t) (hf : t.fits es.size = true)
    (hN : ∀ (A' : Around) (E' : Value → Shared → Prop) (Q' : Option (Value × Nat) → Shared → Prop), Q' none s → wpAny (model prog w) A' (setNext a slot i ep) Q' E' s)
    (hQ : ∀ h', Heap.ExtBut I s.heap h' → Q none { s with heap := h' }) : wpAny (model prog w) A (pyNext (.ref I)) Q E s := by
  obtain ⟨oi, hoi, hci, hdi⟩ := id hI
  unfold pyNext
  refine wpAny_bind (wpAny_attempt (wpAny_callSpecial?_slot (name := Str.ofString "__next__") hI.ty slot_next (wpAny_call_entry slot_next hI.ty entry_next ?_ (args_next _))))
  unfold Builtin.«set_iterator.__next__»
  refine wpAny_bind (wpAny_of_eq (a := (Value.ref I, [])) rfl ?_)
  try dsimp only
  refine wpAny_bind (wpAny_fieldsOf hoi hdi ?_)
  dsimp only [rawInt]
  refine wpAny_bind (wpAny_setEntries_of ho hd hf ?_)
  rw [if_neg (by simp)]
  refine wpAny_bind (m := setNext a (slot : Int).toNat (i : Int).toNat (ep : Int).toNat) ?_
  rw [Int.toNat_natCast, Int.toNat_natCast, Int.toNat_natCast]
  refine hN _ _ _ ?_
  dsimp only
  refine wpAny_bind (wpAny_setField hoi hdi (by simp) ?_)
  refine wpAny_mono (stop_ok (α := Unit) (I := I) (s0 := s) (Q := Q) (E := E) hh fun h' kp => hQ h' fun b ob hb eb => kp b ob ((Heap.get?_update_other _ _ (Ne.symm hb)).trans eb)) (fun fin s' z => z) fun e s' z => z
theorem item_ref {I a tp : Addr} {o ot : Obj} {es : Array (Int × Value)} {ep i p nt : Nat} {t : SetTable} {x : Int × Value} {ps : List Nat} {Q : Option Value → Shared → Prop} (hI : It s.heap I a (.ref tp) i es.size ep) (ho : s.heap.get? a = some o) (hd : o.data = .set es ep t) (hf : t.fits es.size = true)
    (hot : s.heap.get? tp = some ot) (hdt : ot.data = .seq (ps.map fun j : Nat => rawInt (j : Int)).toArray nt) (hp : ps[i]? = some p) (hx : es[p]? = some x)
    (hQ : ∀ h', It h' I a (.ref tp) (i + 1) es.size ep → Heap.SameBut I s.heap h' → Q (some x.2) { s with heap := h' }) : wpAny (model prog w) A (pyNext (.ref I)) Q E s := by
  obtain ⟨oi, hoi, hci, hdi⟩ := id hI
  unfold pyNext
  refine wpAny_bind (wpAny_attempt (wpAny_callSpecial?_slot (name := Str.ofString "__next__") hI.ty slot_next (wpAny_call_entry slot_next hI.ty entry_next ?_ (args_next _))))
  unfold Builtin.«set_iterator.__next__»
  refine wpAny_bind (wpAny_of_eq (a := (Value.ref I, [])) rfl ?_)
  try dsimp only
  refine wpAny_bind (wpAny_fieldsOf hoi hdi ?_)
  dsimp only [rawInt]
  refine wpAny_bind (wpAny_setEntries_of ho hd hf ?_)
  rw [if_neg (by simp)]
  refine wpAny_bind (wpAny_seqItems hot hdt ?_)
  dsimp only
  rw [Int.toNat_natCast, List.getElem?_toArray, List.getElem?_map, hp]
  dsimp only [Option.map, rawInt]
  refine wpAny_bind (m := setNextDrawn a (p : Int).toNat (ep : Int).toNat) ?_
  rw [Int.toNat_natCast, Int.toNat_natCast]
  unfold setNextDrawn
  refine wpAny_bind (wpAny_setState_of ho hd hf ?_)
  dsimp only
  rw [bne_self_eq_false, if_neg Bool.false_ne_true, hx]
  refine wpAny_pure ?_
  refine wpAny_bind (wpAny_setField hoi hdi (by simp) ?_)
  refine wpAny_pure ⟨_, rfl, wpAny_pure (hQ _ ?_ (Heap.SameBut.update ..))⟩
  exact ⟨_, Heap.get?_update_self _ hoi (Obj.isFreed_of_fields (Obj.data_mapFields hdi _)), (Obj.cls_mapFields ..).trans hci, by rw [Obj.data_mapFields hdi]; simp [rawInt]⟩
theorem end_ref {I a tp : Addr} {o ot : Obj} {es : Array (Int × Value)} {ep i nt : Nat} {t : SetTable} {ps : List Nat} {Q : Option Value → Shared → Prop} (hh : A.handled = none) (hI : It s.heap I a (.ref tp) i es.size ep) (ho : s.heap.get? a = some o) (hd : o.data = .set es ep t) (hf : t.fits es.size = true)
    (hot : s.heap.get? tp = some ot) (hdt : ot.data = .seq (ps.map fun j : Nat => rawInt (j : Int)).toArray nt) (hp : ps[i]? = none)
    (hQ : ∀ h', Heap.ExtBut I s.heap h' → Q none { s with heap := h' }) : wpAny (model prog w) A (pyNext (.ref I)) Q E s := by
  obtain ⟨oi, hoi, hci, hdi⟩ := id hI
  unfold pyNext
  refine wpAny_bind (wpAny_attempt (wpAny_callSpecial?_slot (name := Str.ofString "__next__") hI.ty slot_next (wpAny_call_entry slot_next hI.ty entry_next ?_ (args_next _))))
  unfold Builtin.«set_iterator.__next__»
  refine wpAny_bind (wpAny_of_eq (a := (Value.ref I, [])) rfl ?_)
  try dsimp only
  refine wpAny_bind (wpAny_fieldsOf hoi hdi ?_)
  dsimp only [rawInt]
  refine wpAny_bind (wpAny_setEntries_of ho hd hf ?_)
  rw [if_neg (by simp)]
  refine wpAny_bind (wpAny_seqItems hot hdt ?_)
  dsimp only
  rw [Int.toNat_natCast, List.getElem?_toArray, List.getElem?_map, hp]
  dsimp only [Option.map]
  refine wpAny_bind (wpAny_setField hoi hdi (by simp) ?_)
  have h2 := Heap.get?_update_self (Obj.mapFields (·.setIfInBounds 0 (rawInt 0))) hoi (Obj.isFreed_of_fields (Obj.data_mapFields hdi _))
  refine wpAny_bind (wpAny_setField h2 (Obj.data_mapFields hdi _) (by simp) ?_)
  refine wpAny_mono (stop_ok (α := Unit) (I := I) (s0 := s) (Q := Q) (E := E) hh fun h' kp => hQ h' fun b ob hb eb => kp b ob ((Heap.get?_update_other _ _ (Ne.symm hb)).trans ((Heap.get?_update_other _ _ (Ne.symm hb)).trans eb))) (fun fin s' z => z) fun e s' z => z
theorem self_ok {I a : Addr} {first : Value} {i n ep : Nat} {Q : Value → Shared → Prop} (hI : It s.heap I a first i n ep) (h : Q (.ref I) s) : wpAny (model prog w) A (pyIter (.ref I)) Q E s := by
  refine wpAny_pyIter_slot hI.ty slot_self (wpAny_call_entry slot_self hI.ty entry_self ?_ (args_self _))
  show wpAny _ _ (ret (.ref I)) _ _ s
  exact wpAny_pure ⟨_, rfl, "set_iterator", _, hI.ty, slot_next.lookup, h⟩
theorem wpAny_choose {M : Model} {src : Source} {n : Nat} {Q : Nat → Shared → Prop} (hn : n ≠ 0) (h : ∀ i d, i < n → Q i { s with drawn := d }) : wpAny M A (choose src n) Q E s := fun Γ p hΓ => ⟨hn, h _ _ (Nat.mod_lt _ (Nat.pos_of_ne_zero hn))⟩
theorem draw_ok {α : Type} : ∀ (xs : List α) (s : Shared) (Q : List α → Shared → Prop), (∀ ys d, ys.Perm xs → Q ys { s with drawn := d }) → wpAny (model prog w) A (drawOrder xs.length xs) Q E s := by
  intro xs
  generalize hn : xs.length = n
  induction n generalizing xs with
  | zero =>
    intro s Q h
    obtain rfl := List.length_eq_zero_iff.mp hn
    rw [drawOrder]
    exact wpAny_pure (h [] s.drawn (List.Perm.refl _))
  | succ n ih =>
    intro s Q h
    cases xs with
    | nil => cases hn
    | cons x xs =>
      rw [drawOrder]
      rotate_left
      · intro z
        cases z
      refine wpAny_bind (wpAny_choose (by simp) fun i d hi => ?_)
      rw [List.getElem?_eq_getElem hi]
      dsimp only
      refine wpAny_bind (ih ((x :: xs).eraseIdx i) (by rw [List.length_eraseIdx_of_lt hi, hn]; rfl) _ _ fun ys d2 hp => wpAny_pure ?_)
      exact h _ d2 ((hp.cons _).trans (erase_perm _ i hi))
end
end SS

set_option Elab.async false
set_option linter.all false
set_option maxRecDepth 100000
set_option maxHeartbeats 4000000
namespace SS
open PySem PyProof.Rows
theorem walk_int {prog : Program} {w : World} {A : Around} {a I : Addr} {o : Obj} {es : Array (Int × Value)} {ep : Nat} {t : SetTable} {L : List (Int × Value)} {slots : Nat → Nat} (hh : A.handled = none) (hne : a ≠ I) (hd : o.data = .set es ep t) (hf : t.fits es.size = true)
    (hN : ∀ (i : Nat) (s : Shared) (A' : Around) (E' : Value → Shared → Prop) (Q' : Option (Value × Nat) → Shared → Prop), s.heap.get? a = some o → i ≤ L.length → Q' ((L[i]?).map fun e => (e.2, slots (i + 1))) s → wpAny (model prog w) A' (setNext a (slots i) i ep) Q' E' s) :
    Walks prog w A I [I, a] [I] L.length (fun i v => (L.map (·.2))[i]? = some v) (fun i h => h.get? a = some o ∧ It h I a (rawInt (slots i : Int)) i es.size ep) where
  sub := fun b hb => by simp at hb; simp [hb]
  frame := fun _ _ _ y hk => ⟨hk a (by simp) o y.1, y.2.at fun o e => hk I (by simp) o e⟩
  item := fun i s Q E hi y hQ => by
    refine item_int (x := L[i].2) (nx := slots (i + 1)) y.2 hne y.1 hd hf (fun A' E' Q' q => hN i s A' E' Q' y.1 (by omega) ?_) fun h' hit hs => ?_
    · rw [List.getElem?_eq_getElem hi]
      exact q
    · exact hQ _ h' s.toks (by rw [List.getElem?_map, List.getElem?_eq_getElem hi]; rfl) ⟨(hs.2 a hne).trans y.1, hit⟩ fun b o hb eo => hs.extBut b o (fun h => hb (by simp [h])) eo
  done := fun s Q E y hQ => by
    refine end_int hh y.2 hne y.1 hd hf (fun A' E' Q' q => hN L.length s A' E' Q' y.1 (Nat.le_refl _) ?_) fun h' he => hQ h' s.toks fun b o hb eo => he b o (fun h => hb (by simp [h])) eo
    rw [List.getElem?_eq_none (Nat.le_refl _)]
    exact q
  self := fun _ _ _ _ y hQ => self_ok y.2 hQ
theorem walk_ref {prog : Program} {w : World} {A : Around} {a I tp : Addr} {o ot : Obj} {es : Array (Int × Value)} {ep nt : Nat} {t : SetTable} {ps : List Nat} (hh : A.handled = none) (hne : a ≠ I) (hnt : tp ≠ I) (hd : o.data = .set es ep t) (hf : t.fits es.size = true)
    (hdt : ot.data = .seq (ps.map fun j : Nat => rawInt (j : Int)).toArray nt) (hps : ∀ p ∈ ps, p < es.size) :
    Walks prog w A I [I, a, tp] [I] ps.length (fun i v => (ps.map fun p => (es.getD p (0, .none)).2)[i]? = some v) (fun i h => h.get? a = some o ∧ h.get? tp = some ot ∧ It h I a (.ref tp) i es.size ep) where
  sub := fun b hb => by simp at hb; simp [hb]
  frame := fun _ _ _ y hk => ⟨hk a (by simp) o y.1, hk tp (by simp) ot y.2.1, y.2.2.at fun o e => hk I (by simp) o e⟩
  item := fun i s Q E hi y hQ => by
    have hp : ps[i]? = some ps[i] := List.getElem?_eq_getElem hi
    have hlt := hps _ (List.getElem_mem hi)
    have hx : es[ps[i]]? = some (es[ps[i]]'hlt) := Array.getElem?_eq_getElem hlt
    refine item_ref y.2.2 y.1 hd hf y.2.1 hdt hp hx fun h' hit hs => ?_
    refine hQ _ h' s.toks ?_ ⟨(hs.2 a hne).trans y.1, (hs.2 tp hnt).trans y.2.1, hit⟩ fun b o hb eo => hs.extBut b o (fun h => hb (by simp [h])) eo
    rw [List.getElem?_map, hp]
    show some (es.getD ps[i] (0, Value.none)).2 = _
    rw [Array.getD_eq_getD_getElem?, hx]
    rfl
  done := fun s Q E y hQ => end_ref hh y.2.2 y.1 hd hf y.2.1 hdt (List.getElem?_eq_none (Nat.le_refl _)) fun h' he => hQ h' s.toks fun b o hb eo => he b o (fun h => hb (by simp [h])) eo
  self := fun _ _ _ _ y hQ => self_ok y.2.2 hQ
theorem strs_els {w : World} : ∀ L : List (Int × Value), (∀ e ∈ L, El w e) → StrsAre (L.map (·.2)) (L.map fun e => keyV e.2)
  | [], _ => .nil
  | e :: L, h => by
    obtain ⟨_, tk, q⟩ := h e (List.mem_cons_self ..)
    rw [List.map_cons, List.map_cons]
    have r := strs_els L fun x hx => h x (List.mem_cons_of_mem _ hx)
    have z : StrsAre (Value.str (keyV e.2) tk :: L.map (·.2)) (keyV e.2 :: L.map fun e => keyV e.2) := .cons _ _ r
    rw [← q] at z
    exact z
section
variable {prog : Program} {w : World} {A : Around} {E : Value → Shared → Prop} {s : Shared}
theorem iter_ok {a : Addr} {ms : List Str} {Q : Value → Shared → Prop} (hS : Is w s.heap a ms)
    (h : ∀ (h' : Heap) (d : Drawn) (I : Addr) (fp : List Addr) (xs : List Value) (ss : List Str) (St : Nat → Heap → Prop), (∀ A' : Around, A'.handled = none → Walks prog w A' I fp [I] xs.length (fun i v => xs[i]? = some v) St) → St 0 h' →
      (∀ b o, s.heap.get? b = some o → h'.get? b = some o) → s.heap.objs.size ≤ I → (∀ b ∈ fp, b = a ∨ s.heap.objs.size ≤ b) → StrsAre xs ss → ss.Perm ms → Q (.ref I) { s with heap := h', drawn := d }) :
    wpAny (model prog w) A (pyIter (.ref a)) Q E s := by
  obtain ⟨o, es, ep, t, ho, hex, hd, hel, hnd, hb, hf, hl, hp⟩ := id hS
  have hlt := Heap.lt_size ho
  have hps : t.place.size = es.size := by
    simp only [SetTable.fits, Bool.and_eq_true, beq_iff_eq] at hf
    exact hf.1
  refine wpAny_pyIter_slot hS.ty F.slot_set_iter (wpAny_call_entry F.slot_set_iter hS.ty entry_iter ?_ (F.args_set_iter_1 _))
  unfold Builtin.«frozenset.__iter__»
  refine wpAny_bind (m := Builtin.Frozenset.slot0 "__iter__" ⟨[.ref a], []⟩) (wpAny_of_eq (a := a) rfl ?_)
  unfold Builtin.Frozenset.sizeOf
  refine wpAny_bind (wpAny_bind (wpAny_setEntries_of ho hd hf (wpAny_pure ?_)))
  have hlist : ∀ L : List (Int × Value), L.Perm es.toList → StrsAre (L.map (·.2)) (L.map fun e => keyV e.2) ∧ (L.map fun e => keyV e.2).Perm ms := fun L hp => ⟨strs_els L (hel.perm hp).1, (hel.perm hp).2⟩

  have fin : ∀ (L : List (Int × Value)) (slots : Nat → Nat), slots 0 = 0 → L.Perm es.toList → (∀ (i : Nat) (s : Shared) (A' : Around) (E' : Value → Shared → Prop) (Q' : Option (Value × Nat) → Shared → Prop), s.heap.get? a = some o → i ≤ L.length → Q' ((L[i]?).map fun e => (e.2, slots (i + 1))) s → wpAny (model prog w) A' (setNext a (slots i) i ep) Q' E' s) →
      wpAny (model prog w) A.in1 (setEpoch a >>= fun e => newFields "set_iterator" [rawInt 0, rawInt 0, .ref a, rawInt (es.size : Int), rawInt (e : Int)] >>= ret) (fun fin s' => ∃ v, fin = .done (.ret v) ∧ ∃ (T : String) (r : Value), s'.TypeIs v T ∧ typeLookup (.type T) "__next__" = pure (some r) ∧ Q v s') E s := fun L slots h0 hL hN => by
    refine wpAny_bind (wpAny_setEpoch_of ho hd hf ?_)
    have hI : It (s.heap.push { cls := .type "set_iterator", data := .fields #[rawInt 0, rawInt 0, .ref a, rawInt (es.size : Int), rawInt (ep : Int)] }) s.heap.objs.size a (rawInt (slots 0 : Int)) 0 es.size ep := ⟨_, Heap.get?_push_size _ rfl, rfl, by rw [h0]; rfl⟩
    obtain ⟨q1, q2⟩ := hlist L hL
    refine wpAny_bind (wpAny_newObj_type (wpAny_pure ⟨_, rfl, "set_iterator", _, ⟨_, Heap.get?_push_size _ rfl, rfl⟩, slot_next.lookup, ?_⟩))
    have z := h (s.heap.push { cls := .type "set_iterator", data := .fields #[rawInt 0, rawInt 0, .ref a, rawInt (es.size : Int), rawInt (ep : Int)] }) s.drawn s.heap.objs.size [s.heap.objs.size, a] (L.map (·.2)) _ (fun i h => h.get? a = some o ∧ It h s.heap.objs.size a (rawInt (slots i : Int)) i es.size ep) (fun A' hA' => by
        rw [List.length_map]
        exact walk_int hA' (Nat.ne_of_lt hlt) hd hf hN) ⟨Heap.get?_push_of_some _ ho, hI⟩ (fun b o e => Heap.get?_push_of_some _ e) (Nat.le_refl _) (fun b hb => by
        rcases List.mem_cons.mp hb with rfl | hb
        · exact .inr (Nat.le_refl _)
        · exact .inl (List.mem_singleton.mp hb)) q1 q2
    exact z
  have hdrw : ∀ (Q' : Bool → Shared → Prop), Q' (!byT w && (!t.plain && decide (es.size > 1))) s → wpAny (model prog w) A.in1 (setDrawn a) Q' E s := fun Q' q => by
    unfold setDrawn
    refine wpAny_bind (wpAny_setState_of ho hd hf ?_)
    dsimp only
    exact wpAny_bind (byText_ok (wpAny_pure q))
  refine wpAny_bind (hdrw _ ?_)
  by_cases hby : byT w = true
  · rw [hby]
    simp only [Bool.not_true, Bool.false_and, Bool.false_eq_true, ↓reduceIte]
    refine wpAny_bind (wpAny_pure ?_)
    refine fin (pickOrder (w.params.setOrder a ep) es).toList (fun _ => 0) rfl (pick_perm _ _) fun i s' A' E' Q' ho' hi q => ?_
    unfold setNext
    refine wpAny_bind (wpAny_setState_of ho' hd hf ?_)
    dsimp only
    refine wpAny_bind (byText_ok ?_)
    rw [hby, if_pos rfl, bne_self_eq_false, if_neg Bool.false_ne_true]
    unfold setWalk
    refine wpAny_bind (wpAny_bind (wpAny_setState_of ho' hd hf ?_))
    dsimp only
    refine wpAny_bind (byText_ok ?_)
    rw [hby, if_pos rfl]
    refine wpAny_bind (wpAny_askSetting (wpAny_pure (wpAny_pure ?_)))
    rw [Array.getElem?_toList] at q
    exact q
  · have hbf : byT w = false := Bool.eq_false_iff.mpr hby
    have hld : t.led = true := hl.resolve_left hby
    by_cases h1 : es.size ≤ 1
    · have hnot : (!byT w && (!t.plain && decide (es.size > 1))) = false := by rw [decide_eq_false (by omega)]; simp
      rw [hnot]
      simp only [Bool.false_eq_true, ↓reduceIte]
      refine wpAny_bind (wpAny_pure ?_)
      have hN : ∀ (slot i : Nat) (s' : Shared) (A' : Around) (E' : Value → Shared → Prop) (Q' : Option (Value × Nat) → Shared → Prop), s'.heap.get? a = some o →
          Q' (match es[SetTable.below t.place slot]?, t.place[SetTable.below t.place slot]? with | some (_, x), some j => some (x, j + 1) | _, _ => none) s' → wpAny (model prog w) A' (setNext a slot i ep) Q' E' s' := fun slot i s' A' E' Q' ho' q => by
        unfold setNext
        refine wpAny_bind (wpAny_setState_of ho' hd hf ?_)
        dsimp only
        refine wpAny_bind (byText_ok ?_)
        rw [hbf, if_neg Bool.false_ne_true]
        have hdr : (!t.plain && decide (es.size > 1)) = false := by rw [decide_eq_false (by omega)]; simp
        show wpAny _ _ (if (!t.plain && decide (es.size > 1)) = true then _ else _) _ _ s'
        rw [hdr, if_neg Bool.false_ne_true]
        refine wpAny_bind (m := if (!t.led && !es.isEmpty) = true then unsupported "set:maker-not-led" else pure ()) ?_
        rw [hld]
        simp only [Bool.not_true, Bool.false_and, Bool.false_eq_true, ↓reduceIte]
        exact wpAny_pure (wpAny_pure q)
      by_cases h0 : es.size = 0
      · have ee : es = #[] := Array.eq_empty_of_size_eq_zero h0
        refine fin [] (fun _ => 0) rfl (by rw [ee]) fun i s' A' E' Q' ho' hi q => hN 0 i s' A' E' Q' ho' ?_
        rw [ee, Array.getElem?_eq_none (by simp)]
        exact q
      · obtain ⟨e0, he0⟩ : ∃ e0, es = #[e0] := by
          obtain ⟨l⟩ := es
          match l, h0, h1 with
          | [e0], _, _ => exact ⟨e0, rfl⟩
          | [], h, _ => exact absurd rfl h
          | _ :: _ :: _, _, h => simp at h
        obtain ⟨j, hj⟩ : ∃ j, t.place = #[j] := by
          rw [he0] at hps
          cases hpl : t.place with
          | mk l =>
            rw [hpl] at hps
            match l, hps with
            | [j], _ => exact ⟨j, rfl⟩
        refine fin [e0] (fun i => if i = 0 then 0 else j + 1) rfl (by rw [he0]) fun i s' A' E' Q' ho' hi q => hN _ i s' A' E' Q' ho' ?_
        have b0 : SetTable.below #[j] 0 = 0 := by
          simp [SetTable.below, SetTable.below.go]
        have b1 : SetTable.below #[j] (j + 1) = 1 := by
          simp [SetTable.below, SetTable.below.go]
        match i, hi with
        | 0, _ =>
          rw [if_pos rfl, hj, b0, he0]
          exact q
        | 1, _ =>
          rw [if_neg (by decide), hj, b1, he0]
          exact q
    · have hpl : t.plain = false := hp.resolve_left (by omega)
      have hyes : (!byT w && (!t.plain && decide (es.size > 1))) = true := by rw [hbf, hpl, decide_eq_true (by omega)]; rfl
      rw [hyes, if_pos rfl]
      have hr : (List.range es.size).length = es.size := List.length_range
      refine wpAny_bind (m := drawOrder es.size (List.range es.size)) ?_
      have dr := draw_ok (prog := prog) (w := w) (A := A.in1) (E := E) (List.range es.size) s
      rw [hr] at dr
      refine dr _ fun ps d hpp => ?_
      have hpl : ps.length = es.size := by rw [hpp.length_eq, hr]
      have hs : sizeLine = 16777216 := sizeLine_eq
      have sb : scanBound = 4096 := rfl
      refine wpAny_bind (wpAny_newTuple ?_ (by rw [List.length_map]; omega))
      generalize hot : ({ cls := .type "tuple", data := .seq (ps.map fun j : Nat => rawInt (j : Int)).toArray } : Obj) = ot
      have hg : (s.heap.push ot).get? s.heap.objs.size = some ot := Heap.get?_push_size _ (by rw [← hot]; rfl)
      have ho2 : (s.heap.push ot).get? a = some o := Heap.get?_push_of_some _ ho
      refine wpAny_bind (wpAny_setEpoch_of (s := { s with heap := s.heap.push ot, drawn := d }) ho2 hd hf ?_)
      refine wpAny_bind (wpAny_newObj_type (wpAny_pure ⟨_, rfl, "set_iterator", _, ⟨_, Heap.get?_push_size _ rfl, rfl⟩, slot_next.lookup, ?_⟩))
      have hsz : (s.heap.push ot).objs.size = s.heap.objs.size + 1 := Heap.size_push _ _
      have hfm : (ps.map fun p => es.getD p (0, Value.none)).Perm es.toList := by
        have e1 : (List.range es.size).map (fun p => es.getD p (0, Value.none)) = es.toList := by
          apply List.ext_getElem
          · simp
          · intro i g1 g2
            have g3 : i < es.size := by simpa using g1
            simp [Array.getD_eq_getD_getElem?, g3]
        exact (hpp.map _).trans (by rw [e1])
      obtain ⟨q1, q2⟩ := hlist _ hfm
      rw [List.map_map, List.map_map] at q1
      rw [List.map_map] at q2
      have hps' : ∀ p ∈ ps, p < es.size := fun p hp => List.mem_range.mp (hpp.mem_iff.mp hp)
      have hgo : ∀ (o2 : Obj), o2 = { cls := .type "set_iterator", data := .fields #[.ref s.heap.objs.size, rawInt 0, .ref a, rawInt (es.size : Int), rawInt (ep : Int)] } → Q (.ref (s.heap.objs.size + 1)) { s with heap := (s.heap.push ot).push o2, drawn := d } := fun o2 ho2' => by
       refine h ((s.heap.push ot).push o2) d (s.heap.objs.size + 1) [s.heap.objs.size + 1, a, s.heap.objs.size] (ps.map fun p => (es.getD p (0, Value.none)).2) _ (fun i h => h.get? a = some o ∧ h.get? s.heap.objs.size = some ot ∧ It h (s.heap.objs.size + 1) a (.ref s.heap.objs.size) i es.size ep) (fun A' hA' => by
           rw [List.length_map]
           exact walk_ref (ot := ot) (nt := 0) hA' (Nat.ne_of_lt (Nat.lt_succ_of_lt hlt)) (Nat.ne_of_lt (Nat.lt_succ_self _)) hd hf (by rw [← hot]) hps') ⟨Heap.get?_push_of_some _ ho2, Heap.get?_push_of_some _ hg, ?_⟩ (fun b o e => Heap.get?_push_of_some _ (Heap.get?_push_of_some _ e)) (Nat.le_succ _) (fun b hb => ?_) q1 q2
       · rw [← hsz]
         exact ⟨o2, Heap.get?_push_size _ (by rw [ho2']; rfl), by rw [ho2'], by rw [ho2']; rfl⟩
       · rcases List.mem_cons.mp hb with rfl | hb
         · exact .inr (Nat.le_succ _)
         · rcases List.mem_cons.mp hb with rfl | hb
           · exact .inl rfl
           · exact .inr (Nat.le_of_eq (List.mem_singleton.mp hb).symm)
      have z := hgo _ rfl
      rw [← hsz] at z
      exact z
end
end SS

set_option Elab.async false
set_option linter.all false
set_option maxRecDepth 100000
set_option maxHeartbeats 4000000
namespace SS
open PySem PyProof.Rows
theorem items_eq {xs : List Value} {acc : Array Value} (h : ItemsOf (fun i v => xs[i]? = some v) acc xs.length) : acc.toList = xs := by
  apply List.ext_getElem?
  intro i
  rw [Array.getElem?_toList]
  cases e : acc[i]? with
  | some v => exact (h.2 i v e).symm
  | none =>
    have : acc.size ≤ i := by
      rcases Nat.lt_or_ge i acc.size with z | z
      · rw [Array.getElem?_eq_getElem z] at e; cases e
      · exact z
    rw [List.getElem?_eq_none (by rw [← h.1]; exact this)]
section
variable {prog : Program} {w : World} {A : Around} {E : Value → Shared → Prop} {s : Shared}
theorem hint_ok {a : Addr} {ms : List Str} {Q : Bool → Shared → Prop} (hS : Is w s.heap a ms) (h : Q false s) : wpAny (model prog w) A (Builtin.List.listLengthHint (.ref a)) Q E s := by
  unfold Builtin.List.listLengthHint
  refine wpAny_bind (wpAny_specialOf hS.ty F.slot_set_len.lookup ?_)
  generalize hid : ("set.__len__" : String) = id0
  wp_delta
  rw [show splitId id0 = some ("set", "__len__") from by subst hid; decide +kernel]
  subst hid
  refine wpAny_bind (wpAny_isInstance (T := "set") (b := true) hS.ty sub_set_self ?_)
  refine wpAny_ite_split (fun hab => absurd hab (by decide)) (fun _ => ?_)
  refine wpAny_ite_split (fun _ => ?_) (fun hab => absurd (by decide +kernel) hab)
  refine wpAny_bind (wpAny_typeOf hS.ty ?_)
  exact wpAny_pure h
theorem extend_ok {a : Addr} {ms : List Str} {R : Result → Shared → Prop} (hh : A.handled = none) (hS : Is w s.heap a ms) (hz : ms.length ≤ sizeLine) (S : Addr) (res : Value) (h1 : S ≠ a) (hSl : s.heap.get? S = some { cls := .type "list", data := .seq #[] })
    (hR : ∀ s' acc' c' ss, (∀ b o, b ≠ S → s.heap.get? b = some o → s'.heap.get? b = some o) → s'.gens = s.gens → s'.os = s.os → s'.heap.get? S = some { cls := .type "list", dict := none, data := .seq acc' c', slots := #[] } → StrsAre acc'.toList ss → ss.Perm ms → R (.ok (.ret res)) s') :
    wpAny (model prog w) A.in1 (Builtin.List.listExtendWith (.ref S) (.ref a) res)
      (fun fin s' => match fin with | .done f => R (.ok f) s' | .again c' => c'.quiet = true ∧ codeAny (model prog w) A c' R s') (fun e s' => R (.error e) s') s := by
  unfold Builtin.List.listExtendWith
  refine wpAny_bind (wpAny_typeOf hS.ty ?_)
  have g1 : Builtin.List.listSameRef (.ref S) (.ref a) = false := by simp [Builtin.List.listSameRef, h1]
  have g2 : (Value.type "set" == Value.type "list") = false := by decide
  have g3 : (Value.type "set" == Value.type "tuple") = false := by decide
  simp only [g1, g2, g3, Bool.or_false, Bool.false_eq_true, if_false]
  refine wpAny_bind (iter_ok (A := A.in1) hS fun h2 d I fp xs ss St W st0 kp hIs hfp hss hpm => ?_)
  have hlt := Heap.lt_size hSl
  have hSI : S ≠ I := Nat.ne_of_lt (Nat.lt_of_lt_of_le hlt hIs)
  have hSf : S ∉ fp := fun z => by
    rcases hfp S z with e | e
    · exact h1 e
    · exact absurd hlt (Nat.not_lt.mpr e)
  have hS2 : Is w h2 a ms := hS.at fun o e => kp a o e
  refine wpAny_bind (wpAny_holding (hint_ok (s := { s with heap := h2, drawn := d }) hS2 ?_))
  have WS := (W A.in1 hh).toS
  have hxl : xs.length = ms.length := by rw [hss.length, hpm.length_eq]
  have last : ∀ (h0 : Heap) (c0 : Nat), (∀ b o, b ≠ S → h2.get? b = some o → h0.get? b = some o) → h0.get? S = some { cls := .type "list", data := .seq #[] c0 } →
      wpAny (model prog w) A.in1 (again (.builtin "list.extend.loop" ⟨[.ref S, .ref I, res], []⟩))
        (fun fin s' => match fin with | .done f => R (.ok f) s' | .again c' => c'.quiet = true ∧ codeAny (model prog w) A c' R s') (fun e s' => R (.error e) s') { s with heap := h0, drawn := d } := fun h0 c0 hk0 hS0 => by
    refine wpAny_pure ⟨plainId_quiet F.plain_extend_loop _, codeAny_extend_loopS WS (by omega) S hSf res xs.length 0 _ #[] c0 rfl (Nat.zero_le _) ?_ hS0 (ItemsOf.nil _) fun s' acc' c' hm hS' hacc => ?_⟩
    · exact (W A.in1 hh).frame 0 h2 h0 st0 fun b hb o e => hk0 b o (fun z => hSf (z ▸ hb)) e
    · refine hR s' acc' c' ss (fun b o hb e => ?_) hm.gens hm.os hS' (by rw [items_eq hacc]; exact hss) hpm
      by_cases hbI : b = I
      · subst hbI
        exact absurd (Heap.lt_size e) (Nat.not_lt.mpr hIs)
      · exact hm.heap b o (by simp [hb, hbI]) (hk0 b o hb (kp b o e))
  refine wpAny_ite_split (fun _ => ?_) (fun hab => absurd (by decide +kernel) hab)
  refine wpAny_bind (wpAny_rule ?_)
  have hSl2 : h2.get? S = some { cls := .type "list", data := .seq #[] } := kp S _ hSl
  refine wpAny_bind (m := ((do updateSeq S (fun z => z.push .none); updateSeq S (fun z => z.pop)) : Sem Unit)) (wpAny_bind (wpAny_updateSeq (s := { s with heap := h2, drawn := d }) hSl2 rfl ?_))
  have k1 := Heap.get?_update_self (Obj.mapSeq (fun z => z.push .none)) hSl2 rfl
  refine wpAny_updateSeq k1 rfl ?_
  have k2 := Heap.get?_update_self (Obj.mapSeq (fun z => z.pop)) k1 rfl
  exact last _ _ (fun b o hb e => (Heap.get?_update_other _ _ (Ne.symm hb)).trans ((Heap.get?_update_other _ _ (Ne.symm hb)).trans e)) k2
theorem collect_ok {a : Addr} {ms : List Str} {Q : List Value → Shared → Prop} (hh : A.handled = none) (hS : Is w s.heap a ms) (hz : ms.length ≤ sizeLine)
    (hQ : ∀ s' vs ss, (∀ b o, s.heap.get? b = some o → s'.heap.get? b = some o) → s'.gens = s.gens → s'.os = s.os → StrsAre vs ss → ss.Perm ms → Q vs s') : wpAny (model prog w) A (collect (.ref a)) Q E s := by
  have hlt := Heap.lt_size hS.there.choose_spec
  unfold collect
  refine wpAny_bind (wpAny_runValue (codeAny_builtin F.entry_proto_collect ?_))
  rw [Around.under_plainId F.plain_proto_collect]
  refine wpAny_bind (m := newList []) (wpAny_newObj_type (wpAny_pure ⟨plainId_quiet F.plain_list_iadd _, codeAny_builtin F.entry_list_iadd ?_⟩))
  rw [Around.under_plainId F.plain_list_iadd]
  have hSl : (s.heap.push { cls := .type "list", data := .seq #[] }).get? s.heap.objs.size = some { cls := .type "list", data := .seq #[] } := Heap.get?_push_size _ rfl
  have go : ∀ R : Result → Shared → Prop, (∀ s' acc' c' ss, (∀ b o, s.heap.get? b = some o → s'.heap.get? b = some o) → s'.gens = s.gens → s'.os = s.os → s'.heap.get? s.heap.objs.size = some { cls := .type "list", dict := none, data := .seq acc' c', slots := #[] } → StrsAre acc'.toList ss → ss.Perm ms → R (.ok (.ret (.ref s.heap.objs.size))) s') →
      wpAny (model prog w) A.in1 (Builtin.List.listExtendWith (.ref s.heap.objs.size) (.ref a) (.ref s.heap.objs.size))
        (fun fin s' => match fin with | .done f => R (.ok f) s' | .again c' => c'.quiet = true ∧ codeAny (model prog w) A c' R s') (fun e s' => R (.error e) s') { s with heap := s.heap.push { cls := .type "list", data := .seq #[] } } := fun R hR =>
    extend_ok (A := A) (s := { s with heap := s.heap.push { cls := .type "list", data := .seq #[] } }) hh (hS.at fun o e => Heap.get?_push_of_some _ e) hz s.heap.objs.size (.ref s.heap.objs.size) (Nat.ne_of_gt hlt) hSl
      fun s' acc' c' ss kp g1 g2 e1 e2 e3 => hR s' acc' c' ss (fun b o e => kp b o (Nat.ne_of_lt (Heap.lt_size e)) (Heap.get?_push_of_some _ e)) g1 g2 e1 e2 e3
  refine go (fun r s' => match r with
    | .ok (.ret v) => wpAny (model prog w) A (match v with
      | .ref a => do
        match (← load a).data with
        | .seq xs _ => pure xs.toList
        | _ => unsupported "internal:collect"
      | _ => unsupported "internal:collect") Q E s'
    | .ok _ => False
    | .error e => E e s') fun s' acc' c' ss kp g1 g2 hS' e2 e3 => ?_
  refine wpAny_bind (m := load s.heap.objs.size) (wpAny_load hS' (wpAny_pure ?_))
  exact hQ s' acc'.toList ss kp g1 g2 e2 e3
theorem code_new1 (a : Value) {Q₁ : Value → Shared → Prop} (h : Q₁ (.ref s.heap.objs.size) { s with heap := s.heap.push (freshO w) }) : codeAny (model prog w) A (.call (.builtin "set.__new__") ⟨[.type "set", a], []⟩) (wants Q₁ E) s := by
  refine codeAny_of_tree (show wpAny _ A.in1 (do checkBuiltinCall "set.__new__" ⟨[.type "set", a], []⟩; again (.builtin "set.__new__" ⟨[.type "set", a], []⟩)) _ _ s from ?_)
  refine wpAny_bind (wpAny_of_eq (F.newCall_set_1 a) (wpAny_pure ⟨plainId_quiet F.plain_set_new _, codeAny_builtin F.entry_set_new ?_⟩))
  rw [Around.under_plainId F.plain_set_new _]
  unfold Builtin.«set.__new__» Builtin.Frozenset.newClass
  have hsub := sub_set_self
  obtain ⟨hp, g, d, tk, os⟩ := s
  dsimp only
  wp_walk
  refine wpAny_askSetting (wpAny_pure ?_)
  dsimp only
  simp only [newObj]
  refine wpAny_bind (wpAny_alloc (wpAny_pure (wpAny_pure h)))
end
end SS

set_option Elab.async false
set_option linter.all false
set_option maxRecDepth 100000
set_option maxHeartbeats 4000000
namespace L2
open PySem PySem.Spec PyProof.Rows
namespace SE
noncomputable def Of (w : World) (h : Heap) (D : Addr) (ls : List (List Nat)) (i : Nat) : Prop := ∃ ms, SS.Is w h D ms ∧ (∀ x, x ∈ ms ↔ x ∈ (ls.take i).map tx) ∧ ms.length ≤ i
theorem Of.at {w : World} {h h' : Heap} {D : Addr} {ls : List (List Nat)} {i : Nat} (x : Of w h D ls i) (k : ∀ o, h.get? D = some o → h'.get? D = some o) : Of w h' D ls i := let ⟨ms, a, b⟩ := x; ⟨ms, a.at k, b⟩
section
variable {prog : Program} {w : World} {A : Around} {R : Result → Shared → Prop} {J : Addr} {fp wr : List Addr} {G : Array GenState → Array GenState → Prop} {n : Nat} {P : Nat → Value → Prop} {St : Nat → Shared → Prop}
theorem loopI (W : WalksS prog w A.in1 J fp wr G n P St) {D : Addr} (hD : D ∉ fp) (ls : List (List Nat)) (hv : ∀ i v, P i v → ∃ t, v = Value.str (tx (ls.getD i [])) t) (hn : n + 1 < scanBound) (hnl : n ≤ ls.length) :
    ∀ (k i : Nat) (s : Shared), n - i = k → i ≤ n → St i s → Of w s.heap D ls i →
      (∀ s', Moved (D :: wr) G s s' → Of w s'.heap D ls n → R (.ok (.ret .none)) s') → codeAny (model prog w) A (.builtin "set.update.loop" ⟨[.ref D, .ref J], []⟩) R s := by
  have hDw : D ∉ wr := fun z => hD (W.sub _ z)
  have up : ∀ b ∈ wr, b ∈ D :: wr := fun b hb => .tail _ hb
  intro k
  induction k with
  | zero =>
    intro i s hk hi st hs hR
    obtain rfl : i = n := by omega
    refine codeAny_builtin PyProof.Rows.F.entry_set_update_loop ?_
    rw [Around.under_plainId PyProof.Rows.F.plain_set_update_loop]
    refine wpAny_bind (m := pyNext (.ref J)) (W.done s _ _ st fun s2 mv => ?_)
    exact (show wpAny _ A.in1 (ret Value.none) _ _ s2 from wpAny_pure (hR s2 (mv.mono up) (hs.at fun o e => mv.heap D o hDw e)))
  | succ k ih =>
    intro i s hk hi st hs hR
    have hlt : i < n := by omega
    refine codeAny_builtin PyProof.Rows.F.entry_set_update_loop ?_
    rw [Around.under_plainId PyProof.Rows.F.plain_set_update_loop]
    refine wpAny_bind (m := pyNext (.ref J)) (W.item i s _ _ hlt st fun v s2 pv st2 mv => ?_)
    obtain ⟨t, rfl⟩ := hv i v pv
    have hs2 := hs.at fun o e => mv.heap D o hDw e
    refine wpAny_bind (m := holding [Value.str (tx (ls.getD i [])) t] (setAdd D (.str (tx (ls.getD i [])) t))) (wpAny_holding ?_)
    unfold setAdd
    refine wpAny_holding (wpAny_bind ((PySem.strKind prog w).pyHash (k := tx (ls.getD i [])) (strKind_is _ _ _ _) ?_))
    obtain ⟨ms, hi1, hi2, hi3⟩ := hs2
    refine SS.add_ok (s := { s2 with toks := s2.toks + 1 }) hi1 (by omega) fun h3 ms3 sb i3 m3 l3 => ?_
    have x4 : Of w h3 D ls (i + 1) := by
      refine ⟨ms3, i3, fun x => ?_, by omega⟩
      have e : ls.take (i + 1) = ls.take i ++ [ls.getD i []] := by
        rw [List.take_add_one, List.getD_eq_getElem?_getD, List.getElem?_eq_getElem (by omega)]
        rfl
      rw [m3, hi2, e, List.map_append, List.mem_append, List.map_cons, List.map_nil, List.mem_singleton]
    refine wpAny_pure ⟨plainId_quiet PyProof.Rows.F.plain_set_update_loop _, ih (i + 1) _ (by omega) hlt (W.frame _ s2 _ _ st2 (Nat.le_succ _) fun b hb o e => (sb.2 b fun z => hD (z ▸ hb)).trans e) x4 fun s5 m5 x5 => ?_⟩
    refine hR s5 (Moved.trans W.gtrans ((mv.mono up).then_heap (Nat.le_succ _) fun b o hb e => (sb.2 b fun z => hb (z ▸ .head _)).trans e) m5) x5

variable {E : Value → Shared → Prop} {s : Shared}
theorem call_ofI {l : Addr} {its : Array Value} {ls : List (List Nat)} {Q : Value → Shared → Prop} (hh : A.handled = none) (hl : s.heap.IsList l its) (hv : ∀ i v, its[i]? = some v → ∃ t, v = Value.str (tx (ls.getD i [])) t) (hn : its.size + 1 < scanBound) (hnl : its.size ≤ ls.length)
    (h : ∀ (h' : Heap) (tk : Nat), Of w h' s.heap.objs.size ls its.size → (∀ b o, s.heap.get? b = some o → h'.get? b = some o) → Q (.ref s.heap.objs.size) { s with heap := h', toks := tk }) :
    wpAny (model prog w) A (call (.type "set") [.ref l]) Q E s := by
  obtain ⟨mc, mt, f0⟩ := F.called_set.mro
  have f1 := F.called_set.made; have f2 := F.called_set.sub; have f3 := F.called_set.notType; have f4 := F.called_set.canCreate; have f5 := F.typeCall_set_1 (.ref l)
  refine wpAny_call (codeAny_of_tree (show wpAny _ _ (callAny (.type "set") _) _ _ _ from wpAny_pure ⟨Code.quiet_builtin _ (by decide +kernel), codeAny_builtin F.entry_type_call ?_⟩))
  rw [Around.under_plain (weight_type_call_type "set" [.ref l] []) rfl]
  repeat (any_goals (first | wp_step | assumption))
  refine codeAny_mono (SS.code_new1 (.ref l) (E := E) (Q₁ := fun ob s1 => ob = .ref s.heap.objs.size ∧ s1 = { s with heap := s.heap.push (SS.freshO w) }) ⟨rfl, rfl⟩) fun r s1 hr => ?_
  cases r with
  | error e => exact hr
  | ok fl =>
    cases fl with
    | ret ob =>
      obtain ⟨rfl, rfl⟩ := hr
      generalize hob : SS.freshO w = ob
      have hD : (s.heap.push ob).get? s.heap.objs.size = some ob := Heap.get?_push_size _ (by rw [← hob]; rfl)
      have hT : Shared.TypeIs { s with heap := s.heap.push ob } (.ref s.heap.objs.size) "set" := ⟨_, hD, by rw [← hob]; rfl⟩
      have f6 := F.called_set.init.lookup; have f7 := F.called_set.init.bind (.ref s.heap.objs.size)
      repeat (any_goals (first | wp_step | assumption))
      refine codeAny_mono (codeAny_call_builtin (R := wants (fun r s2 => r = .none ∧ ∃ h' tk, s2 = { s with heap := h', toks := tk } ∧ Of w h' s.heap.objs.size ls its.size ∧ ∀ b o, s.heap.get? b = some o → h'.get? b = some o) E)
        F.called_set.init.plain F.entry_set_init (check_set_init_1 hT ?_)) fun r2 s2 hr2 => ?_
      · obtain ⟨⟨oc, od, odt, osl⟩, hol, hcl, nl, hdl⟩ := id hl
        simp only at hcl hdl
        subst hcl hdl
        have hol' : (s.heap.push ob).get? l = some { cls := .type "list", dict := od, data := .seq its nl, slots := osl } := Heap.get?_push_of_some _ hol
        have f8 := F.sub_list_set; have f9 := F.sub_list_frozenset
        have f10 : (Value.type "list" == Value.type "dict") = false := by decide
        have hl1 : (s.heap.push ob).IsList l its := ⟨_, hol', rfl, nl, rfl⟩
        subst hob
        unfold Builtin.«set.__init__» noKeywords Builtin.Frozenset.updateFrom
        generalize hPI : pyIter = PI
        wp_walk
        subst hPI
        refine wpAny_pyIter_list hl1 ?_
        refine wpAny_bind (wpAny_runValue ?_)
        have hlt : l < s.heap.objs.size := Heap.lt_size hol
        have hh3 : A.in1.in1.in1.handled = none := by simp [hh]
        have hsz : (s.heap.push (SS.freshO w)).objs.size = s.heap.objs.size + 1 := Heap.size_push _ _
        have hne : l ≠ (s.heap.push (SS.freshO w)).objs.size := by rw [hsz]; exact Nat.ne_of_lt (Nat.lt_succ_of_lt hlt)
        have hfp : s.heap.objs.size ∉ [(s.heap.push (SS.freshO w)).objs.size, l] := by
          rw [hsz]
          intro z
          rcases List.mem_cons.mp z with e | e
          · exact Nat.ne_of_lt (Nat.lt_succ_self _) e
          · exact Nat.ne_of_gt hlt (List.mem_singleton.mp e)
        refine loopI ((Walks.list hh3 _ l hne its).toS) (D := s.heap.objs.size) hfp ls hv hn hnl (its.size - 0) 0 _ (by omega) (Nat.zero_le _) ⟨⟨_, Heap.get?_push_size _ rfl, rfl, rfl⟩, hl1.push _⟩ ?_ fun s3 mv x3 => ?_
        · have hg : ((s.heap.push (SS.freshO w)).push { cls := .type "list_iterator", data := .fields #[.ref l, .int 0 0] }).get? s.heap.objs.size = some (SS.freshO w) := Heap.get?_push_of_some _ hD
          exact ⟨[], (SS.Is.fresh s.heap).at fun o e => Heap.get?_push_of_some _ e, fun x => by simp, Nat.zero_le _⟩
        · obtain ⟨h3, g3, d3, tk3, os3⟩ := s3
          obtain rfl : g3 = s.gens := mv.gens
          obtain rfl : d3 = s.drawn := mv.drawn
          obtain rfl : os3 = s.os := mv.os
          refine wpAny_pure (show wpAny _ _ (ret Value.none) _ _ _ from wpAny_pure ⟨rfl, h3, tk3, rfl, x3, fun c o e => ?_⟩)
          have hc := Heap.lt_size e
          exact mv.heap c o (show c ∉ [s.heap.objs.size, (s.heap.push (SS.freshO w)).objs.size] by
            rw [hsz]
            intro z
            rcases List.mem_cons.mp z with e | e
            · exact Nat.ne_of_lt hc e
            · exact Nat.ne_of_lt (Nat.lt_succ_of_lt hc) (List.mem_singleton.mp e)) (Heap.get?_push_of_some _ (Heap.get?_push_of_some _ e))
      · cases r2 with
        | error e => exact hr2
        | ok fl2 =>
          cases fl2 with
          | ret r =>
            obtain ⟨rfl, h3, tk, rfl, x3, k3⟩ := hr2
            repeat (any_goals (first | wp_step | assumption))
            exact h _ _ x3 k3
          | _ => exact hr2.elim
    | _ => exact hr.elim
end
end SE
noncomputable def SetI (w : World) (D : Addr) (ms : List (List Nat)) : HO := .ext fun h => SS.Is w h D (ms.map tx)
theorem mem_tx {ls : List (List Nat)} {x : Str} : x ∈ ls.map tx ↔ x.cps.toList ∈ ls := by
  rw [List.mem_map]
  constructor
  · rintro ⟨l, h, rfl⟩
    rw [tx_cps]
    exact h
  · intro h
    exact ⟨_, h, tx_eta x⟩
theorem is_perm {w : World} {h : Heap} {D : Addr} {ms ms' : List Str} (x : SS.Is w h D ms) (p : ms.Perm ms') : SS.Is w h D ms' := by
  obtain ⟨o, es, ep, t, ho, hex, hd, hel, hnd, r⟩ := x
  exact ⟨o, es, ep, t, ho, hex, hd, ⟨hel.1, hel.2.trans p⟩, p.nodup_iff.mp hnd, r⟩
theorem is_nodup {w : World} {h : Heap} {D : Addr} {ms : List Str} (x : SS.Is w h D ms) : ms.Nodup := let ⟨_, _, _, _, _, _, _, _, n, _⟩ := x; n
theorem nodup_tx {ls : List (List Nat)} (h : ls.Nodup) : (ls.map tx).Nodup := by
  refine List.pairwise_map.mpr (h.imp fun hne e => hne (tx_inj e))
section
variable {X : Cx}
theorem setI_ok {pins : List (Addr × Obj)} {σ : St} {H : Hp} {s : Shared} {D : Addr} {ms : List (List Nat)} (I : Inv X pins σ H s) (h : H D = some (SetI X.w D ms)) : SS.Is X.w s.heap D (ms.map tx) := by
  obtain ⟨x, _⟩ := (show ObjOk X.prog X.w H s.heap D (SetI X.w D ms) from I.hok D _ h)
  exact x
theorem call_setI (hc : X.calm = true) : CallR X (.type "set") (fun xs H Q => ∃ (p : Addr) (ls : List (List Nat)), xs = [.ref p] ∧ SqL X.K H p (ls.map T) ∧ ls.length + 1 < 4096 ∧ ∀ D, H D = none → Q (.ref D) (upd H D (SetI X.w D (uniq ls)))) := by
  intro pins s σ H xs us Q I r h
  obtain ⟨p, ls, rfl, hq, hz, q⟩ := h
  obtain ⟨u, rfl, ru⟩ := vals1 r
  cases ru
  obtain ⟨its, rv, pl, _⟩ := I.list hq
  have hlen := rv.length
  rw [List.length_map] at hlen
  refine SE.call_ofI (I.ok.hd hc) pl.isList (ls := ls) (fun i v e => str_at rv (by simpa using e)) (by rw [List.size_toArray]; unfold scanBound; omega) (by rw [List.size_toArray]; omega) fun h' tk x k => ?_
  obtain ⟨ms, i1, i2, _⟩ := x
  have x : SS.Is X.w h' s.heap.objs.size ((uniq ls).map tx) := by
    refine is_perm i1 ((List.perm_ext_iff_of_nodup (is_nodup i1) (nodup_tx (uniq_nodup ls))).mpr fun y => ?_)
    rw [i2, mem_tx, mem_tx, uniq_mem, List.size_toArray, ← hlen, List.take_length]
  have hf : H s.heap.objs.size = none := I.hok.fresh (Nat.le_refl _)
  refine ⟨.ref s.heap.objs.size, _, I.laid (t' := tk) k (Nat.le_refl _) (o := SetI X.w s.heap.objs.size (uniq ls)) ⟨x, x.there, fun h1 h2 x1 kk => x1.at kk⟩, rfl, q _ hf⟩
theorem op_orI : OpR X (binaryOp .BitOr) (fun x y H Q => ∃ (a b : Addr) (ls ms : List (List Nat)), x = .ref a ∧ y = .ref b ∧ a ≠ b ∧ H a = some (SetI X.w a ls) ∧ H b = some (SetI X.w b ms) ∧ ls ≠ [] ∧ ls.length + ms.length ≤ 128 ∧
    ∀ (D : Addr) (qs : List (List Nat)), H D = none → qs.Nodup → qs.length ≤ ls.length + ms.length → (∀ z, z ∈ qs ↔ z ∈ ls ∨ z ∈ ms) → Q (.ref D) (upd H D (SetI X.w D qs))) := by
  intro pins s σ H x y v u Q I rx ry h
  obtain ⟨a, b, ls, ms, rfl, rfl, hab, h1, h2, hne, hsz, q⟩ := h
  cases rx
  cases ry
  refine SS.or_ok hab (setI_ok I h1) (setI_ok I h2) (fun z => hne (List.map_eq_nil_iff.mp z)) (by rw [List.length_map, List.length_map]; exact hsz) fun h' ms' kp i hm hl => ?_
  have em : (ms'.map fun x => x.cps.toList).map tx = ms' := by
    rw [List.map_map]
    conv => rhs; rw [← List.map_id ms']
    exact List.map_congr_left fun x _ => tx_eta x
  have hnd : (ms'.map fun x => x.cps.toList).Nodup := List.pairwise_map.mpr ((is_nodup i).imp fun {a b} hne e => hne ((tx_eta a).symm.trans ((congrArg tx e).trans (tx_eta b))))
  have x : SS.Is X.w h' s.heap.objs.size ((ms'.map fun x => x.cps.toList).map tx) := by rw [em]; exact i
  refine ⟨.ref s.heap.objs.size, _, I.laid (t' := s.toks) kp (Nat.le_refl _) (o := SetI X.w s.heap.objs.size (ms'.map fun x => x.cps.toList)) ⟨x, x.there, fun h1 h2 x1 kk => x1.at kk⟩, rfl, q _ _ (I.hok.fresh (Nat.le_refl _)) hnd (by rw [List.length_map]; rw [List.length_map, List.length_map] at hl; exact hl) fun z => ?_⟩
  have e := hm (tx z)
  rw [mem_tx, mem_tx, tx_cps] at e
  rw [← e, ← em, mem_tx, tx_cps, em]
end
end L2

set_option Elab.async false
set_option linter.all false
set_option maxRecDepth 100000
namespace L2
open PySem PySem.Spec PyProof.Rows
set_option genInjectivity false in
structure Reads (J : It) (H : Hp) (vs : List V) : Prop where
  go : ∀ i H', Same H H' → i < vs.length → J.go i H'
  yl : ∀ i H' y H2, Same H H' → J.yld i H' y H2 → H2 = H' ∧ vs[i]? = some y
  st : ∀ H', Same H H' → J.stop vs.length H'
theorem reads_list {K : PySem.W.Frag} {a : Addr} {H : Hp} {vs : List V} (h : SqL K H a vs) : Reads (Itl K a) H vs :=
  ⟨fun i H' s hi => ⟨vs, vs[i], s.seq h, List.getElem?_eq_getElem hi⟩, fun i H' y H2 s ⟨e1, e2⟩ => ⟨e1, e2 vs (s.seq h)⟩, fun H' s => ⟨vs, s.seq h, Nat.le_refl _⟩⟩
theorem tupOn {K : PySem.W.Frag} {H H' : Hp} {p : Addr} {xs : List V} (s : Same H H') (h : SqT K H p xs) : SqT K H' p xs := by
  rcases h with (h | ⟨q, h⟩) | h
  · exact .inl (.inl (s _ _ h))
  · exact .inl (.inr ⟨q, s _ _ h⟩)
  · exact .inr h
theorem reads_tup {K : PySem.W.Frag} {a : Addr} {H : Hp} {vs : List V} (h : SqT K H a vs) : Reads (Itt K a) H vs :=
  ⟨fun i H' s hi => ⟨vs, vs[i], tupOn s h, List.getElem?_eq_getElem hi⟩, fun i H' y H2 s ⟨e1, e2⟩ => ⟨e1, e2 vs (tupOn s h)⟩, fun H' s => ⟨vs, tupOn s h, Nat.le_refl _⟩⟩
theorem reads_text {l : List Nat} {H : Hp} : Reads (Itx l) H ((l.map fun c => [c]).map T) :=
  ⟨fun i H' _ hi => by (show i < l.length; simpa using hi), fun i H' y H2 _ ⟨e1, c, hc, e2⟩ => ⟨e1, by rw [List.getElem?_map, List.getElem?_map, hc, e2]; rfl⟩, fun H' _ => by show l.length ≤ _; simp⟩
theorem compG {J : It} {vs : List V} {te : TE} {σ : St} {H : Hp} {Q : VK} (f : V → V) (rd : Reads J H vs) (hn : vs.length ≤ sizeLine)
    (he : ∀ x H', x ∈ vs → Same H H' → ∀ N : V → Hp → Prop, (∀ H'', Same H' H'' → N (f x) H'') → te (some x :: σ) H' N)
    (hq : ∀ D H', H D = none → Same H H' → H' D = some (.lst (vs.map f)) → Q (.ref D) H') : compAt te σ Q J H := by
  intro D hD
  refine ⟨fun i m ys H2 => m = vs.length - i ∧ i ≤ vs.length ∧ ys = (vs.take i).map f ∧ Same H H2 ∧ H2 D = some (.lst ys), ⟨vs.length, rfl, Nat.zero_le _, rfl, fun b o e => ?_, upd_same⟩, ?_⟩
  · rw [upd_ne (ne_of_none e hD)]
    exact e
  · rintro i m ys H2 ⟨rfl, hi, rfl, hs, hd⟩
    by_cases hlt : i < vs.length
    · have hx : vs[i]? = some vs[i] := List.getElem?_eq_getElem hlt
      refine .inr ⟨rd.go i H2 hs hlt, by rw [List.length_map, List.length_take]; omega, fun v H' => v = f vs[i] ∧ Same H2 H', fun v H' ⟨ev, hs'⟩ => ⟨hs' D _ hd, vs.length - (i + 1), by omega, rfl, hlt, ?app, fun b o e => ?kp, upd_same⟩, fun y H' hy => ?stp⟩
      case app =>
        rw [ev, List.take_add_one, hx, List.map_append]
        rfl
      case kp =>
        rw [upd_ne (ne_of_none e hD)]
        exact hs' b o (hs b o e)
      case stp =>
        obtain ⟨rfl, e2⟩ := rd.yl i H2 y H' hs hy
        have e4 : y = vs[i] := by rw [hx] at e2; exact (Option.some.inj e2).symm
        subst e4
        exact he _ _ (List.getElem_mem hlt) hs _ fun H'' h'' => ⟨rfl, h''⟩
    · have e : i = vs.length := by omega
      subst e
      rw [List.take_length] at hd
      exact .inl ⟨rd.st H2 hs, hq D H2 hD hs hd⟩
theorem compFG {J : It} {vs : List V} {tc : TT} {te : TE} {σ : St} {H : Hp} {Q : VK} (p : V → Bool) (f : V → V) (rd : Reads J H vs) (hn : vs.length ≤ sizeLine)
    (ht : ∀ x H', x ∈ vs → Same H H' → ∀ N : Bool → Hp → Prop, (∀ H'', Same H' H'' → N (p x) H'') → tc (some x :: σ) H' N)
    (he : ∀ x H', x ∈ vs → p x = true → Same H H' → ∀ N : V → Hp → Prop, (∀ H'', Same H' H'' → N (f x) H'') → te (some x :: σ) H' N)
    (hq : ∀ D H', H D = none → Same H H' → H' D = some (.lst ((vs.filter p).map f)) → Q (.ref D) H') : compAtF tc te σ Q J H := by
  intro D hD
  refine ⟨fun i m ys H2 => m = vs.length - i ∧ i ≤ vs.length ∧ ys = ((vs.take i).filter p).map f ∧ Same H H2 ∧ H2 D = some (.lst ys), ⟨vs.length, rfl, Nat.zero_le _, rfl, fun b o e => ?_, upd_same⟩, ?_⟩
  · rw [upd_ne (ne_of_none e hD)]
    exact e
  · rintro i m ys H2 ⟨rfl, hi, rfl, hs, hd⟩
    by_cases hlt : i < vs.length
    · have hx : vs[i]? = some vs[i] := List.getElem?_eq_getElem hlt
      refine .inr ⟨rd.go i H2 hs hlt, by have := filter_take_len p vs i; rw [List.length_map]; omega, fun v H' => v = f vs[i] ∧ p vs[i] = true ∧ Same H2 H', fun v H' ⟨ev, hp, hs'⟩ => ⟨hs' D _ hd, vs.length - (i + 1), by omega, rfl, hlt, ?app, fun b o e => ?kp, upd_same⟩,
        fun H' => p vs[i] = false ∧ Same H2 H', fun H' ⟨hp, hs'⟩ => ⟨vs.length - (i + 1), by omega, rfl, hlt, ?skp, fun b o e => hs' b o (hs b o e), hs' D _ hd⟩, fun y H' hy => ?stp⟩
      case app =>
        rw [ev, take_filter p vs i _ hx, hp, List.map_append]
        rfl
      case kp =>
        rw [upd_ne (ne_of_none e hD)]
        exact hs' b o (hs b o e)
      case skp =>
        rw [take_filter p vs i _ hx, hp]
        simp
      case stp =>
        obtain ⟨rfl, e2⟩ := rd.yl i H2 y H' hs hy
        have e4 : y = vs[i] := by rw [hx] at e2; exact (Option.some.inj e2).symm
        subst e4
        refine ht _ _ (List.getElem_mem hlt) hs _ fun H'' h'' => ?_
        by_cases hp : p vs[i] = true
        · rw [if_pos hp]
          exact he _ _ (List.getElem_mem hlt) hp (hs.trans h'') _ fun H3 h3 => ⟨rfl, hp, h''.trans h3⟩
        · rw [if_neg hp]
          exact ⟨by simpa using hp, h''⟩
    · have e : i = vs.length := by omega
      subst e
      rw [List.take_length] at hd
      exact .inl ⟨rd.st H2 hs, hq D H2 hD hs hd⟩
noncomputable def unT : V → List Nat
  | .str x => x.cps.toList
  | _ => []
theorem unT_T (l : List Nat) : unT (T l) = l := tx_cps l
section
variable {X : Cx}
theorem op_notIn_seqK (K : PySem.W.Frag) (h : X.K = K) : OpR X (compareOp .NotIn) (rIn K true) := by subst h; exact op_notIn_seq
end
theorem map_unT {f : List Nat → V} (ls : List (List Nat)) : (ls.map T).map (fun x => f (unT x)) = ls.map f := by
  rw [List.map_map]
  exact List.map_congr_left fun l _ => by show f (unT (T l)) = f l; rw [unT_T]
theorem filter_unT {p : List Nat → Bool} : ∀ ls : List (List Nat), (ls.map T).filter (fun x => p (unT x)) = (ls.filter p).map T
  | [] => rfl
  | l :: ls => by
    rw [List.map_cons, List.filter_cons, List.filter_cons, unT_T, filter_unT ls]
    split <;> rfl
end L2

set_option Elab.async false
set_option linter.all false
set_option maxRecDepth 100000
set_option maxHeartbeats 4000000
namespace SS
open PySem PyProof.Rows L2
section
variable {prog : Program} {w : World} {A : Around} {E : Value → Shared → Prop} {s : Shared}
theorem dhint_ok {a : Addr} {Q : Bool → Shared → Prop} (hS : s.TypeIs (.ref a) "dict") (h : Q false s) : wpAny (model prog w) A (Builtin.List.listLengthHint (.ref a)) Q E s := by
  unfold Builtin.List.listLengthHint
  refine wpAny_bind (wpAny_specialOf hS F.slot_dict_len.lookup ?_)
  generalize hid : ("dict.__len__" : String) = id0
  wp_delta
  rw [show splitId id0 = some ("dict", "__len__") from by subst hid; decide +kernel]
  subst hid
  refine wpAny_bind (wpAny_isInstance (T := "dict") (b := true) hS F.sub_dict_dict ?_)
  refine wpAny_ite_split (fun hab => absurd hab (by decide)) (fun _ => ?_)
  refine wpAny_ite_split (fun _ => ?_) (fun hab => absurd (by decide +kernel) hab)
  refine wpAny_bind (wpAny_typeOf hS ?_)
  exact wpAny_pure h
noncomputable def KeyAt (vs : List (Key × Value)) (i : Nat) (v : Value) : Prop := ∃ k x, vs[i]? = some (k, x) ∧ keyIs k v = true
theorem dat_push {h : Heap} {a : Addr} {vs : List (Key × Value)} {ep : Nat} {ob : Obj} (hD : Heap.DictAt (mixKind prog w) h a vs ep) : Heap.DictAt (mixKind prog w) (h.push ob) a vs ep := by
  obtain ⟨o, es, g, r⟩ := hD
  exact ⟨o, es, Heap.get?_push_of_some _ g, r⟩
theorem dat_ty {a : Addr} {vs : List (Key × Value)} {ep : Nat} (hD : Heap.DictAt (mixKind prog w) s.heap a vs ep) : s.TypeIs (.ref a) "dict" := by
  obtain ⟨o, es, g, r⟩ := hD
  exact (show Heap.DictOf (mixKind prog w) s.heap a vs from ⟨o, es, ep, g, r⟩).typeIs
theorem dextend_ok {a : Addr} {vs : List (Key × Value)} {ep : Nat} {R : Result → Shared → Prop} (hh : A.handled = none) (hd : (a == sysModules) = false) (hD : Heap.DictAt (mixKind prog w) s.heap a vs ep) (hz : vs.length ≤ sizeLine) (S : Addr) (res : Value) (h1 : S ≠ a) (hSl : s.heap.get? S = some { cls := .type "list", data := .seq #[] })
    (hR : ∀ s' acc' c', (∀ b o, b ≠ S → s.heap.get? b = some o → s'.heap.get? b = some o) → s'.gens = s.gens → s'.os = s.os → s'.heap.get? S = some { cls := .type "list", dict := none, data := .seq acc' c', slots := #[] } → ItemsOf (KeyAt vs) acc' vs.length → R (.ok (.ret res)) s') :
    wpAny (model prog w) A.in1 (Builtin.List.listExtendWith (.ref S) (.ref a) res)
      (fun fin s' => match fin with | .done f => R (.ok f) s' | .again c' => c'.quiet = true ∧ codeAny (model prog w) A c' R s') (fun e s' => R (.error e) s') s := by
  unfold Builtin.List.listExtendWith
  refine wpAny_bind (wpAny_typeOf (dat_ty hD) ?_)
  have g1 : Builtin.List.listSameRef (.ref S) (.ref a) = false := by simp [Builtin.List.listSameRef, h1]
  have g2 : (Value.type "dict" == Value.type "list") = false := by decide
  have g3 : (Value.type "dict" == Value.type "tuple") = false := by decide
  simp only [g1, g2, g3, Bool.or_false, Bool.false_eq_true, if_false]
  refine wpAny_bind (wpAny_pyIter_dict hd hD ?_)
  have hlt := Heap.lt_size hSl
  have hal : a < s.heap.objs.size := by obtain ⟨o, es, g, r⟩ := hD; exact Heap.lt_size g
  generalize hio : ({ cls := Value.type "dict_keyiterator", data := Data.fields #[Value.ref a, Value.int 0 0, Value.int (↑vs.length) 0, Value.int (↑ep) 0] } : Obj) = io
  have hIs : s.heap.objs.size ≤ s.heap.objs.size := Nat.le_refl _
  have hSI : S ≠ s.heap.objs.size := Nat.ne_of_lt hlt
  have haI : a ≠ s.heap.objs.size := Nat.ne_of_lt hal
  have kp : ∀ b o, s.heap.get? b = some o → (s.heap.push io).get? b = some o := fun b o e => Heap.get?_push_of_some _ e
  have W := Walks.dictKeys (prog := prog) (w := w) (knd := mixKind prog w) (A := A.in1) hh s.heap.objs.size a haI vs ep
  have hD2 : Heap.DictAt (mixKind prog w) (s.heap.push io) a vs ep := dat_push hD
  have st0 : (s.heap.push io).IsKeyIter s.heap.objs.size a 0 vs.length ep ∧ Heap.DictAt (mixKind prog w) (s.heap.push io) a vs ep := by
    refine ⟨⟨io, Heap.get?_push_size _ (by rw [← hio]; rfl), ?_, ?_⟩, hD2⟩
    · rw [← hio]
    · rw [← hio]; rfl
  have hSf : S ∉ [s.heap.objs.size, a] := by simp [hSI, h1]
  refine wpAny_bind (wpAny_holding (dhint_ok (s := { s with heap := s.heap.push io }) (dat_ty (s := { s with heap := s.heap.push io }) hD2) ?_))
  have WS := W.toS
  have last : ∀ (h0 : Heap) (c0 : Nat), (∀ b o, b ≠ S → (s.heap.push io).get? b = some o → h0.get? b = some o) → h0.get? S = some { cls := .type "list", data := .seq #[] c0 } →
      wpAny (model prog w) A.in1 (again (.builtin "list.extend.loop" ⟨[.ref S, .ref s.heap.objs.size, res], []⟩))
        (fun fin s' => match fin with | .done f => R (.ok f) s' | .again c' => c'.quiet = true ∧ codeAny (model prog w) A c' R s') (fun e s' => R (.error e) s') { s with heap := h0 } := fun h0 c0 hk0 hS0 => by
    refine wpAny_pure ⟨plainId_quiet F.plain_extend_loop _, codeAny_extend_loopS WS (by omega) S hSf res vs.length 0 _ #[] c0 rfl (Nat.zero_le _) ?_ hS0 (ItemsOf.nil _) fun s' acc' c' hm hS' hacc => ?_⟩
    · exact W.frame 0 (s.heap.push io) h0 st0 fun b hb o e => hk0 b o (fun z => hSf (z ▸ hb)) e
    · refine hR s' acc' c' (fun b o hb e => ?_) hm.gens hm.os hS' hacc
      by_cases hbI : b = s.heap.objs.size
      · subst hbI
        exact absurd (Heap.lt_size e) (Nat.not_lt.mpr hIs)
      · exact hm.heap b o (by simp [hb, hbI]) (hk0 b o hb (kp b o e))
  refine wpAny_ite_split (fun _ => ?_) (fun hab => absurd (by decide +kernel) hab)
  refine wpAny_bind (wpAny_rule ?_)
  have hSl2 : (s.heap.push io).get? S = some { cls := .type "list", data := .seq #[] } := kp S _ hSl
  refine wpAny_bind (m := ((do updateSeq S (fun z => z.push .none); updateSeq S (fun z => z.pop)) : Sem Unit)) (wpAny_bind (wpAny_updateSeq (s := { s with heap := s.heap.push io }) hSl2 rfl ?_))
  have k1 := Heap.get?_update_self (Obj.mapSeq (fun z => z.push .none)) hSl2 rfl
  refine wpAny_updateSeq k1 rfl ?_
  have k2 := Heap.get?_update_self (Obj.mapSeq (fun z => z.pop)) k1 rfl
  exact last _ _ (fun b o hb e => (Heap.get?_update_other _ _ (Ne.symm hb)).trans ((Heap.get?_update_other _ _ (Ne.symm hb)).trans e)) k2
end
end SS
namespace L2
open PySem PyProof.Rows
section
variable {X : Cx}
theorem strs_pt : ∀ (ls : List Str) (us : List Value), us.length = ls.length → (∀ (i : Nat) (v : Value), us[i]? = some v → ∃ x t, ls[i]? = some x ∧ v = Value.str x t) → StrsAre us ls
  | [], [], _, _ => .nil
  | [], _ :: _, h, _ => nomatch h
  | _ :: _, [], h, _ => nomatch h
  | y :: ls, u :: us, h, hp => by
    obtain ⟨x, t, e1, e2⟩ := hp 0 u rfl
    have e3 : y = x := by simpa using e1
    rw [e2, ← e3]
    exact .cons _ _ (strs_pt ls us (by simpa using h) fun i v e => by simpa using hp (i + 1) v (by simpa using e))
theorem kv_fst : ∀ {kvs : List (Key × V)} {vs : List (Key × Value)}, KV kvs vs → vs.map (·.1) = kvs.map (·.1)
  | [], [], .nil => rfl
  | _ :: _, _ :: _, .cons h r => by rw [List.map_cons, List.map_cons, h.1, kv_fst r]
theorem keys_strs {ls : List (List Nat)} {kvs : List (Key × V)} {vs : List (Key × Value)} {acc : Array Value} (hk : kvs.map (·.1) = ls.map fun t => Sum.inr (tx t)) (r : KV kvs vs) (h : ItemsOf (SS.KeyAt vs) acc vs.length) : StrsAre acc.toList (ls.map tx) := by
  have e0 : vs.map (·.1) = (ls.map tx).map Sum.inr := by rw [kv_fst r, hk, List.map_map]; rfl
  have el : vs.length = ls.length := by have := congrArg List.length e0; simpa using this
  refine strs_pt _ _ (by rw [Array.length_toList, h.1, el, List.length_map]) fun i v e => ?_
  obtain ⟨k, x, g1, g2⟩ := h.2 i v (by rw [← Array.getElem?_toList]; exact e)
  have g3 : (vs.map (·.1))[i]? = some k := by rw [List.getElem?_map, g1]; rfl
  rw [e0, List.getElem?_map] at g3
  cases g4 : (ls.map tx)[i]? with
  | none => rw [g4] at g3; cases g3
  | some y =>
    rw [g4] at g3
    obtain rfl : Sum.inr y = k := Option.some.inj g3
    rcases keyIs_shape g2 with ⟨j, t, q1, _⟩ | ⟨z, t, q1, q2⟩
    · cases q1
    · cases q1
      exact ⟨y, t, rfl, q2⟩
end
end L2

set_option Elab.async false
set_option linter.all false
set_option maxRecDepth 100000
set_option maxHeartbeats 4000000
namespace L2
open PySem PyProof.Rows PySem.Spec
namespace SE
section
variable {prog : Program} {w : World} {A : Around} {E : Value → Shared → Prop} {s : Shared}
end
end SE
section
variable {X : Cx}
end
end L2

set_option Elab.async false
set_option linter.all false
set_option maxRecDepth 100000
set_option maxHeartbeats 4000000
namespace L2
open PySem PyProof.Rows PySem.Spec
section
variable {X : Cx}
end
end L2

set_option Elab.async false
set_option linter.all false
set_option maxRecDepth 100000
set_option maxHeartbeats 4000000
namespace L2
open PySem PyProof.Rows PySem.Spec
section
variable {X : Cx}
end
end L2

set_option Elab.async false
set_option linter.all false
set_option maxRecDepth 100000
set_option maxHeartbeats 4000000
namespace L2
open PySem PyProof.Rows PySem.Spec
section
variable {X : Cx} {pins : List (Addr × Obj)} {σ : List (Option V)} {H H' : Hp} {s : Shared} {h' : Heap}
theorem Inv.turnedL {t' : Nat} {ch : List Addr} (I : Inv X pins σ H s) (k : ∀ b o, b ∉ ch → s.heap.get? b = some o → h'.get? b = some o) (hf : ∀ b ∈ ch, FpOk X pins H b) : Inv X pins σ H { s with heap := h', toks := t' } := by
  have nit : ∀ b u, H b = some u → b ∉ ch := fun b u e z => by rw [(hf b z).1] at e; cases e
  refine I.step (g' := s.gens) (d' := s.drawn) (ch := ch) (fun b hb => ?_) (fun b o _ _ hc e _ => k b o hc e) (fun b o _ _ hc e _ => ⟨o.slots, k b o hc e⟩) (fun _ _ _ _ n => n)
    (fun b o hc e => ⟨o, k b o hc e⟩) (fun _ _ e => e) (fun _ _ _ e => e) (fun b ps e => ⟨#[], by rw [e]; simp⟩) (fun m hm => ?_) (fun b u e => ?_) I.bare
  · obtain ⟨f0, f1, f2, f3, f4, f5⟩ := hf b hb
    exact ⟨f3, f1, f4, f5⟩
  · obtain ⟨o, es, ep, ho, r⟩ := hm
    exact ⟨o, es, ep, k _ o (fun z => (hf _ z).2.1 rfl) ho, r⟩
  · refine (I.hok b u e).stay (fun c v hc q => k c v ?_ q) (fun _ q => q) fun _ _ q => q
    rcases hc with z | z
    · rw [z]; exact nit b u e
    · exact nit c _ z
end
noncomputable def Itz (K : PySem.W.Frag) (a b : Addr) : It :=
  ⟨fun i H => ∃ xs ys x y, SqL K H a xs ∧ SqL K H b ys ∧ xs[i]? = some x ∧ ys[i]? = some y,
   fun i H x H' => ∃ (T : Addr) (u v : V), x = .ref T ∧ H T = none ∧ H' = upd H T (.tup [u, v]) ∧ (∀ xs, SqL K H a xs → xs[i]? = some u) ∧ ∀ ys, SqL K H b ys → ys[i]? = some v,
   fun i H => ∃ xs ys, SqL K H a xs ∧ SqL K H b ys ∧ (xs.length ≤ i ∨ ys.length ≤ i)⟩
theorem turn_zip {P : Program} {w : World} {K : PySem.W.Frag} {elts : List Expr} {x1} {pos : Pos} {a b z TI TO i1 i2 : Addr} (D : ZipApart z TI TO i1 i2 a b) :
    Turn P w K (.Tuple elts x1 pos) (Itz K a b) [z, TI, TO, i1, i2] z (fun i h => IsZip h z TI TO .none ∧ IsPair h TI (.ref i1) (.ref i2) ∧ (∃ u v, IsPair h TO u v) ∧ h.IsListIter i1 a i ∧ h.IsListIter i2 b i) where
  mem := by simp
  obj := fun i h st c hc => by
    obtain ⟨h1, h2, ⟨u, v, h3⟩, ⟨o4, e4, c4, d4⟩, ⟨o5, e5, c5, d5⟩⟩ := st
    simp only [List.mem_cons, List.not_mem_nil, or_false] at hc
    rcases hc with rfl | rfl | rfl | rfl | rfl
    · exact ⟨_, h1, fun v z => by cases z⟩
    · exact ⟨_, h2, fun v z => by cases z⟩
    · exact ⟨_, h3, fun v z => by cases z⟩
    · exact ⟨_, e4, fun v z => by rw [d4] at z; cases z⟩
    · exact ⟨_, e5, fun v z => by rw [d5] at z; cases z⟩
  keep := fun i h h' st k => by
    obtain ⟨h1, h2, ⟨u, v, h3⟩, h4, h5⟩ := st
    exact ⟨k z (by simp) _ h1, k TI (by simp) _ h2, ⟨u, v, k TO (by simp) _ h3⟩, h4.at fun o e => k i1 (by simp) o e, h5.at fun o e => k i2 (by simp) o e⟩
  item := by
    intro X hP hw hK hc i pins s σ H E I hf st hg
    subst hP hw hK
    obtain ⟨xs, ys, x, y, hq1, hq2, hx, hy⟩ := hg
    obtain ⟨its, rv, p, hz⟩ := I.list hq1
    obtain ⟨its2, rv2, p2, hz2⟩ := I.list hq2
    obtain ⟨u, hu, ru⟩ := rv.get hx
    obtain ⟨v, hv, rv'⟩ := rv2.get hy
    obtain ⟨h1, h2, ⟨c1, c2, h3⟩, h4, h5⟩ := st
    refine wpAny_pyNext_zip_item D h1 h2 h3 h4 h5 p.isList p2.isList (x := u) (y := v) (by simpa using hu) (by simpa using hv) fun h' z1 z2 z3 z4 z5 z6 z7 => ?_
    refine ⟨_, rfl, wpAny_letOwnedTupleGo_zip (s := { s with heap := h' }) z1 fun h'' y1 y2 => ?_⟩
    have hT : H s.heap.objs.size = none := I.hok.fresh (Nat.le_refl _)
    have I1 : Inv X pins σ (upd H s.heap.objs.size (.tup [x, y])) { s with heap := s.heap.push { cls := .type "tuple", data := .seq #[u, v] }, toks := s.toks } :=
      I.laid (t' := s.toks) (fun b u e => Heap.get?_push_of_some _ e) (Nat.le_refl _) ⟨(by show 2 ≤ sizeLine; rw [sizeLine_eq]; decide), [u, v], .cons ru (.cons rv' .nil), ⟨_, Heap.get?_push_size _ rfl, rfl, _, rfl⟩⟩
    have nf : ∀ c ∈ [z, TI, TO, i1, i2], c ≠ s.heap.objs.size := fun c hc e => by
      have lt : ∃ o, s.heap.get? c = some o := by
        obtain ⟨o4, e4, _⟩ := id h4
        obtain ⟨o5, e5, _⟩ := id h5
        simp only [List.mem_cons, List.not_mem_nil, or_false] at hc
        rcases hc with rfl | rfl | rfl | rfl | rfl
        · exact ⟨_, h1⟩
        · exact ⟨_, h2⟩
        · exact ⟨_, h3⟩
        · exact ⟨_, e4⟩
        · exact ⟨_, e5⟩
      obtain ⟨o, ho⟩ := lt
      have := Heap.lt_size ho
      rw [e] at this
      exact Nat.lt_irrefl _ this
    have hf1 : ∀ c ∈ [z, TI, TO, i1, i2], FpOk X pins (upd H s.heap.objs.size (.tup [x, y])) c := fun c hc => by
      obtain ⟨f0, f⟩ := hf c hc
      exact ⟨by rw [upd_ne (nf c hc)]; exact f0, f⟩
    have I2 : Inv X pins σ (upd H s.heap.objs.size (.tup [x, y])) { s with heap := h'', toks := s.toks } :=
      Inv.turnedL (s := { s with heap := s.heap.push { cls := .type "tuple", data := .seq #[u, v] }, toks := s.toks }) (t' := s.toks) (ch := [z, TI, TO, i1, i2]) I1 (fun b o hb e => by
        simp only [List.mem_cons, List.not_mem_nil, or_false, not_or] at hb
        obtain ⟨b1, b2, b3, b4, b5⟩ := hb
        refine (y2.2 b b1).trans ?_
        rcases Heap.get?_push_cases e with ⟨rfl, rfl⟩ | e
        · exact z5
        · exact z7 b o b1 b3 b4 b5 e) hf1
    refine ⟨.ref s.heap.objs.size, _, I2, rfl, ⟨s.heap.objs.size, x, y, rfl, hT, rfl, fun zs hzs => by rw [I.list_inj hzs hq1]; exact hx, fun zs hzs => by rw [I.list_inj hzs hq2]; exact hy⟩, ⟨y1, ?_, ⟨u, v, ?_⟩, ?_, ?_⟩, fun c hc => (hf1 c hc).1⟩
    · exact (y2.2 TI D.TIz).trans (z7 TI _ D.TIz D.TITO D.TIi1 D.TIi2 h2)
    · exact (y2.2 TO D.TOz).trans z2
    · exact z3.at fun o e => (y2.2 i1 D.i1z).trans e
    · exact z4.at fun o e => (y2.2 i2 D.i2z).trans e
  done := by
    intro X hP hw hK hc i pins s σ H E I hf st hg
    subst hP hw hK
    obtain ⟨xs, ys, hq1, hq2, hl⟩ := hg
    obtain ⟨its, rv, p, hz⟩ := I.list hq1
    obtain ⟨its2, rv2, p2, hz2⟩ := I.list hq2
    obtain ⟨h1, h2, ⟨c1, c2, h3⟩, h4, h5⟩ := st
    have l1 := rv.length
    have l2 := rv2.length
    refine wpAny_pyNext_zip_end (I.ok.hd hc) D h1 h2 h3 h4 h5 p.isList p2.isList ?_ fun h' kk => ⟨rfl, ?_⟩
    · rcases hl with g | g
      · exact .inl (by simp; omega)
      · exact .inr (by simp; omega)
    · exact I.turnedL (t' := s.toks) (ch := [z, TI, TO, i1, i2]) (fun b o hb e => by
        simp only [List.mem_cons, List.not_mem_nil, or_false, not_or] at hb
        obtain ⟨b1, b2, b3, b4, b5⟩ := hb
        exact kk b o b1 b3 b4 b5 e) hf
  self := fun _ _ _ _ _ st h => wpAny_pyIter_zip st.1 h
section
variable {X : Cx}
noncomputable def iZip (K : PySem.W.Frag) (ta : TA) : TI := fun σ H R => ta σ H fun xs H1 => ∃ a b : Addr, xs = [.ref a, .ref b] ∧ (∃ us, SqL K H1 a us) ∧ (∃ vs, SqL K H1 b vs) ∧ R (Itz K a b) H1
theorem pi_zip {a b : Expr} {ta : TA} {p pos pos' : Pos} {elts : List Expr} {x1} (hg : Gl X "zip") (hm : X.mg "zip" = none) (ha : PA X [a, b] ta) (hs : starEach [a, b] X.env = [(false, eval a X.env), (false, eval b X.env)] := by rfl) (hs2 : starEach [b] X.env = [(false, eval b X.env)] := by rfl) :
    PI X (.Tuple elts x1 pos') (.Call (.Name "zip" p) [a, b] [] pos) (iZip X.K ta) := by
  intro pins s σ H R I h
  refine Call_ (ld_blt I hg hm boot_zip (PyProof.Rows.callWith_type1 (thn (ha pos pins s σ H _ I h) fun us s1 ⟨vs, H1, I1, r1, q1⟩ => ?_) (by rw [hs, hs2]) (by rw [hs2]; rfl)))
  obtain ⟨l1, l2, e, ⟨us1, hq1⟩, ⟨us2, hq2⟩, q⟩ := q1
  subst e
  cases r1 with
  | cons r rr =>
    cases rr with
    | cons r' rr =>
      cases rr
      cases r
      cases r'
      obtain ⟨its, rv, p, hz⟩ := I1.list hq1
      obtain ⟨its2, rv2, p2, hz2⟩ := I1.list hq2
      obtain ⟨o1, ho1, _⟩ := id p.isList
      obtain ⟨o2, ho2, _⟩ := id p2.isList
      refine call_zip_2 p.isList p2.isList fun h' z1 z2 z3 z4 z5 z6 z7 => ?_
      refine wpAny_pyIter_zip (s := { s1 with heap := h' }) z1 ?_
      have fr : ∀ c, s1.heap.objs.size ≤ c → FpOk X pins H1 c := fun c hc => I1.fpOk hc (I1.hok.fresh hc)
      refine ⟨s1.heap.objs.size + 4, [s1.heap.objs.size + 4, s1.heap.objs.size + 2, s1.heap.objs.size + 3, s1.heap.objs.size, s1.heap.objs.size + 1], _, _, H1, rfl, I1.kept (t' := s1.toks) z7, turn_zip (zipApart_new (Heap.lt_size ho1) (Heap.lt_size ho2)), ⟨z1, z2, ⟨_, _, z3⟩, z4, z5⟩, fun c hc => fr c ?_, q⟩
      simp only [List.mem_cons, List.not_mem_nil, or_false] at hc
      rcases hc with rfl | rfl | rfl | rfl | rfl
      · exact Nat.le_add_right _ _
      · exact Nat.le_add_right _ _
      · exact Nat.le_add_right _ _
      · exact Nat.le_refl _
      · exact Nat.le_add_right _ _
end
end L2
namespace L2
open PySem PyProof.Rows PySem.Spec
end L2

set_option Elab.async false
set_option linter.all false
set_option maxRecDepth 100000
set_option maxHeartbeats 4000000
namespace L2
open PySem PyProof.Rows PySem.Spec
namespace ZS
section
variable {prog : Program} {w : World} {A : Around} {E : Value → Shared → Prop} {s : Shared}
end
end ZS
section
variable {X : Cx}
end
end L2

set_option Elab.async false
set_option linter.all false
set_option maxRecDepth 100000
set_option maxHeartbeats 4000000
namespace L2
open PySem PyProof.Rows PySem.Spec
section
variable {X : Cx}
end
end L2

set_option Elab.async false
set_option linter.all false
set_option maxRecDepth 100000
set_option maxHeartbeats 4000000
namespace L2
open PySem PyProof.Rows PySem.Spec
theorem on1 {α : Type} {C : List α → Prop} {us : List α} (h : us.length = 1) (k : ∀ a, C [a]) : C us := match us, h with | [a], _ => k a
theorem on2 {α : Type} {C : List α → Prop} {us : List α} (h : us.length = 2) (k : ∀ a b, C [a, b]) : C us := match us, h with | [a, b], _ => k a b
theorem on3 {α : Type} {C : List α → Prop} {us : List α} (h : us.length = 3) (k : ∀ a b c, C [a, b, c]) : C us := match us, h with | [a, b, c], _ => k a b c
theorem on4 {α : Type} {C : List α → Prop} {us : List α} (h : us.length = 4) (k : ∀ a b c d, C [a, b, c, d]) : C us := match us, h with | [a, b, c, d], _ => k a b c d
section
variable {X : Cx}
theorem pss_dead {st : List Stmt} : PSs X st (fun _ _ _ => False) := fun _ _ _ _ _ _ h => h.elim
end
end L2

set_option Elab.async false
set_option linter.all false
set_option maxRecDepth 100000
set_option maxHeartbeats 4000000
namespace L2
open PySem PySem.Spec PyProof.Rows
set_option genInjectivity false in
structure CompSc2 (N N' : List Str) (sc scope : Scope) (x y2 : Str) : Prop where
  kind : scope.kind = .function
  cell : ∀ y ∈ scope.names, y.2 ≠ .cell
  names : ∀ y ∈ scope.names, y.2 = .local → scope.names.lookup y.1 = some .local
  var : scope.names.lookup x = some .local
  var2 : scope.names.lookup y2 = some .local
  ok : ∀ y ∈ scope.names, y.2 = .free → sc.names.lookup y.1 = some .cell ∨ sc.names.lookup y.1 = some .free
  hd : N'[0]? = some x
  hd2 : N'[1]? = some y2
  len : N'.length = N.length + 2
  sub : ∀ i, i < N.length → N'[i + 2]? = N[i]? ∨ N'[i + 2]? = some ("" : Str)
  noe : scope.names.lookup ("" : Str) = none
  nol : ∀ y ∈ N'.tail.tail, scope.names.lookup y ≠ some .local
  nd : N'.Nodup
noncomputable def compAt2 (K : PySem.W.Frag) (te : TE) (σ : St) (Q : VK) (J : It) (H1 : Hp) : Prop := ∀ D, H1 D = none → ∃ W : Nat → Nat → List V → Hp → Prop, (∃ m, W 0 m [] (upd H1 D (.lst []))) ∧ ∀ i m ys H2, W i m ys H2 →
  (J.stop i H2 ∧ Q (.ref D) H2) ∨ (J.go i H2 ∧ ys.length < sizeLine ∧ ∃ N : V → Hp → Prop, (∀ v H', N v H' → H' D = some (.lst ys) ∧ ∃ m', m' < m ∧ W (i + 1) m' (ys ++ [v]) (upd H' D (.lst (ys ++ [v])))) ∧
    ∀ y H', J.yld i H2 y H' → ∃ (a : Addr) (u v : V), y = .ref a ∧ SqT K H' a [u, v] ∧ te (some u :: some v :: σ) H' N)
noncomputable def tComp2 (K : PySem.W.Frag) (wi : TI) (te : TE) : TE := fun σ H Q => wi σ H (compAt2 K te σ Q)
section
variable {X : Cx} {N' : List Str} {scope : Scope} {x y2 : Str} {px py py2 pt : Pos} {elt iter : Expr} {pos : Pos} {te : TE} {wi : TI}
theorem comp_core2 (S : CompSc2 X.N N' X.env.scope scope x y2) (hc : X.calm = true) (he : ∀ cl C s H fp, PE (cxComp X N' scope cl C s H fp) elt te)
    {pins : List (Addr × Obj)} {σ : St} {H : Hp} {s : Shared} {Q : VK} {E : Value → Shared → Prop} {RR : Value → Addr → Result → Shared → Prop} {it : Addr} {fp : List Addr} {tn : Nat → Heap → Prop} {J : It}
    (I : Inv X pins σ H s) (T : Turn X.prog X.w X.K (.Tuple [.Name x px, .Name y2 py] 0 pt) J fp it tn) (st : tn 0 s.heap) (f2 : ∀ b ∈ fp, FpOk X pins H b)
    (hw : compAt2 X.K te σ Q J H)
    (hRR : ∀ D C s' H', Inv X pins σ H' s' → (∃ m, s'.heap.Ns C m) → C ≠ X.env.locals → (∀ y c, X.env.cells.lookup y = some c → c ≠ C) → H' C = none → X.s₀.heap.objs.size ≤ C → (∀ p ∈ X.pn ++ pins, p.1 ≠ C) → Q (.ref D) H' → RR (.ref D) C (.ok .next) s') :
    ∃ cl, closureFor scope X.env = pure cl ∧ wpAny (model X.prog X.w) X.A (newList []) (fun acc s₃ => wpAny (model X.prog X.w) X.A (newFunctionEnv scope X.env.globals cl [] X.env.qual none .none (some X.env)) (fun cenv s₄ =>
      codeAny (model X.prog X.w) X.A (.compStart (.ListComp elt [⟨.Tuple [.Name x px, .Name y2 py] 0 pt, iter, [], 0⟩] scope pos) 0 (.ref it) acc { cenv with scope := relabel scope X.env }) (RR acc cenv.locals) s₄) E s₃) E s := by
  have hfree : ∀ z ∈ scope.names, z.2 = .free → ∃ c, X.env.cells.lookup z.1 = some c := fun z hz hk => by
    rcases S.ok z hz hk with q | q
    · exact I.ok.has z.1 (.inl q)
    · exact I.ok.has z.1 (.inr q)
  refine ⟨_, clos_eq hfree, ?_⟩
  have clS : ∀ y c, (closOf X.env.cells scope.names []).lookup y = some c → X.env.cells.lookup y = some c := fun y c => clos_sound scope.names [] hfree fun q => by cases q
  generalize hcl : closOf X.env.cells scope.names [] = cl at clS
  have clH : ∀ y, scope.names.lookup y = some .free → ∃ c, cl.lookup y = some c := fun y hy => by
    rw [← hcl]
    exact clos_has scope.names [] (lookup_mem hy)
  refine wpAny_newObj_type (wpAny_newFunctionEnv S.cell (by intro y hy; simp at hy) (fun h₁ hns₁ hsb₁ => ?_) S.kind)
  have I3 : Inv X pins σ (upd H s.heap.objs.size (.lst [])) { s with heap := s.heap.push { cls := .type "list", data := .seq ([] : List Value).toArray } } := I.lnew (t' := s.toks) .nil (Nat.zero_le _)
  obtain ⟨W, ⟨m0, w0⟩, turn⟩ := hw s.heap.objs.size I.fresh
  dsimp only at hns₁ hsb₁ ⊢
  generalize hs3 : ({ s with heap := s.heap.push { cls := .type "list", data := .seq ([] : List Value).toArray } } : Shared) = s3 at I3
  have hh3 : s3.heap = s.heap.push { cls := .type "list", data := .seq ([] : List Value).toArray } := by rw [← hs3]
  have hsz3 : s3.heap.objs.size = s.heap.objs.size + 1 := by rw [hh3, Heap.size_push]
  rw [← hh3] at hns₁ hsb₁ ⊢
  have old : ∀ b o, s3.heap.get? b = some o → h₁.get? b = some o := fun b o e => hsb₁.extBut b o (by have := Heap.lt_size e; exact Nat.ne_of_lt this) (Heap.get?_push_of_some _ e)
  have old0 : ∀ b o, s.heap.get? b = some o → h₁.get? b = some o := fun b o e => old b o (by rw [hh3]; exact Heap.get?_push_of_some _ e)
  have CneL : s3.heap.objs.size ≠ X.env.locals := Nat.ne_of_gt I3.lt
  have CneC : ∀ y c, X.env.cells.lookup y = some c → c ≠ s3.heap.objs.size := fun y c e z => by
    obtain ⟨v, q⟩ := I3.cell y c e
    have := q.lt
    rw [z] at this
    exact absurd this (Nat.lt_irrefl _)
  have CneP : ∀ p ∈ X.pn ++ pins, p.1 ≠ s3.heap.objs.size := fun p hp z => by
    have := Heap.lt_size (I3.pin p hp).1
    rw [z] at this
    exact absurd this (Nat.lt_irrefl _)
  have CfreeH : ∀ b o, s3.heap.get? b = some o → b < s3.heap.objs.size := fun b o e => by have := Heap.lt_size e; exact this
  have fpLt : ∀ b ∈ fp, b < s3.heap.objs.size := fun b hb => by
    obtain ⟨o, e, _⟩ := T.obj 0 s.heap st b hb
    rw [hsz3]
    exact Nat.lt_succ_of_lt (Heap.lt_size e)
  have fpD : ∀ b ∈ fp, b ≠ s.heap.objs.size := fun b hb => by
    obtain ⟨o, e, _⟩ := T.obj 0 s.heap st b hb
    exact Nat.ne_of_lt (Heap.lt_size e)

  have ok' : (cxComp X N' scope cl s3.heap.objs.size s3 (upd H s.heap.objs.size (.lst [])) fp).Ok := by
    refine ⟨I3.ok.mod, ?_, I3.ok.glob, I3.ok.blt, Nat.le_refl _, fun y z c h1 h2 => I3.ok.inj y z c (clS y c h1) (clS z c h2), fun y hy => ?_, fun y c hf => (by cases hf), I3.ok.hd, I3.ok.frames, .inl rfl, fun b hb => ⟨Nat.ne_of_lt (fpLt b hb), fun y c e => (f2 b hb).2.2.2.2.1 y c (clS y c e)⟩,
      fun b o e => I3.bs b o e, Nat.le_trans I3.ok.bsz I3.sz, fun b o e hb => ?_, fun b hb z => ?_, I3.stack, I3.stkFree⟩
    · show (relabel scope X.env).kind = .function
      exact S.kind
    · have hy' : (relabel scope X.env).names.lookup y = some .cell ∨ (relabel scope X.env).names.lookup y = some .free := hy
      rw [relabel_lookup] at hy'
      cases q : scope.names.lookup y with
      | none => rw [q] at hy'; rcases hy' with z | z <;> cases z
      | some k =>
        have hm := lookup_mem q
        cases k with
        | free => exact clH y q
        | cell => exact absurd rfl (S.cell _ hm)
        | «local» => rw [q] at hy'; rcases hy' with z | z <;> simp at z
        | globalExplicit => rw [q] at hy'; rcases hy' with z | z <;> simp at z
        | globalImplicit => rw [q] at hy'; rcases hy' with z | z <;> simp at z
    · rcases (f2 b hb).2.2.2.1 with z | z
      · exact I.ok.noex b o e z
      · exact absurd (Nat.lt_of_lt_of_le (Heap.lt_size e) (Nat.le_trans I.ok.bsz z)) (Nat.lt_irrefl _)
    · rcases List.mem_cons.mp (I3.stkSub b z) with q | q
      · exact (f2 b hb).2.1 q
      · exact (f2 b hb).2.2.1 q
  have fpOk' : ∀ {H' : Hp}, (∀ b ∈ fp, H' b = none) → ∀ b ∈ fp, FpOk (cxComp X N' scope cl s3.heap.objs.size s3 (upd H s.heap.objs.size (.lst [])) fp) pins H' b := fun hn b hb =>
    ⟨hn b hb, Nat.ne_of_lt (fpLt b hb), fun z => by
      rcases List.mem_cons.mp (I3.stkSub b z) with q | q
      · exact (f2 b hb).2.1 q
      · exact (f2 b hb).2.2.1 q, .inl hb, fun y c e => (f2 b hb).2.2.2.2.1 y c (clS y c e), (f2 b hb).2.2.2.2.2⟩
  have I4 : Inv (cxComp X N' scope cl s3.heap.objs.size s3 (upd H s.heap.objs.size (.lst [])) fp) pins (none :: none :: σ) (upd H s.heap.objs.size (.lst [])) { s3 with heap := h₁, toks := s3.toks + ([] : List (Str × Value)).length } := by
    refine ⟨ok', rfl, I3.bare, Un.kept old, ⟨_, hns₁, fun i y v e1 e2 vis => ?_⟩, fun y c e => ?_, ?_, fun y c e => I3.freeC y c (clS y c e), fun p hp => ?_, I3.hok.kept old, ?_⟩
    · cases i with
      | zero => cases e2
      | succ i =>
       cases i with
       | zero => cases e2
       | succ i =>
        have e2' : σ[i]? = some (some v) := by simpa using e2
        have hi : i < X.N.length := by rw [← I3.len]; exact (List.getElem?_eq_some_iff.mp e2').1
        have vis' : (relabel scope X.env).names.lookup y = some .local ∨ (relabel scope X.env).names.lookup y = some .cell ∨ (relabel scope X.env).names.lookup y = some .free := vis
        have e1' : N'[i + 2]? = some y := e1
        rcases S.sub i hi with q | q
        · rw [e1'] at q
          have hy : X.N[i]? = some y := q.symm
          have hmem : y ∈ N'.tail.tail := by
            rw [List.mem_iff_getElem?]
            exact ⟨i, by rw [List.getElem?_tail, List.getElem?_tail]; exact e1'⟩
          have hfr : scope.names.lookup y = some .free := by
            rw [relabel_lookup] at vis'
            cases q2 : scope.names.lookup y with
            | none => rw [q2] at vis'; rcases vis' with z | z | z <;> cases z
            | some k =>
              cases k with
              | free => rfl
              | cell => exact absurd rfl (S.cell _ (lookup_mem q2))
              | «local» => exact absurd q2 (S.nol y hmem)
              | globalExplicit => rw [q2] at vis'; rcases vis' with z | z | z <;> simp at z
              | globalImplicit => rw [q2] at vis'; rcases vis' with z | z | z <;> simp at z
          have hok := S.ok (y, .free) (lookup_mem hfr) rfl
          obtain ⟨m, hn, hl⟩ := I3.loc
          have visX : Vis X.env.scope y := by
            rcases hok with z | z
            · exact .inr (.inl z)
            · exact .inr (.inr z)
          obtain ⟨u, r, l⟩ := hl i y v hy e2' visX
          refine ⟨u, r, .inr ⟨?_, ?_⟩⟩
          · show (relabel scope X.env).names.lookup y = some .cell ∨ (relabel scope X.env).names.lookup y = some .free
            rw [relabel_lookup, hfr, Option.map_some]
            by_cases hcnd : (NameKind.free == NameKind.free && X.env.scope.kind == .function && X.env.kindOf y == some .cell) = true
            · left
              rw [if_pos hcnd]
            · right
              rw [if_neg hcnd]
          · rcases l with ⟨k, _⟩ | ⟨k, c, e, z⟩
            · have k' : X.env.scope.names.lookup y = some .local := k
              have hok' : X.env.scope.names.lookup y = some .cell ∨ X.env.scope.names.lookup y = some .free := hok
              rw [k'] at hok'
              rcases hok' with z | z <;> cases z
            · obtain ⟨c', e'⟩ := clH y hfr
              have e3 := clS y c' e'
              rw [e] at e3
              cases e3
              obtain ⟨o, ho, hd⟩ := z
              exact ⟨c, e', o, old c o ho, hd⟩
        · rw [e1'] at q
          cases q
          rw [relabel_lookup, S.noe] at vis'
          rcases vis' with z | z | z <;> cases z
    · obtain ⟨v, o, ho, hd⟩ := I3.cell y c (clS y c e)
      exact ⟨v, o, old c o ho, hd⟩
    · show upd H s.heap.objs.size (.lst []) s3.heap.objs.size = none
      exact I3.hok.fresh (Nat.le_refl _)
    · obtain ⟨e, n, ne, nf, d⟩ := I3.pin p hp
      refine ⟨old _ _ e, n, CneP p hp, fun z => ?_, d⟩
      rcases List.mem_cons.mp (I3.stkSub p.1 z) with q | q
      · exact ne q
      · exact nf q
    · show (none :: none :: σ).length = N'.length
      rw [S.len, List.length_cons, List.length_cons, I3.len]
  have st4 : tn 0 h₁ := T.keep 0 s.heap h₁ st fun b _ o e => old0 b o e

  have loop : ∀ s₄ : Shared, s₄ = { s3 with heap := h₁, toks := s3.toks + ([] : List (Str × Value)).length } →
      codeAny (model X.prog X.w) X.A (.compLoop (.ListComp elt [⟨.Tuple [.Name x px, .Name y2 py] 0 pt, iter, [], 0⟩] scope pos) 0 (.ref it) (.ref s.heap.objs.size) (compEnvC scope cl s3.heap.objs.size X.env)) (RR (.ref s.heap.objs.size) s3.heap.objs.size) s₄ := by
    rintro s₄ rfl
    refine codeAny_compLoop_any (fun n s' => ∃ i v0 v1 ys H', Inv (cxComp X N' scope cl s3.heap.objs.size s3 (upd H s.heap.objs.size (.lst [])) fp) pins (v0 :: v1 :: σ) H' s' ∧ tn i s'.heap ∧ (∀ b ∈ fp, H' b = none) ∧ W i n ys H') ?_ m0
      ⟨0, none, none, [], _, I4, st4, fun b hb => by rw [upd_ne (fpD b hb)]; exact (f2 b hb).1, w0⟩
    rintro n s5 ⟨i, v0, v1, ys, H5, I5, st5, fr5, w5⟩
    rcases turn i n ys H5 w5 with ⟨stop, qn⟩ | ⟨go, hz, N, hN, step⟩
    · refine thn (T.done (cxComp X N' scope cl s3.heap.objs.size s3 (upd H s.heap.objs.size (.lst [])) fp) rfl rfl rfl hc i pins s5 (v0 :: v1 :: σ) H5 (fun _ _ => False) I5 (fpOk' fr5) st5 stop) fun r s6 ⟨hr, I6⟩ => ?_
      subst hr
      have hch : ∀ b ∈ fp, (b ∈ X.ex ∨ X.s₀.heap.objs.size ≤ b) ∧ b ≠ X.env.locals ∧ (∀ x c, X.env.cells.lookup x = some c → c ≠ b) ∧ ∀ p ∈ X.pn ++ pins, p.1 ≠ b := fun b hb =>
        ⟨(f2 b hb).2.2.2.1, (f2 b hb).2.1, (f2 b hb).2.2.2.2.1, (f2 b hb).2.2.2.2.2⟩
      have I7 : Inv X pins σ H5 s6 := I3.call' (ch := fp) I6.os I6.base I6.hok I6.bare hch
      obtain ⟨m, hm, _⟩ := I6.loc
      exact hRR s.heap.objs.size s3.heap.objs.size s6 H5 I7 ⟨m, hm⟩ CneL CneC I6.free (Nat.le_trans I3.sz (Nat.le_refl _)) CneP qn
    · refine thn (T.item (cxComp X N' scope cl s3.heap.objs.size s3 (upd H s.heap.objs.size (.lst [])) fp) rfl rfl rfl hc i pins s5 (v0 :: v1 :: σ) H5 (fun _ _ => False) I5 (fpOk' fr5) st5 go) fun r s6 ⟨u, hr, h6⟩ => ?_
      subst hr
      refine thn h6 fun _ s7 ⟨y, H7, I7, r7, y7, st7, fr7⟩ => ?_
      have I7' := I7.pinned (fpOk' fr7) (T.obj _ _ st7)
      obtain ⟨aT, u0, u1, e7, hT7, step7⟩ := step y H7 y7
      have I7c : Inv (cxComp X N' scope cl s3.heap.objs.size s3 (upd H s.heap.objs.size (.lst [])) fp) (pins ++ pinsAt fp s7.heap) (v0 :: v1 :: σ) H7 s7 := I7'
      refine thn ((show PG _ _ _ from pg_tup (X := cxComp X N' scope cl s3.heap.objs.size s3 (upd H s.heap.objs.size (.lst [])) fp) (es := [.Name x px, .Name y2 py]) (n := 2) hc
        (pgs_cons (pg_name (i := 0) S.nd S.hd (.inl (lookup_relabel_local S.var)) (.inr (lookup_relabel_local S.var))) (pgs_cons (pg_name (i := 1) S.nd S.hd2 (.inl (lookup_relabel_local S.var2)) (.inr (lookup_relabel_local S.var2))) pgs_nil)))
        _ s7 (v0 :: v1 :: σ) H7 y u (fun σ2 H2 => σ2 = some u0 :: some u1 :: σ ∧ H2 = H7) I7c r7 ⟨aT, [u0, u1], e7, hT7, rfl, u0, [u1], rfl, u1, [], rfl, rfl, rfl, rfl⟩) fun _ s8 ⟨σ8, H8, I8, e8, e8'⟩ => ?_
      subst e8 e8'
      have I8' : Inv (cxComp X N' scope cl s3.heap.objs.size s3 (upd H s.heap.objs.size (.lst [])) fp) (pins ++ pinsAt fp s7.heap) (some u0 :: some u1 :: σ) H8 s8 := I8
      refine thn (he cl s3.heap.objs.size s3 (upd H s.heap.objs.size (.lst [])) fp _ s8 (some u0 :: some u1 :: σ) _ N I8' step7) fun w s9 ⟨v, H9, I9, r9, q9⟩ => ?_
      obtain ⟨hD9, m', hm, w9⟩ := hN v H9 q9
      refine thn (mt_append _ s9 (some u0 :: some u1 :: σ) H9 (.ref s.heap.objs.size) [v] (.ref s.heap.objs.size) [w] (fun z H10 => z = .non ∧ H10 = upd H9 s.heap.objs.size (.lst (ys ++ [v]))) I9 rfl (.cons r9 .nil) ⟨s.heap.objs.size, ys, v, rfl, rfl, hD9, hz, rfl, rfl⟩) fun _ s10 ⟨z, H10, I10, _, ez, e10⟩ => ?_
      subst e10
      refine ⟨m', hm, i + 1, some u0, some u1, ys ++ [v], _, I10.unpinned, T.keep _ _ _ st7 fun b hb o e => (I10.pin (b, o) (List.mem_append_right _ (List.mem_append_right _ (mem_pinsAt hb e)))).1, fun b hb => ?_, w9⟩
      obtain ⟨o, e, d⟩ := T.obj _ _ st7 b hb
      exact (I10.pin (b, o) (List.mem_append_right _ (List.mem_append_right _ (mem_pinsAt hb e)))).2.1
  exact codeAny_compStart_list (loop _ (by rw [← hs3])) (T.self X.A 0 _ _ _ st4 (loop _ (by rw [← hs3])))

end
theorem comp_zip {K : PySem.W.Frag} {a b : Addr} {xs ys : List V} {te : TE} {σ : St} {H : Hp} {Q : VK} (f : V → V → V) (hx : SqL K H a xs) (hy : SqL K H b ys) (he : xs.length = ys.length) (hn : xs.length ≤ sizeLine)
    (hs : ∀ (i : Nat) (x y : V) (H' : Hp), xs[i]? = some x → ys[i]? = some y → Same H H' → ∀ N : V → Hp → Prop, (∀ H'', Same H' H'' → N (f x y) H'') → te (some x :: some y :: σ) H' N)
    (hq : ∀ D H', H D = none → Same H H' → H' D = some (.lst (List.zipWith f xs ys)) → Q (.ref D) H') : compAt2 K te σ Q (Itz K a b) H := by
  have hzl : (List.zipWith f xs ys).length = xs.length := by rw [List.length_zipWith, ← he, Nat.min_self]
  intro D hD
  refine ⟨fun i m zs H2 => m = xs.length - i ∧ i ≤ xs.length ∧ zs = (List.zipWith f xs ys).take i ∧ Same H H2 ∧ H2 D = some (.lst zs), ⟨xs.length, rfl, Nat.zero_le _, rfl, fun b o e => ?_, upd_same⟩, ?_⟩
  · rw [upd_ne (ne_of_none e hD)]
    exact e
  · rintro i m zs H2 ⟨rfl, hi, rfl, s2, hd⟩
    by_cases hlt : i < xs.length
    · have h1 : xs[i]? = some xs[i] := List.getElem?_eq_getElem hlt
      have h2 : ys[i]? = some (ys[i]'(by omega)) := List.getElem?_eq_getElem (by omega)
      refine .inr ⟨⟨xs, ys, _, _, s2.seq hx, s2.seq hy, h1, h2⟩, by rw [List.length_take]; omega, fun v H' => v = f xs[i] (ys[i]'(by omega)) ∧ Same H2 H', fun v H' ⟨ev, hs'⟩ => ⟨hs' D _ hd, xs.length - (i + 1), by omega, rfl, hlt, ?app, fun b o e => ?kp, upd_same⟩, fun y H' hy' => ?stp⟩
      case app => rw [ev, List.take_add_one, List.getElem?_zipWith, h1, h2]; rfl
      case kp =>
        rw [upd_ne (ne_of_none e hD)]
        exact hs' b o (s2 b o e)
      case stp =>
        obtain ⟨T, u, v, rfl, hT, rfl, y1, y3⟩ := hy'
        have t2 : Same H2 (upd H2 T (.tup [u, v])) := fun b o e => by rw [upd_ne (ne_of_none e hT)]; exact e
        obtain rfl := Option.some.inj ((y1 xs (s2.seq hx)).symm.trans h1)
        obtain rfl := Option.some.inj ((y3 ys (s2.seq hy)).symm.trans h2)
        exact ⟨T, _, _, rfl, SqT.of upd_same, hs i _ _ _ h1 h2 (s2.trans t2) _ fun H'' h'' => ⟨rfl, t2.trans h''⟩⟩
    · have e : i = xs.length := by omega
      subst e
      rw [List.take_of_length_le (by omega)] at hd
      exact .inl ⟨⟨xs, ys, s2.seq hx, s2.seq hy, .inl (Nat.le_refl _)⟩, hq D H2 hD s2 hd⟩
end L2
namespace L2
open PySem PySem.Spec PyProof.Rows
end L2

set_option Elab.async false
set_option linter.all false
set_option maxRecDepth 100000
set_option maxHeartbeats 4000000

namespace L2
open PySem PySem.Spec PyProof.Rows

end L2

set_option Elab.async false
set_option linter.all false
set_option maxRecDepth 100000
set_option maxHeartbeats 4000000

namespace L2
open PySem PySem.Spec PyProof.Rows

section
variable {X : Cx} {pins : List (Addr × Obj)} {σ : St} {H H' : Hp} {s s' : Shared} {a : Addr} {cls : Value} {E : Value → Shared → Prop}
end
section
variable {X : Cx} {pins : List (Addr × Obj)} {σ : St} {H H' : Hp} {s s' : Shared} {a : Addr} {cls : Value}
end
section
variable {P : Program} {w : World} {K : PySem.W.Frag} {mg : Str → Option Value} {base : Heap} {N : List Str} {qual : Str} {scope : Scope} {f : Addr} {cdv : Value} {A : Around} {outer : List Env} {s : Shared} {H : Hp} {E : XK}
end
section
variable {X : Cx}
end
end L2

set_option Elab.async false
set_option linter.all false
set_option maxRecDepth 100000
set_option maxHeartbeats 4000000

namespace L2
open PySem PySem.Spec PyProof.Rows

section
variable {prog : Program} {w : World} {A : Around} {E : Value → Shared → Prop} {h : Heap} {g : Array GenState} {d : Drawn} {t : Nat} {os : OsState}
variable {nm q : Str} {Cl Ns : Addr} {bs tl : List Value} {hdct : Bool} {sn : List Str} {sub : List Value} {ab : Bool} {col : Option Bool} {dd : Option Addr} {k0 k1 k2 k3 k5 : Option Value}
end
section
variable {M : Model} {A : Around} {E : Value → Shared → Prop} {s : Shared} {env : Env}
variable {nm q : Str} {Cl Ns : Addr} {bs tl : List Value} {hdct : Bool} {sn : List Str} {sub : List Value} {ab : Bool} {col : Option Bool} {dd : Option Addr} {k0 k1 k2 k3 k5 : Option Value} {ni : String}
end
end L2

set_option Elab.async false
set_option linter.all false
set_option maxRecDepth 100000
set_option maxHeartbeats 4000000

namespace L2
open PySem PySem.Spec PyProof.Rows

end L2

set_option Elab.async false
set_option linter.all false
set_option maxRecDepth 100000
set_option maxHeartbeats 4000000

namespace L2
open PySem PySem.Spec PyProof.Rows

section
variable {X : Cx}
end
end L2

set_option Elab.async false
set_option linter.all false
set_option maxRecDepth 100000
set_option maxHeartbeats 4000000

namespace L2
open PySem PySem.Spec PyProof.Rows PySem.Builtin PySem.Builtin.ObjectAttr
section
variable {prog : Program} {w : World} {A : Around} {E : Value → Shared → Prop} {K : PySem.W.Frag} {C f a x0 : Addr} {F : Str} {v : Value} {s : Shared}
end
section
variable {X : Cx}
end
end L2

set_option Elab.async false
set_option linter.all false
set_option maxRecDepth 100000
set_option maxHeartbeats 4000000

namespace L2
open PySem PySem.Spec PyProof.Rows
section
variable {X : Cx} {pins : List (Addr × Obj)} {σ : St} {H : Hp} {s : Shared} {a C x0 : Addr} {E : Value → Shared → Prop} {od : Option Addr}
end
section
variable {X : Cx}
end
end L2

set_option Elab.async false
set_option linter.all false
set_option maxRecDepth 100000
set_option maxHeartbeats 4000000

namespace L2
open PySem PyProof.Rows PySem.Spec
section
variable {X : Cx}
end
namespace EX
open PySem.W PySem.Calls PySem.Builtin PySem.Builtin.ObjectAttr PySem.Builtin.Getset_descriptor
variable {prog : Program} {w : World} {A : Around} {E : Value → Shared → Prop} {s : Shared} {K : PySem.W.Frag} {a C : Addr}
end EX
section
variable {X : Cx}
end
end L2

set_option linter.all false
namespace L2
open PySem PySem.Spec PyProof.Rows
section
variable {X : Cx}
end
end L2

set_option Elab.async false
set_option linter.all false
set_option maxRecDepth 100000
set_option maxHeartbeats 4000000
namespace L2
open PySem PyProof.Rows PySem.Spec
noncomputable def Ite (K : PySem.W.Frag) (a : Addr) : It :=
  ⟨fun i H => ∃ xs x, SqL K H a xs ∧ xs[i]? = some x,
   fun i H x H' => ∃ (T : Addr) (u : V), x = .ref T ∧ H T = none ∧ H' = upd H T (.tup [.int (i : Nat), u]) ∧ ∀ xs, SqL K H a xs → xs[i]? = some u,
   fun i H => ∃ xs, SqL K H a xs ∧ xs.length ≤ i⟩
theorem turn_enum {P : Program} {w : World} {K : PySem.W.Frag} {elts : List Expr} {x1} {pos : Pos} {a e it : Addr} (hne : e ≠ it) :
    Turn P w K (.Tuple elts x1 pos) (Ite K a) [e, it] e (fun i h => (∃ old, IsEnum h e it i old) ∧ h.IsListIter it a i) where
  mem := by simp
  obj := fun i h st c hc => by
    obtain ⟨⟨old, h1⟩, ⟨o4, e4, c4, d4⟩⟩ := st
    simp only [List.mem_cons, List.not_mem_nil, or_false] at hc
    rcases hc with rfl | rfl
    · exact ⟨_, h1, fun v z => by cases z⟩
    · exact ⟨_, e4, fun v z => by rw [d4] at z; cases z⟩
  keep := fun i h h' st k => by
    obtain ⟨⟨old, h1⟩, h4⟩ := st
    exact ⟨⟨old, k e (by simp) _ h1⟩, h4.at fun o e => k it (by simp) o e⟩
  item := by
    intro X hP hw hK hc i pins s σ H E I hf st hg
    subst hP hw hK
    obtain ⟨xs, x, hq1, hx⟩ := hg
    obtain ⟨its, rv, p, hz⟩ := I.list hq1
    obtain ⟨u, hu, ru⟩ := rv.get hx
    obtain ⟨⟨old, h1⟩, h4⟩ := st
    refine wpAny_pyNext_enum_item h1 h4 p.isList (x := u) (by simpa using hu) hne fun h' z1 z2 z3 z4 z5 => ?_
    refine ⟨_, rfl, wpAny_letOwnedTupleGo_enum (s := { s with heap := h', toks := s.toks + 1 }) z1 fun h'' y1 y2 => ?_⟩
    have hT : H s.heap.objs.size = none := I.hok.fresh (Nat.le_refl _)
    have I1 : Inv X pins σ (upd H s.heap.objs.size (.tup [.int (i : Nat), x])) { s with heap := s.heap.push { cls := .type "tuple", data := .seq #[.int i s.toks, u] }, toks := s.toks + 1 } :=
      I.laid (t' := s.toks + 1) (fun b u e => Heap.get?_push_of_some _ e) (Nat.le_refl _) ⟨(by show 2 ≤ sizeLine; rw [sizeLine_eq]; decide), [.int i s.toks, u], .cons ⟨_, rfl⟩ (.cons ru .nil), ⟨_, Heap.get?_push_size _ rfl, rfl, _, rfl⟩⟩
    have nf : ∀ c ∈ [e, it], c ≠ s.heap.objs.size := fun c hc e => by
      have lt : ∃ o, s.heap.get? c = some o := by
        obtain ⟨o4, e4, _⟩ := id h4
        simp only [List.mem_cons, List.not_mem_nil, or_false] at hc
        rcases hc with rfl | rfl
        · exact ⟨_, h1⟩
        · exact ⟨_, e4⟩
      obtain ⟨o, ho⟩ := lt
      have := Heap.lt_size ho
      rw [e] at this
      exact Nat.lt_irrefl _ this
    have hf1 : ∀ c ∈ [e, it], FpOk X pins (upd H s.heap.objs.size (.tup [.int (i : Nat), x])) c := fun c hc => by
      obtain ⟨f0, f⟩ := hf c hc
      exact ⟨by rw [upd_ne (nf c hc)]; exact f0, f⟩
    have I2 : Inv X pins σ (upd H s.heap.objs.size (.tup [.int (i : Nat), x])) { s with heap := h'', toks := s.toks + 1 } :=
      Inv.turnedL (s := { s with heap := s.heap.push { cls := .type "tuple", data := .seq #[.int i s.toks, u] }, toks := s.toks + 1 }) (t' := s.toks + 1) (ch := [e, it]) I1 (fun b o hb e => by
        simp only [List.mem_cons, List.not_mem_nil, or_false, not_or] at hb
        obtain ⟨b1, b2⟩ := hb
        refine (y2.2 b b1).trans ?_
        rcases Heap.get?_push_cases e with ⟨rfl, rfl⟩ | e
        · exact z3
        · exact z5 b o b1 b2 e) hf1
    refine ⟨.ref s.heap.objs.size, _, I2, rfl, ⟨s.heap.objs.size, x, rfl, hT, rfl, fun zs hzs => by rw [I.list_inj hzs hq1]; exact hx⟩, ⟨⟨_, by exact_mod_cast y1⟩, ?_⟩, fun c hc => (hf1 c hc).1⟩
    exact z2.at fun o e => (y2.2 it (Ne.symm hne)).trans e
  done := by
    intro X hP hw hK hc i pins s σ H E I hf st hg
    subst hP hw hK
    obtain ⟨xs, hq1, hl⟩ := hg
    obtain ⟨its, rv, p, hz⟩ := I.list hq1
    obtain ⟨⟨old, h1⟩, h4⟩ := st
    have l1 := rv.length
    refine wpAny_pyNext_enum_end (I.ok.hd hc) h1 h4 p.isList (by simp; omega) fun h' kk => ⟨rfl, ?_⟩
    exact I.turnedL (t' := s.toks) (ch := [e, it]) (fun b o hb e => by
      simp only [List.mem_cons, List.not_mem_nil, or_false, not_or] at hb
      exact kk b o hb.2 e) hf
  self := fun A i s Q E st h => wpAny_pyIter_enum st.1.choose_spec h
section
variable {X : Cx}
noncomputable def iEnum (K : PySem.W.Frag) (ta : TA) : TI := fun σ H R => ta σ H fun xs H1 => ∃ a : Addr, xs = [.ref a] ∧ (∃ us, SqL K H1 a us) ∧ R (Ite K a) H1
theorem pi_enum {a : Expr} {ta : TA} {p pos pos' : Pos} {elts : List Expr} {x1} (hg : Gl X "enumerate") (hm : X.mg "enumerate" = none) (ha : PA X [a] ta) (hs : starEach [a] X.env = [(false, eval a X.env)] := by rfl) :
    PI X (.Tuple elts x1 pos') (.Call (.Name "enumerate" p) [a] [] pos) (iEnum X.K ta) := by
  intro pins s σ H R I h
  refine Call_ (ld_blt I hg hm boot_enumerate (PyProof.Rows.callWith_type1 (thn (ha pos pins s σ H _ I h) fun us s1 ⟨vs, H1, I1, r1, q1⟩ => ?_) (by rw [hs]; rfl) (by rfl)))
  obtain ⟨l1, e, ⟨us1, hq1⟩, q⟩ := q1
  subst e
  cases r1 with
  | cons r rr =>
    cases rr
    cases r
    obtain ⟨its, rv, p, hz⟩ := I1.list hq1
    refine call_enumerate_list p.isList fun h' z1 z2 z3 z4 => ?_
    refine wpAny_pyIter_enum (s := { s1 with heap := h' }) z1 ?_
    have fr : ∀ c, s1.heap.objs.size ≤ c → FpOk X pins H1 c := fun c hc => I1.fpOk hc (I1.hok.fresh hc)
    refine ⟨s1.heap.objs.size + 1, [s1.heap.objs.size + 1, s1.heap.objs.size], _, _, H1, rfl, I1.kept (t' := s1.toks) z4, turn_enum (Nat.succ_ne_self _), ⟨⟨_, z1⟩, z2⟩, fun c hc => fr c ?_, q⟩
    simp only [List.mem_cons, List.not_mem_nil, or_false] at hc
    rcases hc with rfl | rfl
    · exact Nat.le_add_right _ _
    · exact Nat.le_refl _
theorem for_enum {K : PySem.W.Frag} {a : Addr} {xs : List V} {g : TG} {tb : TS} {D : Ends} {σ : St} {H : Hp} (Pv : Nat → St → Hp → Prop) (h0 : Pv 0 σ H) (hl : ∀ i σ H, i ≤ xs.length → Pv i σ H → SqL K H a xs)
    (hs : ∀ i x T σ H, xs[i]? = some x → H T = none → Pv i σ H → g (.ref T) σ (upd H T (.tup [.int (i : Nat), x])) fun σ2 H2 => tb { D with nx := Pv (i + 1), ct := Pv (i + 1), bk := D.nx } σ2 H2) (hd : ∀ σ H, Pv xs.length σ H → D.nx σ H) :
    ∃ W : Nat → Nat → St → Hp → Prop, (∃ m, W 0 m σ H) ∧ ∀ i m σ H, W i m σ H →
      ((Ite K a).stop i H ∧ D.nx σ H) ∨ ((Ite K a).go i H ∧ ∃ N : St → Hp → Prop, (∀ σ' H', N σ' H' → ∃ m', m' < m ∧ W (i + 1) m' σ' H') ∧ ∀ x H', (Ite K a).yld i H x H' → g x σ H' fun σ2 H2 => tb { D with nx := N, ct := N, bk := D.nx } σ2 H2) := by
  refine ⟨fun i m σ H => m = xs.length - i ∧ i ≤ xs.length ∧ Pv i σ H, ⟨xs.length, by simp, Nat.zero_le _, h0⟩, ?_⟩
  rintro i m σ H ⟨rfl, hi, p⟩
  have q1 := hl i σ H hi p
  by_cases hlt : i < xs.length
  · refine .inr ⟨⟨xs, xs[i], q1, by simp [hlt]⟩, Pv (i + 1), fun σ' H' p' => ⟨xs.length - (i + 1), by omega, rfl, hlt, p'⟩, fun x H' y => ?_⟩
    obtain ⟨T, u, rfl, hT, rfl, y1⟩ := y
    exact hs i u T σ _ (y1 xs q1) hT p
  · have e : i = xs.length := by omega
    subst e
    exact .inl ⟨⟨xs, q1, Nat.le_refl _⟩, hd σ H p⟩
end
end L2

set_option Elab.async false
set_option linter.all false
set_option maxRecDepth 100000
set_option maxHeartbeats 4000000
namespace L2
open PySem PyProof.Rows PySem.Spec
noncomputable def Bg (i : Int) : Prop := i.natAbs < 2 ^ 8000
theorem Bg.bits {i : Int} (h : Bg i) : Builtin.Int.intBits i ≤ 8000 := by
  unfold Builtin.Int.intBits
  split
  · exact Nat.zero_le _
  · rename_i hn
    have h0 : i.natAbs ≠ 0 := fun z => hn (by rw [Int.natAbs_eq_zero.mp z]; rfl)
    exact (Nat.log2_lt h0).mpr h
theorem Bg.mulOk {i j : Int} (hi : Bg i) (hj : Bg j) : IntMulOk i j := by
  unfold IntMulOk Builtin.Int.intTooBig
  have h1 := hi.bits
  have h2 := hj.bits
  have h3 : (16000 : Int) ≤ bitsLine := by decide +kernel
  have h4 : decide (((Builtin.Int.intBits i : Nat) : Int) + ((Builtin.Int.intBits j : Nat) : Int) > (bitsLine : Int)) = false := decide_eq_false (by omega)
  rw [h4, Bool.and_false]
  exact Bool.false_ne_true
theorem Bg.noPylong {i j : Int} (hj : Bg j) : Builtin.divisionGoesByPylong i j = false := by
  unfold Builtin.divisionGoesByPylong
  have : ¬ ((if (j == 0) = true then 0 else j.natAbs.log2 / 30 + 1) > 300) := by
    split
    · decide
    · rename_i hn
      have h0 : j.natAbs ≠ 0 := fun z => hn (by rw [Int.natAbs_eq_zero.mp z]; rfl)
      have := (Nat.log2_lt h0).mpr hj
      omega
  dsimp only
  rw [decide_eq_false this]
  rfl
section
variable {X : Cx}
theorem op_mulB : OpR X (binaryOp .Mult) (rI (fun i j => Bg i ∧ Bg j) fun i j => .int (i * j)) := opI fun _ _ _ _ _ _ _ hc q => mul_int q (hc.1.mulOk hc.2)
theorem op_fdivB : OpR X (binaryOp .FloorDiv) (rI (fun _ j => 0 < j ∧ Bg j) fun i j => .int (i / j)) := opI fun i j _ _ _ _ _ hc q => by
  have h1 : (0 : Int) < j := hc.1
  exact floordiv_int (by omega) (by rw [Int.fdiv_eq_ediv_of_nonneg i (by omega)]; exact q) (.inl hc.2.noPylong)
end
section
variable {X : Cx} {N' : List Str} {scope : Scope} {x y2 : Str} {px py py2 pt : Pos} {elt iter : Expr} {pos : Pos} {te : TE} {wi : TI}
theorem pe_comp2 (S : CompSc2 X.N N' X.env.scope scope x y2) (hc : X.calm = true) (hi : PI X (.Tuple [.Name x px, .Name y2 py2] 0 pt) iter wi) (he : ∀ cl C s H fp, PE (cxComp X N' scope cl C s H fp) elt te)
    (hs : ∀ x, foldedSetIterable iter X.env x = pure x := by intro _; rfl) : PE X (.ListComp elt [⟨.Tuple [.Name x px, .Name y2 py2] 0 pt, iter, [], 0⟩] scope pos) (tComp2 X.K wi te) := by
  intro pins s σ H Q I h
  rw [eval_ListComp]
  have hfree : ∀ z ∈ scope.names, z.2 = .free → ∃ c, X.env.cells.lookup z.1 = some c := fun z hz hk => by
    rcases S.ok z hz hk with q | q
    · exact I.ok.has z.1 (.inl q)
    · exact I.ok.has z.1 (.inr q)
  refine wpAny_comprehension_free (use := none) rfl hs (clos_eq hfree) S.kind S.names (thn (hi pins s σ H _ I h) fun xv s1 h1 => thn h1 fun itv s2 h2 => ?_)
  obtain ⟨it, fp, tn, J, H2, e, I2, T, st2, f2, hw⟩ := h2
  subst e
  obtain ⟨cl, hcl, hrun⟩ := comp_core2 (py := py2) (pt := pt) (elt := elt) (iter := iter) (pos := pos) (px := px) (E := X.xe) (RR := fun acc C => compPost (model X.prog X.w) X.A X.xe none (EP X pins σ Q) acc C) S hc he I2 T st2 f2 hw (fun D C s' H' I' ⟨m, hm⟩ n1 n2 n3 n4 n5 q =>
    ⟨m, hm, fun h' hsb => ⟨.ref D, H', I'.turned (it := C) (t' := s'.toks) (fun b o hb e => (hsb.2 b hb).trans e) n3 n1 (.inr n4) n2 n5, rfl, q⟩⟩)
  have ecl : (pure (closOf X.env.cells scope.names []) : Sem (List (Str × Addr))) = pure cl := (clos_eq hfree).symm.trans hcl
  have ecl' : closOf X.env.cells scope.names [] = cl := by
    injection ecl
  rw [ecl']
  exact hrun
end
end L2
namespace L2
open PySem PyProof.Rows PySem.Spec
section
variable {X : Cx}
end
end L2

set_option Elab.async false
set_option linter.all false
set_option maxRecDepth 100000
namespace SR
open PySem PyProof.Rows PySem.Spec
section
variable {prog : Program} {w : World} {A : Around} {E : Value → Shared → Prop} {s : Shared}
end
end SR
namespace L2
open PySem PyProof.Rows PySem.Spec
section
variable {X : Cx}
end
end L2

set_option Elab.async false
set_option linter.all false
set_option maxRecDepth 100000
namespace L2
open PySem PyProof.Rows PySem.Spec
section
variable {X : Cx}
end
end L2
namespace L2
open PySem PyProof.Rows PySem.Spec
section
variable {X : Cx}
end
end L2

set_option Elab.async false
set_option linter.all false
set_option maxRecDepth 100000
namespace L2
open PySem PyProof.Rows PySem.Spec
section
variable {X : Cx}
end
end L2

set_option Elab.async false
set_option linter.all false
set_option maxRecDepth 100000
set_option maxHeartbeats 4000000
namespace L2
open PySem PyProof.Rows PySem.Spec
section
variable {X : Cx}
end
noncomputable def tupIs (K : PySem.W.Frag) (a : Addr) (ns : List Int) : Bool :=
  match K.lookup a with
  | some o => match o.cls, o.data with
    | .type "tuple", .seq its _ => decide (its.size ≤ 1000) && (its.toList.map fun v => match v with | .int i _ => some i | _ => none) == ns.map some
    | _, _ => false
  | none => false
theorem SqT.tupIs {K : PySem.W.Frag} {a : Addr} {ns : List Int} {H : Hp} (h : tupIs K a ns = true) : SqT K H a (ns.map V.int) := by
  unfold L2.tupIs at h
  cases hk : K.lookup a with
  | none => rw [hk] at h; cases h
  | some o =>
    rw [hk] at h
    dsimp only at h
    split at h
    · rename_i its n hc hd
      rw [Bool.and_eq_true, decide_eq_true_iff, beq_iff_eq] at h
      refine .inr ⟨o, its, n, hk, hc, hd, Nat.le_trans h.1 (by rw [sizeLine_eq]; decide), ?_⟩
      have key : ∀ (ns : List Int) (us : List Value), (us.map fun v => match v with | .int i _ => some i | _ => none) = ns.map some → Vals (ns.map V.int) us := fun ns => by
        induction ns with
        | nil =>
          intro us hu
          cases us with
          | nil => exact .nil
          | cons u us => cases hu
        | cons i ns ih =>
          intro us hu
          cases us with
          | nil => cases hu
          | cons u us =>
            rw [List.map_cons, List.map_cons] at hu
            obtain ⟨h1, h2⟩ := List.cons.inj hu
            refine .cons ?_ (ih us h2)
            split at h1
            · rename_i j t
              obtain rfl := Option.some.inj h1
              exact ⟨_, rfl⟩
            · cases h1
      exact key ns _ h.2
    · cases h
end L2

set_option Elab.async false
set_option linter.all false
set_option maxRecDepth 100000
set_option maxHeartbeats 4000000
namespace L2
open PySem PyProof.Rows PySem.Spec
section
variable {X : Cx}
end
noncomputable def RowsAt (K : PySem.W.Frag) (H : Hp) (as : List Addr) (M : List (List Int)) : Prop := as.length = M.length ∧ ∀ (i : Nat) (a : Addr) (r : List Int), as[i]? = some a → M[i]? = some r → SqL K H a (r.map V.int)
section
variable {K : PySem.W.Frag} {H G : Hp} {as : List Addr} {M : List (List Int)}
theorem RowsAt.on (h : RowsAt K H as M) (s : Same H G) : RowsAt K G as M := ⟨h.1, fun i a r e1 e2 => s.seq (h.2 i a r e1 e2)⟩
theorem RowsAt.at (h : RowsAt K H as M) {i : Nat} {v : V} (hv : (as.map V.ref)[i]? = some v) : ∃ (a : Addr) (r : List Int), v = .ref a ∧ M[i]? = some r ∧ SqL K H a (r.map V.int) := by
  rw [List.getElem?_map] at hv
  obtain ⟨a, ha, rfl⟩ := Option.map_eq_some_iff.mp hv
  have hi := (List.getElem?_eq_some_iff.mp ha).1
  obtain ⟨r, hr⟩ : ∃ r, M[i]? = some r := ⟨_, List.getElem?_eq_getElem (by rw [← h.1]; exact hi)⟩
  exact ⟨a, r, rfl, hr, h.2 i a r ha hr⟩
theorem RowsAt.sub (h : RowsAt K H as M) (f : Nat → Nat) (bs : List Addr) (N : List (List Int)) (hl : bs.length = N.length) (h1 : ∀ i b, bs[i]? = some b → as[f i]? = some b) (h2 : ∀ i r, N[i]? = some r → M[f i]? = some r) : RowsAt K H bs N := ⟨hl, fun i a r e1 e2 => h.2 (f i) a r (h1 i a e1) (h2 i r e2)⟩
theorem RowsAt.erase (h : RowsAt K H as M) (p : Nat) : RowsAt K H (as.eraseIdx p) (M.eraseIdx p) :=
  h.sub (fun i => if i < p then i else i + 1) _ _ (by rw [List.length_eraseIdx, List.length_eraseIdx, h.1]) (fun i b e => by rw [List.getElem?_eraseIdx] at e; split <;> simp_all) (fun i b e => by rw [List.getElem?_eraseIdx] at e; split <;> simp_all)
end
theorem compR {K : PySem.W.Frag} {J : It} {as : List Addr} {M : List (List Int)} {te : TE} {σ : St} {H : Hp} {Q : VK} (g : List Int → List Int) (rd : Reads J H (as.map V.ref)) (hR : RowsAt K H as M) (hn : as.length ≤ sizeLine)
    (he : ∀ a r H', r ∈ M → SqL K H' a (r.map V.int) → Same H H' → ∀ N : V → Hp → Prop, (∀ c H'', Same H' H'' → (H' c = none) → H'' c = some (.lst ((g r).map V.int)) → N (.ref c) H'') → te (some (.ref a) :: σ) H' N)
    (hq : ∀ D bs H', H D = none → Same H H' → H' D = some (.lst (bs.map V.ref)) → (∀ b ∈ bs, b ≠ D) → RowsAt K H' bs (M.map g) → Q (.ref D) H') : compAt te σ Q J H := by
  intro D hD
  refine ⟨fun i m ys H2 => m = as.length - i ∧ i ≤ as.length ∧ Same H H2 ∧ H2 D = some (.lst ys) ∧ ∃ bs : List Addr, ys = bs.map V.ref ∧ bs.length = i ∧ ∀ (j : Nat) (b : Addr) (r : List Int), bs[j]? = some b → M[j]? = some r → b ≠ D ∧ H2 b = some (.lst ((g r).map V.int)), ⟨as.length, rfl, Nat.zero_le _, fun b o e => ?_, upd_same, [], rfl, rfl, fun j b r e => by simp at e⟩, ?_⟩
  · rw [upd_ne (ne_of_none e hD)]
    exact e
  · rintro i m ys H2 ⟨rfl, hi, hs, hd, bs, rfl, hl, hb⟩
    by_cases hlt : i < as.length
    · have hlt' : i < (as.map V.ref).length := by rw [List.length_map]; exact hlt
      obtain ⟨a, r, ha, hr, _⟩ := hR.at (i := i) (v := (as.map V.ref)[i]) (List.getElem?_eq_getElem hlt')
      refine .inr ⟨rd.go i H2 hs hlt', by rw [List.length_map]; omega, fun v H' => Same H2 H' ∧ ∃ c, v = .ref c ∧ c ≠ D ∧ H' c = some (.lst ((g r).map V.int)), fun v H' ⟨hs', c, ev, hcD, hc⟩ => ⟨hs' D _ hd, as.length - (i + 1), by omega, rfl, hlt, fun b o e => ?kp, upd_same, bs ++ [c], ?app, by rw [List.length_append, hl]; rfl, fun j b r' e1 e2 => ?la⟩, fun y H' hy => ?stp⟩
      case app =>
        rw [ev, List.map_append]
        rfl
      case kp =>
        rw [upd_ne (ne_of_none e hD)]
        exact hs' b o (hs b o e)
      case la =>
        by_cases hj : j < bs.length
        · rw [List.getElem?_append_left hj] at e1
          obtain ⟨h1, h2⟩ := hb j b r' e1 e2
          exact ⟨h1, by rw [upd_ne h1]; exact hs' b _ h2⟩
        · have hj' : j = bs.length := by
            have := (List.getElem?_eq_some_iff.mp e1).1
            rw [List.length_append, List.length_singleton] at this
            omega
          subst hj'
          rw [List.getElem?_append_right (Nat.le_refl _), Nat.sub_self] at e1
          obtain rfl : c = b := Option.some.inj e1
          rw [hl, hr] at e2
          obtain rfl := Option.some.inj e2
          exact ⟨hcD, by rw [upd_ne hcD]; exact hc⟩
      case stp =>
        obtain ⟨rfl, e2⟩ := rd.yl i H2 y H' hs hy
        obtain ⟨a2, r2, rfl, hr2, hs2⟩ := (hR.on hs).at e2
        rw [hr] at hr2
        obtain rfl := Option.some.inj hr2
        exact he a2 r _ (List.mem_of_getElem? hr) hs2 hs _ fun c H'' s'' hc hc2 => ⟨s'', c, rfl, fun z => (by rw [z, hd] at hc; cases hc), hc2⟩
    · have e : i = as.length := by omega
      have hst := rd.st H2 hs
      rw [List.length_map] at hst
      subst e
      have hlM := hR.1
      refine .inl ⟨hst, hq D bs H2 hD hs hd (fun b hb' => ?_) ⟨by rw [hl, List.length_map, hlM], fun j b r e1 e2 => ?_⟩⟩
      · obtain ⟨j, hj⟩ := List.getElem?_of_mem hb'
        have hjl := (List.getElem?_eq_some_iff.mp hj).1
        exact (hb j b _ hj (List.getElem?_eq_getElem (show j < M.length by omega))).1
      · rw [List.getElem?_map] at e2
        obtain ⟨r', hr', rfl⟩ := Option.map_eq_some_iff.mp e2
        exact SqL.of (hb j b r' e1 hr').2
theorem compI {K : PySem.W.Frag} {J : It} {as : List Addr} {M : List (List Int)} {te : TE} {σ : St} {H : Hp} {Q : VK} (g : List Int → Int) (rd : Reads J H (as.map V.ref)) (hR : RowsAt K H as M) (hn : as.length ≤ sizeLine)
    (he : ∀ a r H', r ∈ M → SqL K H' a (r.map V.int) → Same H H' → ∀ N : V → Hp → Prop, (∀ H'', Same H' H'' → N (.int (g r)) H'') → te (some (.ref a) :: σ) H' N)
    (hq : ∀ D H', H D = none → Same H H' → H' D = some (.lst ((M.map g).map V.int)) → Q (.ref D) H') : compAt te σ Q J H := by
  intro D hD
  have hlM := hR.1
  refine ⟨fun i m ys H2 => m = as.length - i ∧ i ≤ as.length ∧ Same H H2 ∧ H2 D = some (.lst ys) ∧ ys = ((M.take i).map g).map V.int, ⟨as.length, rfl, Nat.zero_le _, fun b o e => ?_, upd_same, rfl⟩, ?_⟩
  · rw [upd_ne (ne_of_none e hD)]
    exact e
  · rintro i m ys H2 ⟨rfl, hi, hs, hd, rfl⟩
    by_cases hlt : i < as.length
    · have hlt' : i < (as.map V.ref).length := by rw [List.length_map]; exact hlt
      have hr : M[i]? = some (M[i]'(by omega)) := List.getElem?_eq_getElem (by omega)
      refine .inr ⟨rd.go i H2 hs hlt', by rw [List.length_map, List.length_map, List.length_take]; omega, fun v H' => v = .int (g (M[i]'(by omega))) ∧ Same H2 H', fun v H' ⟨ev, hs'⟩ => ⟨hs' D _ hd, as.length - (i + 1), by omega, rfl, hlt, fun b o e => ?kp, upd_same, ?app⟩, fun y H' hy => ?stp⟩
      case app =>
        rw [ev, List.take_add_one, hr, List.map_append, List.map_append]
        rfl
      case kp =>
        rw [upd_ne (ne_of_none e hD)]
        exact hs' b o (hs b o e)
      case stp =>
        obtain ⟨rfl, e2⟩ := rd.yl i H2 y H' hs hy
        obtain ⟨a2, r2, rfl, hr2, hs2⟩ := (hR.on hs).at e2
        obtain rfl := Option.some.inj (hr2.symm.trans hr)
        exact he a2 _ _ (List.mem_of_getElem? hr) hs2 hs _ fun H'' s'' => ⟨rfl, s''⟩
    · have e : i = as.length := by omega
      have hst := rd.st H2 hs
      rw [List.length_map] at hst
      subst e
      rw [List.take_of_length_le (by omega)] at hd
      exact .inl ⟨hst, hq D H2 hD hs hd⟩
end L2

set_option Elab.async false
set_option linter.all false
set_option maxRecDepth 100000
set_option maxHeartbeats 4000000
namespace L2
open PySem PySem.Spec PyProof.Rows
section
variable {X : Cx} {pins : List (Addr × Obj)} {σ : St} {H : Hp} {s : Shared} {a : Addr} {kvs : List (Key × V)} {k : Key} {A : Around} {E : Value → Shared → Prop}
theorem d_setdef {v : V} {u r : Value} {Q : Value → Shared → Prop} (I : Inv X pins σ H s) (e : H a = some (.dK kvs)) (ry : RelV (kV k) u) (rv : RelV v r) (hz : kvs.length < sizeLine)
    (h1 : ∀ x, valV kvs k = some x → ∀ w' s', Inv X pins σ H s' → RelV x w' → Q w' s') (h2 : valV kvs k = none → ∀ s', Inv X pins σ (upd H a (.dK (putK kvs k v))) s' → Q r s') :
    wpAny (model X.prog X.w) A (call (.builtin "dict.setdefault") [.ref a, u, r]) Q E s := by
  obtain ⟨z, hd, vs, rel, dd⟩ := dk_of I.hok e
  refine call_meetsIn PySem.F.slot_dict_setdefault dd.typeIs PySem.F.entry_dict_setdefault (PySem.F.args_dict_setdefault_3 _ _ _) (kt_meets_setdefault (mixKind X.prog X.w) a (kV_is ry) hd r)
    ⟨vs, dd, by rw [← rel.length]; exact z, fun w' hw => ?_, fun hn h' dd' hs => ?_⟩
  · cases l : valV kvs k with
    | none =>
      have := RelO.none_of (o := valueAt vs k) (by rw [← l]; exact rel.val k)
      rw [this] at hw
      cases hw
    | some x =>
      obtain ⟨w2, hw2, rw2⟩ := RelO.some_of (v := x) (o := valueAt vs k) (by rw [← l]; exact rel.val k)
      rw [hw] at hw2
      obtain rfl := Option.some.inj hw2
      exact h1 x l w' _ (I.tok _) rw2
  · have l : valV kvs k = none := by
      cases l : valV kvs k with
      | none => rfl
      | some x =>
        obtain ⟨w2, hw2, _⟩ := RelO.some_of (v := x) (o := valueAt vs k) (by rw [← l]; exact rel.val k)
        rw [hn] at hw2
        cases hw2
    have he : ∃ q, h'.get? a = some q := let ⟨q, _, _, hq, _⟩ := dd'; ⟨q, hq⟩
    have hl : (putK kvs k v).length ≤ sizeLine := by have := length_putK kvs k v; omega
    exact h2 l _ (d_write I (by rw [e]; exact True.intro) hs he (dk_new hl hd (rel.put k rv) dd'))
end
noncomputable def tDDef (td ty tx : TE) : TE := fun σ H Q => td σ H fun x H1 => ∃ a, x = .ref a ∧ (∃ kvs, H1 a = some (.dK kvs)) ∧ ty σ H1 fun y H2 => tx σ H2 fun z H3 => ∃ kvs k, H3 a = some (.dK kvs) ∧ y = kV k ∧ kvs.length < sizeLine ∧ (∀ v, valV kvs k = some v → Q v H3) ∧ (valV kvs k = none → Q z (upd H3 a (.dK (putK kvs k z))))
section
variable {X : Cx} {o e f : Expr} {apos cpos : Pos} {td ty tx : TE}
theorem pe_dsetdef (ho : PE X o td) (he : PE X e ty) (hf : PE X f tx) (m : M2 X o "setdefault" apos e f cpos) : PE X (.Call (.Attribute o "setdefault" apos) [e, f] [] cpos) (tDDef td ty tx) := by
  intro pins s σ H Q I h
  refine wpAny_Call_method m.base m.few m.line PySem.F.plainAttrs_dict PySem.F.slot_dict_setdefault PySem.F.type_dict_setdefault (thn (ho pins s σ H _ I h) fun u s1 ⟨x, H1, I1, rx, a, ex, ⟨kvs0, d⟩, q1⟩ => ?_)
  subst ex
  obtain rfl : u = Value.ref a := rx
  obtain ⟨z0, hd0, vs0, rel0, dd0⟩ := dk_of I1.hok d
  refine ⟨dd0.typeIs, fun b q => ?_, ?_⟩
  · cases q
    obtain ⟨ob, _, _, g1, g2, _⟩ := dd0
    exact ⟨ob, g1, g2.2.1⟩
  rw [m.trees]
  refine Calls.callWith_builtin rfl (Calls.evalArgs_plain (Calls.spliced_cons (thn (he pins s1 σ H1 _ I1 q1) fun iv s2 ⟨y, H2, I2, ry, q2⟩ =>
    Calls.spliced_cons (thn (hf pins s2 σ H2 _ I2 q2) fun fv s3 ⟨z, H3, I3, rz, kvs, k, ea, ey, hz, q3, q4⟩ => Calls.spliced_nil ?_))))
  subst ey
  exact d_setdef I3 ea ry rz hz (fun v l w' s4 I4 rw' => ⟨v, H3, I4, rw', q3 v l⟩) fun l s4 I4 => ⟨z, _, I4, rz, q4 l⟩
theorem call_dictOf : CallR X (.type "dict") (fun xs H Q => ∃ (a : Addr) (kvs : List (Key × V)), xs = [.ref a] ∧ H a = some (.dK kvs) ∧ ∀ p, H p = none → Q (.ref p) (upd H p (.dK kvs))) := by
  intro pins s σ H xs us Q I r h
  obtain ⟨a, kvs, rfl, e, q⟩ := h
  obtain ⟨u, rfl, ru⟩ := vals1 r
  obtain rfl : u = .ref a := ru
  exact d_copyOf I (.inl e) fun p s' hp I' => ⟨.ref p, _, I', rfl, q p hp⟩
end
end L2

set_option Elab.async false
set_option linter.all false
set_option maxRecDepth 100000
set_option maxHeartbeats 4000000
namespace SS
open PySem PyProof.Rows L2
section
variable {prog : Program} {w : World} {A : Around} {E : Value → Shared → Prop} {s : Shared}
theorem init_dict {a : Addr} {vs : List (Key × Value)} {ep : Nat} {R : Result → Shared → Prop} (hh : A.handled = none) (hd : (a == sysModules) = false) (hD : Heap.DictAt (mixKind prog w) s.heap a vs ep) (hz : vs.length ≤ sizeLine) (S : Addr) (h1 : S ≠ a) (hS : s.heap.get? S = some { cls := .type "list", data := .seq #[] })
    (hR : ∀ s' acc' c', (∀ b o, b ≠ S → s.heap.get? b = some o → s'.heap.get? b = some o) → s'.gens = s.gens → s'.os = s.os → s'.heap.get? S = some { cls := .type "list", dict := none, data := .seq acc' c', slots := #[] } → ItemsOf (KeyAt vs) acc' vs.length → R (.ok (.ret .none)) s') :
    wpAny (model prog w) A.in1 (Builtin.«list.__init__» ⟨[.ref S, .ref a], []⟩)
      (fun fin s' => match fin with | .done f => R (.ok f) s' | .again c' => c'.quiet = true ∧ codeAny (model prog w) A c' R s') (fun e s' => R (.error e) s') s := by
  show wpAny _ _ (do let old ← Builtin.List.listItems (.ref S); Builtin.List.listUpdate (.ref S) (fun _ => #[]); letGo old.toList.reverse; Builtin.List.listExtendWith (.ref S) (.ref a) .none) _ _ s
  refine wpAny_bind ?_
  unfold Builtin.List.listItems
  refine wpAny_bind (wpAny_seqItems hS rfl (wpAny_pure ?_))
  show wpAny _ _ (updateSeq S (fun _ => #[]) >>= fun _ => letGo (#[] : Array Value).toList.reverse >>= fun _ => Builtin.List.listExtendWith (.ref S) (.ref a) .none) _ _ s
  refine wpAny_bind (wpAny_updateSeq hS rfl ?_)
  have hS₂ := Heap.get?_update_self (Obj.mapSeq (fun _ => (#[] : Array Value))) hS rfl
  have oth : ∀ b o, b ≠ S → s.heap.get? b = some o → (s.heap.update S (Obj.mapSeq (fun _ => (#[] : Array Value)))).get? b = some o :=
    fun b o hb e => (Heap.get?_update_other _ _ (Ne.symm hb)).trans e
  refine wpAny_bind (wpAny_letGo ?_)
  have hD2 : Heap.DictAt (mixKind prog w) (s.heap.update S (Obj.mapSeq (fun _ => (#[] : Array Value)))) a vs ep := by
    obtain ⟨o, es, g, r⟩ := hD
    exact ⟨o, es, oth a o (Ne.symm h1) g, r⟩
  refine dextend_ok (A := A) (s := { s with heap := s.heap.update S (Obj.mapSeq (fun _ => (#[] : Array Value))) }) hh hd hD2 hz S .none h1 hS₂ fun s' acc' c' kp g1 g2 e1 e2 => ?_
  exact hR s' acc' c' (fun b o hb e => kp b o hb (oth b o hb e)) g1 g2 e1 e2
theorem call_list_dict {a : Addr} {vs : List (Key × Value)} {ep : Nat} {Q : Value → Shared → Prop} (hh : A.handled = none) (hd : (a == sysModules) = false) (hD : Heap.DictAt (mixKind prog w) s.heap a vs ep) (hz : vs.length ≤ sizeLine)
    (hQ : ∀ (s' : Shared) (acc : Array Value) (c' : Nat), (∀ b o, s.heap.get? b = some o → s'.heap.get? b = some o) → s'.gens = s.gens → s'.os = s.os → s'.heap.get? s.heap.objs.size = some { cls := .type "list", dict := none, data := .seq acc c', slots := #[] } → ItemsOf (KeyAt vs) acc vs.length → Q (.ref s.heap.objs.size) s') :
    wpAny (model prog w) A (call (.type "list") [.ref a]) Q E s := by
  have hlt : a < s.heap.objs.size := by obtain ⟨o, es, g, r⟩ := hD; exact Heap.lt_size g
  refine callType_codes (Q₁ := fun obj s₁ => obj = .ref s.heap.objs.size ∧ s₁ = { s with heap := s.heap.push { cls := .type "list", data := .seq #[] } }) F.called_list (F.typeCall_list_1 _) F.entry_list_init
    (code_list_new _ ⟨rfl, rfl⟩) fun obj s₁ h₁ => ?_
  obtain ⟨rfl, rfl⟩ := h₁
  have hS : (s.heap.push { cls := .type "list", data := .seq #[] }).get? s.heap.objs.size = some { cls := .type "list", data := .seq #[] } := Heap.get?_push_size _ rfl
  refine ⟨⟨_, hS, rfl⟩, F.args_list_init_2 _ _, init_dict (A := A.in1) (s := { s with heap := s.heap.push { cls := .type "list", data := .seq #[] } }) hh hd (dat_push hD) hz _ (Nat.ne_of_gt hlt) hS fun s' acc' c' kp g1 g2 e1 e2 => ?_⟩
  exact ⟨rfl, hQ s' acc' c' (fun b o e => kp b o (Nat.ne_of_lt (Heap.lt_size e)) (Heap.get?_push_of_some _ e)) g1 g2 e1 e2⟩
end
end SS
namespace L2
open PySem PyProof.Rows
section
variable {X : Cx}
theorem strs_vals : ∀ {us : List Value} {ls : List (List Nat)}, StrsAre us (ls.map tx) → Vals (ls.map T) us
  | [], [], _ => .nil
  | u :: us, l :: ls, h => by
    cases h with
    | cons x t r => exact .cons ⟨_, rfl⟩ (strs_vals r)
theorem call_listD (hc : X.calm = true) : CallR X (.type "list") (fun xs H Q => ∃ (p : Addr) (ls : List (List Nat)) (kvs : List (Key × V)), xs = [.ref p] ∧ H p = some (.dK kvs) ∧ kvs.map (·.1) = ls.map (fun t => Sum.inr (tx t)) ∧ ∀ (D : Addr), H D = none → Q (.ref D) (upd H D (.lst (ls.map T)))) := by
  intro pins s σ H xs us Q I r h
  obtain ⟨p, ls, kvs, rfl, hq, hk, q⟩ := h
  obtain ⟨u, rfl, ru⟩ := vals1 r
  cases ru
  obtain ⟨z, hd, vs, rel, dd⟩ := dk_of I.hok hq
  obtain ⟨o, es, ep, rest⟩ := dd
  have hl : ls.length = kvs.length := by have := congrArg List.length hk; simpa using this.symm
  refine SS.call_list_dict (vs := vs) (ep := ep) (I.ok.hd hc) hd ⟨o, es, rest⟩ (by rw [← rel.length]; exact z) fun s' acc c' kp g1 g2 e1 e2 => ?_
  have hv := strs_vals (keys_strs hk rel e2)
  have hg : AllBare s'.gens := by rw [g1]; exact I.bare
  have hf : H s.heap.objs.size = none := I.hok.fresh (Nat.le_refl _)
  have new : ObjOk X.prog X.w (upd H s.heap.objs.size (.lst (ls.map T))) s'.heap s.heap.objs.size (.lst (ls.map T)) := ⟨by rw [List.length_map, hl]; exact z, acc.toList, c', hv, by simpa using e1⟩
  exact ⟨.ref s.heap.objs.size, _, I.call' (ch := []) g2 (Un.laid kp (Nat.le_refl _) hf) (I.hok.laid kp (Nat.le_refl _) new) hg (fun _ z => nomatch z), rfl, q _ hf⟩
end
end L2

set_option Elab.async false
set_option linter.all false
set_option maxRecDepth 100000
set_option maxHeartbeats 4000000
namespace L2
open PySem PyProof.Rows
theorem compVR {K : PySem.W.Frag} {J : It} {vs : List V} {te : TE} {σ : St} {H : Hp} {Q : VK} (g : V → List Int) (rd : Reads J H vs) (hn : vs.length ≤ sizeLine)
    (he : ∀ v H', v ∈ vs → Same H H' → ∀ N : V → Hp → Prop, (∀ c H'', Same H' H'' → H' c = none → H'' c = some (.lst ((g v).map V.int)) → N (.ref c) H'') → te (some v :: σ) H' N)
    (hq : ∀ D bs H', H D = none → Same H H' → H' D = some (.lst (bs.map V.ref)) → (∀ b ∈ bs, b ≠ D) → RowsAt K H' bs (vs.map g) → Q (.ref D) H') : compAt te σ Q J H := by
  intro D hD
  refine ⟨fun i m ys H2 => m = vs.length - i ∧ i ≤ vs.length ∧ Same H H2 ∧ H2 D = some (.lst ys) ∧ ∃ bs : List Addr, ys = bs.map V.ref ∧ bs.length = i ∧ ∀ (j : Nat) (b : Addr) (v : V), bs[j]? = some b → vs[j]? = some v → b ≠ D ∧ H2 b = some (.lst ((g v).map V.int)), ⟨vs.length, rfl, Nat.zero_le _, fun b o e => ?_, upd_same, [], rfl, rfl, fun j b r e => by simp at e⟩, ?_⟩
  · rw [upd_ne (ne_of_none e hD)]
    exact e
  · rintro i m ys H2 ⟨rfl, hi, hs, hd, bs, rfl, hl, hb⟩
    by_cases hlt : i < vs.length
    · obtain ⟨r, hr⟩ : ∃ r, vs[i]? = some r := ⟨_, List.getElem?_eq_getElem hlt⟩
      refine .inr ⟨rd.go i H2 hs hlt, by rw [List.length_map]; omega, fun v H' => Same H2 H' ∧ ∃ c, v = .ref c ∧ c ≠ D ∧ H' c = some (.lst ((g r).map V.int)), fun v H' ⟨hs', c, ev, hcD, hc⟩ => ⟨hs' D _ hd, vs.length - (i + 1), by omega, rfl, hlt, fun b o e => ?kp, upd_same, bs ++ [c], ?app, by rw [List.length_append, hl]; rfl, fun j b r' e1 e2 => ?la⟩, fun y H' hy => ?stp⟩
      case app =>
        rw [ev, List.map_append]
        rfl
      case kp =>
        rw [upd_ne (ne_of_none e hD)]
        exact hs' b o (hs b o e)
      case la =>
        by_cases hj : j < bs.length
        · rw [List.getElem?_append_left hj] at e1
          obtain ⟨h1, h2⟩ := hb j b r' e1 e2
          exact ⟨h1, by rw [upd_ne h1]; exact hs' b _ h2⟩
        · have hj' : j = bs.length := by
            have := (List.getElem?_eq_some_iff.mp e1).1
            rw [List.length_append, List.length_singleton] at this
            omega
          subst hj'
          rw [List.getElem?_append_right (Nat.le_refl _), Nat.sub_self] at e1
          obtain rfl : c = b := Option.some.inj e1
          rw [hl, hr] at e2
          obtain rfl := Option.some.inj e2
          exact ⟨hcD, by rw [upd_ne hcD]; exact hc⟩
      case stp =>
        obtain ⟨rfl, e2⟩ := rd.yl i H2 y H' hs hy
        rw [hr] at e2
        obtain rfl := Option.some.inj e2
        exact he r _ (List.mem_of_getElem? hr) hs _ fun c H'' s'' hc hc2 => ⟨s'', c, rfl, fun z => (by rw [z, hd] at hc; cases hc), hc2⟩
    · have e : i = vs.length := by omega
      have hst := rd.st H2 hs
      subst e
      refine .inl ⟨hst, hq D bs H2 hD hs hd (fun b hb' => ?_) ⟨by rw [hl, List.length_map], fun j b r e1 e2 => ?_⟩⟩
      · obtain ⟨j, hj⟩ := List.getElem?_of_mem hb'
        have hjl := (List.getElem?_eq_some_iff.mp hj).1
        exact (hb j b _ hj (List.getElem?_eq_getElem (show j < vs.length by omega))).1
      · rw [List.getElem?_map] at e2
        obtain ⟨r', hr', rfl⟩ := Option.map_eq_some_iff.mp e2
        exact SqL.of (hb j b r' e1 hr').2
end L2

set_option Elab.async false
set_option linter.all false
set_option maxRecDepth 100000
namespace L2
open PySem PyProof.Rows
section
variable {X : Cx} {pins : List (Addr × Obj)} {σ : List (Option V)} {H H' : Hp} {s : Shared}
end
section
variable {X : Cx} {tg : Expr}
end
end L2
namespace L2
open PySem PyProof.Rows
section
variable {X : Cx} {o : Expr} {td : TE} {apos cpos : Pos}
end
end L2
namespace L2
open PySem PyProof.Rows PySem.Spec
section
variable {X : Cx}
end
end L2

set_option Elab.async false
set_option linter.all false
set_option maxRecDepth 100000
set_option maxHeartbeats 4000000
namespace L2
open PySem PyProof.Rows
section
variable {X : Cx} {pins : List (Addr × Obj)} {σ : St} {H : Hp} {s : Shared}
end
section
variable {X : Cx}
end
end L2

set_option Elab.async false
set_option linter.all false
set_option maxRecDepth 100000
set_option maxHeartbeats 4000000
namespace L2
open PySem PySem.Spec PyProof.Rows
section
variable {M : Model} {A : Around} {E : Value → Shared → Prop} {s : Shared}
end
section
variable {X : Cx} {N' : List Str} {scope : Scope} {x : Str} {px : Pos} {elt iter : Expr} {cds : List Expr} {pos : Pos} {te : TE} {tc : TT} {wi : TI}
end
end L2

set_option Elab.async false
set_option linter.all false
set_option maxRecDepth 100000
set_option maxHeartbeats 4000000
namespace L2
open PySem PySem.Spec PyProof.Rows
section
variable {X : Cx} {N' : List Str} {scope : Scope} {x : Str} {px : Pos} {elt iter : Expr} {cds : List Expr} {pos : Pos} {te : TE} {tc : TT} {wi : TI}
end
end L2

set_option Elab.async false
set_option linter.all false
set_option maxRecDepth 100000
set_option maxHeartbeats 4000000
namespace L2
open PySem PyProof.Rows PySem.Spec
section
variable {X : Cx}
end
section
variable {X : Cx} {N' : List Str} {scope : Scope} {x : Str} {px : Pos} {elt iter cd : Expr} {pos : Pos} {te : TE} {tc : TT} {wi : TI}
end
end L2

set_option Elab.async false
set_option linter.all false
set_option maxRecDepth 100000
set_option maxHeartbeats 4000000
namespace L2
open PySem PyProof.Rows
section
variable {X : Cx} {tg : Expr}
end
end L2

set_option Elab.async false
set_option linter.all false
set_option maxRecDepth 100000
set_option maxHeartbeats 4000000
namespace L2
open PySem PyProof.Rows
end L2

set_option Elab.async false
set_option linter.all false
set_option maxRecDepth 100000
set_option maxHeartbeats 4000000
namespace L2
open PySem PyProof.Rows PySem.Spec
section
variable {X : Cx}
theorem sorted_ofS {pins : List (Addr × Obj)} {σ : St} {H : Hp} {s : Shared} {v : Value} {ls : List (List Nat)} {Q : VK} (h64 : ls.length < 64)
    (hc : ∀ (A' : Around) (Q' : List Value → Shared → Prop), A'.handled = X.A.handled → (∀ (vs : List Value) (ss : List Str) (s1 : Shared), StrsAre vs ss → ss.Perm (ls.map tx) → Inv X pins σ H s1 → Q' vs s1) → wpAny (model X.prog X.w) A' (collect v) Q' X.xe s)
    (q : ∀ (ms : List (List Nat)) (D : Addr), H D = none → ms.Perm ls → ms.Pairwise (fun a b => ¬ b < a) → Q (.ref D) (upd H D (.lst (ms.map T)))) :
    wpAny (model X.prog X.w) X.A (call (.builtin "sorted") [v]) (EP X pins σ Q) X.xe s := by
  have hz : ls.length ≤ sizeLine := by rw [sizeLine_eq]; omega
  refine Calls.call_function_entry kind_sorted plain_sorted entry_sorted (args_sorted1 _) ?_
  unfold Builtin.«sorted»
  refine wpAny_bind (m := checkCount "sorted" 1 1 _) (wpAny_pure (wpAny_bind (hc _ _ (by simp) fun vs ss s1 hS hp I1 => wpAny_bind (wpAny_newList ?_ (by rw [hS.length, hp.length_eq, List.length_map]; exact hz)))))
  have e2 : (s1.heap.push (seqObj "list" vs.toArray 0)).get? s1.heap.objs.size = some (seqObj "list" vs.toArray 0) := Heap.get?_push_size _ rfl
  have hvl : vs.length = ls.length := by rw [hS.length, hp.length_eq, List.length_map]
  show wpAny _ _ _ _ _ { s1 with heap := s1.heap.push (seqObj "list" vs.toArray 0) }
  have key : ∀ (out : Array Value) (ss' : List Str), StrsAre out.toList ss' → ss'.Perm ss → sortedS ss' = true → EP X pins σ Q (.ref s1.heap.objs.size) { s1 with heap := sortedHeap (s1.heap.push (seqObj "list" vs.toArray 0)) s1.heap.objs.size vs out } := fun out ss' b1 b2 b3 => by
    obtain ⟨e, he⟩ := sortedHeap_at (out := out) e2
    have em : (ss'.map fun x => x.cps.toList).map tx = ss' := by
      rw [List.map_map]
      conv => rhs; rw [← List.map_id ss']
      exact List.map_congr_left fun x _ => tx_eta x
    have hp' : (ss'.map fun x => x.cps.toList).Perm ls := by
      have y := (b2.trans hp).map fun x => x.cps.toList
      rw [List.map_map, show (fun x => x.cps.toList) ∘ tx = id from funext tx_cps, List.map_id] at y
      exact y
    refine ⟨.ref _, _, I1.laid (t' := s1.toks) (fun b o eo => ?_) (Nat.le_refl _) (o := .lst ((ss'.map fun x => x.cps.toList).map T)) ⟨?_, out.toList, e, strs_back b1, by simpa using he⟩, rfl, q _ _ (I1.hok.fresh (Nat.le_refl _)) hp' (sorted_pw _ (by rw [em]; exact b3))⟩
    · have hlt := Heap.lt_size eo
      rw [sortedHeap_old (Nat.ne_of_lt hlt) (by rw [size_push']; exact Nat.lt_succ_of_lt hlt)]
      exact Heap.get?_push_of_some _ eo
    · rw [List.length_map, hp'.length_eq]
      exact hz
  refine wpAny_bind (wpAny_holding (wpAny_call_entry slot_list_sort ⟨_, e2, rfl⟩ entry_list_sort (list_sort_treeK strKind_oneLt e2 hS.keysOf (fun v1 v2 r e => ?_) (by omega) fun st' a1 a2 => ⟨_, rfl, wpAny_pure ⟨_, rfl, ?_⟩⟩) (args_list_sort _)))
  · have hS2 := hS
    rw [e] at hS2
    exact keyKind_strs hS2
  · obtain ⟨ss', b1, b2, b3⟩ := sorted_out_str hS a1 a2
    exact key _ ss' b1 b2 b3
theorem call_sortedIS (hc : X.calm = true) : CallR X (.builtin "sorted") (fun xs H Q => ∃ (p : Addr) (ls : List (List Nat)), xs = [.ref p] ∧ H p = some (SetI X.w p ls) ∧ ls.length < 64 ∧ ∀ (ms : List (List Nat)) (D : Addr), H D = none → ms.Perm ls → ms.Pairwise (fun a b => ¬ b < a) → Q (.ref D) (upd H D (.lst (ms.map T)))) := by
  intro pins s σ H xs us Q I r h
  obtain ⟨p, ls, rfl, hq, hz, q⟩ := h
  obtain ⟨u, rfl, ru⟩ := vals1 r
  cases ru
  have hs : sizeLine = 16777216 := sizeLine_eq
  refine sorted_ofS hz (fun A' Q' hA hQ => SS.collect_ok (by rw [hA]; exact I.ok.hd hc) (setI_ok I hq) (by rw [List.length_map]; omega) fun s' vs ss kp g1 g2 e1 e2 => hQ vs ss s' e1 e2 ?_) q
  have hg : AllBare s'.gens := by rw [g1]; exact I.bare
  exact I.call' (ch := []) g2 (Un.kept kp) (I.hok.kept kp) hg fun _ z => nomatch z
end
end L2

set_option Elab.async false
set_option linter.all false
set_option maxRecDepth 100000
namespace L2
open PySem PyProof.Rows
section
variable {X : Cx}
end
end L2
namespace L2
open PySem PyProof.Rows PySem.Spec
section
variable {X : Cx}
end
end L2
namespace L2
open PySem PyProof.Rows PySem.Spec
section
variable {X : Cx}
end
end L2

set_option Elab.async false
set_option linter.all false
namespace L2
open PySem
section
variable {X : Cx}
theorem ps_wk {st : Stmt} {t t' : TS} (h : PS X st t) (hw : ∀ (D : Ends) (σ : St) (H : Hp), t' D σ H → t D σ H) : PS X st t' := fun pins s σ H D I q => h pins s σ H D I (hw D σ H q)
end
end L2

set_option Elab.async false
set_option linter.all false
set_option maxRecDepth 100000
namespace L2
open PySem PyProof.Rows
section
variable {X : Cx}
end
end L2

set_option Elab.async false
set_option linter.all false
set_option maxRecDepth 100000
namespace L2
open PySem PySem.Spec PyProof.Rows
section
variable {X : Cx}
end
end L2

set_option Elab.async false
set_option linter.all false
set_option maxRecDepth 100000
set_option maxHeartbeats 4000000
namespace L2
open PySem PySem.Spec PyProof.Rows
end L2

set_option Elab.async false
set_option linter.all false
set_option maxRecDepth 100000
namespace L2
open PySem PyProof.Rows PySem.Spec
section
variable {X : Cx}
theorem op_ne_L0 (K : PySem.W.Frag) (hK : X.K = K) (hu : X.A.units < cLine) : OpR X (compareOp .NotEq) (fun x y H Q => ∃ (p b : Addr) (ys : List V), x = .ref p ∧ y = .ref b ∧ SqL K H p ys ∧ SqL K H b [] ∧ Q (.bl (!ys.isEmpty)) H) := by
  subst hK
  intro pins s σ H x y v u Q I rx ry h
  obtain ⟨p, b, ys, rfl, rfl, h1, h2, q⟩ := h
  cases rx
  cases ry
  obtain ⟨its, r, pl, _⟩ := I.list h1
  obtain ⟨its2, r2, pl2, _⟩ := I.list h2
  have l1 := r.length
  have l2 := r2.length
  cases ys with
  | nil =>
    have e1 : its = [] := List.length_eq_zero_iff.mp l1.symm
    have e2 : its2 = [] := List.length_eq_zero_iff.mp l2.symm
    subst e1 e2
    refine SeqAt.RcNeAt.lists (e := fun _ => true) pl.isList pl2.isList rfl hu (fun j g1 g2 => absurd g1 (by simp)) _ _ _ _ ?_
    exact ⟨.bl _, H, I, rfl, q⟩
  | cons y ys =>
    refine SeqAt.RcNeAt.lists_lengths pl.isList pl2.isList (by rw [List.size_toArray, List.size_toArray, bne_iff_ne]; simp only [List.length_cons, List.length_nil] at l1 l2; omega) hu _ _ _ _ ?_
    exact ⟨.bl _, H, I, rfl, q⟩
end
end L2

set_option Elab.async false
set_option linter.all false
set_option maxRecDepth 100000
set_option maxHeartbeats 4000000
namespace K35
open PySem L2
seal L2.PSs L2.PS L2.PE L2.PA L2.PT L2.PW L2.PI L2.PG L2.PGs L2.PO L2.PTy L2.PH L2.OpR L2.CallR L2.IxR L2.SlR L2.UnR L2.PSet
noncomputable def top (i : Nat) : Stmt := PySem.Challenge.pw_onceround_k35_whole_trees_alike_toward_a.main.body.getD i (.Pass ⟨0, 0, 0, 0⟩)
noncomputable abbrev s_further_times : Stmt := top 6
noncomputable abbrev s_inverse : Stmt := top 7
noncomputable abbrev s_lowered : Stmt := top 8
noncomputable abbrev s_first_other_than_nought : Stmt := top 9
noncomputable abbrev s_determinant_rest : Stmt := top 10
noncomputable abbrev s_greatest_of : Stmt := top 11
noncomputable abbrev s_determinant : Stmt := top 12
noncomputable abbrev s_looked_kinds : Stmt := top 22
noncomputable abbrev s_looked_length : Stmt := top 23
noncomputable abbrev s_letters : Stmt := top 24
noncomputable abbrev s_looked : Stmt := top 25
noncomputable abbrev s_looked_web : Stmt := top 29
noncomputable abbrev s_Web_init : Stmt := inClass (top 30) 0
noncomputable abbrev s_begin_of : Stmt := top 31
noncomputable abbrev s_end_of : Stmt := top 32
noncomputable abbrev s_pieces : Stmt := top 33
noncomputable abbrev s_outs : Stmt := top 34
noncomputable abbrev s_choice_row : Stmt := top 36
noncomputable abbrev s_choices_counted : Stmt := top 37
noncomputable abbrev s_ways_toward : Stmt := top 38
noncomputable abbrev s_tree_count : Stmt := top 39
noncomputable abbrev s__law_cell_at : Stmt := top 41
noncomputable abbrev s__law_whole : Stmt := top 42
noncomputable abbrev s__law_walk : Stmt := top 43
noncomputable abbrev s__law_ring_words : Stmt := top 44
noncomputable abbrev s__law_ways : Stmt := top 45
noncomputable abbrev s__law_all : Stmt := top 48
noncomputable abbrev s__law_power : Stmt := top 49
noncomputable abbrev s_law : Stmt := top 50
theorem sc_further_times : FnScope ["place", "last", "times"] ["place", "last"] (defScope s_further_times) := ⟨rfl, rfl, rfl, by decide +kernel, rfl, by decide +kernel, by decide +kernel⟩
theorem sc_inverse : FnScope ["number", "prime", "last", "rest", "last_times", "times", "quotient", "next_rest", "more_times"] ["number", "prime"] (defScope s_inverse) := ⟨rfl, rfl, rfl, by decide +kernel, rfl, by decide +kernel, by decide +kernel⟩
theorem sc_lowered : FnScope ["row", "top", "back", "prime", "times"] ["row", "top", "back", "prime"] (defScope s_lowered) := ⟨rfl, rfl, rfl, by decide +kernel, rfl, by decide +kernel, by decide +kernel⟩
noncomputable def csc_lowered_0 : Scope := { kind := PySem.ScopeKind.function, names := [ (PySem.Str.ofString ".0", PySem.NameKind.local), (PySem.Str.ofString "number", PySem.NameKind.local), (PySem.Str.ofString "above", PySem.NameKind.local), (PySem.Str.ofString "times", PySem.NameKind.free)], isGenerator := false, isCoroutine := false, more := [] : PySem.Scope }
theorem cs_lowered_0 : CompSc2 ["row", "top", "back", "prime", "times"] ["number", "above", "row", "top", "back", "prime", "times"] (defScope s_lowered) csc_lowered_0 "number" "above" := ⟨rfl, by decide +kernel, by decide +kernel, rfl, rfl, by decide +kernel, rfl, rfl, rfl, by decide +kernel, rfl, by decide +kernel, by decide +kernel⟩
theorem sc_first_other_than_nought : FnScope ["numbers", "place", "number"] ["numbers"] (defScope s_first_other_than_nought) := ⟨rfl, rfl, rfl, by decide +kernel, rfl, by decide +kernel, by decide +kernel⟩
theorem sc_determinant_rest : FnScope ["square", "prime", "rows", "rest", "place", "top", "back"] ["square", "prime"] (defScope s_determinant_rest) := ⟨rfl, rfl, rfl, by decide +kernel, rfl, by decide +kernel, by decide +kernel⟩
noncomputable def csc_determinant_rest_0 : Scope := { kind := PySem.ScopeKind.function, names := [ (PySem.Str.ofString ".0", PySem.NameKind.local), (PySem.Str.ofString "row", PySem.NameKind.local), (PySem.Str.ofString "prime", PySem.NameKind.free)], isGenerator := false, isCoroutine := false, more := [] : PySem.Scope }
theorem cs_determinant_rest_0 : CompSc ["square", "prime", "rows", "rest", "place", "top", "back"] ["row", "square", "prime", "rows", "rest", "place", "top", "back"] (defScope s_determinant_rest) csc_determinant_rest_0 "row" := ⟨rfl, by decide +kernel, by decide +kernel, rfl, by decide +kernel, rfl, rfl, by decide +kernel, rfl, by decide +kernel, by decide +kernel⟩
noncomputable def csc_determinant_rest_1 : Scope := { kind := PySem.ScopeKind.function, names := [ (PySem.Str.ofString ".0", PySem.NameKind.local), (PySem.Str.ofString "number", PySem.NameKind.local), (PySem.Str.ofString "prime", PySem.NameKind.free)], isGenerator := false, isCoroutine := false, more := [] : PySem.Scope }
theorem cs_determinant_rest_1 : CompSc ["square", "prime", "rows", "rest", "place", "top", "back"] ["number", "square", "prime", "rows", "rest", "place", "top", "back"] (defScope s_determinant_rest) csc_determinant_rest_1 "number" := ⟨rfl, by decide +kernel, by decide +kernel, rfl, by decide +kernel, rfl, rfl, by decide +kernel, rfl, by decide +kernel, by decide +kernel⟩
noncomputable def csc_determinant_rest_2 : Scope := { kind := PySem.ScopeKind.function, names := [ (PySem.Str.ofString ".0", PySem.NameKind.local), (PySem.Str.ofString "row", PySem.NameKind.local), (PySem.Str.ofString "lowered", PySem.NameKind.globalImplicit), (PySem.Str.ofString "back", PySem.NameKind.free), (PySem.Str.ofString "prime", PySem.NameKind.free), (PySem.Str.ofString "top", PySem.NameKind.free)], isGenerator := false, isCoroutine := false, more := [] : PySem.Scope }
theorem cs_determinant_rest_2 : CompSc ["square", "prime", "rows", "rest", "place", "top", "back"] ["row", "square", "prime", "rows", "rest", "place", "top", "back"] (defScope s_determinant_rest) csc_determinant_rest_2 "row" := ⟨rfl, by decide +kernel, by decide +kernel, rfl, by decide +kernel, rfl, rfl, by decide +kernel, rfl, by decide +kernel, by decide +kernel⟩
theorem sc_greatest_of : FnScope ["square", "bound", "row"] ["square"] (defScope s_greatest_of) := ⟨rfl, rfl, rfl, by decide +kernel, rfl, by decide +kernel, by decide +kernel⟩
noncomputable def csc_greatest_of_0 : Scope := { kind := PySem.ScopeKind.function, names := [ (PySem.Str.ofString ".0", PySem.NameKind.local), (PySem.Str.ofString "number", PySem.NameKind.local), (PySem.Str.ofString "abs", PySem.NameKind.globalImplicit)], isGenerator := false, isCoroutine := false, more := [] : PySem.Scope }
theorem cs_greatest_of_0 : CompSc ["square", "bound", "row"] ["number", "square", "bound", "row"] (defScope s_greatest_of) csc_greatest_of_0 "number" := ⟨rfl, by decide +kernel, by decide +kernel, rfl, by decide +kernel, rfl, rfl, by decide +kernel, rfl, by decide +kernel, by decide +kernel⟩
theorem sc_determinant : FnScope ["square", "bound", "result", "modulus", "place", "times", "prime", "lacking"] ["square"] (defScope s_determinant) := ⟨rfl, rfl, rfl, by decide +kernel, rfl, by decide +kernel, by decide +kernel⟩
theorem sc_looked_kinds : FnScope ["kinds"] ["kinds"] (defScope s_looked_kinds) := ⟨rfl, rfl, rfl, by decide +kernel, rfl, by decide +kernel, by decide +kernel⟩
theorem sc_looked_length : FnScope ["length", "kinds"] ["length", "kinds"] (defScope s_looked_length) := ⟨rfl, rfl, rfl, by decide +kernel, rfl, by decide +kernel, by decide +kernel⟩
theorem sc_letters : FnScope ["kinds"] ["kinds"] (defScope s_letters) := ⟨rfl, rfl, rfl, by decide +kernel, rfl, by decide +kernel, by decide +kernel⟩
theorem sc_looked : FnScope ["word", "kinds", "known", "sign"] ["word", "kinds"] (defScope s_looked) := ⟨rfl, rfl, rfl, by decide +kernel, rfl, by decide +kernel, by decide +kernel⟩
theorem sc_looked_web : FnScope ["words", "word"] ["words"] (defScope s_looked_web) := ⟨rfl, rfl, rfl, by decide +kernel, rfl, by decide +kernel, by decide +kernel⟩
theorem sc_Web_init : FnScope ["self", "words"] ["self", "words"] (defScope s_Web_init) := ⟨rfl, rfl, rfl, by decide +kernel, rfl, by decide +kernel, by decide +kernel⟩
theorem sc_begin_of : FnScope ["word"] ["word"] (defScope s_begin_of) := ⟨rfl, rfl, rfl, by decide +kernel, rfl, by decide +kernel, by decide +kernel⟩
theorem sc_end_of : FnScope ["word"] ["word"] (defScope s_end_of) := ⟨rfl, rfl, rfl, by decide +kernel, rfl, by decide +kernel, by decide +kernel⟩
theorem sc_pieces : FnScope ["web"] ["web"] (defScope s_pieces) := ⟨rfl, rfl, rfl, by decide +kernel, rfl, by decide +kernel, by decide +kernel⟩
noncomputable def csc_pieces_0 : Scope := { kind := PySem.ScopeKind.function, names := [ (PySem.Str.ofString ".0", PySem.NameKind.local), (PySem.Str.ofString "word", PySem.NameKind.local), (PySem.Str.ofString "begin_of", PySem.NameKind.globalImplicit)], isGenerator := false, isCoroutine := false, more := [] : PySem.Scope }
theorem cs_pieces_0 : CompSc ["web"] ["word", "web"] (defScope s_pieces) csc_pieces_0 "word" := ⟨rfl, by decide +kernel, by decide +kernel, rfl, by decide +kernel, rfl, rfl, by decide +kernel, rfl, by decide +kernel, by decide +kernel⟩
noncomputable def csc_pieces_1 : Scope := { kind := PySem.ScopeKind.function, names := [ (PySem.Str.ofString ".0", PySem.NameKind.local), (PySem.Str.ofString "word", PySem.NameKind.local), (PySem.Str.ofString "end_of", PySem.NameKind.globalImplicit)], isGenerator := false, isCoroutine := false, more := [] : PySem.Scope }
theorem cs_pieces_1 : CompSc ["web"] ["word", "web"] (defScope s_pieces) csc_pieces_1 "word" := ⟨rfl, by decide +kernel, by decide +kernel, rfl, by decide +kernel, rfl, rfl, by decide +kernel, rfl, by decide +kernel, by decide +kernel⟩
theorem sc_outs : FnScope ["web", "piece"] ["web", "piece"] (defScope s_outs) := ⟨rfl, rfl, rfl, by decide +kernel, rfl, by decide +kernel, by decide +kernel⟩
noncomputable def csc_outs_0 : Scope := { kind := PySem.ScopeKind.function, names := [ (PySem.Str.ofString ".0", PySem.NameKind.local), (PySem.Str.ofString "word", PySem.NameKind.local), (PySem.Str.ofString "begin_of", PySem.NameKind.globalImplicit), (PySem.Str.ofString "piece", PySem.NameKind.free)], isGenerator := false, isCoroutine := false, more := [] : PySem.Scope }
theorem cs_outs_0 : CompSc ["web", "piece"] ["word", "web", "piece"] (defScope s_outs) csc_outs_0 "word" := ⟨rfl, by decide +kernel, by decide +kernel, rfl, by decide +kernel, rfl, rfl, by decide +kernel, rfl, by decide +kernel, by decide +kernel⟩
theorem sc_choice_row : FnScope ["texts", "text", "words", "ends"] ["texts", "text", "words"] (defScope s_choice_row) := ⟨rfl, rfl, rfl, by decide +kernel, rfl, by decide +kernel, by decide +kernel⟩
noncomputable def csc_choice_row_0 : Scope := { kind := PySem.ScopeKind.function, names := [ (PySem.Str.ofString ".0", PySem.NameKind.local), (PySem.Str.ofString "word", PySem.NameKind.local), (PySem.Str.ofString "end_of", PySem.NameKind.globalImplicit)], isGenerator := false, isCoroutine := false, more := [] : PySem.Scope }
theorem cs_choice_row_0 : CompSc ["texts", "text", "words", "ends"] ["word", "texts", "text", "words", "ends"] (defScope s_choice_row) csc_choice_row_0 "word" := ⟨rfl, by decide +kernel, by decide +kernel, rfl, by decide +kernel, rfl, rfl, by decide +kernel, rfl, by decide +kernel, by decide +kernel⟩
noncomputable def csc_choice_row_1 : Scope := { kind := PySem.ScopeKind.function, names := [ (PySem.Str.ofString ".0", PySem.NameKind.local), (PySem.Str.ofString "other", PySem.NameKind.local), (PySem.Str.ofString "len", PySem.NameKind.globalImplicit), (PySem.Str.ofString "ends", PySem.NameKind.free), (PySem.Str.ofString "text", PySem.NameKind.free)], isGenerator := false, isCoroutine := false, more := [] : PySem.Scope }
theorem cs_choice_row_1 : CompSc ["texts", "text", "words", "ends"] ["other", "texts", "text", "words", "ends"] (defScope s_choice_row) csc_choice_row_1 "other" := ⟨rfl, by decide +kernel, by decide +kernel, rfl, by decide +kernel, rfl, rfl, by decide +kernel, rfl, by decide +kernel, by decide +kernel⟩
theorem sc_choices_counted : FnScope ["ways", "texts"] ["ways"] (defScope s_choices_counted) := ⟨rfl, rfl, rfl, by decide +kernel, rfl, by decide +kernel, by decide +kernel⟩
noncomputable def csc_choices_counted_0 : Scope := { kind := PySem.ScopeKind.function, names := [ (PySem.Str.ofString ".0", PySem.NameKind.local), (PySem.Str.ofString "text", PySem.NameKind.local), (PySem.Str.ofString "choice_row", PySem.NameKind.globalImplicit), (PySem.Str.ofString "texts", PySem.NameKind.free), (PySem.Str.ofString "ways", PySem.NameKind.free)], isGenerator := false, isCoroutine := false, more := [] : PySem.Scope }
theorem cs_choices_counted_0 : CompSc ["ways", "texts"] ["text", "ways", "texts"] (defScope s_choices_counted) csc_choices_counted_0 "text" := ⟨rfl, by decide +kernel, by decide +kernel, rfl, by decide +kernel, rfl, rfl, by decide +kernel, rfl, by decide +kernel, by decide +kernel⟩
theorem sc_ways_toward : FnScope ["web", "piece", "every", "ways", "other"] ["web", "piece"] (defScope s_ways_toward) := ⟨rfl, rfl, rfl, by decide +kernel, rfl, by decide +kernel, by decide +kernel⟩
theorem sc_tree_count : FnScope ["web", "piece"] ["web", "piece"] (defScope s_tree_count) := ⟨rfl, rfl, rfl, by decide +kernel, rfl, by decide +kernel, by decide +kernel⟩
theorem sc__law_cell_at : FnScope ["script", "k"] ["script", "k"] (defScope s__law_cell_at) := ⟨rfl, rfl, rfl, by decide +kernel, rfl, by decide +kernel, by decide +kernel⟩
theorem sc__law_whole : FnScope ["found", "due"] ["found", "due"] (defScope s__law_whole) := ⟨rfl, rfl, rfl, by decide +kernel, rfl, by decide +kernel, by decide +kernel⟩
theorem sc__law_walk : FnScope ["cells", "kinds", "first", "words", "here", "cell", "free", "word"] ["cells", "kinds", "first"] (defScope s__law_walk) := ⟨rfl, rfl, rfl, by decide +kernel, rfl, by decide +kernel, by decide +kernel⟩
noncomputable def csc__law_walk_0 : Scope := { kind := PySem.ScopeKind.function, names := [ (PySem.Str.ofString ".0", PySem.NameKind.local), (PySem.Str.ofString "sign", PySem.NameKind.local), (PySem.Str.ofString "here", PySem.NameKind.free), (PySem.Str.ofString "words", PySem.NameKind.free)], isGenerator := false, isCoroutine := false, more := [] : PySem.Scope }
theorem cs__law_walk_0 : CompSc ["cells", "kinds", "first", "words", "here", "cell", "free", "word"] ["sign", "cells", "kinds", "first", "words", "here", "cell", "free", "word"] (defScope s__law_walk) csc__law_walk_0 "sign" := ⟨rfl, by decide +kernel, by decide +kernel, rfl, by decide +kernel, rfl, rfl, by decide +kernel, rfl, by decide +kernel, by decide +kernel⟩
theorem sc__law_ring_words : FnScope ["script", "at", "most", "length", "kinds", "drawn", "first", "k", "words"] ["script", "at", "most"] (defScope s__law_ring_words) := ⟨rfl, rfl, rfl, by decide +kernel, rfl, by decide +kernel, by decide +kernel⟩
theorem sc__law_ways : FnScope ["words", "piece", "ways", "word", "other"] ["words", "piece"] (defScope s__law_ways) := ⟨rfl, rfl, rfl, by decide +kernel, rfl, by decide +kernel, by decide +kernel⟩
theorem sc__law_all : FnScope ["kinds", "length", "words", "k", "longer", "word"] ["kinds", "length"] (defScope s__law_all) := ⟨rfl, rfl, rfl, by decide +kernel, rfl, by decide +kernel, by decide +kernel⟩
noncomputable def csc__law_all_0 : Scope := { kind := PySem.ScopeKind.function, names := [ (PySem.Str.ofString ".0", PySem.NameKind.local), (PySem.Str.ofString "sign", PySem.NameKind.local), (PySem.Str.ofString "word", PySem.NameKind.free)], isGenerator := false, isCoroutine := false, more := [] : PySem.Scope }
theorem cs__law_all_0 : CompSc ["kinds", "length", "words", "k", "longer", "word"] ["sign", "kinds", "length", "words", "k", "longer", "word"] (defScope s__law_all) csc__law_all_0 "sign" := ⟨rfl, by decide +kernel, by decide +kernel, rfl, by decide +kernel, rfl, rfl, by decide +kernel, rfl, by decide +kernel, by decide +kernel⟩
theorem sc__law_power : FnScope ["a", "many", "made", "k"] ["a", "many"] (defScope s__law_power) := ⟨rfl, rfl, rfl, by decide +kernel, rfl, by decide +kernel, by decide +kernel⟩
theorem sc_law : FnScope ["script", "words", "web", "every", "due", "piece", "ways", "text", "total", "word", "cut", "sizes", "kinds", "length", "many"] ["script"] (defScope s_law) := ⟨rfl, rfl, rfl, by decide +kernel, rfl, by decide +kernel, by decide +kernel⟩
noncomputable def csc_law_0 : Scope := { kind := PySem.ScopeKind.function, names := [(PySem.Str.ofString ".0", PySem.NameKind.local), (PySem.Str.ofString "word", PySem.NameKind.local)], isGenerator := false, isCoroutine := false, more := [] : PySem.Scope }
theorem cs_law_0 : CompSc ["script", "words", "web", "every", "due", "piece", "ways", "text", "total", "word", "cut", "sizes", "kinds", "length", "many"] ["word", "script", "words", "web", "every", "due", "piece", "ways", "text", "total", "", "cut", "sizes", "kinds", "length", "many"] (defScope s_law) csc_law_0 "word" := ⟨rfl, by decide +kernel, by decide +kernel, rfl, by decide +kernel, rfl, rfl, by decide +kernel, rfl, by decide +kernel, by decide +kernel⟩
set_option genInjectivity false in
structure Adr where
 BadKinds : Addr
 BadWord : Addr
 TooMany : Addr
 NoSuch : Addr
 Web : Addr
 KNOWN_TIMES : Addr
 u_FIRST_PRIME : Value
 u_STEP : Value
 u_LETTERS : Value
 u_LONGEST : Value
 u_MOST_OF_A_WEB : Value
 u_LONGEST_OF_A_WEB : Value

set_option genInjectivity false in
structure Txt (K : PySem.W.Frag) (mg : Str → Option Value) (ad : Adr) : Prop where
 b_abs : mg "abs" = none
 b_bool : mg "bool" = none
 b_dict : mg "dict" = none
 b_enumerate : mg "enumerate" = none
 b_int : mg "int" = none
 b_isinstance : mg "isinstance" = none
 b_len : mg "len" = none
 b_list : mg "list" = none
 b_range : mg "range" = none
 b_set : mg "set" = none
 b_sorted : mg "sorted" = none
 b_sum : mg "sum" = none
 b_tuple : mg "tuple" = none
 b_zip : mg "zip" = none
 m_BadKinds : mg "BadKinds" = some (.ref ad.BadKinds)
 m_BadWord : mg "BadWord" = some (.ref ad.BadWord)
 m_TooMany : mg "TooMany" = some (.ref ad.TooMany)
 m_NoSuch : mg "NoSuch" = some (.ref ad.NoSuch)
 m_Web : mg "Web" = some (.ref ad.Web)
 m_KNOWN_TIMES : mg "KNOWN_TIMES" = some (.ref ad.KNOWN_TIMES)
 x_BadKinds : Exc K mg "BadKinds" ad.BadKinds
 x_BadWord : Exc K mg "BadWord" ad.BadWord
 x_TooMany : Exc K mg "TooMany" ad.TooMany
 x_NoSuch : Exc K mg "NoSuch" ad.NoSuch
 g_FIRST_PRIME : mg "FIRST_PRIME" = some ad.u_FIRST_PRIME
 r_FIRST_PRIME : RelV (.int 2305843009213693951) ad.u_FIRST_PRIME
 g_STEP : mg "STEP" = some ad.u_STEP
 r_STEP : RelV (.int 6277101735386680763835789423207666416102355444464034512896) ad.u_STEP
 g_LETTERS : mg "LETTERS" = some ad.u_LETTERS
 r_LETTERS : RelV (T [97, 98, 99, 100, 101, 102]) ad.u_LETTERS
 g_LONGEST : mg "LONGEST" = some ad.u_LONGEST
 r_LONGEST : RelV (.int 24) ad.u_LONGEST
 g_MOST_OF_A_WEB : mg "MOST_OF_A_WEB" = some ad.u_MOST_OF_A_WEB
 r_MOST_OF_A_WEB : RelV (.int 64) ad.u_MOST_OF_A_WEB
 g_LONGEST_OF_A_WEB : mg "LONGEST_OF_A_WEB" = some ad.u_LONGEST_OF_A_WEB
 r_LONGEST_OF_A_WEB : RelV (.int 8) ad.u_LONGEST_OF_A_WEB
 kt : tupIs K ad.KNOWN_TIMES [133, 211, 598, 652, 721, 850, 1282, 1417, 1582, 1681, 1726, 1837, 1885, 2017, 2377, 2383, 2452, 2476, 2530, 2611, 2662, 2698, 2773, 2878, 2917, 2980, 2998, 3082, 3238, 3250, 3343, 3421, 3427, 3670, 3817, 4162, 4252, 4447, 4468, 4621, 4630, 4747, 4867, 4891, 4915, 5128, 5143, 5236, 5401, 5587, 5650, 5803, 5833, 5923, 5986, 6202, 6235, 6286, 6496, 6526, 6736, 7093, 7561, 7696, 7831, 7855, 7882, 7927, 8143, 8248] = true
 cl_Web : Cls K ad.Web
 na_Web_words : NoAttr K ad.Web "words"
 na_Web_length : NoAttr K ad.Web "length"
theorem cxK2 {CX : CXT} {P : Program} {w : World} {K : PySem.W.Frag} {mg : Str → Option Value} {base : Heap} {N : List Str} {q : Str} {sc : Scope} {f : Addr} {cdv : Value} {A : Around} {outer : List Env} {s : Shared} {H : Hp} {E : XK} : (cxOf CX P w K mg base N q sc f cdv A outer s H E).nox.K = K := rfl
section
variable {P : Program} {w : World} {K : PySem.W.Frag} {mg : Str → Option Value} {base : Heap} {ad : Adr}

theorem abc6 {m : Nat} (h : m < 6) : ([97, 98, 99, 100, 101, 102] : List Nat)[m]? = some (97 + m) := by
 have key : ∀ m : Nat, m < 6 → ([97, 98, 99, 100, 101, 102] : List Nat)[m]? = some (97 + m) := by decide
 exact key m h
theorem abc_mem {k c : Nat} (hk : k ≤ 6) : c ∈ ([97, 98, 99, 100, 101, 102] : List Nat).take k ↔ 97 ≤ c ∧ c < 97 + k := by
 have key : ∀ k : Nat, k < 7 → ([97, 98, 99, 100, 101, 102] : List Nat).take k = (List.range k).map (97 + ·) := by decide
 rw [key k (Nat.lt_succ_of_le hk), List.mem_map]
 exact ⟨fun ⟨i, h, e⟩ => e ▸ ⟨Nat.le_add_right _ _, Nat.add_lt_add_left (List.mem_range.mp h) _⟩, fun ⟨h1, h2⟩ => ⟨c - 97, List.mem_range.mpr (Nat.sub_lt_left_of_lt_add h1 h2), Nat.add_sub_cancel' h1⟩⟩
noncomputable def spKindsX (ad : Adr) : Sp := fun vs H Q E => ∃ k : Int, vs = [.int k] ∧ ((1 ≤ k ∧ k ≤ 6) → Q .non H) ∧ (¬ (1 ≤ k ∧ k ≤ 6) → E (.ref ad.BadKinds) none H)
theorem ok_looked_kinds {f : Addr} {fd : FuncData} (F : Fun K "looked_kinds" "looked_kinds" s_looked_kinds f fd) (tt : Txt K mg ad) : FnOk P w K mg base (CX1 P w) 1 f fd ["kinds"] (spKindsX ad) := by
 refine F.okX sc_looked_kinds (fun vs H Q E h => ?_) (fun cdv A outer s H vs Q E hr h => ?_)
 ·obtain ⟨k, rfl, _⟩ := h
  rfl
 ·obtain ⟨k, rfl, q, x⟩ := h
  have hs : sizeLine = 16777216 := sizeLine_eq
  refine ⟨_, (pss_one (ps_if (PW.pt (pw_or (pt_cmpR op_lt (pv 0) pe_int (nomark _)) (pw_or1 (pt_cmpR op_gt (pv 0) (pe_callB call_len_T (by rfl) tt.b_len PySem.boot_len (pa_cons (pe_glob (by rfl) tt.g_LETTERS tt.r_LETTERS) pa_nil)) (nomark _))))) (pss_one (ps_raise (E := fun cls H' => E cls none H') tt.x_BadKinds rfl (fun _ _ _ _ _ _ _ I hx q => raiseX I hx q) (pa_cons (pe_strT [107, 105, 110, 100, 115, 32, 97, 114, 101, 32, 97, 32, 119, 104, 111, 108, 101, 32, 110, 117, 109, 98, 101, 114, 32, 102, 114, 111, 109, 32, 49, 32, 116, 111, 32, 54] (by decide +kernel)) pa_nil))) pss_nil)), ?_⟩
  (try rw [cxK2]); (try rw [cxK1])
  refine ⟨_, rfl, _, _, rfl, rfl, _, rfl, ?_⟩
  refine ite2 (fun h0 => iteT ?_) (fun h0 => ?_)
  ·have h1 : k < 1 := of_decide_eq_true h0
   exact ⟨(by show 1 ≤ sizeLine; omega), x fun z => by omega⟩
  ·have h1 : ¬ k < 1 := fun z => h0 (decide_eq_true z)
   refine ⟨_, rfl, _, rfl, (by show 6 ≤ sizeLine; omega), _, _, rfl, rfl, _, rfl, ?_⟩
   refine ite2 (fun h2 => ?_) (fun h2 => ?_)
   ·have h3 : (6 : Int) < k := of_decide_eq_true h2
    exact ⟨(by show 1 ≤ sizeLine; omega), x fun z => by omega⟩
   ·have h3 : ¬ (6 : Int) < k := fun z => h2 (decide_eq_true z)
    exact q ⟨by omega, by omega⟩

noncomputable def spLenX (ad : Adr) : Sp := fun vs H Q E => ∃ n k : Int, vs = [.int n, .int k] ∧ ((1 ≤ k ∧ k ≤ 6) → (1 ≤ n ∧ n ≤ 24) → Q .non H) ∧ (¬ (1 ≤ k ∧ k ≤ 6) → E (.ref ad.BadKinds) none H) ∧ ((1 ≤ k ∧ k ≤ 6) → ¬ (1 ≤ n ∧ n ≤ 24) → E (.ref ad.BadWord) none H)
theorem ok_looked_length {f : Addr} {fd : FuncData} (F : Fun K "looked_length" "looked_length" s_looked_length f fd) (tt : Txt K mg ad) (C_looked_kinds : Cal P w K mg base (CX1 P w) "looked_kinds" 1 ["kinds"] (spKindsX ad)) :
  FnOk P w K mg base (CX1 P w) 2 f fd ["length", "kinds"] (spLenX ad) := by
 refine F.okX sc_looked_length (fun vs H Q E h => ?_) (fun cdv A outer s H vs Q E hr h => ?_)
 ·obtain ⟨n, k, rfl, _⟩ := h
  rfl
 ·obtain ⟨n, k, rfl, q, x1, x2⟩ := h
  have hs : sizeLine = 16777216 := sizeLine_eq
  refine ⟨_, (pss_cons (ps_expr (pe_cal C_looked_kinds hr passX (pa_cons (pv 1) pa_nil)))
   (pss_one (ps_if (PW.pt (pw_or (pt_cmpR op_lt (pv 0) pe_int (nomark _)) (pw_or1 (pt_cmpR op_gt (pv 0) (pe_glob (by rfl) tt.g_LONGEST tt.r_LONGEST) (nomark _))))) (pss_one (ps_raise (E := fun cls H' => E cls none H') tt.x_BadWord rfl (fun _ _ _ _ _ _ _ I hx q => raiseX I hx q) (pa_cons (pe_strT [97, 32, 119, 111, 114, 100, 32, 104, 97, 115, 32, 49, 32, 116, 111, 32, 50, 52, 32, 108, 101, 116, 116, 101, 114, 115] (by decide +kernel)) pa_nil))) pss_nil))), ?_⟩
  (try rw [cxK2]); (try rw [cxK1])
  refine ⟨_, rfl, k, rfl, fun hk => ?_, x1⟩
  refine ⟨_, rfl, _, _, rfl, rfl, _, rfl, ?_⟩
  refine ite2 (fun h0 => iteT ?_) (fun h0 => ?_)
  ·have h1 : n < 1 := of_decide_eq_true h0
   exact ⟨(by show 1 ≤ sizeLine; omega), x2 hk fun z => by omega⟩
  ·have h1 : ¬ n < 1 := fun z => h0 (decide_eq_true z)
   refine ⟨_, rfl, _, _, rfl, rfl, _, rfl, ?_⟩
   refine ite2 (fun h2 => ?_) (fun h2 => ?_)
   ·have h3 : (24 : Int) < n := of_decide_eq_true h2
    exact ⟨(by show 1 ≤ sizeLine; omega), x2 hk fun z => by omega⟩
   ·have h3 : ¬ (24 : Int) < n := fun z => h2 (decide_eq_true z)
    exact q hk ⟨by omega, by omega⟩

noncomputable def spLettersX (ad : Adr) : Sp := fun vs H Q E => ∃ k : Int, vs = [.int k] ∧ (∀ kn : Nat, k = (kn : Nat) → (1 ≤ kn ∧ kn ≤ 6) → Q (T (([97, 98, 99, 100, 101, 102] : List Nat).take kn)) H) ∧ (¬ (1 ≤ k ∧ k ≤ 6) → E (.ref ad.BadKinds) none H)
theorem ok_letters {f : Addr} {fd : FuncData} (F : Fun K "letters" "letters" s_letters f fd) (tt : Txt K mg ad) (C_looked_kinds : Cal P w K mg base (CX1 P w) "looked_kinds" 1 ["kinds"] (spKindsX ad)) : FnOk P w K mg base (CX1 P w) 2 f fd ["kinds"] (spLettersX ad) := by
 refine F.okX sc_letters (fun vs H Q E h => ?_) (fun cdv A outer s H vs Q E hr h => ?_)
 ·obtain ⟨k, rfl, _⟩ := h
  rfl
 ·obtain ⟨k, rfl, q, x⟩ := h
  have hs : sizeLine = 16777216 := sizeLine_eq
  refine ⟨_, (pss_cons (ps_expr (pe_cal C_looked_kinds hr passX (pa_cons (pv 0) pa_nil)))
   (pss_one (ps_ret (pe_slice sl_T (pe_glob (by rfl) tt.g_LETTERS tt.r_LETTERS) po_none (po_some (pv 0)))))), ?_⟩
  (try rw [cxK2]); (try rw [cxK1])
  refine ⟨_, rfl, k, rfl, fun hk => ?_, x⟩
  obtain ⟨kn, rfl⟩ : ∃ kn : Nat, k = (kn : Nat) := ⟨k.toNat, by omega⟩
  refine ⟨_, rfl, _, rfl, _, rfl, (by show 6 ≤ sizeLine; omega), ?_⟩
  rw [cutL_to (by show kn ≤ 6; omega)]
  exact q kn rfl ⟨by omega, by omega⟩

noncomputable def Good (w : List Nat) (kn : Nat) : Prop := (1 ≤ w.length ∧ w.length ≤ 24) ∧ ∀ c ∈ w, 97 ≤ c ∧ c < 97 + kn
noncomputable def spLookedX (ad : Adr) : Sp := fun vs H Q E => ∃ (w : List Nat) (k : Int), vs = [T w, .int k] ∧ w.length ≤ 100000 ∧ (¬ (1 ≤ k ∧ k ≤ 6) → E (.ref ad.BadKinds) none H) ∧
 ∀ kn : Nat, k = (kn : Nat) → (1 ≤ kn ∧ kn ≤ 6) → (Good w kn → Q .non H) ∧ (¬ Good w kn → E (.ref ad.BadWord) none H)
theorem ok_looked {f : Addr} {fd : FuncData} (F : Fun K "looked" "looked" s_looked f fd) (tt : Txt K mg ad) (C_looked_length : Cal P w K mg base (CX1 P w) "looked_length" 2 ["length", "kinds"] (spLenX ad))
  (C_letters : Cal P w K mg base (CX1 P w) "letters" 2 ["kinds"] (spLettersX ad)) : FnOk P w K mg base (CX1 P w) 3 f fd ["word", "kinds"] (spLookedX ad) := by
 refine F.okX sc_looked (fun vs H Q E h => ?_) (fun cdv A outer s H vs Q E hr h => ?_)
 ·obtain ⟨w, k, rfl, _⟩ := h
  rfl
 ·obtain ⟨w, k, rfl, hw, x1, q⟩ := h
  have hs : sizeLine = 16777216 := sizeLine_eq
  refine ⟨_, (pss_cons (ps_expr (pe_cal C_looked_length hr passX (pa_cons (pe_callB call_len_T (by rfl) tt.b_len PySem.boot_len (pa_cons (pv 0) pa_nil)) (pa_cons (pv 1) pa_nil))))
   (pss_cons (ps_set (i := 2) sc_looked.nd rfl (Or.inl rfl) (pe_cal C_letters hr passX (pa_cons (pv 1) pa_nil)))
   (pss_one (ps_for PassesOwn.leaving rfl (pi_str (pv 0)) (pg_name (i := 3) sc_looked.nd rfl (Or.inl rfl)) (pss_one (ps_if (pt_cmpR op_notin_sT (pv 3) (pv 2) (by with_unfolding_all rfl)) (pss_one (ps_raise (E := fun cls H' => E cls none H') tt.x_BadWord rfl (fun _ _ _ _ _ _ _ I hx q => raiseX I hx q) (pa_cons (pe_strT [97, 32, 119, 111, 114, 100, 32, 104, 97, 115, 32, 108, 101, 116, 116, 101, 114, 115, 32, 111, 102, 32, 105, 116, 115, 32, 107, 105, 110, 100, 115, 32, 97, 108, 111, 110, 101] (by decide +kernel)) pa_nil))) pss_nil)))))), ?_⟩
  (try rw [cxK2]); (try rw [cxK1])
  refine ⟨_, rfl, _, rfl, (by omega), _, rfl, _, k, rfl, fun hk hn => ?_, x1, fun hk hn => ?_⟩
  rotate_left
  ·obtain ⟨kn, rfl⟩ : ∃ kn : Nat, k = (kn : Nat) := ⟨k.toNat, by omega⟩
   exact (q kn rfl ⟨by omega, by omega⟩).2 fun z => hn ⟨by have := z.1; omega, by have := z.1; omega⟩
  obtain ⟨kn, rfl⟩ : ∃ kn : Nat, k = (kn : Nat) := ⟨k.toNat, by omega⟩
  obtain ⟨q1, q2⟩ := q kn rfl ⟨by omega, by omega⟩
  refine ⟨_, rfl, _, rfl, fun kn' ek hk' => ?_, fun z => absurd hk z⟩
  obtain rfl : kn = kn' := by omega
  refine ⟨_, rfl, _, rfl, ?_⟩
  refine for_text (l := w) (fun i σ H2 => H = H2 ∧ (∀ c ∈ w.take i, 97 ≤ c ∧ c < 97 + kn) ∧ ∃ v, σ = [some (T w), some (.int (kn : Nat)), some (T (([97, 98, 99, 100, 101, 102] : List Nat).take kn)), v]) ⟨rfl, fun c hc => (by simp at hc), none, rfl⟩ ?_ ?_
  ·rintro i c σ H2 hi ⟨rfl, hall, v, rfl⟩
   refine ⟨_, rfl, _, rfl, _, rfl, _, rfl, _, rfl, ?_⟩
   refine ite2 (fun h0 => ?_) (fun h0 => ?_)
   ·have h1 : ¬ c ∈ ([97, 98, 99, 100, 101, 102] : List Nat).take kn := fun z => by
     rw [decide_eq_true z] at h0
     cases h0
    refine ⟨(by show 1 ≤ sizeLine; omega), q2 fun z => h1 ?_⟩
    exact (abc_mem (by omega)).mpr (z.2 c (List.mem_of_getElem? hi))
   ·have h1 : c ∈ ([97, 98, 99, 100, 101, 102] : List Nat).take kn := by
     apply Classical.byContradiction
     intro z
     rw [decide_eq_false z] at h0
     exact h0 rfl
    refine ⟨rfl, fun d hd => ?_, _, rfl⟩
    have hil := (List.getElem?_eq_some_iff.mp hi).1
    rw [List.take_add_one, hi] at hd
    rcases List.mem_append.mp hd with z | z
    ·exact hall d z
    ·have : d = c := by simpa using z
     subst this
     exact (abc_mem (by omega)).mp h1
  ·rintro σ H2 ⟨rfl, hall, v, rfl⟩
   rw [List.take_length] at hall
   exact q1 ⟨⟨by omega, by omega⟩, hall⟩

noncomputable def FewN (k : Nat) (ls : List (List Nat)) : Prop := ∃ ps : List (List Nat), ps.length ≤ k ∧ ∀ w ∈ ls, w.take (w.length - 1) ∈ ps ∧ w.drop 1 ∈ ps
noncomputable def Few (ls : List (List Nat)) : Prop := FewN 61 ls
theorem FewN.sub {k : Nat} {ls ms : List (List Nat)} (h : FewN k ls) (s : ∀ w ∈ ms, w ∈ ls) : FewN k ms := h.elim fun ps g => ⟨ps, g.1, fun w hw => g.2 w (s w hw)⟩
theorem FewN.len {k : Nat} {ls : List (List Nat)} (h : 2 * ls.length ≤ k) : FewN k ls := ⟨ls.map (fun w => w.take (w.length - 1)) ++ ls.map (fun w => w.drop 1), by rw [List.length_append, List.length_map, List.length_map]; omega, fun w hw => ⟨List.mem_append.mpr (.inl (List.mem_map.mpr ⟨w, hw, rfl⟩)), List.mem_append.mpr (.inr (List.mem_map.mpr ⟨w, hw, rfl⟩))⟩⟩
theorem uniq_len {ls : List (List Nat)} (h : ls.Nodup) : (uniq ls).length = ls.length := ((List.perm_ext_iff_of_nodup (uniq_nodup ls) h).mpr fun x => uniq_mem ls x).length_eq
theorem sq_put {H : Hp} {p x C dx : Addr} {fs : List (Str × V)} {xs : List V} {o : HO} (h : SqL K H p xs) (hx : H x = some (.ins C dx fs)) : SqL K (upd H x o) p xs := by
 rcases h with (h | ⟨q, h⟩) | h
 ·exact .inl (.inl (by rw [upd_ne (fun z => by subst z; rw [hx] at h; cases h)]; exact h))
 ·exact .inl (.inr ⟨q, by rw [upd_ne (fun z => by subst z; rw [hx] at h; cases h)]; exact h⟩)
 ·exact .inr h
noncomputable def WebOk (ls : List (List Nat)) (n : Nat) : Prop := ls ≠ [] ∧ ls.length ≤ 63 ∧ ((1 ≤ n ∧ n ≤ 8) ∧ Few ls) ∧ (∀ x ∈ ls, x.length = n ∧ ∀ c ∈ x, 97 ≤ c ∧ c < 103) ∧ ls.Nodup
noncomputable def spWebL (K : PySem.W.Frag) : Sp := fun vs H Q _ => ∃ (p : Addr) (ls : List (List Nat)) (n : Nat), vs = [.ref p] ∧ SqL K H p (ls.map T) ∧ WebOk ls n ∧ ∀ H', Same H H' → Q .non H'
theorem ok_looked_web {f : Addr} {fd : FuncData} (F : Fun K "looked_web" "looked_web" s_looked_web f fd) (tt : Txt K mg ad) (C_looked : Cal P w K mg base (CX1 P w) "looked" 3 ["word", "kinds"] (spLookedX ad)) :
  FnOk P w K mg base (CX1 P w) 4 f fd ["words"] (spWebL K) := by
 refine F.okX sc_looked_web (fun vs H Q E h => ?_) (fun cdv A outer s H vs Q E hr h => ?_)
 ·obtain ⟨p, ls, n, rfl, _⟩ := h
  rfl
 ·obtain ⟨p, ls, n, rfl, hS, ⟨hne, h64, hn, hx, hnd⟩, q⟩ := h
  have hs : sizeLine = 16777216 := sizeLine_eq
  have hl0 : 0 < ls.length := List.length_pos_iff.mpr hne
  obtain ⟨x0, hx0⟩ : ∃ x0, ls[0]? = some x0 := ⟨_, List.getElem?_eq_getElem hl0⟩
  have hx0l := (hx x0 (List.mem_of_getElem? hx0)).1
  refine ⟨_, (pss_cons (ps_if (pt_cmpR op_gt (pe_callB call_len_seq (by rfl) tt.b_len PySem.boot_len (pa_cons (pv 0) pa_nil)) (pe_glob (by rfl) tt.g_MOST_OF_A_WEB tt.r_MOST_OF_A_WEB) (nomark _)) (pss_one (ps_raise (E := fun cls H' => E cls none H') tt.x_TooMany rfl (fun _ _ _ _ _ _ _ I hx q => raiseX I hx q) (pa_cons (pe_strT [97, 32, 119, 101, 98, 32, 104, 97, 115, 32, 97, 116, 32, 109, 111, 115, 116, 32, 54, 52, 32, 119, 111, 114, 100, 115] (by decide +kernel)) pa_nil))) pss_nil)
   (pss_cons (ps_if (pt_cmpR op_eq_I (pe_callB call_len_seq (by rfl) tt.b_len PySem.boot_len (pa_cons (pv 0) pa_nil)) pe_int (nomark _)) (pss_one (ps_raise (E := fun cls H' => E cls none H') tt.x_BadWord rfl (fun _ _ _ _ _ _ _ I hx q => raiseX I hx q) (pa_cons (pe_strT [97, 32, 119, 101, 98, 32, 104, 97, 115, 32, 97, 116, 32, 108, 101, 97, 115, 116, 32, 111, 110, 101, 32, 119, 111, 114, 100] (by decide +kernel)) pa_nil))) pss_nil)
   (pss_cons (ps_for PassesOwn.leaving rfl (pi_list (pv 0)) (pg_name (i := 1) sc_looked_web.nd rfl (Or.inl rfl)) (pss_cons (ps_expr (pe_cal C_looked hr passX (pa_cons (pv 1) (pa_cons (pe_callB call_len_T (by rfl) tt.b_len PySem.boot_len (pa_cons (pe_glob (by rfl) tt.g_LETTERS tt.r_LETTERS) pa_nil)) pa_nil))))
   (pss_cons (ps_if (pt_cmpR op_gt (pe_callB call_len_T (by rfl) tt.b_len PySem.boot_len (pa_cons (pv 1) pa_nil)) (pe_glob (by rfl) tt.g_LONGEST_OF_A_WEB tt.r_LONGEST_OF_A_WEB) (nomark _)) (pss_one (ps_raise (E := fun cls H' => E cls none H') tt.x_BadWord rfl (fun _ _ _ _ _ _ _ I hx q => raiseX I hx q) (pa_cons (pe_strT [97, 32, 119, 111, 114, 100, 32, 111, 102, 32, 97, 32, 119, 101, 98, 32, 104, 97, 115, 32, 97, 116, 32, 109, 111, 115, 116, 32, 56, 32, 108, 101, 116, 116, 101, 114, 115] (by decide +kernel)) pa_nil))) pss_nil)
   (pss_one (ps_if (pt_cmpR op_ne_I (pe_callB call_len_T (by rfl) tt.b_len PySem.boot_len (pa_cons (pv 1) pa_nil)) (pe_callB call_len_T (by rfl) tt.b_len PySem.boot_len (pa_cons (pe_ix ix_list (pv 0) pe_int (fun _ _ => rfl)) pa_nil)) (nomark _)) (pss_one (ps_raise (E := fun cls H' => E cls none H') tt.x_BadWord rfl (fun _ _ _ _ _ _ _ I hx q => raiseX I hx q) (pa_cons (pe_strT [116, 104, 101, 32, 119, 111, 114, 100, 115, 32, 111, 102, 32, 97, 32, 119, 101, 98, 32, 104, 97, 118, 101, 32, 111, 110, 101, 32, 108, 101, 110, 103, 116, 104] (by decide +kernel)) pa_nil))) pss_nil)))))
   (pss_one (ps_if (pt_cmpR op_ne_I (pe_callB call_lenS (by rfl) tt.b_len PySem.boot_len (pa_cons (pe_callTy (call_setT rfl) (by rfl) tt.b_set (by decide +kernel) (pa_cons (pv 0) pa_nil)) pa_nil)) (pe_callB call_len_seq (by rfl) tt.b_len PySem.boot_len (pa_cons (pv 0) pa_nil)) (nomark _)) (pss_one (ps_raise (E := fun cls H' => E cls none H') tt.x_BadWord rfl (fun _ _ _ _ _ _ _ I hx q => raiseX I hx q) (pa_cons (pe_strT [97, 32, 119, 111, 114, 100, 32, 115, 116, 97, 110, 100, 115, 32, 105, 110, 32, 97, 32, 119, 101, 98, 32, 111, 110, 99, 101] (by decide +kernel)) pa_nil))) pss_nil))))), ?_⟩
  (try rw [cxK2]); (try rw [cxK1])
  refine ⟨_, rfl, p, _, rfl, .inl hS, _, _, rfl, rfl, _, rfl, ?_⟩
  rw [List.length_map]
  refine ite2 (fun h0 => absurd (of_decide_eq_true h0) (by omega)) (fun _ => ?_)
  refine ⟨_, rfl, p, _, rfl, .inl hS, _, rfl, _, rfl, _, rfl, ?_⟩
  rw [List.length_map]
  refine ite2 (fun h0 => absurd (of_decide_eq_true h0) (by omega)) (fun _ => ?_)
  refine ⟨_, rfl, p, rfl, ⟨_, hS⟩, ?_⟩
  refine for_list (K := K) (a := p) (xs := ls.map T) (fun i σ H2 => H2 = H ∧ ∃ v, σ = [some (.ref p), v]) ⟨rfl, none, rfl⟩ (fun i σ H2 _ h => by rw [h.1]; exact hS) ?_ ?_
  ·rintro i y σ H2 hi ⟨rfl, v, rfl⟩
   obtain ⟨x, hxi, rfl⟩ : ∃ x, ls[i]? = some x ∧ y = T x := by
    rw [List.getElem?_map] at hi
    obtain ⟨x, h1, h2⟩ := Option.map_eq_some_iff.mp hi
    exact ⟨x, h1, h2.symm⟩
   obtain ⟨hxl, hxc⟩ := hx x (List.mem_of_getElem? hxi)
   have hg : ∀ kn : Nat, (6 : Int) = (kn : Nat) → Good x kn := fun kn e => ⟨⟨by omega, by omega⟩, fun c hc => by have := hxc c hc; omega⟩
   refine ⟨_, rfl, _, rfl, (by show 6 ≤ sizeLine; omega), x, 6, rfl, (by omega), fun z => absurd ⟨by decide, by decide⟩ z, fun kn ek hk => ⟨fun _ => ?_, fun z => absurd (hg kn ek) z⟩⟩
   refine ⟨_, rfl, _, rfl, (by omega), _, _, rfl, rfl, _, rfl, ?_⟩
   refine ite2 (fun h0 => absurd (of_decide_eq_true h0) (by omega)) (fun _ => ?_)
   refine ⟨_, rfl, _, rfl, (by omega), _, rfl, p, _, _, _, rfl, rfl, hS, atI_nat (j := 0) (by rw [List.getElem?_map, hx0]; rfl), _, rfl, (by omega), _, rfl, _, rfl, _, rfl, ?_⟩
   refine iteNS (by rw [hxl, hx0l]) ?_
   exact ⟨rfl, _, rfl⟩
  ·rintro σ H2 ⟨rfl, v, rfl⟩
   refine ⟨_, rfl, p, ls, rfl, hS, (by omega), fun D hD => ?_⟩
   have sD : Same H2 (upd H2 D (SetT P w D (uniq ls))) := fun b o e => by rw [upd_ne (ne_of_none e hD)]; exact e
   refine ⟨D, _, rfl, upd_same, _, rfl, p, _, rfl, .inl (sD.seq hS), _, rfl, _, rfl, _, rfl, ?_⟩
   refine iteNS (by rw [List.length_map, uniq_len hnd]) ?_
   exact q _ sD
noncomputable def flds (tp : Addr) (n : Int) : List (Str × V) := putF "length" (.int n) (putF "words" (.ref tp) [])
theorem flds_w (tp : Addr) (n : Int) : (flds tp n).lookup ("words" : Str) = some (.ref tp) := by
 unfold flds
 rw [lookup_putF, if_neg (by decide +kernel), lookup_putF, if_pos rfl]
noncomputable def spWebI (K : PySem.W.Frag) (C : Addr) : Sp := fun vs H Q _ => ∃ (x dx p : Addr) (ls : List (List Nat)) (n : Nat), vs = [.ref x, .ref p] ∧ H x = some (.ins C dx []) ∧ SqL K H p (ls.map T) ∧ WebOk ls n ∧
 ∀ (tp : Addr) (ms : List (List Nat)) (H' : Hp), ms.Perm ls → ms.Pairwise (fun a b => ¬ b < a) → (∀ b o, H b = some o → b ≠ x → H' b = some o) → H' x = some (.ins C dx (flds tp (n : Nat))) → H' tp = some (.tup (ms.map T)) → Q .non H'
theorem ok_Web_init {f : Addr} {fd : FuncData} (F : Fun K "__init__" "Web.__init__" s_Web_init f fd) (tt : Txt K mg ad) (C_looked_web : Cal P w K mg base (CX1 P w) "looked_web" 4 ["words"] (spWebL K)) :
  FnOk P w K mg base (CX1 P w) 5 f fd ["self", "words"] (spWebI K ad.Web) := by
 refine F.okX sc_Web_init (fun vs H Q E h => ?_) (fun cdv A outer s H vs Q E hr h => ?_)
 ·obtain ⟨x, dx, p, ls, n, rfl, _⟩ := h
  rfl
 ·obtain ⟨x, dx, p, ls, n, rfl, hx, hS, hok, q⟩ := h
  have hs : sizeLine = 16777216 := sizeLine_eq
  obtain ⟨hne, h64, hn, hxs, hnd⟩ := id hok
  have hl0 : 0 < ls.length := List.length_pos_iff.mpr hne
  obtain ⟨x0, hx0⟩ : ∃ x0, ls[0]? = some x0 := ⟨_, List.getElem?_eq_getElem hl0⟩
  have hx0l := (hxs x0 (List.mem_of_getElem? hx0)).1
  refine ⟨_, (pss_cons (ps_expr (pe_cal C_looked_web hr passX (pa_cons (pv 1) pa_nil)))
   (pss_cons (ps_fld (pv 0) (pe_callTy call_tuple_of (by rfl) tt.b_tuple (by decide +kernel) (pa_cons (pe_callB call_sortedT (by rfl) tt.b_sorted PyProof.Rows.boot_sorted (pa_cons (pv 1) pa_nil)) pa_nil)) rfl)
   (pss_one (ps_fld (pv 0) (pe_callB call_len_T (by rfl) tt.b_len PySem.boot_len (pa_cons (pe_ix ix_list (pv 1) pe_int (fun _ _ => rfl)) pa_nil)) rfl)))), ?_⟩
  (try rw [cxK2]); (try rw [cxK1])
  refine ⟨_, rfl, p, ls, n, rfl, hS, hok, fun H1 s1 => ?_⟩
  refine ⟨_, rfl, p, ls, rfl, s1.seq hS, (by omega), fun ms D hD hperm hpw => ?_⟩
  have s2 : Same H1 (upd H1 D (.lst (ms.map T))) := fun b o e => by rw [upd_ne (ne_of_none e hD)]; exact e
  refine ⟨D, _, rfl, .inl ⟨SqL.of upd_same, fun tp htp => ?_⟩⟩
  have s3 : Same (upd H1 D (.lst (ms.map T))) (upd (upd H1 D (.lst (ms.map T))) tp (.tup (ms.map T))) := fun b o e => by rw [upd_ne (ne_of_none e htp)]; exact e
  generalize hH3 : upd (upd H1 D (.lst (ms.map T))) tp (.tup (ms.map T)) = H3 at s3
  have htp3 : H3 tp = some (.tup (ms.map T)) := by rw [← hH3]; exact upd_same
  have s13 : Same H H3 := s1.trans (s2.trans s3)
  have hx3 := s13 x _ hx
  have hxt : tp ≠ x := fun z => by subst z; rw [htp3] at hx3; cases hx3
  refine ⟨_, rfl, x, ad.Web, dx, [], rfl, hx3, tt.cl_Web, tt.na_Web_words, (by show 0 < 1000; decide), ?_⟩
  have hS4 : SqL K (upd H3 x (.ins ad.Web dx (putF "words" (.ref tp) []))) p (ls.map T) := sq_put (s13.seq hS) hx3
  refine ⟨_, rfl, p, _, _, _, rfl, rfl, hS4, atI_nat (j := 0) (by rw [List.getElem?_map, hx0]; rfl), _, rfl, (by omega), _, rfl, x, ad.Web, dx, _, rfl, upd_same, tt.cl_Web, tt.na_Web_length, (by show 1 < 1000; decide), ?_⟩
  refine q tp ms _ hperm hpw (fun b o e hb => ?_) ?_ ?_
  ·rw [upd_ne hb, upd_ne hb]
   exact s13 b o e
  ·rw [upd_same, hx0l]
   rfl
  ·rw [upd_ne hxt, upd_ne hxt]
   exact htp3
noncomputable def WebAt (C : Addr) (H : Hp) (x tp : Addr) (n : Nat) (ms : List (List Nat)) : Prop := (∃ dx, H x = some (.ins C dx (flds tp (n : Nat)))) ∧ H tp = some (.tup (ms.map T))
theorem WebAt.on {C : Addr} {H H' : Hp} {x tp : Addr} {n : Nat} {ms : List (List Nat)} (h : WebAt C H x tp n ms) (s : Same H H') : WebAt C H' x tp n ms := let ⟨⟨dx, e⟩, t⟩ := h; ⟨⟨dx, s _ _ e⟩, s _ _ t⟩

noncomputable def spBegin : Sp := fun vs H Q _ => ∃ t : List Nat, vs = [T t] ∧ (1 ≤ t.length ∧ t.length ≤ 1000) ∧ Q (T (t.take (t.length - 1))) H
theorem cut_begin {t : List Nat} (h : 1 ≤ t.length) : cutL t none (some (-1)) = t.take (t.length - 1) := by
 unfold cutL
 rw [HT.sIx_none, List.drop_zero, Nat.sub_zero]
 show t.take (if (-1 : Int) < 0 then ((-1 : Int) + (t.length : Int)).toNat else min (-1 : Int).toNat t.length) = _
 rw [if_pos (by decide), show ((-1 : Int) + (t.length : Int)).toNat = t.length - 1 by omega]
theorem ok_begin_of {f : Addr} {fd : FuncData} (F : Fun K "begin_of" "begin_of" s_begin_of f fd) (tt : Txt K mg ad) : FnOk P w K mg base (CX1 P w) 1 f fd ["word"] spBegin := by
 refine F.okN sc_begin_of (fun vs H Q E h => ?_) (fun cdv A outer s H vs Q E hr h => ?_)
 ·obtain ⟨t, rfl, _⟩ := h
  rfl
 ·obtain ⟨t, rfl, hl, q⟩ := h
  have hs : sizeLine = 16777216 := sizeLine_eq
  refine ⟨_, (pss_one (ps_ret (pe_slice sl_T (pv 0) po_none (po_some (pe_un un_neg pe_int))))), ?_⟩
  (try rw [cxK2]); (try rw [cxK1])
  refine ⟨_, rfl, _, rfl, _, rfl, _, rfl, (by omega), ?_⟩
  rw [show -(1 : Int) = -1 from rfl, cut_begin hl.1]
  exact q
noncomputable def spEnd : Sp := fun vs H Q _ => ∃ t : List Nat, vs = [T t] ∧ (1 ≤ t.length ∧ t.length ≤ 1000) ∧ Q (T (t.drop 1)) H
theorem ok_end_of {f : Addr} {fd : FuncData} (F : Fun K "end_of" "end_of" s_end_of f fd) (tt : Txt K mg ad) : FnOk P w K mg base (CX1 P w) 1 f fd ["word"] spEnd := by
 refine F.okN sc_end_of (fun vs H Q E h => ?_) (fun cdv A outer s H vs Q E hr h => ?_)
 ·obtain ⟨t, rfl, _⟩ := h
  rfl
 ·obtain ⟨t, rfl, hl, q⟩ := h
  have hs : sizeLine = 16777216 := sizeLine_eq
  refine ⟨_, (pss_one (ps_ret (pe_slice sl_T (pv 0) (po_some pe_int) po_none))), ?_⟩
  (try rw [cxK2]); (try rw [cxK1])
  refine ⟨_, rfl, _, rfl, _, rfl, (by omega), ?_⟩
  have e : cutL t (some 1) none = t.drop 1 := cutL_from (k := 1) hl.1
  rw [e]
  exact q

theorem same_upd {H : Hp} {D : Addr} {o : HO} (h : H D = none) : Same H (upd H D o) := fun b u e => by rw [upd_ne (ne_of_none e h)]; exact e
theorem named {H G : Hp} (s : Same H G) : ∃ H', H' = G ∧ Same H H' := ⟨G, rfl, s⟩
noncomputable def beg (l : List Nat) : List Nat := l.take (l.length - 1)
noncomputable def Abc (x : List Nat) : Prop := ∀ c ∈ x, 97 ≤ c ∧ c < 103
theorem inV_T {t : List Nat} : ∀ {ls : List (List Nat)}, inV (T t) (ls.map T) = decide (t ∈ ls)
 | [] => by simp [inV]
 | l :: ls => by
  have ih := @inV_T t ls
  have e : inV (T t) ((l :: ls).map T) = (eqV (T l) (T t) || inV (T t) (ls.map T)) := rfl
  have e2 : eqV (T l) (T t) = decide (t = l) := by
   show (tx l == tx t) = decide (t = l)
   rw [Bool.eq_iff_iff, beq_iff_eq, decide_eq_true_iff]
   exact ⟨fun h => (tx_inj h).symm, fun h => by rw [h]⟩
  rw [e, ih, e2, Bool.eq_iff_iff, Bool.or_eq_true, decide_eq_true_iff, decide_eq_true_iff, decide_eq_true_iff, List.mem_cons]
theorem itP {c A B : Prop} [Decidable c] (hc : c) (h : A) : if c then A else B := by rw [if_pos hc]; exact h
theorem itN {c A B : Prop} [Decidable c] (hc : ¬ c) (h : B) : if c then A else B := by rw [if_neg hc]; exact h

noncomputable def IsP (ms : List (List Nat)) (z : List Nat) : Prop := ∃ w ∈ ms, z = beg w ∨ z = w.drop 1
theorem few_len1 {k : Nat} {ls ps : List (List Nat)} {p : List Nat} (h : FewN k ls) (hn : ps.Nodup) (hm : ∀ z ∈ ps, z = p ∨ IsP ls z) : ps.length ≤ k + 1 := by
 obtain ⟨qs, h1, h2⟩ := h
 have := Hg.nd_len (ms := p :: qs) hn fun z hz => by
  rcases hm z hz with rfl | ⟨w, hw, rfl | rfl⟩
  ·exact List.mem_cons_self ..
  ·exact List.mem_cons_of_mem _ (h2 w hw).1
  ·exact List.mem_cons_of_mem _ (h2 w hw).2
 rw [List.length_cons] at this
 omega
theorem few64 {ls ps : List (List Nat)} {p : List Nat} (h : Few ls) (hn : ps.Nodup) (hm : ∀ z ∈ ps, z = p ∨ IsP ls z) : ps.length < 64 := by
 have := few_len1 h hn hm
 omega
noncomputable def spPieces (C : Addr) : Sp := fun vs H Q _ => ∃ (x tp : Addr) (n : Nat) (ms : List (List Nat)), vs = [.ref x] ∧ WebAt C H x tp n ms ∧ WebOk ms n ∧
 ∀ (D : Addr) (ps : List (List Nat)) (H' : Hp), H D = none → Same H H' → H' D = some (.lst (ps.map T)) → ps.Pairwise (fun a b => ¬ b < a) → ps.Nodup → (∀ z, z ∈ ps ↔ IsP ms z) → Q (.ref D) H'
theorem ok_pieces {f : Addr} {fd : FuncData} (F : Fun K "pieces" "pieces" s_pieces f fd) (tt : Txt K mg ad) (C_begin_of : Cal P w K mg base (CX1 P w) "begin_of" 1 ["word"] spBegin) (C_end_of : Cal P w K mg base (CX1 P w) "end_of" 1 ["word"] spEnd) :
  FnOk P w K mg base (CX1 P w) 2 f fd ["web"] (spPieces ad.Web) := by
 refine F.okN sc_pieces (fun vs H Q E h => ?_) (fun cdv A outer s H vs Q E hr h => ?_)
 ·obtain ⟨x, tp, n, ms, rfl, _⟩ := h
  rfl
 ·obtain ⟨x, tp, n, ms, rfl, hW, hok, q⟩ := h
  have hs : sizeLine = 16777216 := sizeLine_eq
  obtain ⟨⟨dx, hx⟩, htp⟩ := id hW
  obtain ⟨hne, h64, hn, hxs, hnd⟩ := id hok
  have ulen : ∀ ls : List (List Nat), (uniq ls).length ≤ ls.length := fun ls => nubTo_len ls _
  refine ⟨_, (pss_one (ps_ret (pe_callB (call_sortedIS rfl) (by rfl) tt.b_sorted PyProof.Rows.boot_sorted (pa_cons (pe_op op_orI (pe_callTy (call_setI rfl) (by rfl) tt.b_set (by decide +kernel) (pa_cons (pe_comp cs_pieces_0 rfl (pi_tup (pe_fld (pv 0) rfl)) (fun cl C s' H' fp => (pe_cal C_begin_of hr pass1 (pa_cons (pv 0) pa_nil)))) pa_nil)) (pe_callTy (call_setI rfl) (by rfl) tt.b_set (by decide +kernel) (pa_cons (pe_comp cs_pieces_1 rfl (pi_tup (pe_fld (pv 0) rfl)) (fun cl C s' H' fp => (pe_cal C_end_of hr pass1 (pa_cons (pv 0) pa_nil)))) pa_nil))) pa_nil)))), ?_⟩
  (try rw [cxK2]); (try rw [cxK1])
  refine ⟨_, rfl, x, ad.Web, dx, _, _, rfl, hx, tt.cl_Web, tt.na_Web_words, flds_w _ _, tp, rfl, ⟨_, SqT.of htp⟩, ?_⟩
  refine compG (fun v => T (beg (unT v))) (reads_tup (SqT.of htp)) (by rw [List.length_map]; omega) (fun v H2 hv s2 N hN => ?_) fun D1 H2 hD1 s2 hd2 => ?_
  ·obtain ⟨l, hl, rfl⟩ := List.mem_map.mp hv
   have hll := (hxs l hl).1
   have z := hN H2 (Same.refl _)
   rw [unT_T] at z
   exact ⟨_, rfl, l, rfl, ⟨by omega, by omega⟩, z⟩
  rw [map_unT (f := fun l => T (beg l)), show ms.map (fun l => T (beg l)) = (ms.map beg).map T by rw [List.map_map]; rfl] at hd2
  refine ⟨D1, ms.map beg, rfl, SqL.of hd2, (by rw [List.length_map]; omega), fun S1 hS1 => ?_⟩
  have s3 := s2.trans (same_upd (o := SetI w S1 (uniq (ms.map beg))) hS1)
  have hd3 : upd H2 S1 (SetI w S1 (uniq (ms.map beg))) S1 = some (SetI w S1 (uniq (ms.map beg))) := upd_same
  refine ⟨_, rfl, x, ad.Web, dx, _, _, rfl, s3 x _ hx, tt.cl_Web, tt.na_Web_words, flds_w _ _, tp, rfl, ⟨_, SqT.of (s3 tp _ htp)⟩, ?_⟩
  refine compG (fun v => T ((unT v).drop 1)) (reads_tup (SqT.of (s3 tp _ htp))) (by rw [List.length_map]; omega) (fun v H4 hv s4 N hN => ?_) fun D2 H4 hD2 s4 hd4 => ?_
  ·obtain ⟨l, hl, rfl⟩ := List.mem_map.mp hv
   have hll := (hxs l hl).1
   have z := hN H4 (Same.refl _)
   rw [unT_T] at z
   exact ⟨_, rfl, l, rfl, ⟨by omega, by omega⟩, z⟩
  rw [map_unT (f := fun l => T (l.drop 1)), show ms.map (fun l => T (l.drop 1)) = (ms.map fun l => l.drop 1).map T by rw [List.map_map]; rfl] at hd4
  refine ⟨D2, ms.map (fun l => l.drop 1), rfl, SqL.of hd4, (by rw [List.length_map]; omega), fun S2 hS2 => ?_⟩
  have s5 := same_upd (o := SetI w S2 (uniq (ms.map fun l => l.drop 1))) hS2
  have l1 := ulen (ms.map beg)
  have l2 := ulen (ms.map fun l => l.drop 1)
  rw [List.length_map] at l1 l2
  have hS1' := s5 S1 _ (s4 S1 _ hd3)
  have ne12 : S1 ≠ S2 := fun z => by
   have g := s4 S1 _ hd3
   rw [z, hS2] at g
   cases g
  refine ⟨S1, S2, _, _, rfl, rfl, ne12, hS1', upd_same, (fun z => ?_), (by omega), fun D5 qs hD5 hqn hql hqm => ?_⟩
  ·obtain ⟨m0, hm0⟩ : ∃ m0, m0 ∈ ms := List.exists_mem_of_ne_nil _ hne
   have : beg m0 ∈ uniq (ms.map beg) := (uniq_mem _ _).mpr (List.mem_map_of_mem hm0)
   rw [z] at this
   cases this
  have s6 := same_upd (o := SetI w D5 qs) hD5
  refine ⟨D5, qs, rfl, upd_same, (few64 (p := []) hok.2.2.1.2 hqn fun z hz => .inr ?few), fun ps D6 hD6 hp6 hw6 => ?_⟩
  case few =>
   rw [hqm, uniq_mem, uniq_mem, List.mem_map, List.mem_map] at hz
   rcases hz with ⟨l, hl, rfl⟩ | ⟨l, hl, rfl⟩
   ·exact ⟨l, hl, .inl rfl⟩
   ·exact ⟨l, hl, .inr rfl⟩
  have s7 := same_upd (o := .lst (ps.map T)) hD6
  have sall := s3.trans (s4.trans (s5.trans (s6.trans s7)))
  have hD6' : H D6 = none := by
   cases e : H D6 with
   | none => rfl
   | some o =>
    have g := (s3.trans (s4.trans (s5.trans s6))) D6 o e
    exact absurd (g.symm.trans hD6) (fun z => nomatch z)
  refine q D6 ps _ hD6' sall upd_same hw6 (hp6.nodup_iff.mpr hqn) fun z => ?_
  rw [hp6.mem_iff, hqm, uniq_mem, uniq_mem, List.mem_map, List.mem_map]
  constructor
  ·rintro (⟨l, hl, rfl⟩ | ⟨l, hl, rfl⟩)
   ·exact ⟨l, hl, .inl rfl⟩
   ·exact ⟨l, hl, .inr rfl⟩
  ·rintro ⟨l, hl, rfl | rfl⟩
   ·exact .inl ⟨l, hl, rfl⟩
   ·exact .inr ⟨l, hl, rfl⟩
theorem cut_from {xs : List V} {k : Nat} (h : k ≤ xs.length) : cutV xs (some (k : Int)) none = xs.drop k := by
 unfold cutV
 rw [HT.sIx_none, show HT.sIx xs.length 0 (some (k : Int)) = min k xs.length from HT.sIx_nat _ _ k, Nat.min_eq_left h, List.take_of_length_le (by rw [List.length_drop]; exact Nat.le_refl _)]
theorem cut_to {xs : List V} {k : Nat} (h : k ≤ xs.length) : cutV xs none (some (k : Int)) = xs.take k := by
 unfold cutV
 rw [HT.sIx_none, List.drop_zero, Nat.sub_zero, HT.sIx_nat, Nat.min_eq_left h]
theorem bg_le {i : Int} {n : Nat} (h : i.natAbs ≤ n) (hn : n < 2 ^ 8000) : Bg i := Nat.lt_of_le_of_lt h hn
theorem lt8000 {n k : Nat} (h : n < 2 ^ k) (hk : k ≤ 8000) : n < 2 ^ 8000 := Nat.lt_of_lt_of_le h (Nat.pow_le_pow_right (by decide) hk)
theorem int_at0 {ns : List Int} {j : Nat} (h : j < ns.length) : (ns.map V.int)[j]? = some (.int (ns.getD j 0)) := by
 rw [List.getElem?_map, List.getD_eq_getElem?_getD, List.getElem?_eq_getElem h]
 rfl

theorem SqL.keepTwo {K : PySem.W.Frag} {H G : Hp} {a : Addr} {xs : List V} (h : SqL K H a xs) (k : ∀ o, H a = some o → G a = some o) : SqL K G a xs := by
 rcases h with (h | ⟨q, h⟩) | h
 ·exact .inl (.inl (k _ h))
 ·exact .inl (.inr ⟨q, k _ h⟩)
 ·exact .inr h

noncomputable def spInvs : Sp := fun vs H Q _ => ∃ (num : Int) (pr : Nat), vs = [.int num, .int (pr : Nat)] ∧ Dt.PrimeN pr ∧ pr < 2 ^ 1000 ∧ num % (pr : Int) ≠ 0 ∧ ∀ inv : Int, Dt.Cg pr (inv * num) 1 → 0 ≤ inv ∧ inv < pr → Q (.int inv) H
theorem ok_inverse {f : Addr} {fd : FuncData} (F : Fun K "inverse" "inverse" s_inverse f fd) (tt : Txt K mg ad) : FnOk P w K mg base (CX1 P w) 1 f fd ["number", "prime"] spInvs := by
 refine F.okN sc_inverse (fun vs H Q E h => ?_) (fun cdv A outer s H vs Q E hr h => ?_)
 ·obtain ⟨num, pr, rfl, _⟩ := h
  rfl
 ·obtain ⟨num, pr, rfl, hp, hpl, h0, q⟩ := h
  have hp1 := hp.1
  have hpos : (0 : Int) < (pr : Int) := by omega
  have h8 := lt8000 hpl (by decide)
  obtain ⟨r, hr'⟩ : ∃ r : Nat, num % (pr : Int) = r := ⟨(num % pr).toNat, by have := Int.emod_nonneg num (show (pr : Int) ≠ 0 by omega); omega⟩
  have hrl : r < pr := by have := Int.emod_lt_of_pos num hpos; omega
  refine ⟨_, (pss_cons (ps_set (i := 2) sc_inverse.nd rfl (Or.inl rfl) (pv 1))
   (pss_cons (ps_set (i := 3) sc_inverse.nd rfl (Or.inl rfl) (pe_op op_mod (pv 0) (pv 1)))
   (pss_cons (ps_set (i := 4) sc_inverse.nd rfl (Or.inl rfl) pe_int)
   (pss_cons (ps_set (i := 5) sc_inverse.nd rfl (Or.inl rfl) pe_int)
   (pss_cons (ps_while PassesOwn.never (pt_cmpR op_ne_I (pv 3) pe_int (nomark _)) (pss_cons (ps_set (i := 6) sc_inverse.nd rfl (Or.inl rfl) (pe_op op_fdivB (pv 2) (pv 3)))
   (pss_cons (ps_set (i := 7) sc_inverse.nd rfl (Or.inl rfl) (pe_op op_sub (pv 2) (pe_op op_mulB (pv 6) (pv 3))))
   (pss_cons (ps_set (i := 2) sc_inverse.nd rfl (Or.inl rfl) (pv 3))
   (pss_cons (ps_set (i := 3) sc_inverse.nd rfl (Or.inl rfl) (pv 7))
   (pss_cons (ps_set (i := 8) sc_inverse.nd rfl (Or.inl rfl) (pe_op op_sub (pv 4) (pe_op op_mulB (pv 6) (pv 5))))
   (pss_cons (ps_set (i := 4) sc_inverse.nd rfl (Or.inl rfl) (pv 5))
   (pss_one (ps_set (i := 5) sc_inverse.nd rfl (Or.inl rfl) (pv 8))))))))))
   (pss_one (ps_ret (pe_op op_mod (pv 5) (pv 1))))))))), ?_⟩
  (try rw [cxK2]); (try rw [cxK1])
  refine ⟨_, rfl, ?_⟩
  refine ⟨_, rfl, _, rfl, _, _, rfl, rfl, hpos, ?_⟩
  refine ⟨fun m σ H2 => H2 = H ∧ ∃ (last rest : Nat) (lt t : Int) (v6 v7 v8 : Option V), m = rest ∧ Dt.Euc pr num last rest lt t ∧ (last ≤ pr ∧ rest ≤ pr) ∧ σ = [some (.int num), some (.int (pr : Nat)), some (.int (last : Nat)), some (.int (rest : Nat)), some (.int lt), some (.int t), v6, v7, v8],
   ⟨_, rfl, pr, r, 0, 1, none, none, none, rfl, Dt.Euc.init hp hr' (by omega), ⟨Nat.le_refl _, by omega⟩, by rw [← hr']; rfl⟩, ?_⟩
  rintro m σ H2 ⟨rfl, last, rest, lt, t, v6, v7, v8, rfl, he, ⟨hl, hrp⟩, rfl⟩
  have hpo := he.pos
  obtain ⟨ht, hlt⟩ := he.tle
  refine ⟨_, rfl, _, rfl, _, rfl, _, rfl, ?_⟩
  by_cases h1 : m = 1
  ·refine itN (by rw [decide_eq_true (by omega)]; exact Bool.false_ne_true) ?_
   exact ⟨_, rfl, _, rfl, _, _, rfl, rfl, hpos, q _ (he.fin h1) ⟨Int.emod_nonneg _ (by omega), Int.emod_lt_of_pos _ hpos⟩⟩
  ·refine itP (by rw [decide_eq_false (by omega)]; rfl) ?_
   refine ⟨_, fun σ' H' z => z, ?_⟩
   have hq1 := Nat.div_le_self last m
   have bm : Bg ((m : Nat) : Int) := bg_le (n := pr) (by rw [Int.natAbs_natCast]; exact hrp) h8
   have bq : Bg ((last / m : Nat) : Int) := bg_le (n := pr) (by rw [Int.natAbs_natCast]; omega) h8
   refine ⟨_, rfl, _, rfl, _, _, rfl, rfl, ⟨by show (0 : Int) < (m : Int); omega, bm⟩, ?_⟩
   refine ⟨_, rfl, _, rfl, _, rfl, _, _, rfl, rfl, ⟨bq, bm⟩, _, _, rfl, rfl, ?_⟩
   have e1 : ((last : Nat) : Int) - ((last / m : Nat) : Int) * ((m : Nat) : Int) = ((last % m : Nat) : Int) := by
    have h := congrArg (fun n : Nat => (n : Int)) (Nat.div_add_mod last m)
    simp only [Int.natCast_add, Int.natCast_mul] at h
    rw [Int.mul_comm] at h
    omega
   refine ⟨_, rfl, ?_⟩
   refine ⟨_, rfl, ?_⟩
   refine ⟨_, rfl, _, rfl, _, rfl, _, _, rfl, rfl, ⟨bq, bg_le ht h8⟩, _, _, rfl, rfl, ?_⟩
   refine ⟨_, rfl, ?_⟩
   refine ⟨_, rfl, ?_⟩
   have hml := Nat.mod_lt last (show m > 0 by omega)
   exact ⟨last % m, hml, rfl, m, last % m, t, _, _, _, _, rfl, he.step h1, ⟨hrp, by omega⟩, by rw [← e1]; rfl⟩

noncomputable def low (back : Int) (pr : Nat) (top row : List Int) : List Int := List.zipWith (fun x y => x - row.getD 0 0 * back % (pr : Int) * y) (row.drop 1) (top.drop 1)
set_option genInjectivity false in
structure LowOk (back : Int) (pr n : Nat) (top row : List Int) : Prop where
 l1 : row.length = n + 1
 l2 : top.length = n + 1
 sz : n ≤ 1000
 pos : 0 < pr
 ps : pr < 2 ^ 1000
 b0 : Bg (row.getD 0 0)
 bk : back.natAbs ≤ pr
 tp : ∀ y ∈ top, y.natAbs ≤ pr
noncomputable def spLow (K : PySem.W.Frag) : Sp := fun vs H Q _ => ∃ (a b : Addr) (back : Int) (pr n : Nat) (row top : List Int), vs = [.ref a, .ref b, .int back, .int (pr : Nat)] ∧ SqL K H a (row.map V.int) ∧ SqL K H b (top.map V.int) ∧ LowOk back pr n top row ∧ ∀ D H', H D = none → Same H H' → H' D = some (.lst ((low back pr top row).map V.int)) → Q (.ref D) H'
theorem ok_lowered {f : Addr} {fd : FuncData} (F : Fun K "lowered" "lowered" s_lowered f fd) (tt : Txt K mg ad) : FnOk P w K mg base (CX1 P w) 1 f fd ["row", "top", "back", "prime"] (spLow K) := by
 refine F.okN sc_lowered (fun vs H Q E h => ?_) (fun cdv A outer s H vs Q E hr h => ?_)
 ·obtain ⟨a, b, back, pr, n, row, top, rfl, _⟩ := h
  rfl
 ·obtain ⟨a, b, back, pr, n, row, top, rfl, hA, hB, ok, q⟩ := h
  have hs : sizeLine = 16777216 := sizeLine_eq
  obtain ⟨l1, l2, sz, pos, ps, b0, bk, tp⟩ := ok
  have hpos : (0 : Int) < (pr : Int) := by omega
  have h8 := lt8000 ps (by decide)
  have t0 := Int.emod_nonneg (row.getD 0 0 * back) (show (pr : Int) ≠ 0 by omega)
  have t1 := Int.emod_lt_of_pos (row.getD 0 0 * back) hpos
  refine ⟨_, (pss_cons (ps_set (i := 4) sc_lowered.nd rfl (Or.inr rfl) (pe_op op_mod (pe_op op_mulB (pe_ix ix_list (pv 0) pe_int (fun _ _ => rfl)) (pv 2)) (pv 3)))
   (pss_cons (ps_if (pt_cmpR op_eq_I (pv 4) pe_int (nomark _)) (pss_one (ps_ret (pe_slice sl_list (pv 0) (po_some pe_int) po_none))) pss_nil)
   (pss_one (ps_ret (pe_comp2 cs_lowered_0 rfl (pi_zip (by rfl) tt.b_zip (pa_cons (pe_slice sl_list (pv 0) (po_some pe_int) po_none) (pa_cons (pe_slice sl_list (pv 1) (po_some pe_int) po_none) pa_nil))) (fun cl C s' H' fp => (pe_op op_sub (pv 0) (pe_op op_mulB (pv 6) (pv 1))))))))), ?_⟩
  (try rw [cxK2]); (try rw [cxK1])
  refine ⟨_, rfl, a, _, _, _, rfl, rfl, hA, atI_nat (j := 0) (int_at0 (by omega)), _, rfl, _, _, rfl, rfl, ⟨b0, bg_le bk h8⟩, _, rfl, _, _, rfl, rfl, hpos, ?_⟩
  refine ⟨_, rfl, _, rfl, _, rfl, _, rfl, ?_⟩
  have cA : cutV (row.map V.int) (some (1 : Int)) none = (row.drop 1).map V.int := by rw [List.map_drop]; exact cut_from (k := 1) (by rw [List.length_map]; omega)
  have cB : cutV (top.map V.int) (some (1 : Int)) none = (top.drop 1).map V.int := by rw [List.map_drop]; exact cut_from (k := 1) (by rw [List.length_map]; omega)
  by_cases hz : row.getD 0 0 * back % (pr : Int) = 0
  ·refine itP (decide_eq_true hz) ?_
   refine ⟨_, rfl, _, rfl, a, _, rfl, hA, fun p hp => ?_⟩
   rw [cA]
   refine q p _ hp (same_upd hp) ?_
   rw [upd_same]
   congr 3
   unfold low
   rw [hz]
   refine List.ext_getElem? fun i => ?_
   rw [List.getElem?_zipWith]
   by_cases hi : i < n
   ·rw [List.getElem?_eq_getElem (l := row.drop 1) (by rw [List.length_drop]; omega), List.getElem?_eq_getElem (l := top.drop 1) (by rw [List.length_drop]; omega)]
    show some _ = some _
    rw [Int.zero_mul, Int.sub_zero]
   ·rw [List.getElem?_eq_none (by rw [List.length_drop]; omega)]
  ·refine itN (fun z => hz (of_decide_eq_true z)) ?_
   refine ⟨_, rfl, _, rfl, a, _, rfl, hA, fun p1 hp1 => ?_⟩
   rw [cA]
   have t1' := same_upd (o := .lst ((row.drop 1).map V.int)) hp1
   refine ⟨_, rfl, _, rfl, b, _, rfl, t1'.seq hB, fun p2 hp2 => ?_⟩
   rw [cB]
   have t2' := same_upd (o := .lst ((top.drop 1).map V.int)) hp2
   refine ⟨p1, p2, rfl, ⟨_, SqL.of (t2' p1 _ upd_same)⟩, ⟨_, SqL.of upd_same⟩, ?_⟩
   refine comp_zip (fun x y => match x, y with | .int i, .int j => .int (i - row.getD 0 0 * back % (pr : Int) * j) | _, _ => .non) (SqL.of (t2' p1 _ upd_same)) (SqL.of upd_same) (by rw [List.length_map, List.length_map, List.length_drop, List.length_drop, l1, l2]) (by rw [List.length_map, List.length_drop]; omega) (fun i x y H' hx hy s' N hN => ?_) fun D H' hD s' hd => ?_
   ·rw [List.getElem?_map] at hx hy
    obtain ⟨i1, hi1, rfl⟩ := Option.map_eq_some_iff.mp hx
    obtain ⟨j1, hj1, rfl⟩ := Option.map_eq_some_iff.mp hy
    have hj2 := tp j1 (List.mem_of_mem_drop (List.mem_of_getElem? hj1))
    exact ⟨_, rfl, _, rfl, _, rfl, _, _, rfl, rfl, ⟨bg_le (n := pr) (by omega) h8, bg_le hj2 h8⟩, _, _, rfl, rfl, hN H' (Same.refl _)⟩
   ·have hD0 : H D = none := by
     cases e : H D with
     | none => rfl
     | some o => have := (t1'.trans t2') D o e; rw [hD] at this; cases this
    refine q D H' hD0 (t1'.trans (t2'.trans s')) ?_
    rw [hd]
    congr 3
    unfold low
    rw [List.zipWith_map, List.map_zipWith]

noncomputable def spFirst (K : PySem.W.Frag) : Sp := fun vs H Q _ => ∃ (a : Addr) (ns : List Int), vs = [.ref a] ∧ SqL K H a (ns.map V.int) ∧ (∀ H', Same H H' → (∀ x ∈ ns, x = 0) → Q .non H') ∧ ∀ (p : Nat) (H' : Hp), Same H H' → p < ns.length → ns.getD p 0 ≠ 0 → Q (.int (p : Nat)) H'
theorem ok_first_other_than_nought {f : Addr} {fd : FuncData} (F : Fun K "first_other_than_nought" "first_other_than_nought" s_first_other_than_nought f fd) (tt : Txt K mg ad) : FnOk P w K mg base (CX1 P w) 1 f fd ["numbers"] (spFirst K) := by
 refine F.okN sc_first_other_than_nought (fun vs H Q E h => ?_) (fun cdv A outer s H vs Q E hr h => ?_)
 ·obtain ⟨a, ns, rfl, _⟩ := h
  rfl
 ·obtain ⟨a, ns, rfl, hA, q0, q1⟩ := h
  refine ⟨_, (pss_cons (ps_for PassesOwn.never rfl (pi_enum (by rfl) tt.b_enumerate (pa_cons (pv 0) pa_nil)) (pg_tup rfl (pgs_cons (pg_name (i := 1) sc_first_other_than_nought.nd rfl (Or.inl rfl)) (pgs_cons (pg_name (i := 2) sc_first_other_than_nought.nd rfl (Or.inl rfl)) pgs_nil))) (pss_one (ps_if (pt_cmpR op_ne_I (pv 2) pe_int (nomark _)) (pss_one (ps_ret (pv 1))) pss_nil)))
   (pss_one (ps_ret pe_non))), ?_⟩
  (try rw [cxK2]); (try rw [cxK1])
  refine ⟨_, rfl, a, rfl, ⟨_, hA⟩, ?_⟩
  refine for_enum (K := K) (a := a) (xs := ns.map V.int) (fun i σ H2 => Same H H2 ∧ (∀ j, j < i → ns.getD j 0 = 0) ∧ ∃ v1 v2 : Option V, σ = [some (.ref a), v1, v2]) ⟨Same.refl _, fun j hj => absurd hj (Nat.not_lt_zero j), none, none, rfl⟩ (fun i σ H2 _ h => h.1.seq hA) ?_ ?_
  ·rintro i x p σ H2 hx hp ⟨s2, hz, v1, v2, rfl⟩
   have hi : i < ns.length := by have := (List.getElem?_eq_some_iff.mp hx).1; rwa [List.length_map] at this
   rw [int_at0 hi] at hx
   obtain rfl := Option.some.inj hx
   have t2 := same_upd (o := .tup [.int (i : Nat), .int (ns.getD i 0)]) hp
   refine ⟨p, _, rfl, SqT.of upd_same, rfl, _, _, rfl, _, _, rfl, rfl, ?_⟩
   refine ⟨_, rfl, _, rfl, _, rfl, _, rfl, ?_⟩
   by_cases h0 : ns.getD i 0 = 0
   ·refine itN (by rw [decide_eq_true h0]; exact Bool.false_ne_true) ?_
    exact ⟨s2.trans t2, fun j hj => by
     rcases Nat.lt_or_ge j i with z | z
     ·exact hz j z
     ·rw [show j = i by omega]; exact h0, _, _, rfl⟩
   ·refine itP (by rw [decide_eq_false h0]; rfl) ?_
    exact ⟨_, rfl, q1 i _ (s2.trans t2) hi h0⟩
  ·rintro σ H2 ⟨s2, hz, v1, v2, rfl⟩
   rw [List.length_map] at hz
   exact q0 H2 s2 fun x hx => by
    obtain ⟨j, hj⟩ := List.getElem?_of_mem hx
    have hjl := (List.getElem?_eq_some_iff.mp hj).1
    have := hz j hjl
    rwa [List.getD_eq_getElem?_getD, hj] at this

set_option genInjectivity false in
structure RestOk (M : List (List Int)) (n pr E : Nat) : Prop where
 len : M.length = n
 row : ∀ r ∈ M, r.length = n
 sz : n ≤ 100
 pm : Dt.PrimeN pr
 ps : pr < 2 ^ 1000
 be : ∀ r ∈ M, ∀ x ∈ r, x.natAbs ≤ E
 bd : E + n * (pr * pr) < 2 ^ 8000
noncomputable def spRest (K : PySem.W.Frag) : Sp := fun vs H Q _ => ∃ (a : Addr) (as : List Addr) (M : List (List Int)) (n pr E : Nat), vs = [.ref a, .int (pr : Nat)] ∧ SqL K H a (as.map V.ref) ∧ RowsAt K H as M ∧ RestOk M n pr E ∧ ∀ (r : Int) (H' : Hp), Same H H' → 0 ≤ r ∧ r < pr → Dt.Cg pr r (Dt.det n (Dt.ent M)) → Q (.int r) H'
theorem getD_mem {ns : List Int} {j : Nat} (h : j < ns.length) : ns.getD j 0 ∈ ns := by
 rw [List.getD_eq_getElem?_getD, List.getElem?_eq_getElem h]
 exact List.getElem_mem h
theorem low_len {back : Int} {pr n : Nat} {top row : List Int} (h : LowOk back pr n top row) : (low back pr top row).length = n := by
 unfold low
 have := h.l1
 have := h.l2
 rw [List.length_zipWith, List.length_drop, List.length_drop]
 omega
theorem low_get {back : Int} {pr n : Nat} {top row : List Int} (h : LowOk back pr n top row) {k : Nat} (hk : k < n) : (low back pr top row).getD k 0 = row.getD (k + 1) 0 - row.getD 0 0 * back % (pr : Int) * top.getD (k + 1) 0 := by
 have h1 := h.l1
 have h2 := h.l2
 unfold low
 rw [List.getD_eq_getElem?_getD, List.getElem?_zipWith, List.getElem?_drop, List.getElem?_drop, Nat.add_comm 1 k, List.getElem?_eq_getElem (show k + 1 < row.length by omega), List.getElem?_eq_getElem (show k + 1 < top.length by omega), List.getD_eq_getElem?_getD (l := row) (i := k + 1), List.getElem?_eq_getElem (show k + 1 < row.length by omega), List.getD_eq_getElem?_getD (l := top), List.getElem?_eq_getElem (show k + 1 < top.length by omega)]
 rfl
theorem low_abs {back : Int} {pr n E : Nat} {top row : List Int} (h : LowOk back pr n top row) (hE : ∀ x ∈ row, x.natAbs ≤ E) : ∀ x ∈ low back pr top row, x.natAbs ≤ E + pr * pr := fun x hx => by
 obtain ⟨k, hk⟩ := List.getElem?_of_mem hx
 have hkl := (List.getElem?_eq_some_iff.mp hk).1
 rw [low_len h] at hkl
 have h1 := h.l1
 have h2 := h.l2
 have e := low_get h hkl
 rw [List.getD_eq_getElem?_getD, hk] at e
 have e : x = _ := e
 have b1 := hE _ (getD_mem (ns := row) (j := k + 1) (by omega))
 have b2 := h.tp _ (getD_mem (ns := top) (j := k + 1) (by omega))
 have hp := h.pos
 have t0 := Int.emod_nonneg (row.getD 0 0 * back) (show (pr : Int) ≠ 0 by omega)
 have t1 := Int.emod_lt_of_pos (row.getD 0 0 * back) (show (0 : Int) < pr by omega)
 have b3 := Int.natAbs_sub_le (row.getD (k + 1) 0) (row.getD 0 0 * back % (pr : Int) * top.getD (k + 1) 0)
 rw [Int.natAbs_mul] at b3
 have b4 : (row.getD 0 0 * back % (pr : Int)).natAbs * (top.getD (k + 1) 0).natAbs ≤ pr * pr := Nat.mul_le_mul (by omega) b2
 rw [e]
 omega
theorem ok_determinant_rest {f : Addr} {fd : FuncData} (F : Fun K "determinant_rest" "determinant_rest" s_determinant_rest f fd) (tt : Txt K mg ad) (C_first_other_than_nought : Cal P w K mg base (CX1 P w) "first_other_than_nought" 1 ["numbers"] (spFirst K)) (C_inverse : Cal P w K mg base (CX1 P w) "inverse" 1 ["number", "prime"] spInvs) (C_lowered : Cal P w K mg base (CX1 P w) "lowered" 1 ["row", "top", "back", "prime"] (spLow K)) : FnOk P w K mg base (CX1 P w) 2 f fd ["square", "prime"] (spRest K) := by
 refine F.okN sc_determinant_rest (fun vs H Q E h => ?_) (fun cdv A outer s H vs Q E hr h => ?_)
 ·obtain ⟨a, as, M, n, pr, E0, rfl, _⟩ := h
  rfl
 ·obtain ⟨a, as, M, n, pr, B, rfl, hA, hR, ok, q⟩ := h
  have hs : sizeLine = 16777216 := sizeLine_eq
  have hu := Nat.lt_of_succ_lt (hu_of hr)
  obtain ⟨len, row, sz, pm, ps, be, bd⟩ := ok
  have hp1 := pm.1
  have hpos : (0 : Int) < (pr : Int) := by omega
  have h8 := lt8000 ps (by decide)
  refine ⟨_, (pss_cons (ps_set (i := 2) sc_determinant_rest.nd rfl (Or.inl rfl) (pe_callTy call_list_of (by rfl) tt.b_list (by decide +kernel) (pa_cons (pv 0) pa_nil)))
   (pss_cons (ps_set (i := 3) sc_determinant_rest.nd rfl (Or.inl rfl) pe_int)
   (pss_cons (ps_while PassesOwn.never (pt_cmpR (op_ne_L0 K rfl hu) (pv 2) (pe_lst pa_nil) (nomark _)) (pss_cons (ps_set (i := 4) sc_determinant_rest.nd rfl (Or.inl rfl) (pe_cal C_first_other_than_nought hr pass1 (pa_cons (pe_comp cs_determinant_rest_0 rfl (pi_list (pv 2)) (fun cl C s' H' fp => (pe_op op_mod (pe_ix (ix_list_K K rfl) (pv 0) pe_int (fun _ _ => rfl)) (pv 2)))) pa_nil)))
   (pss_cons (ps_if (pt_cmp (pc_isN (pv 4))) (pss_one (ps_ret pe_int)) pss_nil)
   (pss_cons (ps_set (i := 5) sc_determinant_rest.nd rfl (Or.inr rfl) (pe_comp cs_determinant_rest_1 rfl (pi_list (pe_ix ix_list (pv 2) (pv 4) (fun _ _ => rfl))) (fun cl C s' H' fp => (pe_op op_mod (pv 0) (pv 2)))))
   (pss_cons (ps_set (i := 6) sc_determinant_rest.nd rfl (Or.inr rfl) (pe_cal C_inverse hr pass1 (pa_cons (pe_ix ix_list (pv 5) pe_int (fun _ _ => rfl)) (pa_cons (pv 1) pa_nil))))
   (pss_cons (ps_set (i := 3) sc_determinant_rest.nd rfl (Or.inl rfl) (pe_op op_mod (pe_op op_mulB (pv 3) (pe_ix ix_list (pv 5) pe_int (fun _ _ => rfl))) (pv 1)))
   (pss_cons (ps_wk (t' := (fun D σ H => ∃ (x0 x2 : V) (pr : Nat) (rst : Int) (p : Nat) (v5 v6 : Option V), σ = [some x0, some (.int (pr : Nat)), some x2, some (.int rst), some (.int (p : Nat)), v5, v6] ∧ D.nx [some x0, some (.int (pr : Nat)), some x2, some (.int (if p % 2 = 1 then (pr : Int) - rst else rst)), some (.int (p : Nat)), v5, v6] H)) (ps_if (pt_cmpR op_eq_I (pe_op op_mod (pv 4) pe_int) pe_int (nomark _)) (pss_one (ps_set (i := 3) sc_determinant_rest.nd rfl (Or.inl rfl) (pe_op op_sub (pv 1) (pv 3)))) pss_nil) ?rA)
   (pss_one (ps_setComp (i := 2) cs_determinant_rest_2 rfl (pi_list (pe_op op_catL (pe_slice sl_list (pv 2) po_none (po_some (pv 4))) (pe_slice sl_list (pv 2) (po_some (pe_op op_add (pv 4) pe_int)) po_none))) (fun cl C s' H' fp => (pe_cal C_lowered hr pass1 (pa_cons (pv 0) (pa_cons (pv 6) (pa_cons (pv 7) (pa_cons (pv 2) pa_nil)))))) sc_determinant_rest.nd rfl rfl)))))))))
   (pss_one (ps_ret (pv 3)))))), ?_⟩
  (try rw [cxK2]); (try rw [cxK1])
  case rA =>
   rintro D σ H ⟨x0, x2, pr, rst, p, v5, v6, rfl, nxt⟩
   refine ⟨_, rfl, _, _, rfl, rfl, (by show (0 : Int) < 2; decide), _, rfl, _, rfl, _, rfl, ?_⟩
   by_cases h2 : p % 2 = 1
   ·refine itP (decide_eq_true (by omega)) ?_
    refine ⟨_, rfl, _, rfl, _, _, rfl, rfl, ?_⟩
    rw [if_pos h2] at nxt
    exact nxt
   ·refine itN (fun z => h2 (by have := of_decide_eq_true z; omega)) ?_
    rw [if_neg h2] at nxt
    exact nxt
  refine ⟨_, rfl, a, _, rfl, .inl hA, fun L0 hL0 => ?_⟩
  have t0 := same_upd (o := .lst (as.map V.ref)) hL0
  refine ⟨fun m σ G => ∃ (Lr : Addr) (bs : List Addr) (N : List (List Int)) (k : Nat) (rest : Int) (v4 v5 v6 : Option V), Same H G ∧ G Lr = some (.lst (bs.map V.ref)) ∧ RowsAt K G bs N ∧ N.length = m ∧ (∀ r ∈ N, r.length = m) ∧ m + k = n ∧ (∀ r ∈ N, ∀ x ∈ r, x.natAbs ≤ B + k * (pr * pr)) ∧ (0 < rest ∧ rest < pr) ∧ Dt.Cg pr (rest * Dt.det m (Dt.ent N)) (Dt.det n (Dt.ent M)) ∧ σ = [some (.ref a), some (.int (pr : Nat)), some (.ref Lr), some (.int rest), v4, v5, v6],
   ⟨n, L0, as, M, 0, 1, none, none, none, t0, upd_same, hR.on t0, len, row, by omega, fun r hr x hx => by rw [Nat.zero_mul]; exact be r hr x hx, ⟨by decide, by omega⟩, by rw [Int.one_mul]; exact Dt.Cg.refl _, rfl⟩, ?_⟩
  rintro m σ G ⟨Lr, bs, N, k, rest, v4, v5, v6, sG, hL, hN, hNl, hNr, hmk, hNb, hrest, hcg, rfl⟩
  have hbl := hN.1
  refine ⟨_, rfl, (by show 0 ≤ sizeLine; omega), fun E1 hE1 => ?_⟩
  have tE := same_upd (o := .lst []) hE1
  refine ⟨Lr, E1, _, rfl, rfl, SqL.of (tE Lr _ hL), SqL.of upd_same, _, rfl, ?_⟩
  cases m with
  | zero =>
   obtain rfl : bs = [] := List.length_eq_zero_iff.mp (by omega)
   refine iteF ?_
   refine ⟨_, rfl, q rest _ (sG.trans tE) ⟨by omega, hrest.2⟩ ?_⟩
   have e : rest * Dt.det 0 (Dt.ent N) = rest := Int.mul_one rest
   rw [e] at hcg
   exact hcg
  | succ m =>
   refine itP (by cases bs with | nil => rw [List.length_nil] at hbl; omega | cons y r => rfl) ?_
   refine ⟨_, fun σ' H' z => z, ?_⟩
   have hL2 := tE Lr _ hL
   have hN2 := hN.on tE
   generalize upd G E1 (.lst []) = G2 at tE hL2 hN2
   refine ⟨_, rfl, Lr, rfl, ⟨_, SqL.of hL2⟩, ?_⟩
   refine compI (fun r => r.getD 0 0 % (pr : Int)) (reads_list (SqL.of hL2)) hN2 (by omega) (fun a' r G' hrm hS s' N' hN' => ?_) fun D1 G3 hD1 s3 hd3 => ?_
   ·exact ⟨_, rfl, a', _, _, _, rfl, rfl, hS, atI_nat (j := 0) (int_at0 (by rw [hNr r hrm]; omega)), _, rfl, _, _, rfl, rfl, hpos, hN' G' (Same.refl _)⟩
   have hL3 := s3 Lr _ hL2
   have hN3 := hN2.on s3
   have sG3 := sG.trans (tE.trans s3)
   refine ⟨D1, _, rfl, SqL.of hd3, fun G4 s4 hall => ?_, fun p G4 s4 hp hne => ?_⟩
   ·refine ⟨_, rfl, _, rfl, iteT ?_⟩
    refine q 0 G4 (sG3.trans s4) ⟨Int.le_refl _, hpos⟩ ?_
    have h0 := Dt.elim0 (m := pr) (M := N) (n := m) (fun r hrm => Int.dvd_of_emod_eq_zero (hall _ (List.mem_map.mpr ⟨r, hrm, rfl⟩))) hNl
    have h1 := (Dt.Cg.refl (m := pr) rest).mul h0
    rw [Int.mul_zero] at h1
    exact h1.symm.trans hcg
   ·rw [List.length_map] at hp
    obtain ⟨rp, hrp⟩ : ∃ rp, N[p]? = some rp := ⟨_, List.getElem?_eq_getElem hp⟩
    obtain ⟨bp, hbp⟩ : ∃ bp, bs[p]? = some bp := ⟨_, List.getElem?_eq_getElem (by omega)⟩
    have hrpm := List.mem_of_getElem? hrp
    have hrl := hNr rp hrpm
    have hne2 : rp.getD 0 0 % (pr : Int) ≠ 0 := by
     rw [List.getD_eq_getElem?_getD, List.getElem?_map, hrp] at hne
     exact hne
    refine ⟨_, rfl, _, rfl, iteF ?_⟩
    have hL4 := s4 Lr _ hL3
    have hN4 := hN3.on s4
    have hS4 := hN4.2 p bp rp hbp hrp
    refine ⟨_, rfl, _, rfl, Lr, _, _, _, rfl, rfl, SqL.of hL4, atI_nat (j := p) (by rw [List.getElem?_map, hbp]; rfl), bp, rfl, ⟨_, hS4⟩, ?_⟩
    refine compG (fun v => match v with | .int i => .int (i % (pr : Int)) | _ => .non) (reads_list hS4) (by rw [List.length_map]; omega) (fun v G' hv s' N' hN' => ?_) fun D2 G5 hD2 s5 hd5 => ?_
    ·obtain ⟨i, hi, rfl⟩ := List.mem_map.mp hv
     exact ⟨_, rfl, _, rfl, _, _, rfl, rfl, hpos, hN' G' (Same.refl _)⟩
    have hd5 : G5 D2 = some (.lst ((rp.map fun i => i % (pr : Int)).map V.int)) := by rw [hd5, List.map_map, List.map_map]; rfl
    have htl : (rp.map fun i => i % (pr : Int)).length = m + 1 := by rw [List.length_map, hrl]
    have htop : ∀ k, k < m + 1 → (rp.map fun i => i % (pr : Int)).getD k 0 = rp.getD k 0 % (pr : Int) := fun k hk => by
     rw [List.getD_eq_getElem?_getD, List.getElem?_map, List.getD_eq_getElem?_getD, List.getElem?_eq_getElem (by omega)]
     rfl
    have htb : ∀ y ∈ rp.map (fun i => i % (pr : Int)), y.natAbs ≤ pr := fun y hy => by
     obtain ⟨i, _, rfl⟩ := List.mem_map.mp hy
     have := Int.emod_nonneg i (show (pr : Int) ≠ 0 by omega)
     have := Int.emod_lt_of_pos i hpos
     omega
    have ht0 : (rp.map fun i => i % (pr : Int)).getD 0 0 % (pr : Int) ≠ 0 := by rw [htop 0 (by omega), Int.emod_emod]; exact hne2
    have htc : ∀ k, k < m + 1 → Dt.Cg pr ((rp.map fun i => i % (pr : Int)).getD k 0) ((N.getD p []).getD k 0) := fun k hk => by
     rw [htop k hk, List.getD_eq_getElem?_getD (l := N), hrp]
     exact Dt.cg_mod _
    generalize rp.map (fun i => i % (pr : Int)) = top at hd5 htl htop htb ht0 htc
    have sG5 := sG3.trans (s4.trans s5)
    have hL5 := s5 Lr _ hL4
    have hN5 := hN4.on s5
    refine ⟨_, rfl, D2, _, _, _, rfl, rfl, SqL.of hd5, atI_nat (j := 0) (int_at0 (by omega)), _, rfl, top.getD 0 0, pr, rfl, pm, ps, ht0, fun inv hinv hib => ?_⟩
    have ht0b := htb _ (getD_mem (ns := top) (j := 0) (by omega))
    refine ⟨_, rfl, _, rfl, D2, _, _, _, rfl, rfl, SqL.of hd5, atI_nat (j := 0) (int_at0 (by omega)), _, _, rfl, rfl, ⟨bg_le (n := pr) (by omega) h8, bg_le ht0b h8⟩, _, rfl, _, _, rfl, rfl, hpos, ?_⟩
    refine ⟨_, _, pr, _, p, _, _, rfl, ?_⟩
    have hpl : p ≤ bs.length := by omega
    have c1 : cutV (bs.map V.ref) none (some ((p : Nat) : Int)) = (bs.take p).map V.ref := by rw [List.map_take]; exact cut_to (by rw [List.length_map]; omega)
    have c2 : cutV (bs.map V.ref) (some ((p : Nat) + 1 : Int)) none = (bs.drop (p + 1)).map V.ref := by rw [List.map_drop]; exact cut_from (k := p + 1) (by rw [List.length_map]; omega)
    refine ⟨_, rfl, _, rfl, _, rfl, Lr, _, rfl, SqL.of hL5, fun p1 hp1 => ?_⟩
    rw [c1]
    have u1 := same_upd (o := .lst ((bs.take p).map V.ref)) hp1
    refine ⟨_, rfl, _, rfl, _, _, rfl, rfl, _, rfl, Lr, _, rfl, SqL.of (u1 Lr _ hL5), fun p2 hp2 => ?_⟩
    rw [c2]
    have u2 := same_upd (o := .lst ((bs.drop (p + 1)).map V.ref)) hp2
    refine ⟨p1, p2, _, _, rfl, rfl, SqL.of (u2 p1 _ upd_same), SqL.of upd_same, (by rw [List.length_map, List.length_map, List.length_take, List.length_drop]; omega), fun p3 hp3 => ?_⟩
    rw [show (bs.take p).map V.ref ++ (bs.drop (p + 1)).map V.ref = (bs.eraseIdx p).map V.ref by rw [← List.map_append, List.eraseIdx_eq_take_drop_succ]]
    have u3 := same_upd (o := .lst ((bs.eraseIdx p).map V.ref)) hp3
    have u123 := u1.trans (u2.trans u3)
    refine ⟨p3, rfl, ⟨_, SqL.of upd_same⟩, ?_⟩
    have hlok : ∀ r ∈ N, LowOk inv pr m top r := fun r hrm => ⟨hNr r hrm, htl, by omega, by omega, ps, bg_le (hNb r hrm _ (getD_mem (by rw [hNr r hrm]; omega))) (Nat.lt_of_le_of_lt (Nat.add_le_add_left (Nat.mul_le_mul_right _ (show k ≤ n by omega)) B) bd), by omega, htb⟩
    have hsub : ∀ r ∈ N.eraseIdx p, r ∈ N := fun r hr => List.mem_of_mem_eraseIdx hr
    refine compR (low inv pr top) (reads_list (SqL.of upd_same)) ((hN5.erase p).on u123) (by rw [List.length_eraseIdx]; split <;> omega) (fun a' r G' hrm hS s' N' hN' => ?_) fun D4 cs G6 hD4 s6 hd6 _ hR6 => ?_
    ·exact ⟨_, rfl, _, rfl, _, rfl, _, rfl, a', D2, inv, pr, m, r, top, rfl, hS, SqL.of (s' D2 _ (u123 D2 _ hd5)), hlok r (hsub r hrm), fun D G'' hD s'' hd => hN' D G'' s'' hD hd⟩
    ·have hel := Dt.elim (m := pr) (n := m) (p := p) (M := N) (top := top) (back := inv) (t := fun r => r.getD 0 0 * inv % (pr : Int)) (low := low inv pr top) (by omega) hNl htc (by rw [Int.mul_comm]; exact hinv) (fun r _ => Dt.cg_mod _) fun r hrm k hk => low_get (hlok r hrm) hk
     obtain ⟨r1, r2⟩ := Dt.rest_step hrest hinv hel hcg
     refine ⟨m, Nat.lt_succ_self m, D4, cs, (N.eraseIdx p).map (low inv pr top), k + 1, _, _, _, _, sG5.trans (u123.trans s6), hd6, hR6, by rw [List.length_map, List.length_eraseIdx, if_pos (by omega)]; omega, fun r hr => ?_, by omega, fun r hr => ?_, r1, r2, rfl⟩
     ·obtain ⟨r', hr', rfl⟩ := List.mem_map.mp hr
      exact low_len (hlok r' (hsub r' hr'))
     ·obtain ⟨r', hr', rfl⟩ := List.mem_map.mp hr
      rw [Nat.add_mul, Nat.one_mul, ← Nat.add_assoc]
      exact low_abs (hlok r' (hsub r' hr')) (hNb r' (hsub r' hr'))

set_option genInjectivity false in
structure SqOk (M : List (List Int)) (n : Nat) : Prop where
 len : M.length = n
 row : ∀ r ∈ M, r.length = n
 sz : n ≤ 64
 sm : ∀ r ∈ M, Dt.rs n r ≤ 2 ^ 110
theorem SqOk.part {M : List (List Int)} {n : Nat} (h : SqOk M n) (i : Nat) : Dt.pL ((M.take i).map (Dt.rs n)) < 2 ^ 8000 := by
 have h1 := Dt.pL_le (R := 2 ^ 110) (l := (M.take i).map (Dt.rs n)) fun x hx => by
  obtain ⟨r, hr, rfl⟩ := List.mem_map.mp hx
  exact h.sm r (List.mem_of_mem_take hr)
 rw [List.length_map, List.length_take, ← Nat.pow_mul] at h1
 have := h.len
 have := h.sz
 exact Nat.lt_of_le_of_lt h1 (Nat.pow_lt_pow_right (by decide) (by omega))
noncomputable def spGreat (K : PySem.W.Frag) : Sp := fun vs H Q _ => ∃ (a : Addr) (as : List Addr) (M : List (List Int)) (n : Nat), vs = [.ref a] ∧ SqL K H a (as.map V.ref) ∧ RowsAt K H as M ∧ SqOk M n ∧ ∀ H', Same H H' → Q (.int (Dt.pL (M.map (Dt.rs n)) : Nat)) H'
theorem ok_greatest_of {f : Addr} {fd : FuncData} (F : Fun K "greatest_of" "greatest_of" s_greatest_of f fd) (tt : Txt K mg ad) : FnOk P w K mg base (CX1 P w) 1 f fd ["square"] (spGreat K) := by
 refine F.okN sc_greatest_of (fun vs H Q E h => ?_) (fun cdv A outer s H vs Q E hr h => ?_)
 ·obtain ⟨a, as, M, n, rfl, _⟩ := h
  rfl
 ·obtain ⟨a, as, M, n, rfl, hA, hR, ok, q⟩ := h
  have hs : sizeLine = 16777216 := sizeLine_eq
  have hrl := hR.1
  have hlen := ok.len
  have hsz := ok.sz
  refine ⟨_, (pss_cons (ps_set (i := 1) sc_greatest_of.nd rfl (Or.inl rfl) pe_int)
   (pss_cons (ps_for PassesOwn.never rfl (pi_list (pv 0)) (pg_name (i := 2) sc_greatest_of.nd rfl (Or.inl rfl)) (pss_one (ps_set (i := 1) sc_greatest_of.nd rfl (Or.inl rfl) (pe_op op_mulB (pv 1) (pe_callB (call_sumX rfl) (by rfl) tt.b_sum PyProof.Rows.boot_sum (pa_cons (pe_comp cs_greatest_of_0 rfl (pi_list (pv 2)) (fun cl C s' H' fp => (pe_callB call_abs (by rfl) tt.b_abs PyProof.Rows.boot_abs (pa_cons (pv 0) pa_nil)))) pa_nil))))))
   (pss_one (ps_ret (pv 1))))), ?_⟩
  (try rw [cxK2]); (try rw [cxK1])
  refine ⟨_, rfl, a, rfl, ⟨_, hA⟩, ?_⟩
  refine for_list (K := K) (a := a) (xs := as.map V.ref) (fun i σ G => Same H G ∧ ∃ v2 : Option V, σ = [some (.ref a), some (.int (Dt.pL ((M.take i).map (Dt.rs n)) : Nat)), v2]) ⟨Same.refl _, none, rfl⟩ (fun i σ G _ h => h.1.seq hA) ?_ ?_
  ·rintro i v σ G hi ⟨sG, v2, rfl⟩
   obtain ⟨a', r, rfl, hr', hS⟩ := (hR.on sG).at hi
   have hrm := List.mem_of_getElem? hr'
   have hrl2 := ok.row r hrm
   refine ⟨_, rfl, _, rfl, a', rfl, ⟨_, hS⟩, ?_⟩
   refine compG (fun v => match v with | .int i => .int (if i < 0 then -i else i) | _ => .non) (reads_list hS) (by rw [List.length_map]; omega) (fun v G' hv s' N' hN' => ?_) fun D2 G5 hD2 s5 hd5 => ?_
   ·obtain ⟨i, hi, rfl⟩ := List.mem_map.mp hv
    exact ⟨_, rfl, _, rfl, hN' G' (Same.refl _)⟩
   have hd5 : G5 D2 = some (.lst ((r.map fun i => if i < 0 then -i else i).map V.int)) := by rw [hd5, List.map_map, List.map_map]; rfl
   refine ⟨D2, _, rfl, SqL.of hd5, ?_⟩
   rw [Dt.sN_list hrl2]
   have e : Dt.pL ((M.take (i + 1)).map (Dt.rs n)) = Dt.pL ((M.take i).map (Dt.rs n)) * Dt.rs n r := by rw [List.take_add_one, hr', List.map_append]; exact Dt.pL_snoc _ _
   refine ⟨_, _, rfl, rfl, ⟨bg_le (by rw [Int.natAbs_natCast]; exact Nat.le_refl _) (ok.part i), bg_le (n := 2 ^ 110) (by rw [Int.natAbs_natCast]; exact ok.sm r hrm) (lt8000 (k := 111) (by decide +kernel) (by decide))⟩, ?_⟩
   refine ⟨sG.trans s5, some (.ref a'), ?_⟩
   rw [e, Int.natCast_mul]
   rfl
  ·rintro σ G ⟨sG, v2, rfl⟩
   rw [List.length_map, List.take_of_length_le (by omega)]
   exact ⟨_, rfl, q G sG⟩
noncomputable def kts : List Int := [133, 211, 598, 652, 721, 850, 1282, 1417, 1582, 1681, 1726, 1837, 1885, 2017, 2377, 2383, 2452, 2476, 2530, 2611, 2662, 2698, 2773, 2878, 2917, 2980, 2998, 3082, 3238, 3250, 3343, 3421, 3427, 3670, 3817, 4162, 4252, 4447, 4468, 4621, 4630, 4747, 4867, 4891, 4915, 5128, 5143, 5236, 5401, 5587, 5650, 5803, 5833, 5923, 5986, 6202, 6235, 6286, 6496, 6526, 6736, 7093, 7561, 7696, 7831, 7855, 7882, 7927, 8143, 8248]

noncomputable def spTimes : Sp := fun vs H Q _ => ∃ (j : Nat) (last : Int), vs = [.int (j : Nat), .int last] ∧ j < 7 ∧ Q (.int (kts.getD j 0)) H
theorem ok_further_times {f : Addr} {fd : FuncData} (F : Fun K "further_times" "further_times" s_further_times f fd) (tt : Txt K mg ad) : FnOk P w K mg base (CX1 P w) 1 f fd ["place", "last"] spTimes := by
 refine F.okN sc_further_times (fun vs H Q E h => ?_) (fun cdv A outer s H vs Q E hr h => ?_)
 ·obtain ⟨j, last, rfl, _⟩ := h
  rfl
 ·obtain ⟨j, last, rfl, hj, q⟩ := h
  have hkt : SqT K H ad.KNOWN_TIMES (kts.map V.int) := SqT.tupIs tt.kt
  have hkl : (kts.map V.int).length = 70 := rfl
  refine ⟨_, (pss_cons (ps_if (pt_cmpR op_lt (pv 0) (pe_callB call_len_seq (by rfl) tt.b_len PySem.boot_len (pa_cons (pe_glob (v := .ref ad.KNOWN_TIMES) (by rfl) tt.m_KNOWN_TIMES rfl) pa_nil)) (nomark _)) (pss_one (ps_ret (pe_ix ix_tup (pe_glob (v := .ref ad.KNOWN_TIMES) (by rfl) tt.m_KNOWN_TIMES rfl) (pv 0) (fun _ _ => rfl)))) pss_nil)
   pss_dead), ?_⟩
  (try rw [cxK2]); (try rw [cxK1])
  refine ⟨_, rfl, ad.KNOWN_TIMES, _, rfl, .inr hkt, _, _, rfl, rfl, _, rfl, ?_⟩
  rw [hkl]
  refine itP (decide_eq_true (by omega)) ?_
  exact ⟨_, rfl, ad.KNOWN_TIMES, _, _, _, rfl, rfl, hkt, atI_nat (j := j) (int_at0 (by show j < 70; omega)), q⟩

theorem pr_eq : ∀ j, j < 7 → kts.getD j 0 * 6277101735386680763835789423207666416102355444464034512896 + 1 = ((Dt.pr j : Nat) : Int) := by decide +kernel
theorem kts_le : ∀ j, j < 7 → (kts.getD j 0).natAbs < 2 ^ 20 := by decide +kernel
noncomputable def spDet (K : PySem.W.Frag) : Sp := fun vs H Q _ => ∃ (a : Addr) (as : List Addr) (M : List (List Int)) (n : Nat), vs = [.ref a] ∧ SqL K H a (as.map V.ref) ∧ RowsAt K H as M ∧ SqOk M n ∧ 2 * Dt.pL (M.map (Dt.rs n)) < Dt.md 7 ∧ ∀ H', Same H H' → Q (.int (Dt.det n (Dt.ent M))) H'
theorem num_ok {n p : Nat} (hn : n ≤ 64) (hp : p < 2 ^ 250) : 2 ^ 110 + n * (p * p) < 2 ^ 8000 := by
 have h1 : n * (p * p) ≤ 64 * (2 ^ 250 * 2 ^ 250) := Nat.mul_le_mul hn (Nat.mul_le_mul (Nat.le_of_lt hp) (Nat.le_of_lt hp))
 exact Nat.lt_of_le_of_lt (Nat.add_le_add_left h1 _) (by decide +kernel)
theorem SqOk.rest {M : List (List Int)} {n p : Nat} (h : SqOk M n) (hp : Dt.PrimeN p) (hl : p < 2 ^ 250) : RestOk M n p (2 ^ 110) :=
 ⟨h.len, h.row, Nat.le_trans h.sz (by decide), hp, Nat.lt_of_lt_of_le hl (Nat.pow_le_pow_right (by decide) (by decide)), fun r hr x hx => Nat.le_trans (Dt.rs_mem (h.row r hr) hx) (h.sm r hr), num_ok h.sz hl⟩
theorem ok_determinant {f : Addr} {fd : FuncData} (F : Fun K "determinant" "determinant" s_determinant f fd) (tt : Txt K mg ad) (C_greatest_of : Cal P w K mg base (CX1 P w) "greatest_of" 1 ["square"] (spGreat K)) (C_determinant_rest : Cal P w K mg base (CX1 P w) "determinant_rest" 2 ["square", "prime"] (spRest K)) (C_further_times : Cal P w K mg base (CX1 P w) "further_times" 1 ["place", "last"] spTimes) (C_inverse : Cal P w K mg base (CX1 P w) "inverse" 1 ["number", "prime"] spInvs) :
  FnOk P w K mg base (CX1 P w) 3 f fd ["square"] (spDet K) := by
 refine F.okN sc_determinant (fun vs H Q E h => ?_) (fun cdv A outer s H vs Q E hr h => ?_)
 ·obtain ⟨a, as, M, n, rfl, _⟩ := h
  rfl
 ·obtain ⟨a, as, M, n, rfl, hA, hR, ok, hlt, q⟩ := h
  have hs : sizeLine = 16777216 := sizeLine_eq
  have hdet := Dt.det_le (M := M) ok.len
  have hbnd := ok.part n
  rw [List.take_of_length_le (by rw [ok.len]; exact Nat.le_refl _)] at hbnd
  generalize hB : Dt.pL (M.map (Dt.rs n)) = B at hlt hdet hbnd
  generalize hDD : Dt.det n (Dt.ent M) = DD at q hdet
  have bB : Bg ((B : Nat) : Int) := bg_le (by rw [Int.natAbs_natCast]; exact Nat.le_refl _) hbnd
  refine ⟨_, (pss_cons (ps_set (i := 1) sc_determinant.nd rfl (Or.inl rfl) (pe_cal C_greatest_of hr pass1 (pa_cons (pv 0) pa_nil)))
   (pss_cons (ps_set (i := 2) sc_determinant.nd rfl (Or.inl rfl) (pe_cal C_determinant_rest hr pass1 (pa_cons (pv 0) (pa_cons (pe_glob (by rfl) tt.g_FIRST_PRIME tt.r_FIRST_PRIME) pa_nil))))
   (pss_cons (ps_set (i := 3) sc_determinant.nd rfl (Or.inl rfl) (pe_glob (by rfl) tt.g_FIRST_PRIME tt.r_FIRST_PRIME))
   (pss_cons (ps_set (i := 4) sc_determinant.nd rfl (Or.inl rfl) pe_int)
   (pss_cons (ps_set (i := 5) sc_determinant.nd rfl (Or.inl rfl) pe_int)
   (pss_cons (ps_while PassesOwn.never (pt_cmpR op_le (pv 3) (pe_op op_mulB pe_int (pv 1)) (nomark _)) (pss_cons (ps_set (i := 5) sc_determinant.nd rfl (Or.inl rfl) (pe_cal C_further_times hr pass1 (pa_cons (pv 4) (pa_cons (pv 5) pa_nil))))
   (pss_cons (ps_set (i := 4) sc_determinant.nd rfl (Or.inl rfl) (pe_op op_add (pv 4) pe_int))
   (pss_cons (ps_set (i := 6) sc_determinant.nd rfl (Or.inl rfl) (pe_op op_add (pe_op op_mulB (pv 5) (pe_glob (by rfl) tt.g_STEP tt.r_STEP)) pe_int))
   (pss_cons (ps_set (i := 7) sc_determinant.nd rfl (Or.inl rfl) (pe_op op_sub (pe_cal C_determinant_rest hr pass1 (pa_cons (pv 0) (pa_cons (pv 6) pa_nil))) (pv 2)))
   (pss_cons (ps_set (i := 2) sc_determinant.nd rfl (Or.inl rfl) (pe_op op_add (pv 2) (pe_op op_mulB (pe_op op_mod (pe_op op_mulB (pv 7) (pe_cal C_inverse hr pass1 (pa_cons (pv 3) (pa_cons (pv 6) pa_nil)))) (pv 6)) (pv 3))))
   (pss_one (ps_set (i := 3) sc_determinant.nd rfl (Or.inl rfl) (pe_op op_mulB (pv 3) (pv 6))))))))))
   (pss_cons (ps_if (pt_cmpR op_gt (pv 2) (pv 1) (nomark _)) (pss_one (ps_ret (pe_op op_sub (pv 2) (pv 3)))) pss_nil)
   (pss_one (ps_ret (pv 2)))))))))), ?_⟩
  (try rw [cxK2]); (try rw [cxK1])
  refine ⟨_, rfl, a, as, M, n, rfl, hA, hR, ok, fun G1 s1 => ?_⟩
  rw [hB]
  refine ⟨_, rfl, a, as, M, n, 2305843009213693951, 2 ^ 110, rfl, s1.seq hA, hR.on s1, ok.rest Dt.mers (by decide +kernel), fun res G2 s2 hres hcg => ?_⟩
  rw [hDD] at hcg
  refine ⟨fun m σ G => ∃ (j : Nat) (res times : Int) (v6 v7 : Option V), m = 7 - j ∧ j ≤ 7 ∧ Same H G ∧ (0 ≤ res ∧ res < (Dt.md j : Nat)) ∧ Dt.Cg (Dt.md j : Nat) res DD ∧ σ = [some (.ref a), some (.int (B : Nat)), some (.int res), some (.int (Dt.md j : Nat)), some (.int (j : Nat)), some (.int times), v6, v7],
   ⟨_, 0, res, 0, none, none, rfl, by omega, s1.trans s2, hres, hcg, rfl⟩, ?_⟩
  rintro m σ G ⟨j, res, times, v6, v7, rfl, hj, sG, hres, hcg, rfl⟩
  refine ⟨_, rfl, _, rfl, _, _, rfl, rfl, ⟨bg_le (n := 2) (by decide) (by decide +kernel), bB⟩, _, _, rfl, rfl, _, rfl, ?_⟩
  by_cases hle : Dt.md j ≤ 2 * B
  ·refine itP (decide_eq_true (by omega)) ?_
   have hj7 : j < 7 := by
    rcases Nat.lt_or_ge j 7 with z | z
    ·exact z
    ·rw [show j = 7 by omega] at hle
     omega
   obtain ⟨k1, k2, k3, k4⟩ := Dt.pr_ok j hj7
   have ePr := pr_eq j hj7
   have hpp := Dt.pr_prime hj7
   have hp1 := hpp.1
   have l1 := lt8000 k1 (by decide)
   have l3 := lt8000 k3 (by decide)
   have l4 := lt8000 k4 (by decide)
   have bP : Bg ((Dt.pr j : Nat) : Int) := bg_le (by rw [Int.natAbs_natCast]; exact Nat.le_refl _) l1
   have bM : Bg ((Dt.md j : Nat) : Int) := bg_le (by rw [Int.natAbs_natCast]; exact Nat.le_refl _) l3
   refine ⟨_, fun σ' H' z => z, ?_⟩
   refine ⟨_, rfl, _, rfl, j, times, rfl, hj7, ?_⟩
   refine ⟨_, rfl, _, _, rfl, rfl, ?_⟩
   refine ⟨_, rfl, _, _, rfl, rfl, ⟨bg_le (Nat.le_of_lt (kts_le j hj7)) (lt8000 (k := 21) (by decide +kernel) (by decide)), bg_le (n := 2 ^ 200) (by decide +kernel) (lt8000 (k := 201) (by decide +kernel) (by decide))⟩, _, _, rfl, rfl, ?_⟩
   refine ⟨_, rfl, _, rfl, a, as, M, n, Dt.pr j, 2 ^ 110, congrArg (fun z => [V.ref a, V.int z]) ePr, sG.seq hA, hR.on sG, ok.rest hpp k1, fun r2 G3 s3 hr2 hc2 => ?_⟩
   rw [hDD] at hc2
   refine ⟨_, rfl, _, _, rfl, rfl, ?_⟩
   refine ⟨_, rfl, _, rfl, _, rfl, _, rfl, ((Dt.md j : Nat) : Int), Dt.pr j, congrArg (fun z => [V.int ((Dt.md j : Nat) : Int), V.int z]) ePr, hpp, Nat.lt_of_lt_of_le k1 (Nat.pow_le_pow_right (by decide) (by decide)), (fun z => k2 (by exact_mod_cast z)), fun inv hi hib => ?_⟩
   have q1 := Int.emod_nonneg ((r2 - res) * inv) (show ((Dt.pr j : Nat) : Int) ≠ 0 by omega)
   have q2 := Int.emod_lt_of_pos ((r2 - res) * inv) (show (0 : Int) < ((Dt.pr j : Nat) : Int) by omega)
   obtain ⟨c1, c2, c3⟩ := Dt.crt (M1 := Dt.md j) (pr := Dt.pr j) (D := DD) (res := res) (r2 := r2) (inv := inv) (by omega) (by omega) hcg hc2 hi hres
   refine ⟨_, _, rfl, rfl, ⟨bg_le (n := Dt.md j + Dt.pr j) (by omega) (Nat.lt_of_lt_of_le (Nat.add_lt_add k3 k1) (by decide +kernel)), bg_le (n := Dt.pr j) (by omega) l1⟩, _, rfl, _, _, rfl, rfl, (by show (0 : Int) < _; rw [ePr]; omega), _, rfl, _, _, rfl, rfl, ⟨?_, bM⟩, _, _, rfl, rfl, ?_⟩
   ·show Bg ((r2 - res) * inv % _)
    rw [ePr]
    exact bg_le (n := Dt.pr j) (by omega) l1
   refine ⟨_, rfl, _, rfl, _, _, rfl, rfl, ⟨bM, by rw [ePr]; exact bP⟩, ?_⟩
   refine ⟨7 - (j + 1), by omega, j + 1, res + (r2 - res) * inv % (Dt.pr j : Nat) * (Dt.md j : Nat), kts.getD j 0, some (.int (kts.getD j 0 * 6277101735386680763835789423207666416102355444464034512896 + 1)), some (.int (r2 - res)), rfl, by omega, sG.trans s3, ⟨c2, c3⟩, c1, ?_⟩
   rw [← ePr, show ((Dt.md (j + 1) : Nat) : Int) = (Dt.md j : Nat) * (kts.getD j 0 * 6277101735386680763835789423207666416102355444464034512896 + 1) by rw [ePr]; exact Int.natCast_mul ..]
   rfl
  ·refine itN (fun z => hle (by have := of_decide_eq_true z; omega)) ?_
   have hfr := Dt.from_rest (M := Dt.md j) (D := DD) (res := res) (bd := (B : Nat)) (by omega) (by omega) hcg hres
   refine ⟨_, rfl, _, rfl, _, _, rfl, rfl, _, rfl, ?_⟩
   by_cases hgt : ((B : Nat) : Int) < res
   ·rw [if_pos hgt] at hfr
    refine itP (decide_eq_true hgt) ?_
    refine ⟨_, rfl, _, rfl, _, _, rfl, rfl, ?_⟩
    rw [← hfr] at q
    exact q G sG
   ·rw [if_neg hgt] at hfr
    refine itN (fun z => hgt (of_decide_eq_true z)) ?_
    rw [← hfr] at q
    exact ⟨_, rfl, q G sG⟩

noncomputable def cntE (words : List (List Nat)) (o : List Nat) : Int := ((words.countP fun w => decide (w.drop 1 = o) : Nat) : Int)
noncomputable def rowI (texts : List (List Nat)) (t : List Nat) (words : List (List Nat)) : List Int := texts.map fun o => if o = t then ((words.length : Nat) : Int) - cntE words t else - cntE words o
theorem count_T {words : List (List Nat)} {o : List Nat} : ((((words.map fun w => w.drop 1).map T).countP fun y => eqV y (T o) : Nat) : Int) = cntE words o := by
 unfold cntE
 rw [List.map_map, List.countP_map]
 congr 2
 funext w
 show (tx (w.drop 1) == tx o) = decide (w.drop 1 = o)
 rw [Bool.eq_iff_iff, beq_iff_eq, decide_eq_true_iff]
 exact ⟨fun h => tx_inj h, fun h => by rw [h]⟩
noncomputable def spRowC (K : PySem.W.Frag) : Sp := fun vs H Q _ => ∃ (a b : Addr) (texts words : List (List Nat)) (t : List Nat), vs = [.ref a, T t, .ref b] ∧ SqL K H a (texts.map T) ∧ SqL K H b (words.map T) ∧ (texts.length ≤ 200 ∧ words.length ≤ 200 ∧ ∀ x ∈ words, 1 ≤ x.length ∧ x.length ≤ 1000) ∧ ∀ D H', H D = none → Same H H' → H' D = some (.lst ((rowI texts t words).map V.int)) → Q (.ref D) H'
theorem ok_choice_row {f : Addr} {fd : FuncData} (F : Fun K "choice_row" "choice_row" s_choice_row f fd) (tt : Txt K mg ad) (C_end_of : Cal P w K mg base (CX1 P w) "end_of" 1 ["word"] spEnd) : FnOk P w K mg base (CX1 P w) 2 f fd ["texts", "text", "words"] (spRowC K) := by
 refine F.okN sc_choice_row (fun vs H Q E h => ?_) (fun cdv A outer s H vs Q E hr h => ?_)
 ·obtain ⟨a, b, texts, words, t, rfl, _⟩ := h
  rfl
 ·obtain ⟨a, b, texts, words, t, rfl, hA, hB, ⟨h1, h2, h3⟩, q⟩ := h
  have hs : sizeLine = 16777216 := sizeLine_eq
  refine ⟨_, (pss_cons (ps_set (i := 3) sc_choice_row.nd rfl (Or.inr rfl) (pe_comp cs_choice_row_0 rfl (pi_list (pv 2)) (fun cl C s' H' fp => (pe_cal C_end_of hr pass1 (pa_cons (pv 0) pa_nil)))))
   (pss_one (ps_ret (pe_comp cs_choice_row_1 rfl (pi_list (pv 0)) (fun cl C s' H' fp => (pe_ifExp (pt_cmpR op_eq_T (pv 0) (pv 2) (nomark _)) (pe_op op_sub (pe_callB (call_len_K K rfl) (by rfl) tt.b_len PySem.boot_len (pa_cons (pv 4) pa_nil)) (pe_bmK K rfl PySem.F.plainAttrs_list PySem.F.slot_list_count PySem.F.type_list_count (mt_countK K rfl) (pv 4) (pa_cons (pv 2) pa_nil))) (pe_un un_neg (pe_bmK K rfl PySem.F.plainAttrs_list PySem.F.slot_list_count PySem.F.type_list_count (mt_countK K rfl) (pv 4) (pa_cons (pv 0) pa_nil))))))))), ?_⟩
  (try rw [cxK2]); (try rw [cxK1])
  refine ⟨_, rfl, b, rfl, ⟨_, hB⟩, ?_⟩
  refine compG (fun v => T ((unT v).drop 1)) (reads_list hB) (by rw [List.length_map]; omega) (fun v G hv sg N hN => ?_) fun D1 G1 hD1 s1 hd1 => ?_
  ·obtain ⟨l, hl, rfl⟩ := List.mem_map.mp hv
   have z := hN G (Same.refl _)
   rw [unT_T] at z
   have hx := h3 l hl
   exact ⟨_, rfl, l, rfl, ⟨by omega, by omega⟩, z⟩
  have hd1 : G1 D1 = some (.lst ((words.map fun w => w.drop 1).map T)) := by
   rw [hd1, List.map_map, List.map_map]
   refine congrArg (fun l => some (HO.lst l)) (List.map_congr_left fun m _ => ?_)
   show T ((unT (T m)).drop 1) = T (m.drop 1)
   rw [unT_T]
  refine ⟨_, rfl, a, rfl, ⟨_, s1.seq hA⟩, ?_⟩
  refine compG (fun v => .int (if unT v = t then ((words.length : Nat) : Int) - cntE words t else - cntE words (unT v))) (reads_list (s1.seq hA)) (by rw [List.length_map]; omega) (fun v G hv sg N hN => ?_) fun D2 G2 hD2 s2 hd2 => ?_
  ·obtain ⟨o, ho, rfl⟩ := List.mem_map.mp hv
   have z := hN G (Same.refl _)
   rw [unT_T] at z
   have hdG := sg D1 _ hd1
   refine ⟨_, rfl, _, rfl, _, rfl, _, rfl, _, rfl, ?_⟩
   by_cases hot : o = t
   ·rw [if_pos hot] at z
    refine itP (decide_eq_true hot) ?_
    refine ⟨_, rfl, D1, _, rfl, .inl (SqL.of hdG), _, rfl, .inl ⟨rfl, _, SqL.of hdG⟩, _, rfl, D1, _, _, rfl, rfl, SqL.of hdG, all_flat _, rfl, _, _, rfl, rfl, ?_⟩
    rw [count_T, List.length_map, List.length_map]
    exact z
   ·rw [if_neg hot] at z
    refine itN (fun y => hot (of_decide_eq_true y)) ?_
    refine ⟨_, rfl, .inl ⟨rfl, _, SqL.of hdG⟩, _, rfl, D1, _, _, rfl, rfl, SqL.of hdG, all_flat _, rfl, _, rfl, ?_⟩
    rw [count_T]
    exact z
  have hD0 : H D2 = none := by
   cases e : H D2 with
   | none => rfl
   | some o => have := s1 D2 o e; rw [hD2] at this; cases this
  refine q D2 G2 hD0 (s1.trans s2) ?_
  rw [hd2]
  unfold rowI
  rw [List.map_map, List.map_map]
  refine congrArg (fun l => some (HO.lst l)) (List.map_congr_left fun m _ => ?_)
  show V.int (if unT (T m) = t then _ else _) = V.int (if m = t then _ else _)
  rw [unT_T]

noncomputable def outL (ms : List (List Nat)) (p : List Nat) : List (List Nat) := ms.filter fun l => decide (beg l = p)
noncomputable def spOuts (C : Addr) : Sp := fun vs H Q _ => ∃ (x tp : Addr) (n : Nat) (ms : List (List Nat)) (p : List Nat), vs = [.ref x, T p] ∧ WebAt C H x tp n ms ∧ WebOk ms n ∧ ∀ D H', H D = none → Same H H' → H' D = some (.lst ((outL ms p).map T)) → Q (.ref D) H'
theorem ok_outs {f : Addr} {fd : FuncData} (F : Fun K "outs" "outs" s_outs f fd) (tt : Txt K mg ad) (C_begin_of : Cal P w K mg base (CX1 P w) "begin_of" 1 ["word"] spBegin) : FnOk P w K mg base (CX1 P w) 2 f fd ["web", "piece"] (spOuts ad.Web) := by
 refine F.okN sc_outs (fun vs H Q E h => ?_) (fun cdv A outer s H vs Q E hr h => ?_)
 ·obtain ⟨x, tp, n, ms, p, rfl, _⟩ := h
  rfl
 ·obtain ⟨x, tp, n, ms, p, rfl, hW, hok, q⟩ := h
  have hs : sizeLine = 16777216 := sizeLine_eq
  obtain ⟨⟨dx, hx⟩, htp⟩ := id hW
  obtain ⟨hne, h64, ⟨hn, hfew⟩, hxs, hnd⟩ := id hok
  refine ⟨_, (pss_one (ps_ret (pe_compf cs_outs_0 rfl (pi_tup (pe_fld (pv 0) rfl)) (fun cl C s' H' fp => (pt_cmpR op_eq_T (pe_cal C_begin_of hr pass1 (pa_cons (pv 0) pa_nil)) (pv 2) (nomark _))) (fun cl C s' H' fp => (pv 0))))), ?_⟩
  (try rw [cxK2]); (try rw [cxK1])
  refine ⟨_, rfl, x, ad.Web, dx, _, _, rfl, hx, tt.cl_Web, tt.na_Web_words, flds_w _ _, tp, rfl, ⟨_, SqT.of htp⟩, ?_⟩
  refine compFG (fun v => decide (beg (unT v) = p)) (fun v => v) (reads_tup (SqT.of htp)) (by rw [List.length_map]; omega) (fun v H2 hv s2 N hN => ?_) (fun v H2 hv hp s2 N hN => ?_) fun D1 H2 hD1 s2 hd2 => ?_
  ·obtain ⟨l, hl, rfl⟩ := List.mem_map.mp hv
   have hll := hxs l hl
   have z := hN H2 (Same.refl _)
   rw [unT_T] at z
   exact ⟨_, rfl, l, rfl, ⟨by omega, by omega⟩, _, rfl, _, rfl, _, rfl, _, rfl, z⟩
  ·exact ⟨_, rfl, hN H2 (Same.refl _)⟩
  rw [show (ms.map T).filter (fun v => decide (beg (unT v) = p)) = (ms.filter fun l => decide (beg l = p)).map T from filter_unT (p := fun l => decide (beg l = p)) ms, List.map_id'] at hd2
  exact q D1 H2 hD1 s2 hd2

inductive WaysAt (H : Hp) (g : List Nat → List (List Nat)) : List (List Nat) → List (Key × V) → Prop
 | nil : WaysAt H g [] []
 | cons {o : List Nat} {a : Addr} {ls : List (List Nat)} {kvs : List (Key × V)} : H a = some (.lst ((g o).map T)) → WaysAt H g ls kvs → WaysAt H g (o :: ls) ((Sum.inr (tx o), .ref a) :: kvs)
theorem WaysAt.keys {H : Hp} {g : List Nat → List (List Nat)} {ls : List (List Nat)} {kvs : List (Key × V)} (h : WaysAt H g ls kvs) : kvs.map (·.1) = ls.map fun t => Sum.inr (tx t) := by
 induction h with
 | nil => rfl
 | cons _ _ ih => rw [List.map_cons, List.map_cons, ih]
theorem WaysAt.len {H : Hp} {g : List Nat → List (List Nat)} {ls : List (List Nat)} {kvs : List (Key × V)} (h : WaysAt H g ls kvs) : kvs.length = ls.length := by
 have := congrArg List.length h.keys
 rwa [List.length_map, List.length_map] at this
theorem WaysAt.mono {H H' : Hp} {g : List Nat → List (List Nat)} {ls : List (List Nat)} {kvs : List (Key × V)} (s : Same H H') (h : WaysAt H g ls kvs) : WaysAt H' g ls kvs := by
 induction h with
 | nil => exact .nil
 | cons e _ ih => exact .cons (s _ _ e) ih
theorem WaysAt.updD {H : Hp} {g : List Nat → List (List Nat)} {ls : List (List Nat)} {kvs k : List (Key × V)} {D : Addr} {o : HO} (hd : H D = some (.dK k)) (h : WaysAt H g ls kvs) : WaysAt (upd H D o) g ls kvs := by
 induction h with
 | nil => exact .nil
 | @cons _ a _ _ e _ ih =>
  have hne : a ≠ D := fun z => by rw [z, hd] at e; cases e
  exact .cons (by rw [upd_ne hne]; exact e) ih
theorem WaysAt.snoc {H : Hp} {g : List Nat → List (List Nat)} {ls : List (List Nat)} {kvs : List (Key × V)} {o : List Nat} {a : Addr} (h : WaysAt H g ls kvs) (e : H a = some (.lst ((g o).map T))) : WaysAt H g (ls ++ [o]) (kvs ++ [(Sum.inr (tx o), .ref a)]) := by
 induction h with
 | nil => exact .cons e .nil
 | cons e1 _ ih => exact .cons e1 ih
theorem WaysAt.put {H : Hp} {g : List Nat → List (List Nat)} {ls : List (List Nat)} {kvs : List (Key × V)} {o : List Nat} {a : Addr} (h : WaysAt H g ls kvs) (ho : o ∉ ls) (e : H a = some (.lst ((g o).map T))) : WaysAt H g (ls ++ [o]) (putK kvs (Sum.inr (tx o)) (.ref a)) := by
 have hn : ¬ (kvs.any fun kv => decide (kv.1 = Sum.inr (tx o))) = true := fun z => by
  obtain ⟨kv, h1, h2⟩ := List.any_eq_true.mp z
  have h3 : kv.1 ∈ kvs.map (·.1) := List.mem_map_of_mem h1
  rw [h.keys, of_decide_eq_true h2] at h3
  obtain ⟨t, h4, h5⟩ := List.mem_map.mp h3
  have h6 : t = o := tx_inj (Sum.inr.inj h5)
  exact ho (h6 ▸ h4)
 unfold putK
 rw [if_neg hn]
 exact h.snoc e
theorem WaysAt.get {H : Hp} {g : List Nat → List (List Nat)} {ls : List (List Nat)} {kvs : List (Key × V)} {o : List Nat} (h : WaysAt H g ls kvs) (ho : o ∈ ls) : ∃ a, valV kvs (Sum.inr (tx o)) = some (.ref a) ∧ H a = some (.lst ((g o).map T)) := by
 induction h with
 | nil => cases ho
 | @cons o' a _ _ e _ ih =>
  by_cases hoo : o' = o
  ·subst hoo
   exact ⟨a, valV_pos rfl, e⟩
  ·obtain ⟨b, h1, h2⟩ := ih ((List.mem_cons.mp ho).resolve_left (Ne.symm hoo))
   exact ⟨b, by rw [valV_neg (fun z => hoo (tx_inj (Sum.inr.inj z)))]; exact h1, h2⟩
noncomputable def spWaysT (C : Addr) (ad : Adr) : Sp := fun vs H Q E => ∃ (x tp : Addr) (n : Nat) (ms : List (List Nat)) (p : List Nat), vs = [.ref x, T p] ∧ WebAt C H x tp n ms ∧ WebOk ms n ∧ (¬ IsP ms p → ∀ H', Same H H' → E (.ref ad.NoSuch) none H') ∧
 (IsP ms p → ∀ (D : Addr) (ps : List (List Nat)) (kvs : List (Key × V)) (H' : Hp), H D = none → Same H H' → H' D = some (.dK kvs) → WaysAt H' (outL ms) (ps.filter fun o => decide (o ≠ p)) kvs → ps.length ≤ 62 → ps.Pairwise (fun a b => ¬ b < a) → ps.Nodup → (∀ z, z ∈ ps ↔ IsP ms z) → Q (.ref D) H')
theorem back_none31 {H G : Hp} {D : Addr} (s : Same H G) (h : G D = none) : H D = none := by
 cases e : H D with
 | none => rfl
 | some o => exact absurd ((s D o e).symm.trans h) (fun z => nomatch z)
theorem ok_ways_toward {f : Addr} {fd : FuncData} (F : Fun K "ways_toward" "ways_toward" s_ways_toward f fd) (tt : Txt K mg ad) (C_pieces : Cal P w K mg base (CX1 P w) "pieces" 2 ["web"] (spPieces ad.Web)) (C_outs : Cal P w K mg base (CX1 P w) "outs" 2 ["web", "piece"] (spOuts ad.Web)) :
  FnOk P w K mg base (CX1 P w) 3 f fd ["web", "piece"] (spWaysT ad.Web ad) := by
 refine F.okX sc_ways_toward (fun vs H Q E h => ?_) (fun cdv A outer s H vs Q E hr h => ?_)
 ·obtain ⟨x, tp, n, ms, p, rfl, _⟩ := h
  rfl
 ·obtain ⟨x, tp, n, ms, p, rfl, hW, hok, xn, q⟩ := h
  have hs : sizeLine = 16777216 := sizeLine_eq
  obtain ⟨⟨dx, hx⟩, htp⟩ := id hW
  obtain ⟨hne, h64, ⟨hn, hfew⟩, hxs, hnd⟩ := id hok
  refine ⟨_, (pss_cons (ps_set (i := 2) sc_ways_toward.nd rfl (Or.inl rfl) (pe_cal C_pieces hr pass1 (pa_cons (pv 0) pa_nil)))
   (pss_cons (ps_if (pt_cmpR op_notIn_seq (pv 1) (pv 2) (by with_unfolding_all rfl)) (pss_one (ps_raise (E := fun cls H' => E cls none H') tt.x_NoSuch rfl (fun _ _ _ _ _ _ _ I hx q => raiseX I hx q) (pa_cons (pe_strT [116, 104, 101, 32, 119, 101, 98, 32, 104, 97, 115, 32, 110, 111, 32, 115, 117, 99, 104, 32, 112, 105, 101, 99, 101] (by decide +kernel)) pa_nil))) pss_nil)
   (pss_cons (ps_set (i := 3) sc_ways_toward.nd rfl (Or.inl rfl) pe_dnewK)
   (pss_cons (ps_for PassesOwn.leaving rfl (pi_list (pv 2)) (pg_name (i := 4) sc_ways_toward.nd rfl (Or.inl rfl)) (pss_one (ps_if (pt_cmpR op_ne_T (pv 4) (pv 1) (nomark _)) (pss_one (ps_dput (hu_of hr) (pv 3) (pv 4) (pe_cal C_outs hr pass1 (pa_cons (pv 0) (pa_cons (pv 4) pa_nil))) rfl)) pss_nil)))
   (pss_one (ps_ret (pv 3))))))), ?_⟩
  (try rw [cxK2]); (try rw [cxK1])
  refine ⟨_, rfl, x, tp, n, ms, rfl, hW, hok, fun D1 ps H1 hD1 s1 hd1 hpw hpn hpm => ?_⟩
  have hlen : ps.length ≤ 62 := few_len1 (p := []) hfew hpn fun z hz => .inr ((hpm z).mp hz)
  refine ⟨_, rfl, _, rfl, D1, _, rfl, .inl (SqL.of hd1), rfl, all_flat ps, _, rfl, ?_⟩
  by_cases hp : p ∈ ps
  ·refine itN (by rw [inV_T, decide_eq_true hp]; exact Bool.false_ne_true) ?_
   refine fun D hD => ?_
   have hD0 := back_none31 s1 hD
   have hd1' : upd H1 D (.dK []) D1 = some (.lst (ps.map T)) := by rw [upd_ne (ne_of_none hd1 hD)]; exact hd1
   refine ⟨_, rfl, D1, rfl, ⟨_, SqL.of hd1'⟩, ?_⟩
   refine for_list (K := K) (a := D1) (xs := ps.map T) (fun i σ H3 => Same H1 H3 ∧ ∃ (kvs : List (Key × V)) (v4 : Option V), H3 D = some (.dK kvs) ∧ WaysAt H3 (outL ms) ((ps.take i).filter fun o => decide (o ≠ p)) kvs ∧ σ = [some (.ref x), some (T p), some (.ref D1), some (.ref D), v4]) ⟨same_upd hD, [], none, upd_same, .nil, rfl⟩ (fun i σ H3 _ h => SqL.of (h.1 D1 _ hd1)) ?_ ?_
   ·rintro i y σ H3 hi ⟨s3, kvs, v4, hd3, hwa, rfl⟩
    obtain ⟨o, ho, rfl⟩ : ∃ o, ps[i]? = some o ∧ T o = y := by rw [List.getElem?_map] at hi; exact Option.map_eq_some_iff.mp hi
    have htk : ps.take (i + 1) = ps.take i ++ [o] := by rw [List.take_add_one, ho]; rfl
    refine ⟨_, rfl, _, rfl, _, rfl, _, rfl, _, rfl, ?_⟩
    by_cases hop : o = p
    ·refine itN (by rw [decide_eq_true hop]; exact Bool.false_ne_true) ?_
     refine ⟨s3, kvs, some (T o), hd3, ?_, rfl⟩
     rw [htk, List.filter_append, List.filter_cons_of_neg (by simp [hop])]
     simpa using hwa
    ·refine itP (by rw [decide_eq_false hop]; rfl) ?_
     refine ⟨_, rfl, _, rfl, x, tp, n, ms, o, rfl, ⟨⟨dx, s3 x _ (s1 x _ hx)⟩, s3 tp _ (s1 tp _ htp)⟩, hok, fun D4 H4 hD4 s4 hd4 => ?_⟩
     refine ⟨_, rfl, _, rfl, D, _, rfl, DPut.k (k := Sum.inr (tx o)) (s4 D _ hd3) (by rw [hwa.len]; have := List.length_filter_le (fun o => decide (o ≠ p)) (ps.take i); rw [List.length_take] at this; omega), ?_⟩
     have hno : o ∉ (ps.take i).filter fun o => decide (o ≠ p) := fun z => by
      have z1 := (List.mem_filter.mp z).1
      have nd : (ps.take i ++ [o]).Nodup := htk ▸ hpn.sublist (List.take_sublist (i + 1) ps)
      exact (List.nodup_append.mp nd).2.2 o z1 o (List.mem_singleton.mpr rfl) rfl
     have hne4 : D4 ≠ D := fun z => by rw [z, hd3] at hD4; cases hD4
     refine ⟨fun b ob e => ?_, _, some (T o), upd_same, ?_, rfl⟩
     ·rw [upd_ne (ne_of_none e hD)]
      exact s4 b ob (s3 b ob e)
     ·rw [htk, List.filter_append, List.filter_cons_of_pos (by simp [hop])]
      exact ((hwa.mono s4).put hno hd4).updD (s4 D _ hd3)
   ·rintro σ H3 ⟨s3, kvs, v4, hd3, hwa, rfl⟩
    rw [List.length_map, List.take_length] at hwa
    exact ⟨_, rfl, q ((hpm p).mp hp) D ps kvs H3 hD0 (s1.trans s3) hd3 hwa hlen hpw hpn hpm⟩
  ·refine itP (by rw [inV_T, decide_eq_false hp]; rfl) ?_
   exact ⟨(by show 1 ≤ sizeLine; omega), xn (fun z => hp ((hpm p).mpr z)) H1 s1⟩

noncomputable def chMat (ls : List (List Nat)) (g : List Nat → List (List Nat)) : List (List Int) := ls.map fun t => rowI ls t (g t)
noncomputable def spChoices (K : PySem.W.Frag) : Sp := fun vs H Q _ => ∃ (a : Addr) (ls : List (List Nat)) (kvs : List (Key × V)) (g : List Nat → List (List Nat)), vs = [.ref a] ∧ H a = some (.dK kvs) ∧ WaysAt H g ls kvs ∧ (ls.length ≤ 64 ∧ ∀ o ∈ ls, (g o).length ≤ 200 ∧ ∀ x ∈ g o, 1 ≤ x.length ∧ x.length ≤ 1000) ∧
 SqOk (chMat ls g) ls.length ∧ 2 * Dt.pL ((chMat ls g).map (Dt.rs ls.length)) < Dt.md 7 ∧ ∀ H', Same H H' → Q (.int (Dt.det ls.length (Dt.ent (chMat ls g)))) H'
theorem ok_choices_counted {f : Addr} {fd : FuncData} (F : Fun K "choices_counted" "choices_counted" s_choices_counted f fd) (tt : Txt K mg ad) (C_determinant : Cal P w K mg base (CX1 P w) "determinant" 3 ["square"] (spDet K)) (C_choice_row : Cal P w K mg base (CX1 P w) "choice_row" 2 ["texts", "text", "words"] (spRowC K)) :
  FnOk P w K mg base (CX1 P w) 4 f fd ["ways"] (spChoices K) := by
 refine F.okN sc_choices_counted (fun vs H Q E h => ?_) (fun cdv A outer s H vs Q E hr h => ?_)
 ·obtain ⟨a, ls, kvs, g, rfl, _⟩ := h
  rfl
 ·obtain ⟨a, ls, kvs, g, rfl, hd, hwa, ⟨h64, hg⟩, hsq, hpl, q⟩ := h
  have hs : sizeLine = 16777216 := sizeLine_eq
  refine ⟨_, (pss_cons (ps_set (i := 1) sc_choices_counted.nd rfl (Or.inr rfl) (pe_callTy (call_listD rfl) (by rfl) tt.b_list (by decide +kernel) (pa_cons (pv 0) pa_nil)))
   (pss_one (ps_ret (pe_cal C_determinant hr pass1 (pa_cons (pe_comp cs_choices_counted_0 rfl (pi_list (pv 1)) (fun cl C s' H' fp => (pe_cal C_choice_row hr pass1 (pa_cons (pv 2) (pa_cons (pv 0) (pa_cons (pe_dget (hu_of hr) (pv 1) (pv 0) (fun _ _ => rfl)) pa_nil)))))) pa_nil))))), ?_⟩
  (try rw [cxK2]); (try rw [cxK1])
  refine ⟨_, rfl, a, ls, kvs, rfl, hd, hwa.keys, fun D1 hD1 => ?_⟩
  have s1 := same_upd (o := .lst (ls.map T)) hD1
  refine ⟨_, rfl, D1, rfl, ⟨_, SqL.of upd_same⟩, ?_⟩
  refine compVR (K := K) (fun v => rowI ls (unT v) (g (unT v))) (reads_list (SqL.of upd_same)) (by rw [List.length_map]; omega) (fun v G hv sg N hN => ?_) fun D2 bs G2 hD2 s2 hd2 hne2 hR2 => ?_
  ·obtain ⟨t, ht, rfl⟩ := List.mem_map.mp hv
   rw [unT_T] at hN
   obtain ⟨b, hb1, hb2⟩ := ((hwa.mono s1).mono sg).get ht
   have hget : DGet G a (T t) (some (.ref b)) := by rw [← hb1]; exact DGet.k (k := Sum.inr (tx t)) (sg a _ (s1 a _ hd))
   have hgt := hg t ht
   exact ⟨_, rfl, _, rfl, _, rfl, _, rfl, a, _, rfl, hget, D1, b, ls, g t, t, rfl, SqL.of (sg D1 _ upd_same), SqL.of hb2, ⟨by omega, hgt.1, hgt.2⟩, fun D H' hD s' hd' => hN D H' s' hD hd'⟩
  rw [show (ls.map T).map (fun v => rowI ls (unT v) (g (unT v))) = chMat ls g from by
   unfold chMat
   rw [List.map_map]
   refine List.map_congr_left fun m _ => ?_
   show rowI ls (unT (T m)) (g (unT (T m))) = _
   rw [unT_T]] at hR2
  exact ⟨D2, bs, chMat ls g, ls.length, rfl, SqL.of hd2, hR2, hsq, hpl, fun H' s' => q H' ((s1.trans s2).trans s')⟩

theorem cntE_le {words : List (List Nat)} {o : List Nat} : (cntE words o).natAbs ≤ words.length := by
 unfold cntE
 have := List.countP_le_length (p := fun w => decide (w.drop 1 = o)) (l := words)
 omega
theorem rowI_abs {texts words : List (List Nat)} {t : List Nat} {x : Int} (hx : x ∈ rowI texts t words) : x.natAbs ≤ words.length := by
 obtain ⟨o, _, rfl⟩ := List.mem_map.mp hx
 have h1 := cntE_le (words := words) (o := t)
 have h2 := cntE_le (words := words) (o := o)
 have h3 : 0 ≤ cntE words t := Int.natCast_nonneg _
 show (if o = t then ((words.length : Nat) : Int) - cntE words t else - cntE words o).natAbs ≤ _
 split <;> omega
theorem sN_bound {f : Nat → Nat} {c : Nat} : ∀ {n : Nat}, (∀ j, j < n → f j ≤ c) → Dt.sN n f ≤ n * c := fun {n} h => by
 have h1 : Dt.sN n f ≤ Dt.sN n fun _ => 1 * c := Dt.sN_le fun j hj => by rw [Nat.one_mul]; exact h j hj
 have h2 : ∀ n : Nat, Dt.sN n (fun _ => 1) = n := fun n => by
  induction n with
  | zero => rfl
  | succ n ih => show Dt.sN n (fun _ => 1) + 1 = n + 1; rw [ih]
 rw [Dt.sN_mul, h2] at h1
 exact h1
theorem chMat_ok {ls : List (List Nat)} {g : List Nat → List (List Nat)} (h64 : ls.length ≤ 64) (hg : ∀ o ∈ ls, (g o).length ≤ 64) : SqOk (chMat ls g) ls.length ∧ 2 * Dt.pL ((chMat ls g).map (Dt.rs ls.length)) < Dt.md 7 := by
 have hrow : ∀ r ∈ chMat ls g, Dt.rs ls.length r ≤ 4096 := fun r hr => by
  obtain ⟨t, ht, rfl⟩ := List.mem_map.mp hr
  have h1 : Dt.rs ls.length (rowI ls t (g t)) ≤ ls.length * 64 := sN_bound fun j hj => by
   have hl : j < (rowI ls t (g t)).length := by unfold rowI; rw [List.length_map]; exact hj
   rw [List.getD_eq_getElem?_getD, List.getElem?_eq_getElem hl]
   exact Nat.le_trans (rowI_abs (List.getElem_mem hl)) (hg t ht)
  omega
 have hlen : (chMat ls g).length = ls.length := List.length_map ..
 refine ⟨⟨hlen, fun r hr => ?_, h64, fun r hr => Nat.le_trans (hrow r hr) (by decide)⟩, ?_⟩
 ·obtain ⟨t, _, rfl⟩ := List.mem_map.mp hr
  exact List.length_map ..
 ·have h1 := Dt.pL_le (R := 4096) (l := (chMat ls g).map (Dt.rs ls.length)) fun x hx => by
   obtain ⟨r, hr, rfl⟩ := List.mem_map.mp hx
   exact hrow r hr
  rw [List.length_map, hlen] at h1
  have h2 : 4096 ^ ls.length ≤ 4096 ^ 64 := Nat.pow_le_pow_right (by decide) h64
  have h3 : 2 * 4096 ^ 64 < Dt.md 7 := by decide +kernel
  exact Nat.lt_of_le_of_lt (Nat.mul_le_mul_left 2 (Nat.le_trans h1 h2)) h3
theorem det_ch {ts : List (List Nat)} (nd : ts.Nodup) (g : List Nat → List (List Nat)) : Dt.det ts.length (Dt.ent (chMat ts g)) = ((Dt.nC ts g : Nat) : Int) := Dt.det_nC nd g
noncomputable def spTree (C : Addr) (ad : Adr) : Sp := fun vs H Q E => ∃ (x tp : Addr) (n : Nat) (ms : List (List Nat)) (p : List Nat), vs = [.ref x, T p] ∧ WebAt C H x tp n ms ∧ WebOk ms n ∧ (¬ IsP ms p → ∀ H', Same H H' → E (.ref ad.NoSuch) none H') ∧
 (IsP ms p → ∀ (ps : List (List Nat)) (H' : Hp), Same H H' → ps.length ≤ 64 → ps.Pairwise (fun a b => ¬ b < a) → ps.Nodup → (∀ z, z ∈ ps ↔ IsP ms z) → Q (.int (Dt.det (ps.filter fun o => decide (o ≠ p)).length (Dt.ent (chMat (ps.filter fun o => decide (o ≠ p)) (outL ms))))) H')
theorem ok_tree_count {f : Addr} {fd : FuncData} (F : Fun K "tree_count" "tree_count" s_tree_count f fd) (tt : Txt K mg ad) (C_choices_counted : Cal P w K mg base (CX1 P w) "choices_counted" 4 ["ways"] (spChoices K)) (C_ways_toward : Cal P w K mg base (CX1 P w) "ways_toward" 3 ["web", "piece"] (spWaysT ad.Web ad)) :
  FnOk P w K mg base (CX1 P w) 5 f fd ["web", "piece"] (spTree ad.Web ad) := by
 refine F.okX sc_tree_count (fun vs H Q E h => ?_) (fun cdv A outer s H vs Q E hr h => ?_)
 ·obtain ⟨x, tp, n, ms, p, rfl, _⟩ := h
  rfl
 ·obtain ⟨x, tp, n, ms, p, rfl, hW, hok, xn, q⟩ := h
  have hs : sizeLine = 16777216 := sizeLine_eq
  obtain ⟨hne, h64, ⟨hn, hfew⟩, hxs, hnd⟩ := id hok
  refine ⟨_, (pss_one (ps_ret (pe_cal C_choices_counted hr pass1 (pa_cons (pe_cal C_ways_toward hr passX (pa_cons (pv 0) (pa_cons (pv 1) pa_nil))) pa_nil)))), ?_⟩
  (try rw [cxK2]); (try rw [cxK1])
  refine ⟨_, rfl, _, rfl, x, tp, n, ms, p, rfl, hW, hok, xn, fun hip D ps kvs H1 hD s1 hd1 hwa hlen62 hpw hpn hpm => ?_⟩
  have hlen : ps.length ≤ 64 := by omega
  have hfl : (ps.filter fun o => decide (o ≠ p)).length ≤ 64 := Nat.le_trans (List.length_filter_le ..) hlen
  have hout : ∀ o, (outL ms o).length ≤ 64 := fun o => Nat.le_trans (List.length_filter_le ..) (by omega)
  obtain ⟨hsq, hpl⟩ := chMat_ok (g := outL ms) hfl fun o _ => hout o
  refine ⟨D, _, kvs, outL ms, rfl, hd1, hwa, ⟨hfl, fun o _ => ⟨by have := hout o; omega, fun y hy => ?_⟩⟩, hsq, hpl, fun H' s' => q hip ps H' (s1.trans s') hlen hpw hpn hpm⟩
  have := (hxs y (List.mem_filter.mp hy).1).1
  omega

noncomputable def Kp (D : Addr) (H H' : Hp) : Prop := ∀ b o, b ≠ D → H b = some o → H' b = some o
theorem valV_ways {H : Hp} {g : List Nat → List (List Nat)} {ls : List (List Nat)} {kvs : List (Key × V)} (h : WaysAt H g ls kvs) {o : List Nat} (ho : o ∉ ls) : valV kvs (Sum.inr (tx o)) = none := by
 induction h with
 | nil => rfl
 | @cons o' a _ _ e _ ih =>
  rw [valV_neg (fun z => ho (by rw [tx_inj (Sum.inr.inj z)]; exact List.mem_cons_self ..))]
  exact ih fun z => ho (List.mem_cons_of_mem _ z)
theorem WaysAt.cong {H : Hp} {g g' : List Nat → List (List Nat)} {ls : List (List Nat)} {kvs : List (Key × V)} (h : WaysAt H g ls kvs) (e : ∀ t ∈ ls, g t = g' t) : WaysAt H g' ls kvs := by
 induction h with
 | nil => exact .nil
 | @cons o a _ _ e1 _ ih => exact .cons (by rw [← e o (List.mem_cons_self ..)]; exact e1) (ih fun t ht => e t (List.mem_cons_of_mem _ ht))
theorem WaysAt.repl {H : Hp} {g : List Nat → List (List Nat)} {ls : List (List Nat)} {kvs : List (Key × V)} {o : List Nat} {a : Addr} {new : List (List Nat)} (h : WaysAt H g ls kvs) (nd : ls.Nodup) (ho : o ∈ ls) (e : H a = some (.lst (new.map T))) :
  WaysAt H (fun x => if x = o then new else g x) ls (putK kvs (Sum.inr (tx o)) (.ref a)) := by
 have hy : (kvs.any fun kv => decide (kv.1 = Sum.inr (tx o))) = true := by
  have h3 : (Sum.inr (tx o) : Key) ∈ kvs.map (·.1) := by rw [h.keys]; exact List.mem_map_of_mem ho
  obtain ⟨kv, h1, h2⟩ := List.mem_map.mp h3
  exact List.any_eq_true.mpr ⟨kv, h1, decide_eq_true h2⟩
 unfold putK
 rw [if_pos hy]
 clear hy
 have no : ∀ {ls : List (List Nat)} {kvs : List (Key × V)}, WaysAt H g ls kvs → o ∉ ls → WaysAt H (fun x => if x = o then new else g x) ls (kvs.map fun kv => if kv.1 = Sum.inr (tx o) then (kv.1, V.ref a) else kv) := fun {ls kvs} h => by
  induction h with
  | nil => intro _; exact .nil
  | @cons o' b _ _ e1 _ ih =>
   intro hn
   have hne : o' ≠ o := fun z => hn (z ▸ List.mem_cons_self ..)
   rw [List.map_cons, if_neg (fun z => hne (tx_inj (Sum.inr.inj z)))]
   exact .cons (by rw [if_neg hne]; exact e1) (ih fun z => hn (List.mem_cons_of_mem _ z))
 induction h with
 | nil => cases ho
 | @cons o' b _ _ e1 hr ih =>
  rw [List.nodup_cons] at nd
  rw [List.map_cons]
  by_cases hoo : o' = o
  ·subst hoo
   rw [if_pos rfl]
   exact .cons (by rw [if_pos rfl]; exact e) (no hr nd.1)
  ·rw [if_neg (fun z => hoo (tx_inj (Sum.inr.inj z)))]
   exact .cons (by rw [if_neg hoo]; exact e1) (ih nd.2 ((List.mem_cons.mp ho).resolve_left (Ne.symm hoo)))
noncomputable def WInv (p : List Nat) (D : Addr) (us ks : List (List Nat)) (H : Hp) : Prop := ∃ (kvs : List (Key × V)) (ls : List (List Nat)) (g : List Nat → List (List Nat)), H D = some (.dK kvs) ∧ WaysAt H g ls kvs ∧ ls.Nodup ∧ ls.length ≤ 2 * us.length + ks.length ∧ (∀ t, t ∈ ls ↔ t ≠ p ∧ (IsP us t ∨ t ∈ ks)) ∧ ∀ t ∈ ls, (g t).Perm (us.filter fun l => decide (beg l = t)) ∧ (g t).Pairwise (fun a b => ¬ b < a)
noncomputable def spWaysL (K : PySem.W.Frag) : Sp := fun vs H Q _ => ∃ (b : Addr) (ms : List (List Nat)) (p : List Nat), vs = [.ref b, T p] ∧ SqL K H b (ms.map T) ∧ (ms.length ≤ 60 ∧ ∀ x ∈ ms, 1 ≤ x.length ∧ x.length ≤ 1000) ∧ ∀ D H', H D = none → Same H H' → WInv p D ms [] H' → Q (.ref D) H'
theorem ok__law_ways {f : Addr} {fd : FuncData} (F : Fun K "_law_ways" "_law_ways" s__law_ways f fd) (tt : Txt K mg ad) : FnOk P w K mg base (CX1 P w) 1 f fd ["words", "piece"] (spWaysL K) := by
 refine F.okN sc__law_ways (fun vs H Q E h => ?_) (fun cdv A outer s H vs Q E hr h => ?_)
 ·obtain ⟨b, ms, p, rfl, _⟩ := h
  rfl
 ·obtain ⟨b, ms, p, rfl, hS, ⟨hl, hx⟩, q⟩ := h
  have hs : sizeLine = 16777216 := sizeLine_eq
  refine ⟨_, (pss_cons (ps_set (i := 2) sc__law_ways.nd rfl (Or.inl rfl) pe_dnewK)
   (pss_cons (ps_for PassesOwn.never rfl (pi_list (pv 0)) (pg_name (i := 3) sc__law_ways.nd rfl (Or.inl rfl)) (pss_cons (ps_for PassesOwn.never rfl (pi_list (pe_lst (pa_cons (pe_slice sl_T (pv 3) po_none (po_some (pe_un un_neg pe_int))) (pa_cons (pe_slice sl_T (pv 3) (po_some pe_int) po_none) pa_nil)))) (pg_name (i := 4) sc__law_ways.nd rfl (Or.inl rfl)) (pss_one (ps_if (pt_cmpR op_ne_T (pv 4) (pv 1) (nomark _)) (pss_one (ps_expr (pe_dsetdef (pv 2) (pv 4) (pe_lst pa_nil) ⟨rfl, rfl, rfl, rfl⟩))) pss_nil)))
   (pss_one (ps_if (pt_cmpR op_ne_T (pe_slice sl_T (pv 3) po_none (po_some (pe_un un_neg pe_int))) (pv 1) (nomark _)) (pss_one (ps_dput (hu_of hr) (pv 2) (pe_slice sl_T (pv 3) po_none (po_some (pe_un un_neg pe_int))) (pe_callB call_sortedT (by rfl) tt.b_sorted PyProof.Rows.boot_sorted (pa_cons (pe_op op_catL (pe_dget (hu_of hr) (pv 2) (pe_slice sl_T (pv 3) po_none (po_some (pe_un un_neg pe_int))) (fun _ _ => rfl)) (pe_lst (pa_cons (pv 3) pa_nil))) pa_nil)) rfl)) pss_nil))))
   (pss_one (ps_ret (pv 2))))), ?_⟩
  (try rw [cxK2]); (try rw [cxK1])
  refine fun D hD => ?_
  have sD := same_upd (o := .dK []) hD
  have tolist : ∀ {H'}, Kp D H H' → SqL K H' b (ms.map T) := fun {H'} k => SqL.keepTwo hS fun o e => k b o (fun z => by rw [z, hD] at e; cases e) e
  refine ⟨_, rfl, b, rfl, ⟨_, sD.seq hS⟩, ?_⟩
  refine for_list (K := K) (a := b) (xs := ms.map T) (fun i σ H3 => Kp D H H3 ∧ WInv p D (ms.take i) [] H3 ∧ ∃ v3 v4 : Option V, σ = [some (.ref b), some (T p), some (.ref D), v3, v4]) ⟨fun b o _ e => sD b o e, ⟨[], [], fun _ => [], upd_same, .nil, List.nodup_nil, Nat.zero_le _, fun t => ⟨fun z => (nomatch z), fun z => z.2.elim (fun ⟨w, h, _⟩ => by rw [List.take_zero] at h; cases h) (fun h => (nomatch h))⟩, fun t h => (nomatch h)⟩, none, none, rfl⟩ (fun i σ H3 _ h => tolist h.1) ?_ ?_
  ·rintro i y σ H3 hi ⟨k3, hw3, v3, v4, rfl⟩
   obtain ⟨x, hxi, rfl⟩ : ∃ x, ms[i]? = some x ∧ T x = y := by rw [List.getElem?_map] at hi; exact Option.map_eq_some_iff.mp hi
   have hxx := hx x (List.mem_of_getElem? hxi)
   have htk : ms.take (i + 1) = ms.take i ++ [x] := by rw [List.take_add_one, hxi]; rfl
   have hil : (ms.take i).length ≤ 60 := by rw [List.length_take]; omega
   have cb : cutL x none (some (-(1 : Int))) = beg x := cut_begin hxx.1
   have ce : cutL x (some 1) none = x.drop 1 := cutL_from (k := 1) hxx.1
   refine ⟨_, rfl, _, rfl, _, rfl, _, rfl, (by omega), _, rfl, _, rfl, _, rfl, (by omega), (by show 2 ≤ sizeLine; omega), fun l hl => ?_⟩
   rw [cb, ce]
   have s4 := same_upd (o := .lst [T (beg x), T (x.drop 1)]) hl
   have hlD : l ≠ D := fun z => by obtain ⟨kvs, _, _, h, _⟩ := hw3; rw [z, h] at hl; cases hl
   have h4 : upd H3 l (.lst [T (beg x), T (x.drop 1)]) l = some (.lst [T (beg x), T (x.drop 1)]) := upd_same
   have hw4 : WInv p D (ms.take i) [] (upd H3 l (.lst [T (beg x), T (x.drop 1)])) := by
    obtain ⟨kvs, ls, g, h1, h2, h3⟩ := hw3
    exact ⟨kvs, ls, g, s4 D _ h1, h2.mono s4, h3⟩
   generalize upd H3 l (.lst [T (beg x), T (x.drop 1)]) = H4 at s4 h4 hw4
   refine ⟨l, rfl, ⟨_, SqL.of h4⟩, ?_⟩
   refine for_list (K := K) (a := l) (xs := [beg x, x.drop 1].map T) (fun j σ H5 => Kp D H4 H5 ∧ WInv p D (ms.take i) ([beg x, x.drop 1].take j) H5 ∧ ∃ v4 : Option V, σ = [some (.ref b), some (T p), some (.ref D), some (T x), v4]) ⟨fun b o _ e => e, hw4, v4, rfl⟩ (fun j σ H5 _ h => SqL.of (h.1 l _ hlD h4)) ?_ ?_
   ·rintro j y σ H5 hj ⟨k5, hw5, v4, rfl⟩
    obtain ⟨o, ho, rfl⟩ : ∃ o, [beg x, x.drop 1][j]? = some o ∧ T o = y := by rw [List.getElem?_map] at hj; exact Option.map_eq_some_iff.mp hj
    have htj : [beg x, x.drop 1].take (j + 1) = [beg x, x.drop 1].take j ++ [o] := by rw [List.take_add_one, ho]; rfl
    have hjl : ([beg x, x.drop 1].take j).length ≤ 2 := by rw [List.length_take]; exact Nat.min_le_right _ _
    obtain ⟨kvs, ls, g, hd5, hwa, nd, hll, hm, hg⟩ := hw5
    refine ⟨_, rfl, _, rfl, _, rfl, _, rfl, _, rfl, ?_⟩
    by_cases hop : o = p
    ·refine itN (by rw [decide_eq_true hop]; exact Bool.false_ne_true) ?_
     refine ⟨k5, ⟨kvs, ls, g, hd5, hwa, nd, by rw [htj, List.length_append]; omega, fun t => ?_, hg⟩, some (T o), rfl⟩
     rw [hm, htj, List.mem_append, List.mem_singleton]
     constructor
     ·rintro ⟨h1, h2 | h2⟩
      ·exact ⟨h1, .inl h2⟩
      ·exact ⟨h1, .inr (.inl h2)⟩
     ·rintro ⟨h1, h2 | h2 | h2⟩
      ·exact ⟨h1, .inl h2⟩
      ·exact ⟨h1, .inr h2⟩
      ·exact absurd (h2.trans hop) h1
    ·refine itP (by rw [decide_eq_false hop]; rfl) ?_
     refine ⟨_, rfl, D, rfl, ⟨_, hd5⟩, _, rfl, (by show 0 ≤ sizeLine; omega), fun e he => ?_⟩
     have s6 := same_upd (o := .lst []) he
     refine ⟨kvs, Sum.inr (tx o), s6 D _ hd5, rfl, by rw [hwa.len]; omega, fun v hv => ?_, fun hn => ?_⟩
     ·have hol : o ∈ ls := Decidable.byContradiction fun z => by rw [valV_ways hwa z] at hv; cases hv
      refine ⟨fun b o' hb e' => s6 b o' (k5 b o' hb e'), ⟨kvs, ls, g, s6 D _ hd5, hwa.mono s6, nd, by rw [htj, List.length_append]; omega, fun t => ?_, hg⟩, some (T o), rfl⟩
      rw [hm, htj, List.mem_append, List.mem_singleton]
      constructor
      ·rintro ⟨h1, h2 | h2⟩
       ·exact ⟨h1, .inl h2⟩
       ·exact ⟨h1, .inr (.inl h2)⟩
      ·rintro ⟨h1, h2 | h2 | h2⟩
       ·exact ⟨h1, .inl h2⟩
       ·exact ⟨h1, .inr h2⟩
       ·rw [h2]; exact (hm o).mp hol
     ·have hol : o ∉ ls := fun z => by obtain ⟨a, h1, _⟩ := hwa.get z; rw [h1] at hn; cases hn
      have heD : e ≠ D := fun z => by rw [z, hd5] at he; cases he
      have hw6 : WaysAt (upd H5 e (.lst [])) (fun t => if t = o then [] else g t) ls kvs := (hwa.mono s6).cong fun t ht => by have hne : t ≠ o := fun z => hol (z ▸ ht); rw [if_neg hne]
      have hw7 := (hw6.put hol (a := e) (by rw [if_pos rfl]; exact upd_same)).updD (o := .dK (putK kvs (Sum.inr (tx o)) (.ref e))) (s6 D _ hd5)
      refine ⟨fun b o' hb e' => by rw [upd_ne hb]; exact s6 b o' (k5 b o' hb e'), ⟨_, ls ++ [o], _, upd_same, hw7, ?_, by rw [htj, List.length_append, List.length_append]; show _ + 1 ≤ _ + (_ + 1); omega, fun t => ?_, fun t ht => ?_⟩, some (T o), rfl⟩
      ·exact List.nodup_append.mpr ⟨nd, by simp, fun a ha c hc z => hol (by rw [← List.mem_singleton.mp hc, ← z]; exact ha)⟩
      ·rw [List.mem_append, hm, htj, List.mem_append, List.mem_singleton]
       constructor
       ·rintro (⟨h1, h2 | h2⟩ | h2)
        ·exact ⟨h1, .inl h2⟩
        ·exact ⟨h1, .inr (.inl h2)⟩
        ·exact ⟨h2 ▸ hop, .inr (.inr h2)⟩
       ·rintro ⟨h1, h2 | h2 | h2⟩
        ·exact .inl ⟨h1, .inl h2⟩
        ·exact .inl ⟨h1, .inr h2⟩
        ·exact .inr h2
      ·rcases List.mem_append.mp ht with z | z
       ·have hne : t ≠ o := fun e => hol (e ▸ z)
        rw [if_neg hne]
        exact hg t z
       ·have z := List.mem_singleton.mp z
        subst z
        rw [if_pos rfl]
        refine ⟨?_, List.Pairwise.nil⟩
        rw [List.filter_eq_nil_iff.mpr fun u hu e => hol ((hm t).mpr ⟨hop, .inl ⟨u, hu, .inl (of_decide_eq_true e).symm⟩⟩)]
   ·rintro σ H5 ⟨k5, hw5, v4, rfl⟩
    have hw5 : WInv p D (ms.take i) [beg x, x.drop 1] H5 := hw5
    obtain ⟨kvs, ls, g, hd5, hwa, nd, hll, hm, hg⟩ := hw5
    have hll' : ls.length ≤ 2 * (ms.take i).length + 2 := hll
    have k5' : Kp D H H5 := fun b o hb e => k5 b o hb (s4 b o (k3 b o hb e))
    have hmem : ∀ t, t ∈ ls ↔ t ≠ p ∧ (IsP (ms.take (i + 1)) t ∨ t ∈ ([] : List (List Nat))) := fun t => by
     rw [hm, htk]
     constructor
     ·rintro ⟨h1, ⟨u, h2, h3⟩ | h2⟩
      ·exact ⟨h1, .inl ⟨u, List.mem_append_left _ h2, h3⟩⟩
      ·refine ⟨h1, .inl ⟨x, List.mem_append_right _ (List.mem_singleton.mpr rfl), ?_⟩⟩
       rcases List.mem_cons.mp h2 with z | z
       ·exact .inl z
       ·exact .inr (List.mem_singleton.mp z)
     ·rintro ⟨h1, ⟨u, h2, h3⟩ | h2⟩
      ·rcases List.mem_append.mp h2 with z | z
       ·exact ⟨h1, .inl ⟨u, z, h3⟩⟩
       ·rw [List.mem_singleton.mp z] at h3
        exact ⟨h1, .inr (h3.elim (fun e => e ▸ List.mem_cons_self ..) fun e => e ▸ List.mem_cons_of_mem _ (List.mem_cons_self ..))⟩
      ·cases h2
    have hl2 : ls.length ≤ 2 * (ms.take (i + 1)).length + ([] : List (List Nat)).length := by
     rw [htk, List.length_append]
     show _ ≤ 2 * (_ + 1) + 0
     have : ([beg x, x.drop 1] : List (List Nat)).length = 2 := rfl
     omega
    refine ⟨_, rfl, _, rfl, _, rfl, _, rfl, (by omega), _, rfl, _, rfl, _, rfl, _, rfl, ?_⟩
    rw [cb]
    by_cases hop : beg x = p
    ·refine itN (by rw [decide_eq_true hop]; exact Bool.false_ne_true) ?_
     refine ⟨k5', ⟨kvs, ls, g, hd5, hwa, nd, hl2, hmem, fun t ht => ?_⟩, _, _, rfl⟩
     rw [htk, List.filter_append, List.filter_cons_of_neg (by intro z; exact ((hm t).mp ht).1 ((of_decide_eq_true z).symm.trans hop)), List.filter_nil, List.append_nil]
     exact hg t ht
    ·refine itP (by rw [decide_eq_false hop]; rfl) ?_
     have hbl : beg x ∈ ls := (hm _).mpr ⟨hop, .inr (List.mem_cons_self ..)⟩
     obtain ⟨a, ha1, ha2⟩ := hwa.get hbl
     have hgl : (g (beg x)).length ≤ 60 := by rw [(hg _ hbl).1.length_eq]; exact Nat.le_trans (List.length_filter_le ..) hil
     refine ⟨_, rfl, _, rfl, _, rfl, _, rfl, _, rfl, (by omega), D, _, rfl, (by rw [cb]; have z := DGet.k (k := Sum.inr (tx (beg x))) hd5; rw [ha1] at z; exact z), _, rfl, (by show 1 ≤ sizeLine; omega), fun e he => ?_⟩
     have s6 := same_upd (o := .lst [T x]) he
     refine ⟨a, e, _, _, rfl, rfl, SqL.of (s6 a _ ha2), SqL.of upd_same, (by rw [List.length_map]; show _ + 1 ≤ sizeLine; omega), fun e2 he2 => ?_⟩
     have s7 := s6.trans (same_upd (o := .lst ((g (beg x)).map T ++ [T x])) he2)
     refine ⟨e2, g (beg x) ++ [x], rfl, SqL.of (by rw [List.map_append]; exact upd_same), (by rw [List.length_append]; show _ + 1 < 64; omega), fun so e3 he3 hp3 hw3 => ?_⟩
     have s8 := s7.trans (same_upd (o := .lst (so.map T)) he3)
     have h8 : upd (upd (upd H5 e (.lst [T x])) e2 (.lst ((g (beg x)).map T ++ [T x]))) e3 (.lst (so.map T)) e3 = some (.lst (so.map T)) := upd_same
     generalize upd (upd (upd H5 e (.lst [T x])) e2 (.lst ((g (beg x)).map T ++ [T x]))) e3 (.lst (so.map T)) = H8 at s8 h8
     refine ⟨_, rfl, _, rfl, _, rfl, _, rfl, _, rfl, (by omega), D, _, rfl, (by rw [cb]; exact DPut.k (k := Sum.inr (tx (beg x))) (s8 D _ hd5) (by rw [hwa.len]; omega)), ?_⟩
     have hw9 := ((hwa.mono s8).repl nd hbl h8).updD (o := .dK (putK kvs (Sum.inr (tx (beg x))) (.ref e3))) (s8 D _ hd5)
     refine ⟨fun b o hb e' => by rw [upd_ne hb]; exact s8 b o (k5' b o hb e'), ⟨_, ls, _, upd_same, hw9, nd, hl2, hmem, fun t ht => ?_⟩, _, _, rfl⟩
     rw [htk, List.filter_append]
     by_cases htb : t = beg x
     ·subst htb
      rw [if_pos rfl, List.filter_cons_of_pos (p := fun l => decide (beg l = beg x)) (decide_eq_true rfl), List.filter_nil]
      exact ⟨hp3.trans ((hg _ hbl).1.append_right _), hw3⟩
     ·rw [if_neg htb, List.filter_cons_of_neg (by intro z; exact htb (of_decide_eq_true z).symm), List.filter_nil, List.append_nil]
      exact hg t ht
  ·rintro σ H3 ⟨k3, hw3, v3, v4, rfl⟩
   rw [List.length_map, List.take_length] at hw3
   exact ⟨_, rfl, q D H3 hD (fun b o e => k3 b o (ne_of_none e hD) e) hw3⟩

noncomputable def spCell (K : PySem.W.Frag) : Sp := fun vs H Q _ => ∃ (a : Addr) (ns : List Int) (k : Nat), vs = [.ref a, .int (k : Nat)] ∧ SqL K H a (ns.map V.int) ∧ Q (.int (ns.getD k 0)) H
theorem ok__law_cell_at {f : Addr} {fd : FuncData} (F : Fun K "_law_cell_at" "_law_cell_at" s__law_cell_at f fd) (tt : Txt K mg ad) : FnOk P w K mg base (CX1 P w) 1 f fd ["script", "k"] (spCell K) := by
 refine F.okN sc__law_cell_at (fun vs H Q E h => ?_) (fun cdv A outer s H vs Q E hr h => ?_)
 ·obtain ⟨a, ns, k, rfl, _⟩ := h
  rfl
 ·obtain ⟨a, ns, k, rfl, hS, q⟩ := h
  refine ⟨_, (pss_cons (ps_if (pt_cmpR op_lt (pv 1) (pe_callB call_len_seq (by rfl) tt.b_len PySem.boot_len (pa_cons (pv 0) pa_nil)) (nomark _)) (pss_one (ps_ret (pe_ix ix_list (pv 0) (pv 1) (fun _ _ => rfl)))) pss_nil)
   (pss_one (ps_ret pe_int))), ?_⟩
  (try rw [cxK2]); (try rw [cxK1])
  refine ⟨_, rfl, _, rfl, a, _, rfl, .inl hS, _, _, rfl, rfl, _, rfl, ?_⟩
  rw [List.length_map]
  refine ite2 (fun h0 => ?_) (fun h0 => ?_)
  ·have h1 : k < ns.length := by have := of_decide_eq_true h0; omega
   rw [List.getD_eq_getElem?_getD, List.getElem?_eq_getElem h1] at q
   exact ⟨_, rfl, _, rfl, a, _, _, _, rfl, rfl, hS, atI_nat (by rw [List.getElem?_map, List.getElem?_eq_getElem h1]; rfl), q⟩
  ·have h1 : ¬ k < ns.length := fun z => h0 (decide_eq_true (by omega))
   rw [List.getD_eq_getElem?_getD, List.getElem?_eq_none (by omega)] at q
   exact q
noncomputable abbrev En (l : List Nat) : List Nat := l.drop 1

theorem beg_snoc (h : List Nat) (c : Nat) : beg (h ++ [c]) = h := by
 unfold beg
 rw [List.length_append, List.length_singleton, Nat.add_sub_cancel, List.take_left']
 rfl
noncomputable abbrev Tr (p : List Nat) (ls : List (List Nat)) (q : List Nat) : Prop := Hg.Tr beg En p ls q

theorem abc_at {s : Int} (h0 : 0 ≤ s) (h1 : s < 6) : ∃ c, atI [97, 98, 99, 100, 101, 102] s = some c ∧ 97 ≤ c ∧ c < 103 := by
 obtain ⟨m, hm⟩ := Int.eq_ofNat_of_zero_le h0
 have hm' : s = (m : Int) := hm
 subst hm'
 exact ⟨97 + m, atI_nat (abc6 (by omega)), by omega, by omega⟩
noncomputable def WL (ls : List (List Nat)) (n : Nat) : Prop := (∀ x ∈ ls, x.length = n ∧ Abc x) ∧ ls.Nodup
theorem WL.sub {ls ls' : List (List Nat)} {n : Nat} (h : WL ls n) (s : ls'.Sublist ls) : WL ls' n := ⟨fun x hx => h.1 x (s.subset hx), h.2.sublist s⟩
theorem WL.snoc {ls : List (List Nat)} {n : Nat} {t : List Nat} (h : WL ls n) (ht : t.length = n ∧ Abc t) (hn : ¬ t ∈ ls) : WL (ls ++ [t]) n := by
 refine ⟨fun x hx => ?_, List.nodup_append.mpr ⟨h.2, by simp, fun a ha b hb ee => hn ?_⟩⟩
 ·rcases List.mem_append.mp hx with z | z
  ·exact h.1 x z
  ·have e : x = t := by simpa using z
   subst e
   exact ht
 ·have hb' : b = t := by simpa using hb
  rw [← hb', ← ee]
  exact ha
theorem abc_take {k c : Nat} (h : c ∈ ([97, 98, 99, 100, 101, 102] : List Nat).take k) : 97 ≤ c ∧ c < 103 := by
 have := List.mem_of_mem_take h
 simp at this
 omega
noncomputable def spWalk (K : PySem.W.Frag) : Sp := fun vs H Q _ => ∃ (c : Addr) (ns : List Int) (k : Nat) (f0 : List Nat), vs = [.ref c, .int (k : Nat), T f0] ∧ SqL K H c (ns.map V.int) ∧ (ns.length ≤ 63 ∧ k ≤ 6 ∧ f0.length ≤ 10) ∧ Abc f0 ∧
 ∀ (D : Addr) (ls : List (List Nat)) (H' : Hp), Same H H' → H' D = some (.lst (ls.map T)) → WL ls (f0.length + 1) → ls.length ≤ ns.length → (∃ q0, Tr f0 ls q0) → Q (.ref D) H'
theorem ok__law_walk {f : Addr} {fd : FuncData} (F : Fun K "_law_walk" "_law_walk" s__law_walk f fd) (tt : Txt K mg ad) : FnOk P w K mg base (CX1 P w) 1 f fd ["cells", "kinds", "first"] (spWalk K) := by
 refine F.okN sc__law_walk (fun vs H Q E h => ?_) (fun cdv A outer s H vs Q E hr h => ?_)
 ·obtain ⟨c, ns, k, f0, rfl, _⟩ := h
  rfl
 ·obtain ⟨c, ns, k, f0, rfl, hS, hb, hf0, q⟩ := h
  have hs : sizeLine = 16777216 := sizeLine_eq
  have hnl : (ns.map V.int).length = ns.length := List.length_map ..
  refine ⟨_, (pss_cons (ps_set (i := 3) sc__law_walk.nd rfl (Or.inr rfl) (pe_lst pa_nil))
   (pss_cons (ps_set (i := 4) sc__law_walk.nd rfl (Or.inr rfl) (pv 2))
   (pss_cons (ps_for PassesOwn.never rfl (pi_list (pv 0)) (pg_name (i := 5) sc__law_walk.nd rfl (Or.inl rfl)) (pss_cons (ps_setCompf (i := 6) cs__law_walk_0 rfl (pi_str (pe_slice sl_T (pe_strT [97, 98, 99, 100, 101, 102] (by decide +kernel)) po_none (po_some (pv 1)))) (fun cl C s' H' fp => (pt_cmpR (op_notIn_seqK K rfl) (pe_op op_add_T (pv 5) (pv 0)) (pv 4) (by with_unfolding_all rfl))) (fun cl C s' H' fp => (pe_op op_add_T (pv 5) (pv 0))) sc__law_walk.nd rfl rfl)
   (pss_cons (ps_if (pt_cmpR op_eq_I (pe_callB call_len_seq (by rfl) tt.b_len PySem.boot_len (pa_cons (pv 6) pa_nil)) pe_int (nomark _)) (pss_one ps_break) pss_nil)
   (pss_cons (ps_set (i := 7) sc__law_walk.nd rfl (Or.inl rfl) (pe_ix ix_list (pv 6) (pe_op op_mod (pv 5) (pe_callB call_len_seq (by rfl) tt.b_len PySem.boot_len (pa_cons (pv 6) pa_nil))) (fun _ _ => rfl)))
   (pss_cons (ps_expr (pe_bm PySem.F.plainAttrs_list PySem.F.slot_list_append PySem.F.type_list_append mt_append (pv 3) (pa_cons (pv 7) pa_nil)))
   (pss_one (ps_set (i := 4) sc__law_walk.nd rfl (Or.inr rfl) (pe_slice sl_T (pv 7) (po_some pe_int) po_none))))))))
   (pss_one (ps_ret (pv 3)))))), ?_⟩
  (try rw [cxK2]); (try rw [cxK1])
  refine ⟨(by show 0 ≤ sizeLine; omega), fun D hD => ?_⟩
  have s0 := same_upd (o := .lst []) hD
  refine ⟨_, rfl, ?_⟩
  refine ⟨_, rfl, c, rfl, ⟨_, s0.seq hS⟩, ?_⟩
  refine for_list (K := K) (a := c) (xs := ns.map V.int) (fun i σ H2 => Same H H2 ∧ ∃ (ls : List (List Nat)) (hh : List Nat) (v5 v6 v7 : Option V), H2 D = some (.lst (ls.map T)) ∧ WL ls (f0.length + 1) ∧ ls.length ≤ i ∧ hh.length = f0.length ∧ Abc hh ∧ Tr f0 ls hh ∧ σ = [some (.ref c), some (.int (k : Nat)), some (T f0), some (.ref D), some (T hh), v5, v6, v7])
   ⟨s0, [], f0, none, none, none, upd_same, ⟨fun x hx => (by simp at hx), List.nodup_nil⟩, Nat.le_refl _, rfl, hf0, rfl, rfl⟩ (fun i σ H2 _ h => h.1.seq hS) ?_ ?_
  ·rintro i y σ H2 hi ⟨s2, ls, hh, v5, v6, v7, hd, hwl, hl, hhl, hab, htr, rfl⟩
   have hi63 : i < ns.length := by have := (List.getElem?_eq_some_iff.mp hi).1; omega
   obtain ⟨z, rfl⟩ : ∃ z, y = V.int z := by
    obtain ⟨z, _, e⟩ := List.mem_map.mp (List.mem_of_getElem? hi)
    exact ⟨z, e.symm⟩
   refine ⟨_, rfl, _, rfl, _, rfl, (by show 6 ≤ sizeLine; omega), ?_⟩
   have ec : cutL [97, 98, 99, 100, 101, 102] none (some ((k : Nat) : Int)) = ([97, 98, 99, 100, 101, 102] : List Nat).take k := cutL_take _ _
   rw [ec]
   refine ⟨_, rfl, ?_⟩
   generalize hsg : ([97, 98, 99, 100, 101, 102] : List Nat).take k = sg
   have hsgl : sg.length ≤ 6 := by rw [← hsg, List.length_take]; exact Nat.min_le_right _ _
   have hsga : ∀ c ∈ sg, 97 ≤ c ∧ c < 103 := fun c hc => abc_take (by rw [hsg]; exact hc)
   refine compFG (vs := (sg.map fun c => [c]).map T) (fun v => !decide (hh ++ unT v ∈ ls)) (fun v => T (hh ++ unT v)) reads_text (by rw [List.length_map, List.length_map]; omega) (fun v H3 hv s3 N hN => ?_) (fun v H3 hv hp s3 N hN => ?_) fun D1 H3 hD1 s3 hd3 => ?_
   ·obtain ⟨l, hl', rfl⟩ := List.mem_map.mp hv
    obtain ⟨ch, hch, rfl⟩ := List.mem_map.mp hl'
    have g := hN H3 (Same.refl _)
    rw [unT_T] at g
    refine ⟨_, rfl, _, rfl, _, rfl, _, rfl, (by show hh.length + 1 ≤ sizeLine; omega), _, rfl, D, _, rfl, .inl (SqL.of (s3 D _ hd)), rfl, all_flat ls, _, rfl, ?_⟩
    show N (!inV (T (hh ++ [ch])) (ls.map T)) H3
    rw [inV_T]
    exact g
   ·obtain ⟨l, hl', rfl⟩ := List.mem_map.mp hv
    obtain ⟨ch, hch, rfl⟩ := List.mem_map.mp hl'
    have g := hN H3 (Same.refl _)
    rw [unT_T] at g
    exact ⟨_, rfl, _, rfl, _, rfl, _, rfl, (by show hh.length + 1 ≤ sizeLine; omega), g⟩
   obtain ⟨fr, hfr, hfm⟩ : ∃ fr : List (List Nat), (((sg.map fun c => [c]).map T).filter (fun v => !decide (hh ++ unT v ∈ ls))).map (fun v => T (hh ++ unT v)) = fr.map T ∧ ∀ t ∈ fr, (t.length = f0.length + 1 ∧ Abc t) ∧ ¬ t ∈ ls ∧ beg t = hh := by
    refine ⟨((sg.map fun c => [c]).filter fun l => !decide (hh ++ l ∈ ls)).map fun l => hh ++ l, ?_, fun t ht => ?_⟩
    ·rw [show ((sg.map fun c => [c]).map T).filter (fun v => !decide (hh ++ unT v ∈ ls)) = ((sg.map fun c => [c]).filter fun l => !decide (hh ++ l ∈ ls)).map T from filter_unT (p := fun l => !decide (hh ++ l ∈ ls)) _, map_unT (f := fun l => T (hh ++ l)), List.map_map]
     rfl
    ·obtain ⟨l, hl', rfl⟩ := List.mem_map.mp ht
     obtain ⟨h1, h2⟩ := List.mem_filter.mp hl'
     obtain ⟨ch, hch, rfl⟩ := List.mem_map.mp h1
     refine ⟨⟨by rw [List.length_append, hhl]; rfl, fun d hd' => ?_⟩, (fun z => by rw [decide_eq_true z] at h2; cases h2), beg_snoc hh ch⟩
     rcases List.mem_append.mp hd' with g | g
     ·exact hab d g
     ·have e : d = ch := by simpa using g
      subst e
      exact hsga d hch
   rw [hfr] at hd3
   have hfl : (fr.map T).length = fr.length := List.length_map ..
   refine ⟨_, rfl, D1, _, rfl, .inl (SqL.of hd3), _, rfl, _, rfl, _, rfl, ?_⟩
   rw [hfl]
   refine ite2 (fun h0 => ?_) (fun h0 => ?_)
   ·exact ⟨_, rfl, q D ls H3 (s2.trans s3) (s3 D _ hd) hwl (by omega) ⟨_, htr⟩⟩
   have hf0 : 0 < fr.length := by
    rcases Nat.eq_zero_or_pos fr.length with g | g
    ·exact absurd (decide_eq_true (by rw [g]; rfl)) h0
    ·exact g
   have z0 := Int.emod_nonneg z (show ((fr.length : Nat) : Int) ≠ 0 by omega)
   have z1 := Int.emod_lt_of_pos z (show (0 : Int) < ((fr.length : Nat) : Int) by omega)
   obtain ⟨m, hm, hml⟩ : ∃ m : Nat, z % ((fr.length : Nat) : Int) = (m : Int) ∧ m < fr.length := ⟨(z % ((fr.length : Nat) : Int)).toNat, by omega, by omega⟩
   obtain ⟨t, ht⟩ : ∃ t, fr[m]? = some t := ⟨_, List.getElem?_eq_getElem hml⟩
   obtain ⟨htn, htl, htb⟩ := hfm t (List.mem_of_getElem? ht)
   refine ⟨_, rfl, _, rfl, _, rfl, D1, _, rfl, .inl (SqL.of hd3), _, _, rfl, rfl, (by show (0 : Int) < (((fr.map T).length : Nat) : Int); omega), D1, _, _, _, rfl, rfl, SqL.of hd3, (by rw [hfl, hm]; exact atI_nat (by rw [List.getElem?_map, ht]; rfl)), ?_⟩
   refine ⟨_, rfl, .inl ⟨rfl, _, SqL.of (s3 D _ hd)⟩, _, rfl, D, _, _, rfl, rfl, s3 D _ hd, (by rw [List.length_map]; omega), ?_⟩
   have ed : cutL t (some 1) none = t.drop 1 := cutL_from (k := 1) (by omega)
   refine ⟨_, rfl, _, rfl, _, rfl, (by omega), ?_⟩
   refine ⟨(fun b o e => by rw [upd_ne (ne_of_none e hD)]; exact (s2.trans s3) b o e), ls ++ [t], t.drop 1, some (.int z), some (.ref D1), some (T t), by rw [List.map_append]; exact upd_same, hwl.snoc htn htl, by rw [List.length_append, List.length_singleton]; omega, by rw [List.length_drop]; omega, fun d hd' => htn.2 d (List.mem_of_mem_drop hd'), Hg.Tr.snoc (by rw [htb]; exact htr), ?_⟩
   rw [← ed]
   rfl
  ·rintro σ H2 ⟨s2, ls, hh, v5, v6, v7, hd, hwl, hl, hhl, hab, htr, rfl⟩
   exact ⟨_, rfl, q D ls H2 s2 hd hwl (by omega) ⟨_, htr⟩⟩

theorem rep_one (c : Nat) : ∀ n : Nat, Wd.rep n [c] = List.replicate n c
 | 0 => rfl
 | n + 1 => by
  have ih := rep_one c n
  unfold Wd.rep at ih ⊢
  rw [List.replicate_succ, List.flatten_cons, ih, List.replicate_succ]
  rfl
theorem rep_round (c : Nat) (n : Nat) : beg (Wd.rep n [c]) = (Wd.rep n [c]).drop 1 := by
 unfold beg
 rw [rep_one, List.length_replicate, List.take_replicate, List.drop_replicate, Nat.min_eq_left (by omega)]

theorem cutV_ints {ns : List Int} {lo hi : Option Int} : ∃ ms : List Int, cutV (ns.map V.int) lo hi = ms.map V.int := by
 refine ⟨(ns.drop (HT.sIx ns.length 0 lo)).take (HT.sIx ns.length ns.length hi - HT.sIx ns.length 0 lo), ?_⟩
 rw [cutV, List.length_map, List.map_take, List.map_drop]
theorem cutV_mid_len {xs : List V} {a b : Nat} : (cutV xs (some (a : Int)) (some (b : Int))).length ≤ b - a := by
 unfold cutV
 rw [HT.sIx_nat, HT.sIx_nat, List.length_take, List.length_drop]
 omega
theorem pickN {l : List Int} {lo hi : Int} (h : ∀ x ∈ l, lo ≤ x ∧ x ≤ hi) {z : Int} (h0 : 0 ≤ z) (h1 : z < l.length) : ∃ v : Int, atI (l.map V.int) z = some (.int v) ∧ lo ≤ v ∧ v ≤ hi := by
 obtain ⟨m, rfl⟩ : ∃ m : Nat, z = (m : Int) := ⟨z.toNat, by omega⟩
 have hm : m < l.length := by omega
 obtain ⟨a, b⟩ := h _ (List.getElem_mem hm)
 exact ⟨l[m], atI_nat (by rw [List.getElem?_map, List.getElem?_eq_getElem hm]; rfl), a, b⟩
theorem cutV_init {ls : List (List Nat)} : cutV (ls.map T) none (some (-1)) = (ls.take (ls.length - 1)).map T := by
 unfold cutV
 rw [HT.sIx_none, List.drop_zero, Nat.sub_zero, List.length_map, List.map_take]
 show (ls.map T).take (if (-1 : Int) < 0 then ((-1 : Int) + (ls.length : Int)).toNat else min (-1 : Int).toNat ls.length) = _
 rw [if_pos (by decide), show ((-1 : Int) + (ls.length : Int)).toNat = ls.length - 1 by omega]
theorem rep_a (n : Nat) : (Wd.rep n [97]).length = n ∧ Abc (Wd.rep n [97]) := by
 refine ⟨by rw [Wd.rep_len]; show n * 1 = n; omega, fun c hc => ?_⟩
 unfold Wd.rep at hc
 obtain ⟨l, h1, h2⟩ := List.mem_flatten.mp hc
 rw [List.eq_of_mem_replicate h1] at h2
 have e : c = 97 := by simpa using h2
 omega
theorem WL.one {n : Nat} {t : List Nat} (h : t.length = n ∧ Abc t) : WL [t] n := ⟨fun x hx => by rw [List.mem_singleton.mp hx]; exact h, by simp⟩
noncomputable def spRingWd (K : PySem.W.Frag) : Sp := fun vs H Q _ => ∃ (a : Addr) (ns : List Int) (mo : Nat), vs = [.ref a, .int 0, .int (mo : Nat)] ∧ mo ≤ 40 ∧ SqL K H a (ns.map V.int) ∧ ∀ (D : Addr) (ls : List (List Nat)) (n : Nat) (H' : Hp), Same H H' → H' D = some (.lst (ls.map T)) → WL ls n → (1 ≤ n ∧ n ≤ 5) → ls ≠ [] → ls.length ≤ mo ∨ ls.length ≤ 1 → (∃ f0, Tr f0 ls f0) → Q (.ref D) H'
theorem ok__law_ring_words {f : Addr} {fd : FuncData} (F : Fun K "_law_ring_words" "_law_ring_words" s__law_ring_words f fd) (tt : Txt K mg ad) (C__law_cell_at : Cal P w K mg base (CX1 P w) "_law_cell_at" 1 ["script", "k"] (spCell K)) (C__law_walk : Cal P w K mg base (CX1 P w) "_law_walk" 1 ["cells", "kinds", "first"] (spWalk K)) :
  FnOk P w K mg base (CX1 P w) 2 f fd ["script", "at", "most"] (spRingWd K) := by
 refine F.okN sc__law_ring_words (fun vs H Q E h => ?_) (fun cdv A outer s H vs Q E hr h => ?_)
 ·obtain ⟨a, ns, mo, rfl, _⟩ := h
  rfl
 ·obtain ⟨a, ns, mo, rfl, hmo, hS, q⟩ := h
  have hs : sizeLine = 16777216 := sizeLine_eq
  obtain ⟨nz, hnz, n1, n5⟩ := pickN (l := [2, 3, 1, 4, 2, 3, 5]) (lo := 1) (hi := 5) (by decide) (Int.emod_nonneg (ns.getD 0 0) (show (7 : Int) ≠ 0 by decide)) (Int.emod_lt_of_pos _ (show (0 : Int) < 7 by decide))
  obtain ⟨kz, hkz, k1, k6⟩ := pickN (l := [2, 3, 2, 2, 4, 6, 2, 1]) (lo := 1) (hi := 6) (by decide) (Int.emod_nonneg (ns.getD 1 0) (show (8 : Int) ≠ 0 by decide)) (Int.emod_lt_of_pos _ (show (0 : Int) < 8 by decide))
  obtain ⟨n, rfl⟩ : ∃ n : Nat, nz = (n : Int) := ⟨nz.toNat, by omega⟩
  obtain ⟨k, rfl⟩ : ∃ k : Nat, kz = (k : Int) := ⟨kz.toNat, by omega⟩
  refine ⟨_, (pss_cons (ps_set (i := 3) sc__law_ring_words.nd rfl (Or.inl rfl) (pe_ix ix_list (pe_lst (pa_cons pe_int (pa_cons pe_int (pa_cons pe_int (pa_cons pe_int (pa_cons pe_int (pa_cons pe_int (pa_cons pe_int pa_nil)))))))) (pe_op op_mod (pe_cal C__law_cell_at hr pass1 (pa_cons (pv 0) (pa_cons (pv 1) pa_nil))) pe_int) (fun _ _ => rfl)))
   (pss_cons (ps_set (i := 4) sc__law_ring_words.nd rfl (Or.inl rfl) (pe_ix ix_list (pe_lst (pa_cons pe_int (pa_cons pe_int (pa_cons pe_int (pa_cons pe_int (pa_cons pe_int (pa_cons pe_int (pa_cons pe_int (pa_cons pe_int pa_nil))))))))) (pe_op op_mod (pe_cal C__law_cell_at hr pass1 (pa_cons (pv 0) (pa_cons (pe_op op_add (pv 1) pe_int) pa_nil))) pe_int) (fun _ _ => rfl)))
   (pss_cons (ps_set (i := 5) sc__law_ring_words.nd rfl (Or.inl rfl) (pe_cal C__law_cell_at hr pass1 (pa_cons (pv 0) (pa_cons (pe_op op_add (pv 1) pe_int) pa_nil))))
   (pss_cons (ps_set (i := 6) sc__law_ring_words.nd rfl (Or.inl rfl) (pe_strT [] (by decide +kernel)))
   (pss_cons (ps_for PassesOwn.never rfl (pi_range1 (by rfl) tt.b_range (pa_cons (pe_op op_sub (pv 3) pe_int) pa_nil)) (pg_name (i := 7) sc__law_ring_words.nd rfl (Or.inl rfl)) (pss_cons (ps_set (i := 6) sc__law_ring_words.nd rfl (Or.inl rfl) (pe_op op_add_T (pv 6) (pe_ix ix_T (pe_strT [97, 98, 99, 100, 101, 102] (by decide +kernel)) (pe_op op_mod (pv 5) (pv 4)) (fun _ _ => rfl))))
   (pss_one (ps_set (i := 5) sc__law_ring_words.nd rfl (Or.inl rfl) (pe_op op_fdiv (pv 5) (pv 4))))))
   (pss_cons (ps_set (i := 8) sc__law_ring_words.nd rfl (Or.inl rfl) (pe_cal C__law_walk hr pass1 (pa_cons (pe_slice sl_list (pv 0) (po_some (pe_op op_add (pv 1) pe_int)) (po_some (pe_op op_add (pe_op op_add (pv 1) pe_int) (pv 2)))) (pa_cons (pv 4) (pa_cons (pv 6) pa_nil)))))
   (pss_cons (ps_while PassesOwn.never (PW.pt (pw_and (pt_cmpR op_gt (pe_callB call_len_seq (by rfl) tt.b_len PySem.boot_len (pa_cons (pv 8) pa_nil)) pe_int (nomark _)) (pw_and1 (pt_cmpR op_ne_T (pe_slice sl_T (pe_ix ix_list (pv 8) (pe_un un_neg pe_int) (fun _ _ => rfl)) (po_some pe_int) po_none) (pv 6) (nomark _))))) (pss_one (ps_set (i := 8) sc__law_ring_words.nd rfl (Or.inl rfl) (pe_slice sl_list (pv 8) po_none (po_some (pe_un un_neg pe_int))))))
   (pss_cons (ps_if (pt_cmpR op_eq_I (pe_callB call_len_seq (by rfl) tt.b_len PySem.boot_len (pa_cons (pv 8) pa_nil)) pe_int (nomark _)) (pss_one (ps_set (i := 8) sc__law_ring_words.nd rfl (Or.inl rfl) (pe_lst (pa_cons (pe_op op_mul_T (pe_strT [97] (by decide +kernel)) (pv 3)) pa_nil)))) pss_nil)
   (pss_one (ps_ret (pv 8))))))))))), ?_⟩
  (try rw [cxK2]); (try rw [cxK1])
  refine ⟨(by show 7 ≤ sizeLine; omega), fun p1 hp1 => ?_⟩
  have s1 := same_upd (o := .lst [.int 2, .int 3, .int 1, .int 4, .int 2, .int 3, .int 5]) hp1
  refine ⟨_, rfl, _, rfl, a, ns, 0, rfl, s1.seq hS, _, _, rfl, rfl, (by show (0 : Int) < 7; decide), p1, _, _, _, rfl, rfl, SqL.of upd_same, hnz, ?_⟩
  refine ⟨(by show 8 ≤ sizeLine; omega), fun p2 hp2 => ?_⟩
  have s2 := s1.trans (same_upd (o := .lst [.int 2, .int 3, .int 2, .int 2, .int 4, .int 6, .int 2, .int 1]) hp2)
  refine ⟨_, rfl, _, rfl, _, _, rfl, rfl, a, ns, 1, rfl, s2.seq hS, _, _, rfl, rfl, (by show (0 : Int) < 8; decide), p2, _, _, _, rfl, rfl, SqL.of upd_same, hkz, ?_⟩
  obtain ⟨H2, hH2, s2⟩ := named s2
  rw [← hH2]
  refine ⟨_, rfl, _, rfl, _, _, rfl, rfl, a, ns, 2, rfl, s2.seq hS, ?_⟩
  refine ⟨_, rfl, _, _, rfl, rfl, _, rfl, by omega, by omega, ?_⟩
  rw [show (((n : Nat) : Int) - 1).toNat = n - 1 by omega]
  refine for_range (fun i σ H3 => H2 = H3 ∧ ∃ (d : Int) (t : List Nat) (v7 : Option V), t.length = i ∧ Abc t ∧ σ = [some (.ref a), some (.int 0), some (.int (mo : Nat)), some (.int (n : Nat)), some (.int (k : Nat)), some (.int d), some (T t), v7, none])
   ⟨rfl, ns.getD 2 0, [], none, rfl, (fun c hc => by simp at hc), rfl⟩ ?_ ?_
  ·rintro i σ H3 hi ⟨rfl, d, t, v7, ht, hab, rfl⟩
   have z0 := Int.emod_nonneg d (show ((k : Nat) : Int) ≠ 0 by omega)
   have z1 := Int.emod_lt_of_pos d (show (0 : Int) < ((k : Nat) : Int) by omega)
   obtain ⟨c, hc, c0, c1⟩ := abc_at z0 (by omega)
   refine ⟨_, rfl, _, rfl, _, rfl, _, _, rfl, rfl, (by show (0 : Int) < ((k : Nat) : Int); omega), _, rfl, _, rfl, (by show 6 ≤ sizeLine; omega), c, hc, _, rfl, _, rfl, (by show t.length + 1 ≤ sizeLine; omega), ?_⟩
   refine ⟨_, rfl, _, rfl, _, _, rfl, rfl, ⟨by omega, by omega⟩, ?_⟩
   refine ⟨rfl, d / ((k : Nat) : Int), t ++ [c], some (.int (0 + (i : Int))), by rw [List.length_append, ht]; rfl, fun e he => ?_, rfl⟩
   rcases List.mem_append.mp he with g | g
   ·exact hab e g
   ·have e' : e = c := by simpa using g
    subst e'
    exact ⟨c0, c1⟩
  ·rintro σ H3 ⟨rfl, d, f0, v7, hf, hab, rfl⟩
   obtain ⟨ds, hds⟩ : ∃ ds : List Int, cutV (ns.map V.int) (some ((3 : Nat) : Int)) (some ((3 + mo : Nat) : Int)) = ds.map V.int := cutV_ints
   have hdl : ds.length ≤ mo := by
    have e := congrArg List.length hds
    have e2 := cutV_mid_len (xs := ns.map V.int) (a := 3) (b := 3 + mo)
    rw [List.length_map] at e
    omega
   refine ⟨_, rfl, _, rfl, _, _, rfl, rfl, _, rfl, _, rfl, _, _, rfl, rfl, _, rfl, _, _, rfl, rfl, _, rfl, a, _, rfl, s2.seq hS, fun p4 hp4 => ?_⟩
   rw [show cutV (ns.map V.int) (some ((0 : Int) + 3)) (some ((0 : Int) + 3 + (mo : Nat))) = ds.map V.int by rw [← hds]; congr 2]
   have s4 := s2.trans (same_upd (o := .lst (ds.map V.int)) hp4)
   refine ⟨_, rfl, _, rfl, p4, ds, k, f0, rfl, SqL.of upd_same, ⟨by omega, by omega, by omega⟩, hab, fun D ls H5 s5 hd hwl hl htr => ?_⟩
   have hn' : f0.length + 1 = n := by omega
   rw [hn'] at hwl
   have s05 := s4.trans s5
   refine ⟨fun m σ H6 => ∃ (p : Addr) (ls' : List (List Nat)), m = ls'.length ∧ Same H H6 ∧ H6 p = some (.lst (ls'.map T)) ∧ WL ls' n ∧ ls'.length ≤ mo ∧ (∃ q0, Tr f0 ls' q0) ∧ σ = [some (.ref a), some (.int 0), some (.int (mo : Nat)), some (.int (n : Nat)), some (.int (k : Nat)), some (.int d), some (T f0), v7, some (.ref p)], ⟨ls.length, D, ls, rfl, s05, hd, hwl, by omega, htr, rfl⟩, ?_⟩
   rintro m σ H6 ⟨p, ls', hm, s6, hd6, hw6, hl6, htr6, rfl⟩
   have hml : (ls'.map T).length = ls'.length := List.length_map ..
   have fin : ∀ (D : Addr) (ls2 : List (List Nat)) (H' : Hp), Same H H' → H' D = some (.lst (ls2.map T)) → WL ls2 n → ls2 ≠ [] → ls2.length ≤ mo ∨ ls2.length ≤ 1 → (∃ f0, Tr f0 ls2 f0) → Q (.ref D) H' := fun D ls2 H' h1 h2 h3 h4 h5 h6 => q D ls2 n H' h1 h2 h3 ⟨by omega, by omega⟩ h4 h5 h6
   refine ⟨_, rfl, p, _, rfl, .inl (SqL.of hd6), _, _, rfl, rfl, _, rfl, ?_⟩
   rw [hml]
   refine ite2 (fun h0 => ?a) (fun h0 => ?b)
   case' a =>
    have h0' : 0 < ls'.length := by have := of_decide_eq_true h0; omega
    obtain ⟨t, ht⟩ : ∃ t, ls'[ls'.length - 1]? = some t := ⟨_, List.getElem?_eq_getElem (by omega)⟩
    have htl := (hw6.1 t (List.mem_of_getElem? ht)).1
    have hat : atI (ls'.map T) (-1) = some (T t) := by
     show (ixN (ls'.map T).length (-1)).bind _ = _
     rw [hml]
     unfold ixN
     rw [if_neg (by decide), if_pos (by omega), show ((-1 : Int) + ls'.length).toNat = ls'.length - 1 by omega]
     show (ls'.map T)[ls'.length - 1]? = _
     rw [List.getElem?_map, ht]
     rfl
    refine ⟨_, rfl, _, rfl, p, _, _, _, rfl, rfl, SqL.of hd6, hat, _, rfl, _, rfl, (by omega), _, rfl, _, rfl, _, rfl, _, rfl, ?_⟩
    refine ite2 (fun h1 => ?a1) (fun h1 => ?a2)
   case a1 =>
    refine ⟨_, fun σ' H' z => z, ?_⟩
    refine ⟨_, rfl, _, rfl, _, rfl, p, _, rfl, SqL.of hd6, fun p7 hp7 => ?_⟩
    rw [show cutV (ls'.map T) none (some (-(1 : Int))) = (ls'.take (ls'.length - 1)).map T from cutV_init]
    have htk : (ls'.take (ls'.length - 1)).length = ls'.length - 1 := by rw [List.length_take]; omega
    exact ⟨ls'.length - 1, by omega, p7, ls'.take (ls'.length - 1), htk.symm, s6.trans (same_upd hp7), upd_same, hw6.sub (List.take_sublist _ _), by omega, htr6.elim fun _ g => g.take _, rfl⟩
   case' a2 =>
    have hcl : ls' ≠ [] → ∃ f0, Tr f0 ls' f0 := fun _ => by
     obtain ⟨q0, g⟩ := htr6
     have e := g.last ht
     have e2 : t.drop 1 = f0 := by
      rw [← cutL_from (k := 1) (show 1 ≤ t.length by omega)]
      by_cases z : cutL t (some 1) none = f0
      ·exact z
      ·exact absurd (by rw [show decide (cutL t (some 1) none = f0) = false from decide_eq_false z]; rfl) h1
     rw [show q0 = f0 from e.trans e2] at g
     exact ⟨f0, g⟩
   case' b =>
    have hcl : ls' ≠ [] → ∃ f0, Tr f0 ls' f0 := fun z => absurd (decide_eq_true (by have := List.length_pos_iff.mpr z; omega)) h0
   all_goals
    refine ⟨_, rfl, p, _, rfl, .inl (SqL.of hd6), _, rfl, _, rfl, _, rfl, ?_⟩
    rw [hml]
    refine ite2 (fun h2 => ?_) (fun h2 => ?_)
    ·refine ⟨_, rfl, _, rfl, n, rfl, ⟨by omega, by show n * 1 ≤ sizeLine; omega⟩, (by show 1 ≤ sizeLine; omega), fun p7 hp7 => ?_⟩
     exact ⟨_, rfl, fin p7 [Wd.rep n [97]] _ (s6.trans (same_upd hp7)) upd_same (WL.one (rep_a n)) (by simp) (.inr (Nat.le_refl 1)) ⟨beg (Wd.rep n [97]), rfl, (rep_round 97 n).symm⟩⟩
    ·exact ⟨_, rfl, fin p ls' H6 s6 hd6 hw6 (fun z => h2 (decide_eq_true (by rw [z]; rfl))) (.inl hl6) (hcl fun z => h2 (decide_eq_true (by rw [z]; rfl)))⟩

noncomputable def ext (ws : List (List Nat)) (sg : List Nat) : List (List Nat) := ws.flatMap fun w => sg.map fun c => w ++ [c]
theorem ext_snoc (ws : List (List Nat)) (w : List Nat) (sg : List Nat) : ext (ws ++ [w]) sg = ext ws sg ++ sg.map fun c => w ++ [c] := by
 unfold ext
 rw [List.flatMap_append]
 simp
theorem ext_len (sg : List Nat) : ∀ ws : List (List Nat), (ext ws sg).length = ws.length * sg.length
 | [] => by simp [ext]
 | w :: ws => by
  have ih := ext_len sg ws
  unfold ext at ih ⊢
  rw [List.flatMap_cons, List.length_append, ih, List.length_map, List.length_cons, Nat.succ_mul, Nat.add_comm]
theorem ext_mem {ws : List (List Nat)} {sg : List Nat} {x : List Nat} (h : x ∈ ext ws sg) : ∃ w ∈ ws, ∃ c ∈ sg, x = w ++ [c] := by
 obtain ⟨w, hw, hx⟩ := List.mem_flatMap.mp h
 obtain ⟨c, hc, e⟩ := List.mem_map.mp hx
 exact ⟨w, hw, c, hc, e.symm⟩
theorem ext_nodup {sg : List Nat} (hs : sg.Nodup) : ∀ {ws : List (List Nat)}, ws.Nodup → (ext ws sg).Nodup
 | [], _ => List.nodup_nil
 | w :: ws, h => by
  rw [List.nodup_cons] at h
  have ih := ext_nodup hs h.2
  show (ext (w :: ws) sg).Nodup
  have e : ext (w :: ws) sg = (sg.map fun c => w ++ [c]) ++ ext ws sg := by unfold ext; rw [List.flatMap_cons]
  rw [e]
  refine List.nodup_append.mpr ⟨?_, ih, fun a ha b hb ee => h.1 ?_⟩
  ·refine List.pairwise_map.mpr (hs.imp fun hne z => hne ?_)
   have := List.append_cancel_left z
   simpa using this
  ·obtain ⟨c, hc, e1⟩ := List.mem_map.mp ha
   obtain ⟨w', hw', c', hc', e2⟩ := ext_mem hb
   have z : w ++ [c] = w' ++ [c'] := e1.trans (ee.trans e2)
   have z2 := (List.append_inj' z rfl).1
   rw [z2]
   exact hw'
theorem WL.ext {ws : List (List Nat)} {sg : List Nat} {i : Nat} (h : WL ws i) (hs : sg.Nodup) (ha : ∀ c ∈ sg, 97 ≤ c ∧ c < 103) : WL (ext ws sg) (i + 1) := by
 refine ⟨fun x hx => ?_, ext_nodup hs h.2⟩
 obtain ⟨w, hw, c, hc, rfl⟩ := ext_mem hx
 obtain ⟨h1, h2⟩ := h.1 w hw
 refine ⟨by rw [List.length_append, h1]; rfl, fun d hd => ?_⟩
 rcases List.mem_append.mp hd with g | g
 ·exact h2 d g
 ·have e : d = c := by simpa using g
  subst e
  exact ha d hc

noncomputable def allE (sg : List Nat) : Nat → List (List Nat)
 | 0 => [[]]
 | n + 1 => ext (allE sg n) sg
noncomputable def spAllE : Sp := fun vs H Q _ => ∃ (k n : Nat), vs = [.int (k : Nat), .int (n : Nat)] ∧ (k ≤ 6 ∧ n ≤ 4) ∧ ∀ (D : Addr) (ls : List (List Nat)) (H' : Hp), H D = none → Same H H' → H' D = some (.lst (ls.map T)) → ls = allE (([97, 98, 99, 100, 101, 102] : List Nat).take k) n → WL ls n → ls.length ≤ 2000 → Q (.ref D) H'
theorem ok__law_all {f : Addr} {fd : FuncData} (F : Fun K "_law_all" "_law_all" s__law_all f fd) (tt : Txt K mg ad) : FnOk P w K mg base (CX1 P w) 1 f fd ["kinds", "length"] spAllE := by
 refine F.okN sc__law_all (fun vs H Q E h => ?_) (fun cdv A outer s H vs Q E hr h => ?_)
 ·obtain ⟨k, n, rfl, _⟩ := h
  rfl
 ·obtain ⟨k, n, rfl, hb, q⟩ := h
  have hs : sizeLine = 16777216 := sizeLine_eq
  obtain ⟨sg, hsg, hsgt, hsgl, hsga, hsgn⟩ : ∃ sg : List Nat, cutL [97, 98, 99, 100, 101, 102] none (some ((k : Nat) : Int)) = sg ∧ ([97, 98, 99, 100, 101, 102] : List Nat).take k = sg ∧ sg.length ≤ 6 ∧ (∀ c ∈ sg, 97 ≤ c ∧ c < 103) ∧ sg.Nodup :=
   ⟨_, cutL_take _ _, rfl, by rw [List.length_take]; exact Nat.min_le_right _ _, fun c hc => abc_take hc, (show ([97, 98, 99, 100, 101, 102] : List Nat).Nodup by decide).sublist (List.take_sublist _ _)⟩
  refine ⟨_, (pss_cons (ps_set (i := 2) sc__law_all.nd rfl (Or.inl rfl) (pe_lst (pa_cons (pe_strT [] (by decide +kernel)) pa_nil)))
   (pss_cons (ps_for PassesOwn.never rfl (pi_range1 (by rfl) tt.b_range (pa_cons (pv 1) pa_nil)) (pg_name (i := 3) sc__law_all.nd rfl (Or.inl rfl)) (pss_cons (ps_set (i := 4) sc__law_all.nd rfl (Or.inl rfl) (pe_lst pa_nil))
   (pss_cons (ps_for PassesOwn.never rfl (pi_list (pv 2)) (pg_name (i := 5) sc__law_all.nd rfl (Or.inr rfl)) (pss_one (ps_expr (pe_bm PySem.F.plainAttrs_list PySem.F.slot_list_extend PySem.F.type_list_extend mt_extend (pv 4) (pa_cons (pe_comp cs__law_all_0 rfl (pi_str (pe_slice sl_T (pe_strT [97, 98, 99, 100, 101, 102] (by decide +kernel)) po_none (po_some (pv 0)))) (fun cl C s' H' fp => (pe_op op_add_T (pv 6) (pv 0)))) pa_nil)))))
   (pss_one (ps_set (i := 2) sc__law_all.nd rfl (Or.inl rfl) (pv 4))))))
   (pss_one (ps_ret (pv 2))))), ?_⟩
  (try rw [cxK2]); (try rw [cxK1])
  refine ⟨(by show 1 ≤ sizeLine; omega), fun p0 hp0 => ?_⟩
  refine ⟨_, rfl, _, rfl, by omega, by omega, ?_⟩
  rw [Int.toNat_natCast]
  refine for_range (fun i σ H2 => Same H H2 ∧ ∃ (p : Addr) (ls : List (List Nat)) (v3 v4 v5 : Option V), H p = none ∧ H2 p = some (.lst (ls.map T)) ∧ ls = allE sg i ∧ WL ls i ∧ ls.length ≤ 6 ^ i ∧ σ = [some (.int (k : Nat)), some (.int (n : Nat)), some (.ref p), v3, v4, v5])
   ⟨same_upd hp0, p0, [[]], none, none, none, hp0, upd_same, rfl, ⟨fun x hx => by rw [List.mem_singleton.mp hx]; exact ⟨rfl, fun c hc => by simp at hc⟩, by simp⟩, (by decide), rfl⟩ ?_ ?_
  ·rintro i σ H2 hi ⟨s2, p, ls, v3, v4, v5, hpn, hd, hal, hwl, hl, rfl⟩
   have hl3 : ls.length ≤ 216 := Nat.le_trans hl (Nat.pow_le_pow_right (by decide) (show i ≤ 3 by omega))
   refine ⟨(by show 0 ≤ sizeLine; omega), fun D hD => ?_⟩
   have s3 := same_upd (o := .lst []) hD
   refine ⟨_, rfl, p, rfl, ⟨_, SqL.of (s3 p _ hd)⟩, ?_⟩
   refine for_list (K := K) (a := p) (xs := ls.map T) (fun j σ H3 => Same H2 H3 ∧ ∃ (v5 : Option V), H3 D = some (.lst ((ext (ls.take j) sg).map T)) ∧ σ = [some (.int (k : Nat)), some (.int (n : Nat)), some (.ref p), some (.int (0 + (i : Int))), some (.ref D), v5])
    ⟨s3, v5, upd_same, rfl⟩ (fun j σ H3 _ h => SqL.of (h.1 p _ hd)) ?_ ?_
   ·rintro j y σ H3 hj ⟨s4, v5, hd4, rfl⟩
    obtain ⟨wd, hwd, rfl⟩ : ∃ wd, ls[j]? = some wd ∧ y = T wd := by
     rw [List.getElem?_map] at hj
     obtain ⟨x, h1, h2⟩ := Option.map_eq_some_iff.mp hj
     exact ⟨x, h1, h2.symm⟩
    have hwdl := (hwl.1 wd (List.mem_of_getElem? hwd)).1
    refine ⟨_, rfl, .inl ⟨rfl, _, SqL.of hd4⟩, _, rfl, _, rfl, _, rfl, (by show 6 ≤ sizeLine; omega), ?_⟩
    rw [hsg]
    refine ⟨_, rfl, ?_⟩
    refine compG (vs := (sg.map fun c => [c]).map T) (fun v => T (wd ++ unT v)) reads_text (by rw [List.length_map, List.length_map]; omega) (fun v H5 hv s5 N hN => ?_) fun D1 H5 hD1 s5 hd5 => ?_
    ·obtain ⟨l, hl', rfl⟩ := List.mem_map.mp hv
     obtain ⟨ch, hch, rfl⟩ := List.mem_map.mp hl'
     have g := hN H5 (Same.refl _)
     rw [unT_T] at g
     exact ⟨_, rfl, _, rfl, _, rfl, _, rfl, (by show wd.length + 1 ≤ sizeLine; omega), g⟩
    rw [map_unT (f := fun l => T (wd ++ l)), List.map_map] at hd5
    have e5 : sg.map ((fun l => T (wd ++ l)) ∘ fun c => [c]) = (sg.map fun c => wd ++ [c]).map T := by rw [List.map_map]; rfl
    rw [e5] at hd5
    have hjl : j < ls.length := (List.getElem?_eq_some_iff.mp hwd).1
    have el := ext_len sg (ls.take j)
    have htk : (ls.take j).length ≤ 216 := by rw [List.length_take]; omega
    have hm : (ls.take j).length * sg.length ≤ 216 * 6 := Nat.mul_le_mul htk hsgl
    refine ⟨D, D1, _, _, rfl, rfl, s5 D _ hd4, hd5, (by rw [List.length_map, List.length_map, List.length_map, el]; omega), ?_⟩
    refine ⟨(fun b o e => by rw [upd_ne (ne_of_none e hD)]; exact (s4.trans s5) b o e), some (T wd), ?_, rfl⟩
    rw [List.take_add_one, hwd, show (some wd).toList = [wd] from rfl, ext_snoc, List.map_append]
    exact upd_same
   ·rintro σ H3 ⟨s4, v5', hd4, rfl⟩
    rw [List.length_map, List.take_length] at hd4
    refine ⟨_, rfl, ?_⟩
    have hDn : H D = none := by
     cases e : H D with
     | none => rfl
     | some o => exact absurd ((s2 D o e).symm.trans hD) (fun z => nomatch z)
    refine ⟨s2.trans s4, D, ext ls sg, some (.int (0 + (i : Int))), some (.ref D), v5', hDn, hd4, (by rw [hal]; rfl), hwl.ext hsgn hsga, ?_, rfl⟩
    rw [ext_len, Nat.pow_succ]
    exact Nat.mul_le_mul hl hsgl
  ·rintro σ H2 ⟨s2, p, ls, v3, v4, v5, hpn, hd, hal, hwl, hl, rfl⟩
   have hl4 : ls.length ≤ 1296 := Nat.le_trans hl (Nat.pow_le_pow_right (by decide) (show n ≤ 4 by omega))
   exact ⟨_, rfl, q p ls H2 hpn s2 hd (by rw [hsgt]; exact hal) hwl (by omega)⟩

noncomputable def spPow : Sp := fun vs H Q _ => ∃ (b : Nat) (z : Int), vs = [.int (b : Nat), .int z] ∧ (b ≤ 10 ∧ z ≤ 100 ∧ -100 ≤ z) ∧ Q (.int ((b ^ z.toNat : Nat) : Int)) H
theorem ok__law_power {f : Addr} {fd : FuncData} (F : Fun K "_law_power" "_law_power" s__law_power f fd) (tt : Txt K mg ad) : FnOk P w K mg base (CX1 P w) 1 f fd ["a", "many"] spPow := by
 refine F.okN sc__law_power (fun vs H Q E h => ?_) (fun cdv A outer s H vs Q E hr h => ?_)
 ·obtain ⟨b, z, rfl, _⟩ := h
  rfl
 ·obtain ⟨b, z, rfl, ⟨hb, hz, hz2⟩, q⟩ := h
  refine ⟨_, (pss_cons (ps_set (i := 2) sc__law_power.nd rfl (Or.inl rfl) pe_int)
   (pss_cons (ps_for PassesOwn.never rfl (pi_range1 (by rfl) tt.b_range (pa_cons (pv 1) pa_nil)) (pg_name (i := 3) sc__law_power.nd rfl (Or.inl rfl)) (pss_one (ps_set (i := 2) sc__law_power.nd rfl (Or.inl rfl) (pe_op op_mul (pv 2) (pv 0)))))
   (pss_one (ps_ret (pv 2))))), ?_⟩
  (try rw [cxK2]); (try rw [cxK1])
  refine ⟨_, rfl, _, rfl, by omega, by omega, ?_⟩
  refine for_range (fun j σ G => G = H ∧ ∃ v3 : Option V, σ = [some (.int (b : Nat)), some (.int z), some (.int ((b ^ j : Nat) : Int)), v3]) ⟨rfl, none, rfl⟩ ?_ ?_
  ·rintro j σ G hj ⟨rfl, v3, rfl⟩
   refine ⟨_, rfl, _, rfl, _, _, rfl, rfl, .inr ⟨by omega, by omega⟩, rfl, some (.int (0 + (j : Int))), ?_⟩
   rw [Nat.pow_succ, Int.natCast_mul]
   rfl
  ·rintro σ G ⟨rfl, v3, rfl⟩
   exact ⟨_, rfl, q⟩

noncomputable def spWhole : Sp := fun vs H Q _ => ∃ x : Int, vs = [.int x, .int x] ∧ Q (.bl true) H
theorem ok__law_whole {f : Addr} {fd : FuncData} (F : Fun K "_law_whole" "_law_whole" s__law_whole f fd) (tt : Txt K mg ad) : FnOk P w K mg base (CX1 P w) 1 f fd ["found", "due"] spWhole := by
 refine F.okN sc__law_whole (fun vs H Q E h => ?_) (fun cdv A outer s H vs Q E hr h => ?_)
 ·obtain ⟨x, rfl, _⟩ := h
  rfl
 ·obtain ⟨x, rfl, q⟩ := h
  refine ⟨_, (pss_one (ps_ret (pe_and (pe_callB call_isinst (by rfl) tt.b_isinstance PyProof.Rows.boot_isinstance (pa_cons (pv 0) (pa_cons (pe_bltn (v := .ty "int") (u := .type "int") (by rfl) tt.b_int (by decide +kernel) rfl) pa_nil))) (pe_and (pe_not (pe_callB call_isinst (by rfl) tt.b_isinstance PyProof.Rows.boot_isinstance (pa_cons (pv 0) (pa_cons (pe_bltn (v := .ty "bool") (u := .type "bool") (by rfl) tt.b_bool (by decide +kernel) rfl) pa_nil)))) (pe_one (pe_cmpR op_eq_I (pv 0) (pv 1) (nomark _))))))), ?_⟩
  (try rw [cxK2]); (try rw [cxK1])
  refine ⟨_, rfl, _, _, _, _, rfl, .int _, kit_same _, _, rfl, iteT ?_⟩
  refine ⟨_, rfl, _, _, _, _, rfl, .int _, kit_int_bool, _, rfl, _, rfl, iteT ?_⟩
  refine ⟨_, rfl, _, rfl, _, rfl, _, rfl, ?_⟩
  rw [decide_eq_true rfl]
  exact q

noncomputable abbrev aW (k n : Nat) : List (List Nat) := allE (([97, 98, 99, 100, 101, 102] : List Nat).take k) n
set_option genInjectivity false in
structure AllOk (k n : Nat) : Prop where
 len : (aW k n).length ≤ 60 ∧ (aW k (n - 1)).length ≤ 60
 ne : aW k n ≠ []
 asc : (aW k n).Pairwise (fun a b => ¬ b < a)
 tr : ∃ us p, us.Perm (aW k n) ∧ Hg.Tr Wd.beg Wd.fin p us p
 und : (aW k (n - 1)).Nodup
 b1 : ∀ t ∈ aW k (n - 1), ∃ w ∈ aW k n, Wd.beg w = t
 b2 : ∀ w ∈ aW k n, Wd.beg w ∈ aW k (n - 1)
 ulen : (aW k (n - 1)).length = k ^ (n - 1)
 val : Dt.nC ((aW k (n - 1)).drop 1) (Dt.og (aW k n)) = k ^ (k ^ (n - 1) - n)
theorem ok_22 : AllOk 2 2 := by
 refine ⟨by decide +kernel, by decide +kernel, by decide +kernel, ⟨[[97, 97], [97, 98], [98, 98], [98, 97]], [97], by decide +kernel, rfl, rfl, rfl, rfl, rfl⟩, by decide +kernel, by decide +kernel, by decide +kernel, by decide +kernel, ?_⟩
 have h := Dt.det_nC (ls := (aW 2 (2 - 1)).drop 1) (by decide +kernel) (Dt.og (aW 2 2))
 rw [Dt.det_cert (L := [[1]]) (U := [[1]]) (d := 1) (by decide +kernel) (by decide +kernel) (by decide +kernel)] at h
 have h2 : (((2 : Nat) ^ (2 ^ (2 - 1) - 2) : Nat) : Int) = 1 := by decide +kernel
 omega
theorem ok_23 : AllOk 2 3 := by
 refine ⟨by decide +kernel, by decide +kernel, by decide +kernel, ⟨[[97, 97, 97], [97, 97, 98], [97, 98, 97], [98, 97, 98], [97, 98, 98], [98, 98, 98], [98, 98, 97], [98, 97, 97]], [97, 97], by decide +kernel, rfl, rfl, rfl, rfl, rfl, rfl, rfl, rfl, rfl⟩, by decide +kernel, by decide +kernel, by decide +kernel, by decide +kernel, ?_⟩
 have h := Dt.det_nC (ls := (aW 2 (3 - 1)).drop 1) (by decide +kernel) (Dt.og (aW 2 3))
 rw [Dt.det_cert (L := [[1, 0, 0], [1, 2, 0], [1, 2, 3]]) (U := [[2, -1, -1], [0, 3, -1], [0, 0, 2]]) (d := 2) (by decide +kernel) (by decide +kernel) (by decide +kernel)] at h
 have h2 : (((2 : Nat) ^ (2 ^ (3 - 1) - 3) : Nat) : Int) = 2 := by decide +kernel
 omega
theorem ok_24 : AllOk 2 4 := by
 refine ⟨by decide +kernel, by decide +kernel, by decide +kernel, ⟨[[97, 97, 97, 97], [97, 97, 97, 98], [97, 97, 98, 97], [97, 98, 97, 97], [98, 97, 97, 98], [97, 97, 98, 98], [97, 98, 98, 97], [98, 98, 97, 98], [98, 97, 98, 97], [97, 98, 97, 98], [98, 97, 98, 98], [97, 98, 98, 98], [98, 98, 98, 98], [98, 98, 98, 97], [98, 98, 97, 97], [98, 97, 97, 97]], [97, 97, 97], by decide +kernel, rfl, rfl, rfl, rfl, rfl, rfl, rfl, rfl, rfl, rfl, rfl, rfl, rfl, rfl, rfl, rfl, rfl⟩, by decide +kernel, by decide +kernel, by decide +kernel, by decide +kernel, ?_⟩
 have h := Dt.det_nC (ls := (aW 2 (4 - 1)).drop 1) (by decide +kernel) (Dt.og (aW 2 4))
 rw [Dt.det_cert (L := [[1, 0, 0, 0, 0, 0, 0], [0, 1, 0, 0, 0, 0, 0], [0, 0, 1, 0, 0, 0, 0], [2, 1, 1, 4, 0, 0, 0], [1, 4, 4, 2, 7, 0, 0], [2, 3, 3, 4, 4, 5, 0], [2, 3, 3, 4, 4, 5, 7]]) (U := [[2, -1, -1, 0, 0, 0, 0], [0, 2, 0, -1, -1, 0, 0], [0, 0, 2, 0, 0, -1, -1], [0, 0, 0, 7, -1, -1, -1], [0, 0, 0, 0, 10, -4, -4], [0, 0, 0, 0, 0, 7, -3], [0, 0, 0, 0, 0, 0, 4]]) (d := 16) (by decide +kernel) (by decide +kernel) (by decide +kernel)] at h
 have h2 : (((2 : Nat) ^ (2 ^ (4 - 1) - 4) : Nat) : Int) = 16 := by decide +kernel
 omega
theorem ok_32 : AllOk 3 2 := by
 refine ⟨by decide +kernel, by decide +kernel, by decide +kernel, ⟨[[97, 97], [97, 98], [98, 97], [97, 99], [99, 98], [98, 98], [98, 99], [99, 99], [99, 97]], [97], by decide +kernel, rfl, rfl, rfl, rfl, rfl, rfl, rfl, rfl, rfl, rfl⟩, by decide +kernel, by decide +kernel, by decide +kernel, by decide +kernel, ?_⟩
 have h := Dt.det_nC (ls := (aW 3 (2 - 1)).drop 1) (by decide +kernel) (Dt.og (aW 3 2))
 rw [Dt.det_cert (L := [[1, 0], [1, 2]]) (U := [[2, -1], [0, 3]]) (d := 3) (by decide +kernel) (by decide +kernel) (by decide +kernel)] at h
 have h2 : (((3 : Nat) ^ (3 ^ (2 - 1) - 2) : Nat) : Int) = 3 := by decide +kernel
 omega
theorem ok_33 : AllOk 3 3 := by
 refine ⟨by decide +kernel, by decide +kernel, by decide +kernel, ⟨[[97, 97, 97], [97, 97, 98], [97, 98, 97], [98, 97, 97], [97, 97, 99], [97, 99, 97], [99, 97, 98], [97, 98, 98], [98, 98, 97], [98, 97, 98], [97, 98, 99], [98, 99, 97], [99, 97, 99], [97, 99, 98], [99, 98, 97], [98, 97, 99], [97, 99, 99], [99, 99, 98], [99, 98, 98], [98, 98, 98], [98, 98, 99], [98, 99, 98], [99, 98, 99], [98, 99, 99], [99, 99, 99], [99, 99, 97], [99, 97, 97]], [97, 97], by decide +kernel, rfl, rfl, rfl, rfl, rfl, rfl, rfl, rfl, rfl, rfl, rfl, rfl, rfl, rfl, rfl, rfl, rfl, rfl, rfl, rfl, rfl, rfl, rfl, rfl, rfl, rfl, rfl, rfl⟩, by decide +kernel, by decide +kernel, by decide +kernel, by decide +kernel, ?_⟩
 have h := Dt.det_nC (ls := (aW 3 (3 - 1)).drop 1) (by decide +kernel) (Dt.og (aW 3 3))
 rw [Dt.det_cert (L := [[1, 0, 0, 0, 0, 0, 0, 0], [0, 1, 0, 0, 0, 0, 0, 0], [1, 1, 3, 0, 0, 0, 0, 0], [1, 1, 3, 8, 0, 0, 0, 0], [0, 0, 0, 0, 1, 0, 0, 0], [2, 2, 1, 1, 1, 5, 0, 0], [1, 1, 2, 2, 2, 1, 3, 0], [3, 3, 4, 4, 4, 5, 5, 8]]) (U := [[3, 0, -1, -1, -1, 0, 0, 0], [0, 3, 0, 0, 0, -1, -1, -1], [0, 0, 8, -1, -1, -1, -1, -1], [0, 0, 0, 15, -9, -1, -1, -1], [0, 0, 0, 0, 3, -1, -1, -1], [0, 0, 0, 0, 0, 12, -3, -3], [0, 0, 0, 0, 0, 0, 6, -3], [0, 0, 0, 0, 0, 0, 0, 9]]) (d := 729) (by decide +kernel) (by decide +kernel) (by decide +kernel)] at h
 have h2 : (((3 : Nat) ^ (3 ^ (3 - 1) - 3) : Nat) : Int) = 729 := by decide +kernel
 omega
theorem ok_42 : AllOk 4 2 := by
 refine ⟨by decide +kernel, by decide +kernel, by decide +kernel, ⟨[[97, 97], [97, 98], [98, 97], [97, 99], [99, 97], [97, 100], [100, 98], [98, 98], [98, 99], [99, 98], [98, 100], [100, 99], [99, 99], [99, 100], [100, 100], [100, 97]], [97], by decide +kernel, rfl, rfl, rfl, rfl, rfl, rfl, rfl, rfl, rfl, rfl, rfl, rfl, rfl, rfl, rfl, rfl, rfl⟩, by decide +kernel, by decide +kernel, by decide +kernel, by decide +kernel, ?_⟩
 have h := Dt.det_nC (ls := (aW 4 (2 - 1)).drop 1) (by decide +kernel) (Dt.og (aW 4 2))
 rw [Dt.det_cert (L := [[1, 0, 0], [1, 3, 0], [1, 1, 2]]) (U := [[3, -1, -1], [0, 8, -4], [0, 0, 4]]) (d := 16) (by decide +kernel) (by decide +kernel) (by decide +kernel)] at h
 have h2 : (((4 : Nat) ^ (4 ^ (2 - 1) - 2) : Nat) : Int) = 16 := by decide +kernel
 omega
theorem ok_62 : AllOk 6 2 := by
 refine ⟨by decide +kernel, by decide +kernel, by decide +kernel, ⟨[[97, 97], [97, 98], [98, 97], [97, 99], [99, 97], [97, 100], [100, 97], [97, 101], [101, 97], [97, 102], [102, 98], [98, 98], [98, 99], [99, 98], [98, 100], [100, 98], [98, 101], [101, 98], [98, 102], [102, 99], [99, 99], [99, 100], [100, 99], [99, 101], [101, 99], [99, 102], [102, 100], [100, 100], [100, 101], [101, 100], [100, 102], [102, 101], [101, 101], [101, 102], [102, 102], [102, 97]], [97], by decide +kernel, rfl, rfl, rfl, rfl, rfl, rfl, rfl, rfl, rfl, rfl, rfl, rfl, rfl, rfl, rfl, rfl, rfl, rfl, rfl, rfl, rfl, rfl, rfl, rfl, rfl, rfl, rfl, rfl, rfl, rfl, rfl, rfl, rfl, rfl, rfl, rfl, rfl⟩, by decide +kernel, by decide +kernel, by decide +kernel, by decide +kernel, ?_⟩
 have h := Dt.det_nC (ls := (aW 6 (2 - 1)).drop 1) (by decide +kernel) (Dt.og (aW 6 2))
 rw [Dt.det_cert (L := [[1, 0, 0, 0, 0], [1, 5, 0, 0, 0], [1, 1, 4, 0, 0], [1, 1, 1, 3, 0], [1, 1, 1, 1, 2]]) (U := [[5, -1, -1, -1, -1], [0, 24, -6, -6, -6], [0, 0, 18, -6, -6], [0, 0, 0, 12, -6], [0, 0, 0, 0, 6]]) (d := 1296) (by decide +kernel) (by decide +kernel) (by decide +kernel)] at h
 have h2 : (((6 : Nat) ^ (6 ^ (2 - 1) - 2) : Nat) : Int) = 1296 := by decide +kernel
 omega
theorem ok_51 : AllOk 5 1 := by
 refine ⟨by decide +kernel, by decide +kernel, by decide +kernel, ⟨[[97], [98], [99], [100], [101]], [], by decide +kernel, rfl, rfl, rfl, rfl, rfl, rfl⟩, by decide +kernel, by decide +kernel, by decide +kernel, by decide +kernel, ?_⟩
 have h := Dt.det_nC (ls := (aW 5 (1 - 1)).drop 1) (by decide +kernel) (Dt.og (aW 5 1))
 rw [Dt.det_cert (L := []) (U := []) (d := 1) (by decide +kernel) (by decide +kernel) (by decide +kernel)] at h
 have h2 : (((5 : Nat) ^ (5 ^ (1 - 1) - 1) : Nat) : Int) = 1 := by decide +kernel
 omega
theorem ok_13 : AllOk 1 3 := by
 refine ⟨by decide +kernel, by decide +kernel, by decide +kernel, ⟨[[97, 97, 97]], [97, 97], by decide +kernel, rfl, rfl⟩, by decide +kernel, by decide +kernel, by decide +kernel, by decide +kernel, ?_⟩
 have h := Dt.det_nC (ls := (aW 1 (3 - 1)).drop 1) (by decide +kernel) (Dt.og (aW 1 3))
 rw [Dt.det_cert (L := []) (U := []) (d := 1) (by decide +kernel) (by decide +kernel) (by decide +kernel)] at h
 have h2 : (((1 : Nat) ^ (1 ^ (3 - 1) - 3) : Nat) : Int) = 1 := by decide +kernel
 omega

theorem WebOk.perm {ls ms : List (List Nat)} {n : Nat} (h : WebOk ls n) (p : ms.Perm ls) : WebOk ms n := ⟨fun z => h.1 (List.length_eq_zero_iff.mp (by rw [← p.length_eq, z]; rfl)), by rw [p.length_eq]; exact h.2.1, ⟨h.2.2.1.1, h.2.2.1.2.sub fun w hw => p.mem_iff.mp hw⟩, fun x hx => h.2.2.2.1 x (p.mem_iff.mp hx), p.nodup_iff.mpr h.2.2.2.2⟩
theorem IsP.perm {ls ms : List (List Nat)} (p : ms.Perm ls) (z : List Nat) : IsP ms z ↔ IsP ls z := ⟨fun ⟨w, h1, h2⟩ => ⟨w, p.mem_iff.mp h1, h2⟩, fun ⟨w, h1, h2⟩ => ⟨w, p.mem_iff.mpr h1, h2⟩⟩
theorem isP_bal {ms : List (List Nat)} {p z : List Nat} (hb : Wd.Bal ms p p) : IsP ms z ↔ ∃ w ∈ ms, Wd.beg w = z := by
 constructor
 ·rintro ⟨w, hw, h | h⟩
  ·exact ⟨w, hw, h.symm⟩
  ·obtain ⟨x, hx, e⟩ := Dt.bal_begin hb hw
   exact ⟨x, hx, e.trans h.symm⟩
 ·rintro ⟨w, hw, h⟩
  exact ⟨w, hw, .inl h.symm⟩
theorem txs_of {ms ts : List (List Nat)} {p q : List Nat} (hb : Wd.Bal ms p p) (hn : ts.Nodup) (h : ∀ t, t ∈ ts ↔ t ≠ q ∧ IsP ms t) : Dt.Txs ms q ts := ⟨hn, fun t => by rw [h, isP_bal hb]⟩
noncomputable def spLaw (K : PySem.W.Frag) : Sp := fun vs H Q _ => ∃ (a : Addr) (ns : List Int), vs = [.ref a] ∧ SqL K H a (ns.map V.int) ∧ ns.length ≤ 63 ∧ ∀ H', Q (.bl true) H'
theorem ok_law {f : Addr} {fd : FuncData} (F : Fun K "law" "law" s_law f fd) (tt : Txt K mg ad) (C__law_ring_words : Cal P w K mg base (CX1 P w) "_law_ring_words" 2 ["script", "at", "most"] (spRingWd K)) (C_Web_init : Cam P w K mg base (CX1 P w) "Web" ad.Web 5 ["self", "words"] (spWebI K ad.Web)) (C_tree_count : Cal P w K mg base (CX1 P w) "tree_count" 5 ["web", "piece"] (spTree ad.Web ad)) (C__law_whole : Cal P w K mg base (CX1 P w) "_law_whole" 1 ["found", "due"] spWhole)
  (C__law_ways : Cal P w K mg base (CX1 P w) "_law_ways" 1 ["words", "piece"] (spWaysL K)) (C__law_cell_at : Cal P w K mg base (CX1 P w) "_law_cell_at" 1 ["script", "k"] (spCell K)) (C_choices_counted : Cal P w K mg base (CX1 P w) "choices_counted" 4 ["ways"] (spChoices K)) (C__law_all : Cal P w K mg base (CX1 P w) "_law_all" 1 ["kinds", "length"] spAllE) (C__law_power : Cal P w K mg base (CX1 P w) "_law_power" 1 ["a", "many"] spPow) :
  FnOk P w K mg base (CX1 P w) 7 f fd ["script"] (spLaw K) := by
 refine F.okN sc_law (fun vs H Q E h => ?_) (fun cdv A outer s H vs Q E hr h => ?_)
 ·obtain ⟨a, ns, rfl, _⟩ := h
  rfl
 ·obtain ⟨a, ns, rfl, hS, hlen, q⟩ := h
  have hs : sizeLine = 16777216 := sizeLine_eq
  refine ⟨_, (pss_cons (ps_set (i := 1) sc_law.nd rfl (Or.inl rfl) (pe_cal C__law_ring_words hr pass1 (pa_cons (pv 0) (pa_cons pe_int (pa_cons pe_int pa_nil)))))
   (pss_cons (ps_set (i := 2) sc_law.nd rfl (Or.inl rfl) (pe_mak C_Web_init hr pass1 (pa_cons (pv 1) pa_nil)))
   (pss_cons (ps_set (i := 3) sc_law.nd rfl (Or.inl rfl) (pe_callB (call_sortedIS rfl) (by rfl) tt.b_sorted PyProof.Rows.boot_sorted (pa_cons (pe_callTy (call_setI rfl) (by rfl) tt.b_set (by decide +kernel) (pa_cons (pe_comp cs_law_0 rfl (pi_list (pv 1)) (fun cl C s' H' fp => (pe_slice sl_T (pv 0) (po_some pe_int) po_none))) pa_nil)) pa_nil)))
   (pss_cons (ps_set (i := 4) sc_law.nd rfl (Or.inl rfl) (pe_cal C_tree_count hr pass1 (pa_cons (pv 2) (pa_cons (pe_ix ix_list (pv 3) pe_int (fun _ _ => rfl)) pa_nil))))
   (pss_cons (ps_for PassesOwn.never rfl (pi_list (pv 3)) (pg_name (i := 5) sc_law.nd rfl (Or.inl rfl)) (pss_one (ps_if (PW.pt (pw_or (pt_not (pt_val (pe_cal C__law_whole hr pass1 (pa_cons (pe_cal C_tree_count hr pass1 (pa_cons (pv 2) (pa_cons (pv 5) pa_nil))) (pa_cons (pv 4) pa_nil))))) (pw_or1 (pt_cmpR op_lt (pv 4) pe_int (nomark _))))) (pss_one (ps_ret pe_bl)) pss_nil)))
   (pss_cons (ps_wk (t' := (fun D σ H => ∃ (a Dw De : Addr) (v2 v5 : Option V) (ls ms ev : List (List Nat)) (ns : List Int) (e0 : List Nat) (Tn : Nat), σ = [some (.ref a), some (.ref Dw), v2, some (.ref De), some (.int (Tn : Nat)), v5, none, none, none, none, none, none, none, none, none] ∧ SqL K H a (ns.map V.int) ∧ H Dw = some (.lst (ls.map T)) ∧ H De = some (.lst (ev.map T)) ∧ (ls.length ≤ 30 ∧ ev.length ≤ 60 ∧ ms.Perm ls ∧ ms.Pairwise (fun a b => ¬ b < a)) ∧ (∀ x ∈ ls, 1 ≤ x.length ∧ x.length ≤ 1000) ∧ (ev[0]? = some e0 ∧ ev.Nodup ∧ ∀ z, z ∈ ev ↔ IsP ls z) ∧ (∀ (ts : List (List Nat)) (g : List Nat → List (List Nat)), ts.Nodup → (∀ t, t ∈ ts ↔ t ≠ e0 ∧ IsP ls t) → (∀ t ∈ ts, g t = outL ms t) → Dt.nC ts g = Tn) ∧ ∀ (v6 v7 v8 v9 v10 : Option V) (H' : Hp), Same H H' → D.nx [some (.ref a), some (.ref Dw), v2, some (.ref De), some (.int (Tn : Nat)), v5, v6, v7, v8, v9, v10, none, none, none, none] H')) (ps_if (pt_cmpR op_gt (pe_callB call_len_seq (by rfl) tt.b_len PySem.boot_len (pa_cons (pv 3) pa_nil)) pe_int (nomark _)) (pss_cons (ps_set (i := 6) sc_law.nd rfl (Or.inl rfl) (pe_cal C__law_ways hr pass1 (pa_cons (pv 1) (pa_cons (pe_ix ix_list (pv 3) pe_int (fun _ _ => rfl)) pa_nil))))
   (pss_cons (ps_set (i := 7) sc_law.nd rfl (Or.inl rfl) (pe_ix ix_list (pv 3) (pe_op op_add pe_int (pe_op op_mod (pe_cal C__law_cell_at hr pass1 (pa_cons (pv 0) (pa_cons pe_int pa_nil))) (pe_op op_sub (pe_callB call_len_seq (by rfl) tt.b_len PySem.boot_len (pa_cons (pv 3) pa_nil)) pe_int))) (fun _ _ => rfl)))
   (pss_cons (ps_set (i := 8) sc_law.nd rfl (Or.inl rfl) pe_int)
   (pss_cons (ps_for PassesOwn.never rfl (pi_list (pe_dget (hu_of hr) (pv 6) (pv 7) (fun _ _ => rfl))) (pg_name (i := 9) sc_law.nd rfl (Or.inl rfl)) (pss_cons (ps_set (i := 10) sc_law.nd rfl (Or.inl rfl) (pe_callTy call_dictOf (by rfl) tt.b_dict (by decide +kernel) (pa_cons (pv 6) pa_nil)))
   (pss_cons (ps_dput (hu_of hr) (pv 10) (pv 7) (pe_lst (pa_cons (pv 9) pa_nil)) rfl)
   (pss_one (ps_set (i := 8) sc_law.nd rfl (Or.inl rfl) (pe_op op_add (pv 8) (pe_cal C_choices_counted hr pass1 (pa_cons (pv 10) pa_nil))))))))
   (pss_one (ps_if (pt_cmpR op_ne_I (pv 8) (pv 4) (nomark _)) (pss_one (ps_ret pe_bl)) pss_nil)))))) pss_nil) ?rA)
   (pss_cons (ps_set (i := 11) sc_law.nd rfl (Or.inl rfl) (pe_lst (pa_pairs [((_, _, _), (_, _, _), _, _), ((_, _, _), (_, _, _), _, _), ((_, _, _), (_, _, _), _, _), ((_, _, _), (_, _, _), _, _), ((_, _, _), (_, _, _), _, _), ((_, _, _), (_, _, _), _, _), ((_, _, _), (_, _, _), _, _), ((_, _, _), (_, _, _), _, _), ((_, _, _), (_, _, _), _, _)])))
   (pss_cons (ps_asg (pe_ix ix_list (pv 11) (pe_op op_mod (pe_op op_fdiv (pe_cal C__law_cell_at hr pass1 (pa_cons (pv 0) (pa_cons pe_int pa_nil))) pe_int) pe_int) (fun _ _ => rfl)) (pg_tup rfl (pgs_cons (pg_name (i := 12) sc_law.nd rfl (Or.inl rfl)) (pgs_cons (pg_name (i := 13) sc_law.nd rfl (Or.inl rfl)) pgs_nil))))
   (pss_cons (ps_set (i := 2) sc_law.nd rfl (Or.inl rfl) (pe_mak C_Web_init hr pass1 (pa_cons (pe_cal C__law_all hr pass1 (pa_cons (pv 12) (pa_cons (pv 13) pa_nil))) pa_nil)))
   (pss_cons (ps_set (i := 14) sc_law.nd rfl (Or.inl rfl) (pe_cal C__law_power hr pass1 (pa_cons (pv 12) (pa_cons (pe_op op_sub (pv 13) pe_int) pa_nil))))
   (pss_cons (ps_set (i := 5) sc_law.nd rfl (Or.inl rfl) (pe_ix ix_list (pe_cal C__law_all hr pass1 (pa_cons (pv 12) (pa_cons (pe_op op_sub (pv 13) pe_int) pa_nil))) (pe_op op_mod (pe_op op_fdiv (pe_cal C__law_cell_at hr pass1 (pa_cons (pv 0) (pa_cons pe_int pa_nil))) pe_int) (pv 14)) (fun _ _ => rfl)))
   (pss_one (ps_ret (pe_cal C__law_whole hr pass1 (pa_cons (pe_cal C_tree_count hr pass1 (pa_cons (pv 2) (pa_cons (pv 5) pa_nil))) (pa_cons (pe_cal C__law_power hr pass1 (pa_cons (pv 12) (pa_cons (pe_op op_sub (pv 14) (pv 13)) pa_nil))) pa_nil)))))))))))))))), ?_⟩
  (try rw [cxK2]); (try rw [cxK1])
  case rA =>
   rintro D0 σ G ⟨a, Dw, De, v2, v5, ls, ms, ev, ns, e0, Tn, rfl, hS, hd, hde, ⟨hl30, hel, hp2, hw2⟩, hxl, ⟨he0, hen, hem⟩, hT, nxt⟩
   refine ⟨_, rfl, De, _, rfl, .inl (SqL.of hde), _, _, rfl, rfl, _, rfl, ?_⟩
   rw [List.length_map]
   by_cases h1 : 1 < ev.length
   ·refine itP (decide_eq_true (by omega)) ?_
    refine ⟨_, rfl, _, rfl, De, _, _, _, rfl, rfl, SqL.of hde, atI_nat (j := 0) (by rw [List.getElem?_map, he0]; rfl), Dw, ls, e0, rfl, SqL.of hd, ⟨by omega, hxl⟩, fun D5 G5 hD5 s5 hw5 => ?_⟩
    obtain ⟨kvs, ts, g, hd5, hwa, nd, hll, hm, hg⟩ := hw5
    have hm : ∀ t, t ∈ ts ↔ t ≠ e0 ∧ IsP ls t := fun t => by rw [hm]; exact ⟨fun h => ⟨h.1, h.2.resolve_right (fun z => (nomatch z))⟩, fun h => ⟨h.1, .inl h.2⟩⟩
    have hts : ts.length ≤ 60 := by have : ts.length ≤ 2 * ls.length + 0 := hll; omega
    have hgo : ∀ t ∈ ts, g t = outL ms t := fun t ht => Wd.sorted_same ((hg t ht).1.trans ((hp2.symm.filter fun l => decide (beg l = t)))) (hg t ht).2 (hw2.filter fun l => decide (beg l = t))
    have hgl : ∀ t ∈ ts, (g t).length ≤ 60 := fun t ht => by rw [(hg t ht).1.length_eq]; exact Nat.le_trans (List.length_filter_le ..) (by omega)
    have hgx : ∀ t ∈ ts, ∀ y ∈ g t, 1 ≤ y.length ∧ y.length ≤ 1000 := fun t ht y hy => hxl y (List.mem_filter.mp ((hg t ht).1.mem_iff.mp hy)).1
    have hTn := hT ts g nd hm hgo
    obtain ⟨m, hm1, hm2⟩ : ∃ m : Nat, ns.getD 3 0 % (((ev.length : Nat) : Int) - 1) = (m : Int) ∧ m < ev.length - 1 := by
     have z0 := Int.emod_nonneg (ns.getD 3 0) (show (((ev.length : Nat) : Int) - 1) ≠ 0 by omega)
     have z1 := Int.emod_lt_of_pos (ns.getD 3 0) (show (0 : Int) < (((ev.length : Nat) : Int) - 1) by omega)
     exact ⟨(ns.getD 3 0 % (((ev.length : Nat) : Int) - 1)).toNat, by omega, by omega⟩
    obtain ⟨t, ht⟩ : ∃ t, ev[m + 1]? = some t := ⟨_, List.getElem?_eq_getElem (show m + 1 < ev.length by omega)⟩
    have hte : t ≠ e0 := fun z => by
     obtain ⟨i1, j1⟩ := List.getElem?_eq_some_iff.mp ht
     obtain ⟨i2, j2⟩ := List.getElem?_eq_some_iff.mp he0
     have := (List.getElem_inj hen).mp (j1.trans (z.trans j2.symm))
     omega
    have htts : t ∈ ts := (hm t).mpr ⟨hte, (hem t).mp (List.mem_of_getElem? ht)⟩
    refine ⟨_, rfl, _, rfl, a, ns, 3, rfl, s5.seq hS, _, rfl, De, _, rfl, .inl (SqL.of (s5 De _ hde)), _, _, rfl, rfl, _, _, rfl, rfl, (by rw [List.length_map]; omega), _, _, rfl, rfl, De, _, _, _, rfl, rfl, SqL.of (s5 De _ hde), (by
     rw [List.length_map]
     show atI (ev.map T) (1 + ns.getD 3 0 % (((ev.length : Nat) : Int) - 1)) = some (T t)
     rw [hm1, show 1 + (m : Int) = ((m + 1 : Nat) : Int) by omega]
     exact atI_nat (by rw [List.getElem?_map, ht]; rfl)), ?_⟩
    obtain ⟨b, hb1, hb2⟩ := hwa.get htts
    refine ⟨_, rfl, _, rfl, D5, _, rfl, (by have z := DGet.k (k := Sum.inr (tx t)) hd5; rw [hb1] at z; exact z), b, rfl, ⟨_, SqL.of hb2⟩, ?_⟩
    refine for_list (K := K) (a := b) (xs := (g t).map T) (fun i σ G' => Same G5 G' ∧ ∃ (v9 v10 : Option V), σ = [some (.ref a), some (.ref Dw), v2, some (.ref De), some (.int (Tn : Nat)), v5, some (.ref D5), some (T t), some (.int (((((g t).take i).map fun w => Dt.nC ts (fun x => if x = t then [w] else g x)).sum : Nat) : Int)), v9, v10, none, none, none, none]) ⟨Same.refl _, none, none, rfl⟩ (fun i σ G' _ h => SqL.of (h.1 b _ hb2)) ?_ ?_
    ·rintro i y σ G' hi ⟨sG', v9, v10, rfl⟩
     obtain ⟨wd, hwi, rfl⟩ : ∃ wd, (g t)[i]? = some wd ∧ T wd = y := by rw [List.getElem?_map] at hi; exact Option.map_eq_some_iff.mp hi
     have htk : (g t).take (i + 1) = (g t).take i ++ [wd] := by rw [List.take_add_one, hwi]; rfl
     have hwx := hgx t htts wd (List.mem_of_getElem? hwi)
     refine ⟨_, rfl, D5, kvs, rfl, sG' D5 _ hd5, fun C hC => ?_⟩
     have sC := same_upd (o := .dK kvs) hC
     have hneC : ∀ b' o, G5 b' = some o → b' ≠ C := fun b' o e' z => by
      rw [z] at e'
      rw [sG' C o e'] at hC
      cases hC
     refine ⟨_, rfl, (by show 1 ≤ sizeLine; omega), fun e he => ?_⟩
     have sE := same_upd (o := .lst [T wd]) he
     have hC2 : upd (upd G' C (.dK kvs)) e (.lst [T wd]) C = some (.dK kvs) := sE C _ upd_same
     have he2 : upd (upd G' C (.dK kvs)) e (.lst [T wd]) e = some (.lst ([wd].map T)) := upd_same
     have sCE := sC.trans sE
     generalize upd (upd G' C (.dK kvs)) e (.lst [T wd]) = G2 at hC2 he2 sCE
     refine ⟨_, rfl, _, rfl, C, _, rfl, DPut.k (k := Sum.inr (tx t)) hC2 (by rw [hwa.len]; omega), ?_⟩
     have hw3 := ((hwa.mono (sG'.trans sCE)).repl nd htts he2).updD (o := .dK (putK kvs (Sum.inr (tx t)) (.ref e))) hC2
     have hgl3 : ∀ u ∈ ts, ((fun x => if x = t then [wd] else g x) u).length ≤ 64 := fun u hu => by
      dsimp only
      split
      ·show 1 ≤ 64; omega
      ·have := hgl u hu; omega
     obtain ⟨hsq, hpl⟩ := chMat_ok (ls := ts) (g := fun x => if x = t then [wd] else g x) (by omega) hgl3
     refine ⟨_, rfl, _, rfl, C, ts, _, fun x => if x = t then [wd] else g x, rfl, upd_same, hw3, ⟨by omega, fun u hu => ⟨by have := hgl3 u hu; omega, fun y hy => ?_⟩⟩, hsq, hpl, fun G4 s4 => ?_⟩
     ·dsimp only at hy
      split at hy
      ·rw [List.mem_singleton.mp hy]; exact hwx
      ·exact hgx u hu y hy
     rw [det_ch nd]
     refine ⟨_, _, rfl, rfl, fun b' o e' => s4 b' o (by rw [upd_ne (hneC b' o e')]; exact sCE b' o (sG' b' o e')), some (T wd), some (.ref C), ?_⟩
     rw [htk, List.map_append, List.sum_append, Int.natCast_add]
     show [_, _, _, _, _, _, _, _, some (V.int (_ + ((Dt.nC ts (fun x => if x = t then [wd] else g x) : Nat) : Int))), _, _, _, _, _, _] = [_, _, _, _, _, _, _, _, some (V.int (_ + ((Dt.nC ts (fun x => if x = t then [wd] else g x) + 0 : Nat) : Int))), _, _, _, _, _, _]
     rw [Nat.add_zero]
    ·rintro σ G' ⟨sG', v9, v10, rfl⟩
     rw [List.length_map, List.take_length, Dt.nC_cut nd htts, hTn]
     refine ⟨_, rfl, _, rfl, _, rfl, _, rfl, _, rfl, ?_⟩
     refine itN (by rw [decide_eq_true rfl]; exact Bool.false_ne_true) ?_
     exact nxt _ _ _ _ _ G' (s5.trans sG')
   ·refine itN (fun z => h1 (by have := of_decide_eq_true z; omega)) ?_
    exact nxt _ _ _ _ _ G (Same.refl _)
  refine ⟨_, rfl, a, ns, 20, rfl, by decide, hS, fun D ls n H1 s1 hd hwl hn hne hl20 htr => ?_⟩
  have hll : ls.length ≤ 20 := by omega
  have hok : WebOk ls n := ⟨hne, by omega, ⟨⟨by omega, by omega⟩, FewN.len (by omega)⟩, hwl.1, hwl.2⟩
  refine ⟨_, rfl, ?_⟩
  intro x dx nx ndx nex
  have s2 : Same H1 (upd (upd H1 dx (.own x)) x (.ins ad.Web dx [])) := fun b o e => by
   rw [upd_ne (ne_of_none e nx), upd_ne (ne_of_none e ndx)]
   exact e
  refine ⟨x, dx, D, ls, n, rfl, upd_same, SqL.of (s2 D _ hd), hok, fun tp ms H2 hp2 hw2 k2 hx2 ht2 => ⟨rfl, ?_⟩⟩
  have s2 : Same H1 H2 := fun b o e => k2 b o (s2 b o e) (ne_of_none e nx)
  have hW : WebAt ad.Web H2 x tp n ms := ⟨⟨dx, hx2⟩, ht2⟩
  have hokm := hok.perm hp2
  have hmsn := hokm.2.2.2.2
  have hxl : ∀ l ∈ ls, 1 ≤ l.length ∧ l.length ≤ 1000 := fun l hl => by have := (hwl.1 l hl).1; omega
  have hd2 := s2 D _ hd
  have ce : ∀ l ∈ ls, cutL l (some 1) none = l.drop 1 := fun l hl => cutL_from (k := 1) (hxl l hl).1
  obtain ⟨f0, htr⟩ := htr
  have htr : Hg.Tr Wd.beg Wd.fin f0 ls f0 := htr
  have hbal : Wd.Bal ms f0 f0 := (Wd.tr_bal htr).perm hp2.symm
  refine ⟨_, rfl, D, rfl, ⟨_, SqL.of hd2⟩, ?_⟩
  refine compG (fun v => T ((unT v).drop 1)) (reads_list (SqL.of hd2)) (by rw [List.length_map]; omega) (fun v H4 hv s4 N hN => ?_) fun D1 H3 hD1 s3 hd3 => ?_
  ·obtain ⟨l, hl, rfl⟩ := List.mem_map.mp hv
   have hll := hxl l hl
   have z := hN H4 (Same.refl _)
   rw [unT_T, ← ce l hl] at z
   exact ⟨_, rfl, _, rfl, _, rfl, (by omega), z⟩
  rw [map_unT (f := fun l => T (l.drop 1)), show ls.map (fun l => T (l.drop 1)) = (ls.map fun l => l.drop 1).map T by rw [List.map_map]; rfl] at hd3
  refine ⟨D1, ls.map (fun l => l.drop 1), rfl, SqL.of hd3, (by rw [List.length_map]; omega), fun S hSn => ?_⟩
  have s6 := same_upd (o := SetI w S (uniq (ls.map fun l => l.drop 1))) hSn
  have ul := nubTo_len (ls.map fun l => l.drop 1) (ls.map fun l => l.drop 1).length
  have ul' : (uniq (ls.map fun l => l.drop 1)).length ≤ 20 := by
   refine Nat.le_trans ul ?_
   rw [List.length_map]
   omega
  refine ⟨S, _, rfl, upd_same, (by omega), fun ev D4 hD4 hp4 hw4 => ?_⟩
  have s7 := same_upd (o := .lst (ev.map T)) hD4
  have s27 := s3.trans (s6.trans s7)
  have hevl : ev.length ≤ 20 := by rw [hp4.length_eq]; exact ul'
  have hevn : ev.Nodup := hp4.nodup_iff.mpr (uniq_nodup _)
  have hevb : ∀ z, z ∈ ev ↔ ∃ w ∈ ms, Wd.beg w = z := fun z => by
   rw [hp4.mem_iff, uniq_mem, List.mem_map, ← isP_bal hbal]
   constructor
   ·rintro ⟨l, hl, rfl⟩
    exact ⟨l, hp2.mem_iff.mpr hl, .inr rfl⟩
   ·intro h
    obtain ⟨w1, hw1, e1⟩ := (isP_bal hbal).mp h
    have h2 : 0 < Wd.cnt Wd.beg ms z := List.length_pos_of_mem (List.mem_filter.mpr ⟨hw1, decide_eq_true e1⟩)
    rw [Dt.bal_loop hbal] at h2
    obtain ⟨y, hy⟩ := List.exists_mem_of_length_pos h2
    obtain ⟨hy1, hy2⟩ := List.mem_filter.mp hy
    exact ⟨y, hp2.mem_iff.mp hy1, of_decide_eq_true hy2⟩
  have hevm : ∀ z, z ∈ ev ↔ IsP ls z := fun z => by rw [hevb, ← isP_bal hbal, IsP.perm hp2]
  have hall : Dt.All ms ev := ⟨hevn, hevb⟩
  obtain ⟨m1, hm1⟩ : ∃ m1, ms[0]? = some m1 := ⟨ms[0]'(List.length_pos_iff.mpr hokm.1), List.getElem?_eq_getElem _⟩
  have hev0 : ev ≠ [] := fun z => by
   have : Wd.beg m1 ∈ ev := (hevb _).mpr ⟨m1, List.mem_of_getElem? hm1, rfl⟩
   rw [z] at this
   cases this
  obtain ⟨e0, he0⟩ : ∃ e0, ev[0]? = some e0 := ⟨ev[0]'(List.length_pos_iff.mpr hev0), List.getElem?_eq_getElem _⟩
  have he0m := List.mem_of_getElem? he0
  have hd7 : upd (upd H3 S (SetI w S (uniq (ls.map fun l => l.drop 1)))) D4 (.lst (ev.map T)) D4 = some (.lst (ev.map T)) := upd_same
 
  have htxs : ∀ p, Dt.Txs ms p (ev.filter fun o => decide (o ≠ p)) := fun p => ⟨hevn.sublist List.filter_sublist, fun t => by rw [List.mem_filter, hevb, decide_eq_true_iff]; exact ⟨fun h => ⟨h.2, h.1⟩, fun h => ⟨h.2, h.1⟩⟩⟩
  obtain ⟨Tn, hTn⟩ : ∃ Tn, Tn = Dt.nC (ev.filter fun o => decide (o ≠ e0)) (Dt.og ms) := ⟨_, rfl⟩
  have hTpos : 0 < Tn := by rw [hTn]; exact Dt.trees_some hmsn hp2.symm htr (htxs e0) ((hevb e0).mp he0m)
  have hTp : ∀ p ∈ ev, ∀ ts : List (List Nat), Dt.Txs ms p ts → Dt.nC ts (Dt.og ms) = Tn := fun p hp ts h => by
   rw [hTn]
   exact Dt.trees_alike hmsn (fun v => Dt.bal_any hbal v) hall h (htxs e0) hp he0m
  have hpt : ∀ (p : List Nat) (ps : List (List Nat)), p ∈ ev → ps.Nodup → (∀ z, z ∈ ps ↔ IsP ms z) → Dt.det (ps.filter fun o => decide (o ≠ p)).length (Dt.ent (chMat (ps.filter fun o => decide (o ≠ p)) (outL ms))) = ((Tn : Nat) : Int) := fun p ps hp hpn hpm => by
   rw [det_ch (hpn.sublist List.filter_sublist)]
   congr 1
   exact hTp p hp _ (txs_of hbal (hpn.sublist List.filter_sublist) fun t => by rw [List.mem_filter, hpm, decide_eq_true_iff]; exact ⟨fun h => ⟨h.2, h.1⟩, fun h => ⟨h.2, h.1⟩⟩)
  refine ⟨_, rfl, _, rfl, D4, _, _, _, rfl, rfl, SqL.of hd7, atI_nat (j := 0) (by rw [List.getElem?_map, he0]; rfl), x, tp, n, ms, e0, rfl, hW.on s27, hokm, fun z => absurd ((IsP.perm hp2 e0).mpr ((hevm e0).mp he0m)) z, fun _ ps G8 s8 _ _ hpn hpm => ?_⟩
  rw [hpt e0 ps he0m hpn hpm]
  have s28 := s27.trans s8
  have hd8 := s8 D4 _ hd7
  refine ⟨_, rfl, D4, rfl, ⟨_, SqL.of hd8⟩, ?_⟩
  refine for_list (K := K) (a := D4) (xs := ev.map T) (fun i σ G => Same H2 G ∧ G D4 = some (.lst (ev.map T)) ∧ ∃ v5 : Option V, σ = [some (.ref a), some (.ref D), some (.ref x), some (.ref D4), some (.int (Tn : Nat)), v5, none, none, none, none, none, none, none, none, none]) ⟨s28, hd8, none, rfl⟩ (fun i σ G _ h => SqL.of h.2.1) ?_ ?_
  ·rintro i y σ G hi ⟨sG, hdG, v5, rfl⟩
   obtain ⟨p, hpi, rfl⟩ : ∃ p, ev[i]? = some p ∧ T p = y := by rw [List.getElem?_map] at hi; exact Option.map_eq_some_iff.mp hi
   have hpe := List.mem_of_getElem? hpi
   refine ⟨_, rfl, _, rfl, x, tp, n, ms, p, rfl, hW.on sG, hokm, fun z => absurd ((IsP.perm hp2 p).mpr ((hevm p).mp hpe)) z, fun _ ps G9 s9 _ _ hpn hpm => ?_⟩
   rw [hpt p ps hpe hpn hpm]
   refine ⟨_, rfl, _, rfl, _, rfl, ?_⟩
   refine iteF ?_
   refine ⟨_, rfl, _, _, rfl, rfl, _, rfl, ?_⟩
   refine itN (fun z => by have := of_decide_eq_true z; omega) ?_
   exact ⟨sG.trans s9, s9 D4 _ hdG, _, rfl⟩
  ·rintro σ G ⟨sG, hdG, v5, rfl⟩
   have hml := hp2.length_eq
   refine ⟨a, D, D4, _, _, ls, ms, ev, ns, e0, Tn, rfl, (s1.trans (s2.trans sG)).seq hS, sG D _ hd2, hdG, ⟨by omega, by omega, hp2, hw2⟩, hxl, ⟨he0, hevn, hevm⟩, fun ts g hts hmt hgt => ?_, fun v6 v7 v8 v9 v10 G1 s10 => ?_⟩
   ·rw [Dt.nC_congr (g' := Dt.og ms) hgt]
    exact hTp e0 he0m ts (txs_of hbal hts fun t => by rw [hmt, IsP.perm hp2])
   obtain ⟨m, hm, hm9⟩ : ∃ m : Nat, ns.getD 0 0 / 7 % 9 = (m : Int) ∧ m < 9 := ⟨(ns.getD 0 0 / 7 % 9).toNat, by omega, by omega⟩
   obtain ⟨k, n', hpr, hk, hn', hall2⟩ : ∃ k n : Nat, ([(2, 2), (2, 3), (2, 4), (3, 2), (3, 3), (4, 2), (6, 2), (5, 1), (1, 3)] : List (Int × Int))[m]? = some (((k : Nat) : Int), ((n : Nat) : Int)) ∧ (1 ≤ k ∧ k ≤ 6) ∧ (1 ≤ n ∧ n ≤ 4) ∧ AllOk k n := by
    match m, hm9 with
    | 0, _ => exact ⟨2, 2, rfl, by decide, by decide, ok_22⟩
    | 1, _ => exact ⟨2, 3, rfl, by decide, by decide, ok_23⟩
    | 2, _ => exact ⟨2, 4, rfl, by decide, by decide, ok_24⟩
    | 3, _ => exact ⟨3, 2, rfl, by decide, by decide, ok_32⟩
    | 4, _ => exact ⟨3, 3, rfl, by decide, by decide, ok_33⟩
    | 5, _ => exact ⟨4, 2, rfl, by decide, by decide, ok_42⟩
    | 6, _ => exact ⟨6, 2, rfl, by decide, by decide, ok_62⟩
    | 7, _ => exact ⟨5, 1, rfl, by decide, by decide, ok_51⟩
    | 8, _ => exact ⟨1, 3, rfl, by decide, by decide, ok_13⟩
   refine pairs_use _ fun vs9 G9 hvl sG9 hv => ?_
   refine ⟨(by rw [hvl]; show 9 ≤ sizeLine; omega), fun ps hps => ?_⟩
   obtain ⟨tp9, htp9, hT9⟩ := hv m _ hpr
   have t1 := sG9.trans (same_upd (o := .lst vs9) hps)
   have hTp9 := same_upd (o := .lst vs9) hps tp9 _ hT9
   have sA := s1.trans (s2.trans (sG.trans (s10.trans t1)))
   refine ⟨_, rfl, _, rfl, a, ns, 0, rfl, sA.seq hS, _, _, rfl, rfl, ⟨by decide, by decide⟩, _, _, rfl, rfl, (by show (0 : Int) < 9; decide), ps, _, _, _, rfl, rfl, SqL.of upd_same, (by rw [hm]; exact atI_nat htp9), tp9, _, rfl, SqT.of hTp9, rfl, _, _, rfl, _, _, rfl, rfl, ?_⟩
   refine ⟨_, rfl, _, rfl, k, n', rfl, ⟨by omega, by omega⟩, fun De es He hDe se hde hes hwe hel => ?_⟩
   have hes : es = aW k n' := hes
   obtain ⟨⟨hlen1, hlen2⟩, hne9, hasc, ⟨us9, p9, hus9, htr9⟩, hund, hb1, hb2, hulen, hval⟩ := hall2
   rw [← hes] at hlen1 hne9 hasc hus9 hb1 hb2 hval
   have hfew9 : Few es := ⟨aW k (n' - 1), by omega, fun w hw => ⟨hb2 w hw, by
    obtain ⟨y, hy, e⟩ := Dt.bal_begin ((Wd.tr_bal htr9).perm hus9) hw
    show Wd.fin w ∈ _
    rw [← e]
    exact hb2 y hy⟩⟩
   have hok9 : WebOk es n' := ⟨hne9, by omega, ⟨⟨by omega, by omega⟩, hfew9⟩, hwe.1, hwe.2⟩
   intro x9 dx9 nx9 ndx9 nex9
   have t2 : Same He (upd (upd He dx9 (.own x9)) x9 (.ins ad.Web dx9 [])) := fun b o e => by
    rw [upd_ne (ne_of_none e nx9), upd_ne (ne_of_none e ndx9)]
    exact e
   refine ⟨x9, dx9, De, es, n', rfl, upd_same, SqL.of (t2 De _ hde), hok9, fun tq mq Hq hpq hwq kq hxq htq => ⟨rfl, ?_⟩⟩
   have t2 : Same He Hq := fun b o e => kq b o (t2 b o e) (ne_of_none e nx9)
   obtain rfl : mq = es := Wd.sorted_same hpq hwq hasc
   have hWq : WebAt ad.Web Hq x9 tq n' mq := ⟨⟨dx9, hxq⟩, htq⟩
   refine ⟨_, rfl, _, rfl, _, _, rfl, rfl, k, ((n' : Nat) : Int) - 1, rfl, ⟨by omega, by omega, by omega⟩, ?_⟩
   rw [show (((n' : Nat) : Int) - 1).toNat = n' - 1 by omega]
   have hpow : 0 < k ^ (n' - 1) := Nat.pow_pos (by omega)
   refine ⟨_, rfl, _, rfl, _, _, rfl, rfl, k, n' - 1, congrArg (fun z => [V.int (k : Nat), V.int z]) (by omega), ⟨by omega, by omega⟩, fun Du us Hu hDu su hdu hus _ _ => ?_⟩
   have sB := sA.trans (se.trans (t2.trans su))
   obtain ⟨r, hr1, hr2⟩ : ∃ r : Nat, ns.getD 1 0 / 8 % ((k ^ (n' - 1) : Nat) : Int) = (r : Int) ∧ r < k ^ (n' - 1) := by
    have z0 := Int.emod_nonneg (ns.getD 1 0 / 8) (show ((k ^ (n' - 1) : Nat) : Int) ≠ 0 by omega)
    have z1 := Int.emod_lt_of_pos (ns.getD 1 0 / 8) (show (0 : Int) < ((k ^ (n' - 1) : Nat) : Int) by omega)
    exact ⟨(ns.getD 1 0 / 8 % ((k ^ (n' - 1) : Nat) : Int)).toNat, by omega, by omega⟩
   have hus : us = aW k (n' - 1) := hus
   have hu60 : k ^ (n' - 1) ≤ 60 := hulen ▸ hlen2
   rw [← hus] at hund hb1 hb2 hulen hval
   have hru : r < us.length := by rw [hulen]; exact hr2
   obtain ⟨pz, hpz⟩ : ∃ pz, us[r]? = some pz := ⟨_, List.getElem?_eq_getElem hru⟩
   refine ⟨_, rfl, a, ns, 1, rfl, sB.seq hS, _, _, rfl, rfl, ⟨by decide, by decide⟩, _, rfl, _, _, rfl, rfl, (by omega), Du, _, _, _, rfl, rfl, SqL.of hdu, (by rw [hr1]; exact atI_nat (by rw [List.getElem?_map, hpz]; rfl)), ?_⟩
   have hbal9 : Wd.Bal mq p9 p9 := (Wd.tr_bal htr9).perm hus9
   have hall9 : Dt.All mq us := ⟨hund, fun t => ⟨fun h => hb1 t h, fun ⟨w, hw, e⟩ => e ▸ hb2 w hw⟩⟩
   have hpzm := List.mem_of_getElem? hpz
   have hipz : IsP mq pz := (isP_bal hbal9).mpr (hb1 pz hpzm)
   refine ⟨_, rfl, _, rfl, x9, tq, n', mq, pz, rfl, hWq.on su, hok9, fun z => absurd hipz z, fun _ ps9 G12 s12 _ _ hpn hpm => ?_⟩
   have hfin : Dt.det (ps9.filter fun o => decide (o ≠ pz)).length (Dt.ent (chMat (ps9.filter fun o => decide (o ≠ pz)) (outL mq))) = ((k ^ (k ^ (n' - 1) - n') : Nat) : Int) := by
    rw [det_ch (hpn.sublist List.filter_sublist), ← hval]
    congr 1
    obtain ⟨u0, ur, hur⟩ : ∃ u0 ur, us = u0 :: ur := by
     cases us with
     | nil => cases hpzm
     | cons u0 ur => exact ⟨u0, ur, rfl⟩
    have hund' := hund
    rw [hur, List.nodup_cons] at hund'
    refine Dt.trees_alike (p := pz) (q := u0) hwe.2 (fun v => Dt.bal_any hbal9 v) hall9 (txs_of hbal9 (hpn.sublist List.filter_sublist) fun t => by rw [List.mem_filter, hpm, decide_eq_true_iff]; exact ⟨fun h => ⟨h.2, h.1⟩, fun h => ⟨h.2, h.1⟩⟩) ?_ hpzm (by rw [hur]; exact List.mem_cons_self ..)
    rw [hur]
    show Dt.Txs mq u0 ur
    refine ⟨hund'.2, fun t => ?_⟩
    rw [← hall9.2, hur, List.mem_cons]
    constructor
    ·intro h
     exact ⟨fun z => hund'.1 (z ▸ h), .inr h⟩
    ·rintro ⟨h1, h2⟩
     exact h2.resolve_left h1
   rw [hfin]
   refine ⟨_, rfl, _, rfl, _, rfl, _, _, rfl, rfl, k, ((k ^ (n' - 1) : Nat) : Int) - ((n' : Nat) : Int), rfl, ⟨by omega, by have := hu60; generalize k ^ (n' - 1) = z9 at this ⊢; omega, by have := hu60; generalize k ^ (n' - 1) = z9 at this ⊢; omega⟩, ?_⟩
   rw [show (((k ^ (n' - 1) : Nat) : Int) - ((n' : Nat) : Int)).toNat = k ^ (n' - 1) - n' by omega]
   exact ⟨_, rfl, q _⟩

end
theorem all_mk {l : PySem.W.OpenLaw} {w : World} {K : PySem.W.Frag} {h : Heap} {mg : Str → Option Value} {fa : Addr} (X : K.In h) (G : h.Ns mainGlobals mg) (hfa : mg "law" = some (.ref fa))
  {f_0 : Addr} {od_0 an_0 : Option Addr} {sl_0 : Array (Option Value)} {oc_0 kV_0 dc_0 pm_0 cd_0 ct_0 : Value}
  {f_1 : Addr} {od_1 an_1 : Option Addr} {sl_1 : Array (Option Value)} {oc_1 kV_1 dc_1 pm_1 cd_1 ct_1 : Value}
  {f_2 : Addr} {od_2 an_2 : Option Addr} {sl_2 : Array (Option Value)} {oc_2 kV_2 dc_2 pm_2 cd_2 ct_2 : Value}
  {f_3 : Addr} {od_3 an_3 : Option Addr} {sl_3 : Array (Option Value)} {oc_3 kV_3 dc_3 pm_3 cd_3 ct_3 : Value}
  {f_4 : Addr} {od_4 an_4 : Option Addr} {sl_4 : Array (Option Value)} {oc_4 kV_4 dc_4 pm_4 cd_4 ct_4 : Value}
  {f_5 : Addr} {od_5 an_5 : Option Addr} {sl_5 : Array (Option Value)} {oc_5 kV_5 dc_5 pm_5 cd_5 ct_5 : Value}
  {f_6 : Addr} {od_6 an_6 : Option Addr} {sl_6 : Array (Option Value)} {oc_6 kV_6 dc_6 pm_6 cd_6 ct_6 : Value}
  {f_7 : Addr} {od_7 an_7 : Option Addr} {sl_7 : Array (Option Value)} {oc_7 kV_7 dc_7 pm_7 cd_7 ct_7 : Value}
  {f_8 : Addr} {od_8 an_8 : Option Addr} {sl_8 : Array (Option Value)} {oc_8 kV_8 dc_8 pm_8 cd_8 ct_8 : Value}
  {f_9 : Addr} {od_9 an_9 : Option Addr} {sl_9 : Array (Option Value)} {oc_9 kV_9 dc_9 pm_9 cd_9 ct_9 : Value}
  {f_10 : Addr} {od_10 an_10 : Option Addr} {sl_10 : Array (Option Value)} {oc_10 kV_10 dc_10 pm_10 cd_10 ct_10 : Value}
  {f_11 : Addr} {od_11 an_11 : Option Addr} {sl_11 : Array (Option Value)} {oc_11 kV_11 dc_11 pm_11 cd_11 ct_11 : Value}
  {f_12 : Addr} {od_12 an_12 : Option Addr} {sl_12 : Array (Option Value)} {oc_12 kV_12 dc_12 pm_12 cd_12 ct_12 : Value}
  {f_13 : Addr} {od_13 an_13 : Option Addr} {sl_13 : Array (Option Value)} {oc_13 kV_13 dc_13 pm_13 cd_13 ct_13 : Value}
  {f_14 : Addr} {od_14 an_14 : Option Addr} {sl_14 : Array (Option Value)} {oc_14 kV_14 dc_14 pm_14 cd_14 ct_14 : Value}
  {f_15 : Addr} {od_15 an_15 : Option Addr} {sl_15 : Array (Option Value)} {oc_15 kV_15 dc_15 pm_15 cd_15 ct_15 : Value}
  {f_16 : Addr} {od_16 an_16 : Option Addr} {sl_16 : Array (Option Value)} {oc_16 kV_16 dc_16 pm_16 cd_16 ct_16 : Value}
  {f_17 : Addr} {od_17 an_17 : Option Addr} {sl_17 : Array (Option Value)} {oc_17 kV_17 dc_17 pm_17 cd_17 ct_17 : Value}
  {f_18 : Addr} {od_18 an_18 : Option Addr} {sl_18 : Array (Option Value)} {oc_18 kV_18 dc_18 pm_18 cd_18 ct_18 : Value}
  {f_19 : Addr} {od_19 an_19 : Option Addr} {sl_19 : Array (Option Value)} {oc_19 kV_19 dc_19 pm_19 cd_19 ct_19 : Value}
  {f_20 : Addr} {od_20 an_20 : Option Addr} {sl_20 : Array (Option Value)} {oc_20 kV_20 dc_20 pm_20 cd_20 ct_20 : Value}
  {f_21 : Addr} {od_21 an_21 : Option Addr} {sl_21 : Array (Option Value)} {oc_21 kV_21 dc_21 pm_21 cd_21 ct_21 : Value}
  {f_22 : Addr} {od_22 an_22 : Option Addr} {sl_22 : Array (Option Value)} {oc_22 kV_22 dc_22 pm_22 cd_22 ct_22 : Value}
  {f_23 : Addr} {od_23 an_23 : Option Addr} {sl_23 : Array (Option Value)} {oc_23 kV_23 dc_23 pm_23 cd_23 ct_23 : Value}
  {f_24 : Addr} {od_24 an_24 : Option Addr} {sl_24 : Array (Option Value)} {oc_24 kV_24 dc_24 pm_24 cd_24 ct_24 : Value}
  {f_25 : Addr} {od_25 an_25 : Option Addr} {sl_25 : Array (Option Value)} {oc_25 kV_25 dc_25 pm_25 cd_25 ct_25 : Value}
  {f_26 : Addr} {od_26 an_26 : Option Addr} {sl_26 : Array (Option Value)} {oc_26 kV_26 dc_26 pm_26 cd_26 ct_26 : Value}
  {f_27 : Addr} {od_27 an_27 : Option Addr} {sl_27 : Array (Option Value)} {oc_27 kV_27 dc_27 pm_27 cd_27 ct_27 : Value}
  {f_28 : Addr} {od_28 an_28 : Option Addr} {sl_28 : Array (Option Value)} {oc_28 kV_28 dc_28 pm_28 cd_28 ct_28 : Value}
  {c_BadKinds : Addr}
  {c_BadWord : Addr}
  {c_TooMany : Addr}
  {c_NoSuch : Addr}
  {c_Web : Addr}
  {c_KNOWN_TIMES : Addr}
  {u_FIRST_PRIME : Value}
  {u_STEP : Value}
  {u_LETTERS : Value}
  {u_LONGEST : Value}
  {u_MOST_OF_A_WEB : Value}
  {u_LONGEST_OF_A_WEB : Value}
  (a_0 : PySem.W.nsIn K mainGlobals "further_times" = some (some (.ref f_0))) (l_0 : K.lookup f_0 = some ⟨oc_0, od_0, .func (PySem.W.fnOf "further_times" "further_times" (defArgs s_further_times) (defBody s_further_times) (defScope s_further_times) .none kV_0 dc_0 pm_0 an_0 cd_0 ct_0), sl_0⟩) (c_0 : PySem.W.codeIn K cd_0 "further_times" = true) (k_0 : PySem.W.keepIn K (.ref f_0) = true)
  (a_1 : PySem.W.nsIn K mainGlobals "inverse" = some (some (.ref f_1))) (l_1 : K.lookup f_1 = some ⟨oc_1, od_1, .func (PySem.W.fnOf "inverse" "inverse" (defArgs s_inverse) (defBody s_inverse) (defScope s_inverse) .none kV_1 dc_1 pm_1 an_1 cd_1 ct_1), sl_1⟩) (c_1 : PySem.W.codeIn K cd_1 "inverse" = true) (k_1 : PySem.W.keepIn K (.ref f_1) = true)
  (a_2 : PySem.W.nsIn K mainGlobals "lowered" = some (some (.ref f_2))) (l_2 : K.lookup f_2 = some ⟨oc_2, od_2, .func (PySem.W.fnOf "lowered" "lowered" (defArgs s_lowered) (defBody s_lowered) (defScope s_lowered) .none kV_2 dc_2 pm_2 an_2 cd_2 ct_2), sl_2⟩) (c_2 : PySem.W.codeIn K cd_2 "lowered" = true) (k_2 : PySem.W.keepIn K (.ref f_2) = true)
  (a_3 : PySem.W.nsIn K mainGlobals "first_other_than_nought" = some (some (.ref f_3))) (l_3 : K.lookup f_3 = some ⟨oc_3, od_3, .func (PySem.W.fnOf "first_other_than_nought" "first_other_than_nought" (defArgs s_first_other_than_nought) (defBody s_first_other_than_nought) (defScope s_first_other_than_nought) .none kV_3 dc_3 pm_3 an_3 cd_3 ct_3), sl_3⟩) (c_3 : PySem.W.codeIn K cd_3 "first_other_than_nought" = true) (k_3 : PySem.W.keepIn K (.ref f_3) = true)
  (a_4 : PySem.W.nsIn K mainGlobals "determinant_rest" = some (some (.ref f_4))) (l_4 : K.lookup f_4 = some ⟨oc_4, od_4, .func (PySem.W.fnOf "determinant_rest" "determinant_rest" (defArgs s_determinant_rest) (defBody s_determinant_rest) (defScope s_determinant_rest) .none kV_4 dc_4 pm_4 an_4 cd_4 ct_4), sl_4⟩) (c_4 : PySem.W.codeIn K cd_4 "determinant_rest" = true) (k_4 : PySem.W.keepIn K (.ref f_4) = true)
  (a_5 : PySem.W.nsIn K mainGlobals "greatest_of" = some (some (.ref f_5))) (l_5 : K.lookup f_5 = some ⟨oc_5, od_5, .func (PySem.W.fnOf "greatest_of" "greatest_of" (defArgs s_greatest_of) (defBody s_greatest_of) (defScope s_greatest_of) .none kV_5 dc_5 pm_5 an_5 cd_5 ct_5), sl_5⟩) (c_5 : PySem.W.codeIn K cd_5 "greatest_of" = true) (k_5 : PySem.W.keepIn K (.ref f_5) = true)
  (a_6 : PySem.W.nsIn K mainGlobals "determinant" = some (some (.ref f_6))) (l_6 : K.lookup f_6 = some ⟨oc_6, od_6, .func (PySem.W.fnOf "determinant" "determinant" (defArgs s_determinant) (defBody s_determinant) (defScope s_determinant) .none kV_6 dc_6 pm_6 an_6 cd_6 ct_6), sl_6⟩) (c_6 : PySem.W.codeIn K cd_6 "determinant" = true) (k_6 : PySem.W.keepIn K (.ref f_6) = true)
  (a_7 : PySem.W.nsIn K mainGlobals "looked_kinds" = some (some (.ref f_7))) (l_7 : K.lookup f_7 = some ⟨oc_7, od_7, .func (PySem.W.fnOf "looked_kinds" "looked_kinds" (defArgs s_looked_kinds) (defBody s_looked_kinds) (defScope s_looked_kinds) .none kV_7 dc_7 pm_7 an_7 cd_7 ct_7), sl_7⟩) (c_7 : PySem.W.codeIn K cd_7 "looked_kinds" = true) (k_7 : PySem.W.keepIn K (.ref f_7) = true)
  (a_8 : PySem.W.nsIn K mainGlobals "looked_length" = some (some (.ref f_8))) (l_8 : K.lookup f_8 = some ⟨oc_8, od_8, .func (PySem.W.fnOf "looked_length" "looked_length" (defArgs s_looked_length) (defBody s_looked_length) (defScope s_looked_length) .none kV_8 dc_8 pm_8 an_8 cd_8 ct_8), sl_8⟩) (c_8 : PySem.W.codeIn K cd_8 "looked_length" = true) (k_8 : PySem.W.keepIn K (.ref f_8) = true)
  (a_9 : PySem.W.nsIn K mainGlobals "letters" = some (some (.ref f_9))) (l_9 : K.lookup f_9 = some ⟨oc_9, od_9, .func (PySem.W.fnOf "letters" "letters" (defArgs s_letters) (defBody s_letters) (defScope s_letters) .none kV_9 dc_9 pm_9 an_9 cd_9 ct_9), sl_9⟩) (c_9 : PySem.W.codeIn K cd_9 "letters" = true) (k_9 : PySem.W.keepIn K (.ref f_9) = true)
  (a_10 : PySem.W.nsIn K mainGlobals "looked" = some (some (.ref f_10))) (l_10 : K.lookup f_10 = some ⟨oc_10, od_10, .func (PySem.W.fnOf "looked" "looked" (defArgs s_looked) (defBody s_looked) (defScope s_looked) .none kV_10 dc_10 pm_10 an_10 cd_10 ct_10), sl_10⟩) (c_10 : PySem.W.codeIn K cd_10 "looked" = true) (k_10 : PySem.W.keepIn K (.ref f_10) = true)
  (a_11 : PySem.W.nsIn K mainGlobals "looked_web" = some (some (.ref f_11))) (l_11 : K.lookup f_11 = some ⟨oc_11, od_11, .func (PySem.W.fnOf "looked_web" "looked_web" (defArgs s_looked_web) (defBody s_looked_web) (defScope s_looked_web) .none kV_11 dc_11 pm_11 an_11 cd_11 ct_11), sl_11⟩) (c_11 : PySem.W.codeIn K cd_11 "looked_web" = true) (k_11 : PySem.W.keepIn K (.ref f_11) = true)
  (a_12 : PySem.W.findIn K (.ref c_Web) "__init__" = some (some (.ref f_12))) (l_12 : K.lookup f_12 = some ⟨oc_12, od_12, .func (PySem.W.fnOf "__init__" "Web.__init__" (defArgs s_Web_init) (defBody s_Web_init) (defScope s_Web_init) .none kV_12 dc_12 pm_12 an_12 cd_12 ct_12), sl_12⟩) (c_12 : PySem.W.codeIn K cd_12 "Web.__init__" = true) (k_12 : PySem.W.keepIn K (.ref f_12) = true) (i_Web_init : PySem.W.isFn K (.ref f_12) = true)
  (a_13 : PySem.W.nsIn K mainGlobals "begin_of" = some (some (.ref f_13))) (l_13 : K.lookup f_13 = some ⟨oc_13, od_13, .func (PySem.W.fnOf "begin_of" "begin_of" (defArgs s_begin_of) (defBody s_begin_of) (defScope s_begin_of) .none kV_13 dc_13 pm_13 an_13 cd_13 ct_13), sl_13⟩) (c_13 : PySem.W.codeIn K cd_13 "begin_of" = true) (k_13 : PySem.W.keepIn K (.ref f_13) = true)
  (a_14 : PySem.W.nsIn K mainGlobals "end_of" = some (some (.ref f_14))) (l_14 : K.lookup f_14 = some ⟨oc_14, od_14, .func (PySem.W.fnOf "end_of" "end_of" (defArgs s_end_of) (defBody s_end_of) (defScope s_end_of) .none kV_14 dc_14 pm_14 an_14 cd_14 ct_14), sl_14⟩) (c_14 : PySem.W.codeIn K cd_14 "end_of" = true) (k_14 : PySem.W.keepIn K (.ref f_14) = true)
  (a_15 : PySem.W.nsIn K mainGlobals "pieces" = some (some (.ref f_15))) (l_15 : K.lookup f_15 = some ⟨oc_15, od_15, .func (PySem.W.fnOf "pieces" "pieces" (defArgs s_pieces) (defBody s_pieces) (defScope s_pieces) .none kV_15 dc_15 pm_15 an_15 cd_15 ct_15), sl_15⟩) (c_15 : PySem.W.codeIn K cd_15 "pieces" = true) (k_15 : PySem.W.keepIn K (.ref f_15) = true)
  (a_16 : PySem.W.nsIn K mainGlobals "outs" = some (some (.ref f_16))) (l_16 : K.lookup f_16 = some ⟨oc_16, od_16, .func (PySem.W.fnOf "outs" "outs" (defArgs s_outs) (defBody s_outs) (defScope s_outs) .none kV_16 dc_16 pm_16 an_16 cd_16 ct_16), sl_16⟩) (c_16 : PySem.W.codeIn K cd_16 "outs" = true) (k_16 : PySem.W.keepIn K (.ref f_16) = true)
  (a_17 : PySem.W.nsIn K mainGlobals "choice_row" = some (some (.ref f_17))) (l_17 : K.lookup f_17 = some ⟨oc_17, od_17, .func (PySem.W.fnOf "choice_row" "choice_row" (defArgs s_choice_row) (defBody s_choice_row) (defScope s_choice_row) .none kV_17 dc_17 pm_17 an_17 cd_17 ct_17), sl_17⟩) (c_17 : PySem.W.codeIn K cd_17 "choice_row" = true) (k_17 : PySem.W.keepIn K (.ref f_17) = true)
  (a_18 : PySem.W.nsIn K mainGlobals "choices_counted" = some (some (.ref f_18))) (l_18 : K.lookup f_18 = some ⟨oc_18, od_18, .func (PySem.W.fnOf "choices_counted" "choices_counted" (defArgs s_choices_counted) (defBody s_choices_counted) (defScope s_choices_counted) .none kV_18 dc_18 pm_18 an_18 cd_18 ct_18), sl_18⟩) (c_18 : PySem.W.codeIn K cd_18 "choices_counted" = true) (k_18 : PySem.W.keepIn K (.ref f_18) = true)
  (a_19 : PySem.W.nsIn K mainGlobals "ways_toward" = some (some (.ref f_19))) (l_19 : K.lookup f_19 = some ⟨oc_19, od_19, .func (PySem.W.fnOf "ways_toward" "ways_toward" (defArgs s_ways_toward) (defBody s_ways_toward) (defScope s_ways_toward) .none kV_19 dc_19 pm_19 an_19 cd_19 ct_19), sl_19⟩) (c_19 : PySem.W.codeIn K cd_19 "ways_toward" = true) (k_19 : PySem.W.keepIn K (.ref f_19) = true)
  (a_20 : PySem.W.nsIn K mainGlobals "tree_count" = some (some (.ref f_20))) (l_20 : K.lookup f_20 = some ⟨oc_20, od_20, .func (PySem.W.fnOf "tree_count" "tree_count" (defArgs s_tree_count) (defBody s_tree_count) (defScope s_tree_count) .none kV_20 dc_20 pm_20 an_20 cd_20 ct_20), sl_20⟩) (c_20 : PySem.W.codeIn K cd_20 "tree_count" = true) (k_20 : PySem.W.keepIn K (.ref f_20) = true)
  (a_21 : PySem.W.nsIn K mainGlobals "_law_cell_at" = some (some (.ref f_21))) (l_21 : K.lookup f_21 = some ⟨oc_21, od_21, .func (PySem.W.fnOf "_law_cell_at" "_law_cell_at" (defArgs s__law_cell_at) (defBody s__law_cell_at) (defScope s__law_cell_at) .none kV_21 dc_21 pm_21 an_21 cd_21 ct_21), sl_21⟩) (c_21 : PySem.W.codeIn K cd_21 "_law_cell_at" = true) (k_21 : PySem.W.keepIn K (.ref f_21) = true)
  (a_22 : PySem.W.nsIn K mainGlobals "_law_whole" = some (some (.ref f_22))) (l_22 : K.lookup f_22 = some ⟨oc_22, od_22, .func (PySem.W.fnOf "_law_whole" "_law_whole" (defArgs s__law_whole) (defBody s__law_whole) (defScope s__law_whole) .none kV_22 dc_22 pm_22 an_22 cd_22 ct_22), sl_22⟩) (c_22 : PySem.W.codeIn K cd_22 "_law_whole" = true) (k_22 : PySem.W.keepIn K (.ref f_22) = true)
  (a_23 : PySem.W.nsIn K mainGlobals "_law_walk" = some (some (.ref f_23))) (l_23 : K.lookup f_23 = some ⟨oc_23, od_23, .func (PySem.W.fnOf "_law_walk" "_law_walk" (defArgs s__law_walk) (defBody s__law_walk) (defScope s__law_walk) .none kV_23 dc_23 pm_23 an_23 cd_23 ct_23), sl_23⟩) (c_23 : PySem.W.codeIn K cd_23 "_law_walk" = true) (k_23 : PySem.W.keepIn K (.ref f_23) = true)
  (a_24 : PySem.W.nsIn K mainGlobals "_law_ring_words" = some (some (.ref f_24))) (l_24 : K.lookup f_24 = some ⟨oc_24, od_24, .func (PySem.W.fnOf "_law_ring_words" "_law_ring_words" (defArgs s__law_ring_words) (defBody s__law_ring_words) (defScope s__law_ring_words) .none kV_24 dc_24 pm_24 an_24 cd_24 ct_24), sl_24⟩) (c_24 : PySem.W.codeIn K cd_24 "_law_ring_words" = true) (k_24 : PySem.W.keepIn K (.ref f_24) = true)
  (a_25 : PySem.W.nsIn K mainGlobals "_law_ways" = some (some (.ref f_25))) (l_25 : K.lookup f_25 = some ⟨oc_25, od_25, .func (PySem.W.fnOf "_law_ways" "_law_ways" (defArgs s__law_ways) (defBody s__law_ways) (defScope s__law_ways) .none kV_25 dc_25 pm_25 an_25 cd_25 ct_25), sl_25⟩) (c_25 : PySem.W.codeIn K cd_25 "_law_ways" = true) (k_25 : PySem.W.keepIn K (.ref f_25) = true)
  (a_26 : PySem.W.nsIn K mainGlobals "_law_all" = some (some (.ref f_26))) (l_26 : K.lookup f_26 = some ⟨oc_26, od_26, .func (PySem.W.fnOf "_law_all" "_law_all" (defArgs s__law_all) (defBody s__law_all) (defScope s__law_all) .none kV_26 dc_26 pm_26 an_26 cd_26 ct_26), sl_26⟩) (c_26 : PySem.W.codeIn K cd_26 "_law_all" = true) (k_26 : PySem.W.keepIn K (.ref f_26) = true)
  (a_27 : PySem.W.nsIn K mainGlobals "_law_power" = some (some (.ref f_27))) (l_27 : K.lookup f_27 = some ⟨oc_27, od_27, .func (PySem.W.fnOf "_law_power" "_law_power" (defArgs s__law_power) (defBody s__law_power) (defScope s__law_power) .none kV_27 dc_27 pm_27 an_27 cd_27 ct_27), sl_27⟩) (c_27 : PySem.W.codeIn K cd_27 "_law_power" = true) (k_27 : PySem.W.keepIn K (.ref f_27) = true)
  (a_28 : PySem.W.nsIn K mainGlobals "law" = some (some (.ref f_28))) (l_28 : K.lookup f_28 = some ⟨oc_28, od_28, .func (PySem.W.fnOf "law" "law" (defArgs s_law) (defBody s_law) (defScope s_law) .none kV_28 dc_28 pm_28 an_28 cd_28 ct_28), sl_28⟩) (c_28 : PySem.W.codeIn K cd_28 "law" = true) (k_28 : PySem.W.keepIn K (.ref f_28) = true)
  (z_abs : PySem.W.nsIn K mainGlobals "abs" = some none)
  (z_bool : PySem.W.nsIn K mainGlobals "bool" = some none)
  (z_dict : PySem.W.nsIn K mainGlobals "dict" = some none)
  (z_enumerate : PySem.W.nsIn K mainGlobals "enumerate" = some none)
  (z_int : PySem.W.nsIn K mainGlobals "int" = some none)
  (z_isinstance : PySem.W.nsIn K mainGlobals "isinstance" = some none)
  (z_len : PySem.W.nsIn K mainGlobals "len" = some none)
  (z_list : PySem.W.nsIn K mainGlobals "list" = some none)
  (z_range : PySem.W.nsIn K mainGlobals "range" = some none)
  (z_set : PySem.W.nsIn K mainGlobals "set" = some none)
  (z_sorted : PySem.W.nsIn K mainGlobals "sorted" = some none)
  (z_sum : PySem.W.nsIn K mainGlobals "sum" = some none)
  (z_tuple : PySem.W.nsIn K mainGlobals "tuple" = some none)
  (z_zip : PySem.W.nsIn K mainGlobals "zip" = some none)
  (y_BadKinds : PySem.W.nsIn K mainGlobals "BadKinds" = some (some (.ref c_BadKinds)))
  (y_BadWord : PySem.W.nsIn K mainGlobals "BadWord" = some (some (.ref c_BadWord)))
  (y_TooMany : PySem.W.nsIn K mainGlobals "TooMany" = some (some (.ref c_TooMany)))
  (y_NoSuch : PySem.W.nsIn K mainGlobals "NoSuch" = some (some (.ref c_NoSuch)))
  (y_Web : PySem.W.nsIn K mainGlobals "Web" = some (some (.ref c_Web)))
  (y_KNOWN_TIMES : PySem.W.nsIn K mainGlobals "KNOWN_TIMES" = some (some (.ref c_KNOWN_TIMES)))
  (e_BadKinds : PySem.W.excIn K c_BadKinds bmVE "ValueError.__new__" = true)
  (e_BadWord : PySem.W.excIn K c_BadWord bmVE "ValueError.__new__" = true)
  (e_TooMany : PySem.W.excIn K c_TooMany bmVE "ValueError.__new__" = true)
  (e_NoSuch : PySem.W.excIn K c_NoSuch bmVE "ValueError.__new__" = true)
  (g_FIRST_PRIME : PySem.W.nsIn K mainGlobals "FIRST_PRIME" = some (some u_FIRST_PRIME)) (r_FIRST_PRIME : RelV (.int 2305843009213693951) u_FIRST_PRIME)
  (g_STEP : PySem.W.nsIn K mainGlobals "STEP" = some (some u_STEP)) (r_STEP : RelV (.int 6277101735386680763835789423207666416102355444464034512896) u_STEP)
  (g_LETTERS : PySem.W.nsIn K mainGlobals "LETTERS" = some (some u_LETTERS)) (r_LETTERS : RelV (T [97, 98, 99, 100, 101, 102]) u_LETTERS)
  (g_LONGEST : PySem.W.nsIn K mainGlobals "LONGEST" = some (some u_LONGEST)) (r_LONGEST : RelV (.int 24) u_LONGEST)
  (g_MOST_OF_A_WEB : PySem.W.nsIn K mainGlobals "MOST_OF_A_WEB" = some (some u_MOST_OF_A_WEB)) (r_MOST_OF_A_WEB : RelV (.int 64) u_MOST_OF_A_WEB)
  (g_LONGEST_OF_A_WEB : PySem.W.nsIn K mainGlobals "LONGEST_OF_A_WEB" = some (some u_LONGEST_OF_A_WEB)) (r_LONGEST_OF_A_WEB : RelV (.int 8) u_LONGEST_OF_A_WEB)
  (kt : tupIs K c_KNOWN_TIMES [133, 211, 598, 652, 721, 850, 1282, 1417, 1582, 1681, 1726, 1837, 1885, 2017, 2377, 2383, 2452, 2476, 2530, 2611, 2662, 2698, 2773, 2878, 2917, 2980, 2998, 3082, 3238, 3250, 3343, 3421, 3427, 3670, 3817, 4162, 4252, 4447, 4468, 4621, 4630, 4747, 4867, 4891, 4915, 5128, 5143, 5236, 5401, 5587, 5650, 5803, 5833, 5923, 5986, 6202, 6235, 6286, 6496, 6526, 6736, 7093, 7561, 7696, 7831, 7855, 7882, 7927, 8143, 8248] = true)
  (pg_Web : PySem.W.plainGet K c_Web Str.empty = true) (hd_Web : PySem.W.hasDictIn K c_Web = true) (po_Web : PySem.W.plainOver K c_Web = true) (sa_Web : PySem.W.findIn K (.ref c_Web) "__setattr__" = some (some (.builtin "object.__setattr__"))) (mk_Web : PySem.W.makesIn K c_Web = true) (kc_Web : PySem.W.keepIn K (.ref c_Web) = true)
  (na_Web_words : PySem.W.findIn K (.ref c_Web) "words" = some none)
  (na_Web_length : PySem.W.findIn K (.ref c_Web) "length" = some none) :
  ∃ fd : FuncData, (∀ (s : Shared) (v : Value), BindsTo s fd ⟨[v], []⟩ [("script", v)]) ∧ ∀ base : Heap, K.In base → base.Ns mainGlobals mg → FnOk l.prog w K mg base (CX1 l.prog w) 7 fa fd ["script"] (spLaw K) := by
 have e := hfa.symm.trans (PySem.W.mg_of X G a_28)
 cases e
 have tt : Txt K mg ⟨c_BadKinds, c_BadWord, c_TooMany, c_NoSuch, c_Web, c_KNOWN_TIMES, u_FIRST_PRIME, u_STEP, u_LETTERS, u_LONGEST, u_MOST_OF_A_WEB, u_LONGEST_OF_A_WEB⟩ := ⟨PySem.W.mg_none_of X G z_abs, PySem.W.mg_none_of X G z_bool, PySem.W.mg_none_of X G z_dict, PySem.W.mg_none_of X G z_enumerate, PySem.W.mg_none_of X G z_int, PySem.W.mg_none_of X G z_isinstance, PySem.W.mg_none_of X G z_len, PySem.W.mg_none_of X G z_list, PySem.W.mg_none_of X G z_range, PySem.W.mg_none_of X G z_set, PySem.W.mg_none_of X G z_sorted, PySem.W.mg_none_of X G z_sum, PySem.W.mg_none_of X G z_tuple, PySem.W.mg_none_of X G z_zip, PySem.W.mg_of X G y_BadKinds, PySem.W.mg_of X G y_BadWord, PySem.W.mg_of X G y_TooMany, PySem.W.mg_of X G y_NoSuch, PySem.W.mg_of X G y_Web, PySem.W.mg_of X G y_KNOWN_TIMES, ⟨PySem.W.mg_of X G y_BadKinds, e_BadKinds⟩, ⟨PySem.W.mg_of X G y_BadWord, e_BadWord⟩, ⟨PySem.W.mg_of X G y_TooMany, e_TooMany⟩, ⟨PySem.W.mg_of X G y_NoSuch, e_NoSuch⟩, PySem.W.mg_of X G g_FIRST_PRIME, r_FIRST_PRIME, PySem.W.mg_of X G g_STEP, r_STEP, PySem.W.mg_of X G g_LETTERS, r_LETTERS, PySem.W.mg_of X G g_LONGEST, r_LONGEST, PySem.W.mg_of X G g_MOST_OF_A_WEB, r_MOST_OF_A_WEB, PySem.W.mg_of X G g_LONGEST_OF_A_WEB, r_LONGEST_OF_A_WEB, kt, ⟨pg_Web, hd_Web, po_Web, sa_Web⟩, na_Web_words, na_Web_length⟩
 have F_0 := fun_mk (st := s_further_times) l_0 c_0 k_0
 have b_0 := F_0.binds (ps := ["place", "last"]) fun _ _ _ _ _ _ us hl => L2.on2 (C := fun us => bindArgs _ ⟨us, []⟩ = pure (List.zip _ us)) hl fun _ _ => rfl
 have F_1 := fun_mk (st := s_inverse) l_1 c_1 k_1
 have b_1 := F_1.binds (ps := ["number", "prime"]) fun _ _ _ _ _ _ us hl => L2.on2 (C := fun us => bindArgs _ ⟨us, []⟩ = pure (List.zip _ us)) hl fun _ _ => rfl
 have F_2 := fun_mk (st := s_lowered) l_2 c_2 k_2
 have b_2 := F_2.binds (ps := ["row", "top", "back", "prime"]) fun _ _ _ _ _ _ us hl => L2.on4 (C := fun us => bindArgs _ ⟨us, []⟩ = pure (List.zip _ us)) hl fun _ _ _ _ => rfl
 have F_3 := fun_mk (st := s_first_other_than_nought) l_3 c_3 k_3
 have b_3 := F_3.binds (ps := ["numbers"]) fun _ _ _ _ _ _ us hl => L2.on1 (C := fun us => bindArgs _ ⟨us, []⟩ = pure (List.zip _ us)) hl fun _ => rfl
 have F_4 := fun_mk (st := s_determinant_rest) l_4 c_4 k_4
 have b_4 := F_4.binds (ps := ["square", "prime"]) fun _ _ _ _ _ _ us hl => L2.on2 (C := fun us => bindArgs _ ⟨us, []⟩ = pure (List.zip _ us)) hl fun _ _ => rfl
 have F_5 := fun_mk (st := s_greatest_of) l_5 c_5 k_5
 have b_5 := F_5.binds (ps := ["square"]) fun _ _ _ _ _ _ us hl => L2.on1 (C := fun us => bindArgs _ ⟨us, []⟩ = pure (List.zip _ us)) hl fun _ => rfl
 have F_6 := fun_mk (st := s_determinant) l_6 c_6 k_6
 have b_6 := F_6.binds (ps := ["square"]) fun _ _ _ _ _ _ us hl => L2.on1 (C := fun us => bindArgs _ ⟨us, []⟩ = pure (List.zip _ us)) hl fun _ => rfl
 have F_7 := fun_mk (st := s_looked_kinds) l_7 c_7 k_7
 have b_7 := F_7.binds (ps := ["kinds"]) fun _ _ _ _ _ _ us hl => L2.on1 (C := fun us => bindArgs _ ⟨us, []⟩ = pure (List.zip _ us)) hl fun _ => rfl
 have F_8 := fun_mk (st := s_looked_length) l_8 c_8 k_8
 have b_8 := F_8.binds (ps := ["length", "kinds"]) fun _ _ _ _ _ _ us hl => L2.on2 (C := fun us => bindArgs _ ⟨us, []⟩ = pure (List.zip _ us)) hl fun _ _ => rfl
 have F_9 := fun_mk (st := s_letters) l_9 c_9 k_9
 have b_9 := F_9.binds (ps := ["kinds"]) fun _ _ _ _ _ _ us hl => L2.on1 (C := fun us => bindArgs _ ⟨us, []⟩ = pure (List.zip _ us)) hl fun _ => rfl
 have F_10 := fun_mk (st := s_looked) l_10 c_10 k_10
 have b_10 := F_10.binds (ps := ["word", "kinds"]) fun _ _ _ _ _ _ us hl => L2.on2 (C := fun us => bindArgs _ ⟨us, []⟩ = pure (List.zip _ us)) hl fun _ _ => rfl
 have F_11 := fun_mk (st := s_looked_web) l_11 c_11 k_11
 have b_11 := F_11.binds (ps := ["words"]) fun _ _ _ _ _ _ us hl => L2.on1 (C := fun us => bindArgs _ ⟨us, []⟩ = pure (List.zip _ us)) hl fun _ => rfl
 have F_12 := fun_mk (st := s_Web_init) l_12 c_12 k_12
 have b_12 := F_12.binds (ps := ["self", "words"]) fun _ _ _ _ _ _ us hl => L2.on2 (C := fun us => bindArgs _ ⟨us, []⟩ = pure (List.zip _ us)) hl fun _ _ => rfl
 have F_13 := fun_mk (st := s_begin_of) l_13 c_13 k_13
 have b_13 := F_13.binds (ps := ["word"]) fun _ _ _ _ _ _ us hl => L2.on1 (C := fun us => bindArgs _ ⟨us, []⟩ = pure (List.zip _ us)) hl fun _ => rfl
 have F_14 := fun_mk (st := s_end_of) l_14 c_14 k_14
 have b_14 := F_14.binds (ps := ["word"]) fun _ _ _ _ _ _ us hl => L2.on1 (C := fun us => bindArgs _ ⟨us, []⟩ = pure (List.zip _ us)) hl fun _ => rfl
 have F_15 := fun_mk (st := s_pieces) l_15 c_15 k_15
 have b_15 := F_15.binds (ps := ["web"]) fun _ _ _ _ _ _ us hl => L2.on1 (C := fun us => bindArgs _ ⟨us, []⟩ = pure (List.zip _ us)) hl fun _ => rfl
 have F_16 := fun_mk (st := s_outs) l_16 c_16 k_16
 have b_16 := F_16.binds (ps := ["web", "piece"]) fun _ _ _ _ _ _ us hl => L2.on2 (C := fun us => bindArgs _ ⟨us, []⟩ = pure (List.zip _ us)) hl fun _ _ => rfl
 have F_17 := fun_mk (st := s_choice_row) l_17 c_17 k_17
 have b_17 := F_17.binds (ps := ["texts", "text", "words"]) fun _ _ _ _ _ _ us hl => L2.on3 (C := fun us => bindArgs _ ⟨us, []⟩ = pure (List.zip _ us)) hl fun _ _ _ => rfl
 have F_18 := fun_mk (st := s_choices_counted) l_18 c_18 k_18
 have b_18 := F_18.binds (ps := ["ways"]) fun _ _ _ _ _ _ us hl => L2.on1 (C := fun us => bindArgs _ ⟨us, []⟩ = pure (List.zip _ us)) hl fun _ => rfl
 have F_19 := fun_mk (st := s_ways_toward) l_19 c_19 k_19
 have b_19 := F_19.binds (ps := ["web", "piece"]) fun _ _ _ _ _ _ us hl => L2.on2 (C := fun us => bindArgs _ ⟨us, []⟩ = pure (List.zip _ us)) hl fun _ _ => rfl
 have F_20 := fun_mk (st := s_tree_count) l_20 c_20 k_20
 have b_20 := F_20.binds (ps := ["web", "piece"]) fun _ _ _ _ _ _ us hl => L2.on2 (C := fun us => bindArgs _ ⟨us, []⟩ = pure (List.zip _ us)) hl fun _ _ => rfl
 have F_21 := fun_mk (st := s__law_cell_at) l_21 c_21 k_21
 have b_21 := F_21.binds (ps := ["script", "k"]) fun _ _ _ _ _ _ us hl => L2.on2 (C := fun us => bindArgs _ ⟨us, []⟩ = pure (List.zip _ us)) hl fun _ _ => rfl
 have F_22 := fun_mk (st := s__law_whole) l_22 c_22 k_22
 have b_22 := F_22.binds (ps := ["found", "due"]) fun _ _ _ _ _ _ us hl => L2.on2 (C := fun us => bindArgs _ ⟨us, []⟩ = pure (List.zip _ us)) hl fun _ _ => rfl
 have F_23 := fun_mk (st := s__law_walk) l_23 c_23 k_23
 have b_23 := F_23.binds (ps := ["cells", "kinds", "first"]) fun _ _ _ _ _ _ us hl => L2.on3 (C := fun us => bindArgs _ ⟨us, []⟩ = pure (List.zip _ us)) hl fun _ _ _ => rfl
 have F_24 := fun_mk (st := s__law_ring_words) l_24 c_24 k_24
 have b_24 := F_24.binds (ps := ["script", "at", "most"]) fun _ _ _ _ _ _ us hl => L2.on3 (C := fun us => bindArgs _ ⟨us, []⟩ = pure (List.zip _ us)) hl fun _ _ _ => rfl
 have F_25 := fun_mk (st := s__law_ways) l_25 c_25 k_25
 have b_25 := F_25.binds (ps := ["words", "piece"]) fun _ _ _ _ _ _ us hl => L2.on2 (C := fun us => bindArgs _ ⟨us, []⟩ = pure (List.zip _ us)) hl fun _ _ => rfl
 have F_26 := fun_mk (st := s__law_all) l_26 c_26 k_26
 have b_26 := F_26.binds (ps := ["kinds", "length"]) fun _ _ _ _ _ _ us hl => L2.on2 (C := fun us => bindArgs _ ⟨us, []⟩ = pure (List.zip _ us)) hl fun _ _ => rfl
 have F_27 := fun_mk (st := s__law_power) l_27 c_27 k_27
 have b_27 := F_27.binds (ps := ["a", "many"]) fun _ _ _ _ _ _ us hl => L2.on2 (C := fun us => bindArgs _ ⟨us, []⟩ = pure (List.zip _ us)) hl fun _ _ => rfl
 have F_28 := fun_mk (st := s_law) l_28 c_28 k_28
 refine ⟨PySem.W.fnOf "law" "law" (defArgs s_law) (defBody s_law) (defScope s_law) .none kV_28 dc_28 pm_28 an_28 cd_28 ct_28, fun s v => .of_eq rfl, fun base _ _ => ?_⟩
 have C_0 : Cal l.prog w K mg base (CX1 l.prog w) "further_times" 1 ["place", "last"] spTimes := ⟨⟨_, _, ok_further_times F_0 tt, PySem.W.mg_of X G a_0, F_0.kp, b_0⟩⟩
 have C_1 : Cal l.prog w K mg base (CX1 l.prog w) "inverse" 1 ["number", "prime"] spInvs := ⟨⟨_, _, ok_inverse F_1 tt, PySem.W.mg_of X G a_1, F_1.kp, b_1⟩⟩
 have C_2 : Cal l.prog w K mg base (CX1 l.prog w) "lowered" 1 ["row", "top", "back", "prime"] (spLow K) := ⟨⟨_, _, ok_lowered F_2 tt, PySem.W.mg_of X G a_2, F_2.kp, b_2⟩⟩
 have C_3 : Cal l.prog w K mg base (CX1 l.prog w) "first_other_than_nought" 1 ["numbers"] (spFirst K) := ⟨⟨_, _, ok_first_other_than_nought F_3 tt, PySem.W.mg_of X G a_3, F_3.kp, b_3⟩⟩
 have C_4 : Cal l.prog w K mg base (CX1 l.prog w) "determinant_rest" 2 ["square", "prime"] (spRest K) := ⟨⟨_, _, ok_determinant_rest F_4 tt C_3 C_1 C_2, PySem.W.mg_of X G a_4, F_4.kp, b_4⟩⟩
 have C_5 : Cal l.prog w K mg base (CX1 l.prog w) "greatest_of" 1 ["square"] (spGreat K) := ⟨⟨_, _, ok_greatest_of F_5 tt, PySem.W.mg_of X G a_5, F_5.kp, b_5⟩⟩
 have C_6 : Cal l.prog w K mg base (CX1 l.prog w) "determinant" 3 ["square"] (spDet K) := ⟨⟨_, _, ok_determinant F_6 tt C_5 C_4 C_0 C_1, PySem.W.mg_of X G a_6, F_6.kp, b_6⟩⟩
 have C_7 : Cal l.prog w K mg base (CX1 l.prog w) "looked_kinds" 1 ["kinds"] (spKindsX _) := ⟨⟨_, _, ok_looked_kinds F_7 tt, PySem.W.mg_of X G a_7, F_7.kp, b_7⟩⟩
 have C_8 : Cal l.prog w K mg base (CX1 l.prog w) "looked_length" 2 ["length", "kinds"] (spLenX _) := ⟨⟨_, _, ok_looked_length F_8 tt C_7, PySem.W.mg_of X G a_8, F_8.kp, b_8⟩⟩
 have C_9 : Cal l.prog w K mg base (CX1 l.prog w) "letters" 2 ["kinds"] (spLettersX _) := ⟨⟨_, _, ok_letters F_9 tt C_7, PySem.W.mg_of X G a_9, F_9.kp, b_9⟩⟩
 have C_10 : Cal l.prog w K mg base (CX1 l.prog w) "looked" 3 ["word", "kinds"] (spLookedX _) := ⟨⟨_, _, ok_looked F_10 tt C_8 C_9, PySem.W.mg_of X G a_10, F_10.kp, b_10⟩⟩
 have C_11 : Cal l.prog w K mg base (CX1 l.prog w) "looked_web" 4 ["words"] (spWebL K) := ⟨⟨_, _, ok_looked_web F_11 tt C_10, PySem.W.mg_of X G a_11, F_11.kp, b_11⟩⟩
 have C_12 : Cam l.prog w K mg base (CX1 l.prog w) "Web" c_Web 5 ["self", "words"] (spWebI K _) := ⟨⟨_, _, ok_Web_init F_12 tt C_11, ⟨mk_Web, a_12, i_Web_init, kc_Web⟩, PySem.W.mg_of X G y_Web, b_12⟩⟩
 have C_13 : Cal l.prog w K mg base (CX1 l.prog w) "begin_of" 1 ["word"] spBegin := ⟨⟨_, _, ok_begin_of F_13 tt, PySem.W.mg_of X G a_13, F_13.kp, b_13⟩⟩
 have C_14 : Cal l.prog w K mg base (CX1 l.prog w) "end_of" 1 ["word"] spEnd := ⟨⟨_, _, ok_end_of F_14 tt, PySem.W.mg_of X G a_14, F_14.kp, b_14⟩⟩
 have C_15 : Cal l.prog w K mg base (CX1 l.prog w) "pieces" 2 ["web"] (spPieces c_Web) := ⟨⟨_, _, ok_pieces F_15 tt C_13 C_14, PySem.W.mg_of X G a_15, F_15.kp, b_15⟩⟩
 have C_16 : Cal l.prog w K mg base (CX1 l.prog w) "outs" 2 ["web", "piece"] (spOuts c_Web) := ⟨⟨_, _, ok_outs F_16 tt C_13, PySem.W.mg_of X G a_16, F_16.kp, b_16⟩⟩
 have C_17 : Cal l.prog w K mg base (CX1 l.prog w) "choice_row" 2 ["texts", "text", "words"] (spRowC K) := ⟨⟨_, _, ok_choice_row F_17 tt C_14, PySem.W.mg_of X G a_17, F_17.kp, b_17⟩⟩
 have C_18 : Cal l.prog w K mg base (CX1 l.prog w) "choices_counted" 4 ["ways"] (spChoices K) := ⟨⟨_, _, ok_choices_counted F_18 tt C_6 C_17, PySem.W.mg_of X G a_18, F_18.kp, b_18⟩⟩
 have C_19 : Cal l.prog w K mg base (CX1 l.prog w) "ways_toward" 3 ["web", "piece"] (spWaysT c_Web _) := ⟨⟨_, _, ok_ways_toward F_19 tt C_15 C_16, PySem.W.mg_of X G a_19, F_19.kp, b_19⟩⟩
 have C_20 : Cal l.prog w K mg base (CX1 l.prog w) "tree_count" 5 ["web", "piece"] (spTree c_Web _) := ⟨⟨_, _, ok_tree_count F_20 tt C_18 C_19, PySem.W.mg_of X G a_20, F_20.kp, b_20⟩⟩
 have C_21 : Cal l.prog w K mg base (CX1 l.prog w) "_law_cell_at" 1 ["script", "k"] (spCell K) := ⟨⟨_, _, ok__law_cell_at F_21 tt, PySem.W.mg_of X G a_21, F_21.kp, b_21⟩⟩
 have C_22 : Cal l.prog w K mg base (CX1 l.prog w) "_law_whole" 1 ["found", "due"] spWhole := ⟨⟨_, _, ok__law_whole F_22 tt, PySem.W.mg_of X G a_22, F_22.kp, b_22⟩⟩
 have C_23 : Cal l.prog w K mg base (CX1 l.prog w) "_law_walk" 1 ["cells", "kinds", "first"] (spWalk K) := ⟨⟨_, _, ok__law_walk F_23 tt, PySem.W.mg_of X G a_23, F_23.kp, b_23⟩⟩
 have C_24 : Cal l.prog w K mg base (CX1 l.prog w) "_law_ring_words" 2 ["script", "at", "most"] (spRingWd K) := ⟨⟨_, _, ok__law_ring_words F_24 tt C_21 C_23, PySem.W.mg_of X G a_24, F_24.kp, b_24⟩⟩
 have C_25 : Cal l.prog w K mg base (CX1 l.prog w) "_law_ways" 1 ["words", "piece"] (spWaysL K) := ⟨⟨_, _, ok__law_ways F_25 tt, PySem.W.mg_of X G a_25, F_25.kp, b_25⟩⟩
 have C_26 : Cal l.prog w K mg base (CX1 l.prog w) "_law_all" 1 ["kinds", "length"] spAllE := ⟨⟨_, _, ok__law_all F_26 tt, PySem.W.mg_of X G a_26, F_26.kp, b_26⟩⟩
 have C_27 : Cal l.prog w K mg base (CX1 l.prog w) "_law_power" 1 ["a", "many"] spPow := ⟨⟨_, _, ok__law_power F_27 tt, PySem.W.mg_of X G a_27, F_27.kp, b_27⟩⟩
 exact ok_law F_28 tt C_24 C_12 C_20 C_22 C_25 C_21 C_18 C_26 C_27
theorem walk {l : PySem.W.OpenLaw} {q : Program} {loose : List Str} {XP : (Str → Option Value) → Heap → Prop} {YP : World → Heap → Prop} {d : DefRec} {K : Params → PySem.W.Frag} (hn : l.most = some 63) (hdf : d.params.defaults = [])
  (hY : ∀ (w : World) (h : Heap), YP w h → (K w.params).In h)
  (F : ∀ (w : World) (mg : Str → Option Value) (fa : Addr) (h : Heap), (K w.params).In h → h.Ns mainGlobals mg → mg d.name = some (.ref fa) →
   ∃ fd : FuncData, (∀ (s : Shared) (u : Value), BindsTo s fd ⟨[u], []⟩ [("script", u)]) ∧ ∀ base : Heap, (K w.params).In base → base.Ns mainGlobals mg → FnOk l.prog w (K w.params) mg base (CX1 l.prog w) 7 fa fd ["script"] (spLaw (K w.params))) :
  PySem.W.WalkO q loose XP YP l.row.toRowW d [] (fun f vs => PySem.call f vs) :=
 L2.walk_of (n := 63) (k := 7) (x := "script") (CX := fun w => CX1 l.prog w) (sp := fun w => spLaw (K w.params)) hn (by decide) hdf ⟨rfl, by decide, by decide⟩ hY F (fun _ _ a ns hl _ hS => ⟨a, ns, rfl, hS, hl, fun _ => rfl⟩) fun _ _ _ _ _ ⟨_, _, _, _, _, z⟩ => z
end K35
theorem PySem.W.Fast.tw2119148805708874016 : True := trivial
theorem PySem.W.Fast.tw14893166376490626528 : True := trivial
theorem PySem.W.Fast.tw12508955251673737760 : True := trivial
theorem PySem.W.Fast.tw4365082878715289248 : True := trivial
theorem PySem.W.Fast.tw7371502617077983040 : True := trivial
theorem PySem.W.Fast.tw11349186859495180160 : True := trivial
theorem PySem.W.Fast.tw15660654638262866848 : True := trivial
theorem PySem.W.Fast.tw769260732120770528 : True := trivial
theorem PySem.W.Fast.tw17505948439865943329 : True := trivial
theorem PySem.W.Fast.tw16443160985480200545 : True := trivial
theorem PySem.W.Fast.tw1355717465652616545 : True := trivial
theorem PySem.W.Fast.tw3156924575086764034 : True := trivial
theorem PySem.W.Fast.tw4585964495274918018 : True := trivial
theorem PySem.W.Fast.tw15613663755523487234 : True := trivial
theorem PySem.W.Fast.tw5710502712359356002 : True := trivial
theorem PySem.W.Fast.tw17123805331096492898 : True := trivial
theorem PySem.W.Fast.tw4059349378833050659 : True := trivial
theorem PySem.W.Fast.tw14938291137968971075 : True := trivial
theorem PySem.W.Fast.tw14045696941252061635 : True := trivial
theorem PySem.W.Fast.tw5337410216968547875 : True := trivial
theorem PySem.W.Fast.tw2175696235462773347 : True := trivial
theorem PySem.W.Fast.tw13654565855044345443 : True := trivial
theorem PySem.W.Fast.tw8331496819110607491 : True := trivial
theorem PySem.W.Fast.tw2869814412607191715 : True := trivial
theorem PySem.W.Fast.tw10214667945129529027 : True := trivial
theorem PySem.W.Fast.tw16099226115969115204 : True := trivial
theorem PySem.W.Fast.tw6108909870855723588 : True := trivial
theorem PySem.W.Fast.tw7857721187027584932 : True := trivial
theorem PySem.W.Fast.tw15332600314810594405 : True := trivial
theorem PySem.W.Fast.tw10701538675308812485 : True := trivial
theorem PySem.W.Fast.tw11125075503716998661 : True := trivial
theorem PySem.W.Fast.tw10884811621957535525 : True := trivial
theorem PySem.W.Fast.tw17345479417133626630 : True := trivial
theorem PySem.W.Fast.tw14372300776632386054 : True := trivial
theorem PySem.W.Fast.tw569865900672523782 : True := trivial
theorem PySem.W.Fast.tw3915786678003451782 : True := trivial
theorem PySem.W.Fast.tw2417161234959115463 : True := trivial
theorem PySem.W.Fast.tw14555718900849117415 : True := trivial
theorem PySem.W.Fast.tw1023918780608433383 : True := trivial
theorem PySem.W.Fast.tw8429379482403703303 : True := trivial
theorem PySem.W.Fast.tw16608253384033937736 : True := trivial
theorem PySem.W.Fast.tw4996953805789924776 : True := trivial
theorem PySem.W.Fast.tw15147537638544616904 : True := trivial
theorem PySem.W.Fast.tw2794827520651437736 : True := trivial
theorem PySem.W.Fast.tw10812492329915929320 : True := trivial
theorem PySem.W.Fast.tw3052869497403142088 : True := trivial
theorem PySem.W.Fast.tw4347336237977473225 : True := trivial
theorem PySem.W.Fast.tw12118931583894953321 : True := trivial
theorem PySem.W.Fast.tw2639852448829334921 : True := trivial
theorem PySem.W.Fast.tw4373608228766264330 : True := trivial
theorem PySem.W.Fast.tw3661869052497921162 : True := trivial
theorem PySem.W.Fast.tw4128709559021549898 : True := trivial
theorem PySem.W.Fast.tw3049417186347244938 : True := trivial
theorem PySem.W.Fast.tw14747799042999665642 : True := trivial
theorem PySem.W.Fast.tw15311042700510021707 : True := trivial
theorem PySem.W.Fast.tw1104719984253429451 : True := trivial
theorem PySem.W.Fast.tw9959291191390689067 : True := trivial
theorem PySem.W.Fast.tw17639051386771309547 : True := trivial
theorem PySem.W.Fast.tw8313349648713118699 : True := trivial
theorem PySem.W.Fast.tw7306481417003998284 : True := trivial
theorem PySem.W.Fast.tw10158913969216171148 : True := trivial
theorem PySem.W.Fast.tw8819081394230203628 : True := trivial
theorem PySem.W.Fast.tw5052286580352002540 : True := trivial
theorem PySem.W.Fast.tw14639346288108885580 : True := trivial
theorem PySem.W.Fast.tw10030065922108087916 : True := trivial
theorem PySem.W.Fast.tw3606316154877850284 : True := trivial
theorem PySem.W.Fast.tw15950514609707117324 : True := trivial
theorem PySem.W.Fast.tw10534167101474618958 : True := trivial
theorem PySem.W.Fast.tw4073937094121288270 : True := trivial
theorem PySem.W.Fast.tw3856415384384383598 : True := trivial
theorem PySem.W.Fast.tw11737250614107146190 : True := trivial
theorem PySem.W.Fast.tw16385071569353875567 : True := trivial
theorem PySem.W.Fast.tw6812679310707554479 : True := trivial
theorem PySem.W.Fast.tw1918783718734141967 : True := trivial
theorem PySem.W.Fast.tw6839394561249775792 : True := trivial
theorem PySem.W.Fast.tw2079605822090298576 : True := trivial
theorem PySem.W.Fast.tw14559143773138731344 : True := trivial
theorem PySem.W.Fast.tw16379873075425507664 : True := trivial
theorem PySem.W.Fast.tw14554505579428458096 : True := trivial
theorem PySem.W.Fast.tw15181458512931485392 : True := trivial
theorem PySem.W.Fast.tw16193238566145532656 : True := trivial
theorem PySem.W.Fast.tw11945773329733277520 : True := trivial
theorem PySem.W.Fast.tw8227326243228701648 : True := trivial
theorem PySem.W.Fast.tw9288968319897553937 : True := trivial
theorem PySem.W.Fast.tw12992336526057877585 : True := trivial
theorem PySem.W.Fast.tw17417518442617510993 : True := trivial
theorem PySem.W.Fast.tw18042453679335109777 : True := trivial
theorem PySem.W.Fast.tw17987685829257815217 : True := trivial
theorem PySem.W.Fast.tw11851108833045862705 : True := trivial
theorem PySem.W.Fast.tw8370467192650621265 : True := trivial
theorem PySem.W.Fast.tw13235766593494179249 : True := trivial
theorem PySem.W.Fast.tw11040516032589998705 : True := trivial
theorem PySem.W.Fast.tw13304633918563284625 : True := trivial
theorem PySem.W.Fast.tw10034544978760761105 : True := trivial
theorem PySem.W.Fast.tw17643169540194984370 : True := trivial
theorem PySem.W.Fast.tw13242209366859975218 : True := trivial
theorem PySem.W.Fast.tw18107203697908606610 : True := trivial
theorem PySem.W.Fast.tw7609554593587713746 : True := trivial
theorem PySem.W.Fast.tw16378965738102131634 : True := trivial
theorem PySem.W.Fast.tw14591535664890160211 : True := trivial
theorem PySem.W.Fast.tw630634563537053779 : True := trivial
theorem PySem.W.Fast.tw4550953951200062643 : True := trivial
theorem PySem.W.Fast.tw13907669785385478707 : True := trivial
theorem PySem.W.Fast.tw3280975437265687347 : True := trivial
theorem PySem.W.Fast.tw10064803464270081843 : True := trivial
theorem PySem.W.Fast.tw8287108482323912884 : True := trivial
theorem PySem.W.Fast.tw14962867034072471764 : True := trivial
theorem PySem.W.Fast.tw926967013711801652 : True := trivial
theorem PySem.W.Fast.tw14429627349914267412 : True := trivial
theorem PySem.W.Fast.tw17584714142526147125 : True := trivial
theorem PySem.W.Fast.tw8337178604058769558 : True := trivial
theorem PySem.W.Fast.tw16113737485221906966 : True := trivial
theorem PySem.W.Fast.tw9395235260924490582 : True := trivial
theorem PySem.W.Fast.tw9999677374506307510 : True := trivial
theorem PySem.W.Fast.tw7458375122706464791 : True := trivial
theorem PySem.W.Fast.tw7896145031590991127 : True := trivial
theorem PySem.W.Fast.tw12672763910626602327 : True := trivial
theorem PySem.W.Fast.tw15540128608146979223 : True := trivial
theorem PySem.W.Fast.tw11334848204289733079 : True := trivial
theorem PySem.W.Fast.tw3177117433941740151 : True := trivial
theorem PySem.W.Fast.tw8255758597994557143 : True := trivial
theorem PySem.W.Fast.tw15033536039994622743 : True := trivial
theorem PySem.W.Fast.tw16323510516068727639 : True := trivial
theorem PySem.W.Fast.tw6779338602949626743 : True := trivial
theorem PySem.W.Fast.tw6379230914552748951 : True := trivial
theorem PySem.W.Fast.tw5444033087821016055 : True := trivial
theorem PySem.W.Fast.tw5935259303955693720 : True := trivial
theorem PySem.W.Fast.tw7357798303479657624 : True := trivial
theorem PySem.W.Fast.tw11187492380346613432 : True := trivial
theorem PySem.W.Fast.tw11607958369976243096 : True := trivial
theorem PySem.W.Fast.tw8339807370687023064 : True := trivial
theorem PySem.W.Fast.tw15068097140429087833 : True := trivial
theorem PySem.W.Fast.tw7108138299879604601 : True := trivial
theorem PySem.W.Fast.tw1708994480118089113 : True := trivial
theorem PySem.W.Fast.tw16306492516221816249 : True := trivial
theorem PySem.W.Fast.tw1843163754870795033 : True := trivial
theorem PySem.W.Fast.tw1863630304329461689 : True := trivial
theorem PySem.W.Fast.tw9289904356690036026 : True := trivial
theorem PySem.W.Fast.tw6398893871066284442 : True := trivial
theorem PySem.W.Fast.tw5418598905553528314 : True := trivial
theorem PySem.W.Fast.tw17077105848930694042 : True := trivial
theorem PySem.W.Fast.tw2221500252087796059 : True := trivial
theorem PySem.W.Fast.tw16838693246159782044 : True := trivial
theorem PySem.W.Fast.tw11611022348062092508 : True := trivial
theorem PySem.W.Fast.tw1709424184167533980 : True := trivial
theorem PySem.W.Fast.tw12669913962783256092 : True := trivial
theorem PySem.W.Fast.te7332823709919859228 : True := trivial
theorem PySem.W.Fast.tw10134811947496028764 : True := trivial
theorem PySem.W.Fast.tw17162625442752160380 : True := trivial
theorem PySem.W.Fast.tw8181148606624738429 : True := trivial
theorem PySem.W.Fast.tw13276563753638128029 : True := trivial
theorem PySem.W.Fast.tw5199077017664978333 : True := trivial
theorem PySem.W.Fast.tw5304621775550225853 : True := trivial
theorem PySem.W.Fast.tw9923992620296050269 : True := trivial
theorem PySem.W.Fast.tw5468821439062761053 : True := trivial
theorem PySem.W.Fast.tw4740710432136804989 : True := trivial
theorem PySem.W.Fast.tw15865058051492452831 : True := trivial
theorem PySem.W.Fast.tw852425070594502399 : True := trivial
theorem PySem.W.Fast.tw10607415899171539743 : True := trivial
def PySem.W.Fast.tw11623448711116832754 := PySem.Challenge.pw_onceround_k35_whole_trees_alike_toward_a
theorem PySem.W.Fast.te11623448711116832754 : PySem.Challenge.pw_onceround_k35_whole_trees_alike_toward_a = PySem.W.Fast.tw11623448711116832754 := rfl
open PySem PySem.W PyProof.Rows
set_option maxRecDepth 100000 in
set_option maxHeartbeats 0 in
theorem PySem.Challenge.cw_onceround_k35_whole_trees_alike_toward_a_holds : PySem.Challenge.rw_onceround_k35_whole_trees_alike_toward_a.Holds := by
  w_on; o_law; k_head; (case hw => w_witness2)
  k_fill
  refine K35.walk (l := PySem.Challenge.rw_onceround_k35_whole_trees_alike_toward_a) rfl rfl (fun w h Y => PySem.W.kIn_of Y) ?F
  case F =>
    intro w mg fa h KX G hmg
    refine' K35.all_mk KX G hmg ?a_0 ?l_0 ?c_0 ?k_0 ?a_1 ?l_1 ?c_1 ?k_1 ?a_2 ?l_2 ?c_2 ?k_2 ?a_3 ?l_3 ?c_3 ?k_3 ?a_4 ?l_4 ?c_4 ?k_4 ?a_5 ?l_5 ?c_5 ?k_5 ?a_6 ?l_6 ?c_6 ?k_6 ?a_7 ?l_7 ?c_7 ?k_7 ?a_8 ?l_8 ?c_8 ?k_8 ?a_9 ?l_9 ?c_9 ?k_9 ?a_10 ?l_10 ?c_10 ?k_10 ?a_11 ?l_11 ?c_11 ?k_11 ?a_12 ?l_12 ?c_12 ?k_12 ?i_Web_init ?a_13 ?l_13 ?c_13 ?k_13 ?a_14 ?l_14 ?c_14 ?k_14 ?a_15 ?l_15 ?c_15 ?k_15 ?a_16 ?l_16 ?c_16 ?k_16 ?a_17 ?l_17 ?c_17 ?k_17 ?a_18 ?l_18 ?c_18 ?k_18 ?a_19 ?l_19 ?c_19 ?k_19 ?a_20 ?l_20 ?c_20 ?k_20 ?a_21 ?l_21 ?c_21 ?k_21 ?a_22 ?l_22 ?c_22 ?k_22 ?a_23 ?l_23 ?c_23 ?k_23 ?a_24 ?l_24 ?c_24 ?k_24 ?a_25 ?l_25 ?c_25 ?k_25 ?a_26 ?l_26 ?c_26 ?k_26 ?a_27 ?l_27 ?c_27 ?k_27 ?a_28 ?l_28 ?c_28 ?k_28 ?z_abs ?z_bool ?z_dict ?z_enumerate ?z_int ?z_isinstance ?z_len ?z_list ?z_range ?z_set ?z_sorted ?z_sum ?z_tuple ?z_zip ?y_BadKinds ?y_BadWord ?y_TooMany ?y_NoSuch ?y_Web ?y_KNOWN_TIMES ?e_BadKinds ?e_BadWord ?e_TooMany ?e_NoSuch ?g_FIRST_PRIME ?r_FIRST_PRIME ?g_STEP ?r_STEP ?g_LETTERS ?r_LETTERS ?g_LONGEST ?r_LONGEST ?g_MOST_OF_A_WEB ?r_MOST_OF_A_WEB ?g_LONGEST_OF_A_WEB ?r_LONGEST_OF_A_WEB ?kt ?pg_Web ?hd_Web ?po_Web ?sa_Web ?mk_Web ?kc_Web ?na_Web_words ?na_Web_length
    (case y_Web => k_is)
    (case a_0 => k_is)
    (case l_0 => k_is)
    (case c_0 => k_is)
    (case k_0 => k_is)
    (case a_1 => k_is)
    (case l_1 => k_is)
    (case c_1 => k_is)
    (case k_1 => k_is)
    (case a_2 => k_is)
    (case l_2 => k_is)
    (case c_2 => k_is)
    (case k_2 => k_is)
    (case a_3 => k_is)
    (case l_3 => k_is)
    (case c_3 => k_is)
    (case k_3 => k_is)
    (case a_4 => k_is)
    (case l_4 => k_is)
    (case c_4 => k_is)
    (case k_4 => k_is)
    (case a_5 => k_is)
    (case l_5 => k_is)
    (case c_5 => k_is)
    (case k_5 => k_is)
    (case a_6 => k_is)
    (case l_6 => k_is)
    (case c_6 => k_is)
    (case k_6 => k_is)
    (case a_7 => k_is)
    (case l_7 => k_is)
    (case c_7 => k_is)
    (case k_7 => k_is)
    (case a_8 => k_is)
    (case l_8 => k_is)
    (case c_8 => k_is)
    (case k_8 => k_is)
    (case a_9 => k_is)
    (case l_9 => k_is)
    (case c_9 => k_is)
    (case k_9 => k_is)
    (case a_10 => k_is)
    (case l_10 => k_is)
    (case c_10 => k_is)
    (case k_10 => k_is)
    (case a_11 => k_is)
    (case l_11 => k_is)
    (case c_11 => k_is)
    (case k_11 => k_is)
    (case a_12 => k_is)
    (case l_12 => k_is)
    (case c_12 => k_is)
    (case k_12 => k_is)
    (case a_13 => k_is)
    (case l_13 => k_is)
    (case c_13 => k_is)
    (case k_13 => k_is)
    (case a_14 => k_is)
    (case l_14 => k_is)
    (case c_14 => k_is)
    (case k_14 => k_is)
    (case a_15 => k_is)
    (case l_15 => k_is)
    (case c_15 => k_is)
    (case k_15 => k_is)
    (case a_16 => k_is)
    (case l_16 => k_is)
    (case c_16 => k_is)
    (case k_16 => k_is)
    (case a_17 => k_is)
    (case l_17 => k_is)
    (case c_17 => k_is)
    (case k_17 => k_is)
    (case a_18 => k_is)
    (case l_18 => k_is)
    (case c_18 => k_is)
    (case k_18 => k_is)
    (case a_19 => k_is)
    (case l_19 => k_is)
    (case c_19 => k_is)
    (case k_19 => k_is)
    (case a_20 => k_is)
    (case l_20 => k_is)
    (case c_20 => k_is)
    (case k_20 => k_is)
    (case a_21 => k_is)
    (case l_21 => k_is)
    (case c_21 => k_is)
    (case k_21 => k_is)
    (case a_22 => k_is)
    (case l_22 => k_is)
    (case c_22 => k_is)
    (case k_22 => k_is)
    (case a_23 => k_is)
    (case l_23 => k_is)
    (case c_23 => k_is)
    (case k_23 => k_is)
    (case a_24 => k_is)
    (case l_24 => k_is)
    (case c_24 => k_is)
    (case k_24 => k_is)
    (case a_25 => k_is)
    (case l_25 => k_is)
    (case c_25 => k_is)
    (case k_25 => k_is)
    (case a_26 => k_is)
    (case l_26 => k_is)
    (case c_26 => k_is)
    (case k_26 => k_is)
    (case a_27 => k_is)
    (case l_27 => k_is)
    (case c_27 => k_is)
    (case k_27 => k_is)
    (case a_28 => k_is)
    (case l_28 => k_is)
    (case c_28 => k_is)
    (case k_28 => k_is)
    (case z_abs => k_is)
    (case z_bool => k_is)
    (case z_dict => k_is)
    (case z_enumerate => k_is)
    (case z_int => k_is)
    (case z_isinstance => k_is)
    (case z_len => k_is)
    (case z_list => k_is)
    (case z_range => k_is)
    (case z_set => k_is)
    (case z_sorted => k_is)
    (case z_sum => k_is)
    (case z_tuple => k_is)
    (case z_zip => k_is)
    (case y_BadKinds => k_is)
    (case y_BadWord => k_is)
    (case y_TooMany => k_is)
    (case y_NoSuch => k_is)
    (case y_KNOWN_TIMES => k_is)
    (case e_BadKinds => kernel_rfl)
    (case e_BadWord => kernel_rfl)
    (case e_TooMany => kernel_rfl)
    (case e_NoSuch => kernel_rfl)
    (case g_FIRST_PRIME => k_is)
    (case r_FIRST_PRIME => exact ⟨_, rfl⟩)
    (case g_STEP => k_is)
    (case r_STEP => exact ⟨_, rfl⟩)
    (case g_LETTERS => k_is)
    (case r_LETTERS => exact ⟨_, rfl⟩)
    (case g_LONGEST => k_is)
    (case r_LONGEST => exact ⟨_, rfl⟩)
    (case g_MOST_OF_A_WEB => k_is)
    (case r_MOST_OF_A_WEB => exact ⟨_, rfl⟩)
    (case g_LONGEST_OF_A_WEB => k_is)
    (case r_LONGEST_OF_A_WEB => exact ⟨_, rfl⟩)
    (case kt => kernel_rfl)
    (case pg_Web => k_is)
    (case hd_Web => k_is)
    (case po_Web => k_is)
    (case sa_Web => k_is)
    (case mk_Web => k_is)
    (case kc_Web => k_is)
    (case na_Web_words => k_is)
    (case na_Web_length => k_is)
    (case i_Web_init => k_is)
#print axioms PySem.Challenge.cw_onceround_k35_whole_trees_alike_toward_a_holds
