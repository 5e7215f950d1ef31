import PyProof.Rows.All
import Wide.All
import OpenK.AllK
import Wide.FinOn
import Lean
import PyProof.EqAt
import PyProof.EqKinds
import PyProof.TupleCall
import PySem.Challenge.RW_onceround_k50_whole_rounds_joined
set_option genSizeOfSpec false
set_option bootstrap.genMatcherCode false
-- CHANGE: your row's module here, as the last of these rows
set_option Elab.async false
set_option linter.all false
set_option maxRecDepth 100000
namespace L2
open PySem PySem.Spec PyProof.Rows

noncomputable abbrev Key := Sum Int Str
noncomputable def keyIs : Key → Value → Bool
  | .inl k, v => Value.isInt k v
  | .inr x, v => Value.isStrOf x v
noncomputable def keyH (w : World) : Key → Int
  | .inl k => hashInt k
  | .inr x => hashStr w x
theorem keyIs_shape : ∀ {k : Key} {v : Value}, keyIs k v = true → (∃ i t, k = Sum.inl i ∧ v = Value.int i t) ∨ (∃ x t, k = Sum.inr x ∧ v = Value.str x t)
  | .inl i, v, h => by
    obtain ⟨t, e⟩ := Value.isInt_shape (k := i) (v := v) h
    exact .inl ⟨i, t, rfl, e⟩
  | .inr x, v, h => by
    obtain ⟨t, e⟩ := Value.isStrOf_shape (x := x) (v := v) h
    exact .inr ⟨x, t, rfl, e⟩
theorem keyIs_int (i : Int) (t : Tok) : keyIs (.inl i) (.int i t) = true := by simp [keyIs, Value.isInt]
theorem keyIs_str (x : Str) (t : Tok) : keyIs (.inr x) (.str x t) = true := by simp [keyIs, Value.isStrOf]
theorem key_ll (a b : Int) : decide ((Sum.inl a : Key) = Sum.inl b) = (a == b) := by
  by_cases e : a = b
  · subst e; simp
  · have h : ¬ (Sum.inl a : Key) = Sum.inl b := fun q => e (Sum.inl.inj q)
    rw [decide_eq_false h]
    exact (beq_eq_false_iff_ne.mpr e).symm
theorem key_rr (a b : Str) : decide ((Sum.inr a : Key) = Sum.inr b) = decide (a = b) := by
  by_cases e : a = b
  · subst e; simp
  · have h : ¬ (Sum.inr a : Key) = Sum.inr b := fun q => e (Sum.inr.inj q)
    rw [decide_eq_false h, decide_eq_false e]
theorem key_lr (a : Int) (b : Str) : decide ((Sum.inl a : Key) = Sum.inr b) = false := decide_eq_false (fun q => nomatch q)
theorem key_rl (a : Str) (b : Int) : decide ((Sum.inr a : Key) = Sum.inl b) = false := decide_eq_false (fun q => nomatch q)

noncomputable def mixKind (prog : Program) (w : World) : PySem.KeyKind prog w Key where
  is := keyIs
  hash := keyH w
  inj := fun v a b ha hb => by
    rcases keyIs_shape ha with ⟨i, t, rfl, rfl⟩ | ⟨x, t, rfl, rfl⟩
    · rcases keyIs_shape hb with ⟨j, u, rfl, e⟩ | ⟨y, u, rfl, e⟩
      · injection e with e1 _; rw [e1]
      · exact nomatch e
    · rcases keyIs_shape hb with ⟨j, u, rfl, e⟩ | ⟨y, u, rfl, e⟩
      · exact nomatch e
      · injection e with e1 _; rw [e1]
  byValue := fun k v h => by
    rcases keyIs_shape h with ⟨i, t, rfl, rfl⟩ | ⟨x, t, rfl, rfl⟩ <;> rfl
  pyHash := fun hv h => by
    rcases keyIs_shape hv with ⟨i, t, rfl, rfl⟩ | ⟨x, t, rfl, rfl⟩
    · exact wpAny_pyHash_int h
    · exact wpAny_pyHash_str h
  eqBool := fun hu hv h => by
    rcases keyIs_shape hu with ⟨i, t, rfl, rfl⟩ | ⟨x, t, rfl, rfl⟩
    · rcases keyIs_shape hv with ⟨j, u, rfl, rfl⟩ | ⟨y, u, rfl, rfl⟩
      · rw [key_ll] at h; exact wpAny_eqBool_int h
      · rw [key_lr] at h; exact SeqAt.EqAt.int_str i t y u _ _ _ _ h
    · rcases keyIs_shape hv with ⟨j, u, rfl, rfl⟩ | ⟨y, u, rfl, rfl⟩
      · rw [key_rl] at h; exact SeqAt.EqAt.str_int x t j u _ _ _ _ h
      · rw [key_rr] at h; exact wpAny_eqBool_str h
  «strs» := fun k x t v h => by
    rcases keyIs_shape h with ⟨i, u, rfl, e⟩ | ⟨y, u, rfl, e⟩
    · exact nomatch e
    · injection e with e1 _
      subst e1
      cases v <;> rfl

theorem mixKind_int (prog : Program) (w : World) (i : Int) (t : Tok) : (mixKind prog w).is (.inl i) (.int i t) = true := keyIs_int i t
theorem mixKind_str (prog : Program) (w : World) (x : Str) (t : Tok) : (mixKind prog w).is (.inr x) (.str x t) = true := keyIs_str x t
end L2

namespace L2
open PySem PySem.Spec PyProof.Rows

inductive V where
  | non | bl (b : Bool) | int (i : Int) | str (x : Str) | byt (b : Array UInt8) | flt (b : UInt64) | ref (a : Addr) | ty (n : String)
  deriving DecidableEq

noncomputable def RelV : V → Value → Prop
  | .non, u => u = Value.none
  | .bl b, u => u = Value.bool b
  | .int i, u => ∃ t, u = Value.int i t
  | .str x, u => ∃ t, u = Value.str x t
  | .byt b, u => ∃ t, u = Value.bytes b t
  | .flt b, u => ∃ t, u = Value.float b t
  | .ref a, u => u = Value.ref a
  | .ty n, u => u = Value.type n

noncomputable abbrev Vals : List V → List Value → Prop := Paired RelV
theorem Vals.length {xs : List V} {us : List Value} (r : Vals xs us) : xs.length = us.length := Paired.length r
theorem Vals.get : ∀ {xs : List V} {us : List Value} {i : Nat} {x : V}, Vals xs us → xs[i]? = some x → ∃ u, us[i]? = some u ∧ RelV x u
  | _, _, _, _, .nil, e => by simp at e
  | _, _, 0, _, .cons r _, e => by simp at e; subst e; exact ⟨_, rfl, r⟩
  | _, _, i + 1, x, .cons _ t, e => by
    obtain ⟨u, h1, h2⟩ := Vals.get (i := i) (x := x) t (by simpa using e)
    exact ⟨u, by simpa using h1, h2⟩
theorem Vals.set {x : V} {u : Value} (r : RelV x u) : ∀ {xs : List V} {us : List Value} (i : Nat), Vals xs us → Vals (xs.set i x) (us.set i u)
  | _, _, _, .nil => .nil
  | _, _, 0, .cons _ t => .cons r t
  | _, _, i + 1, .cons q t => .cons q (Vals.set r i t)
theorem Vals.append : ∀ {xs ys : List V} {us ws : List Value}, Vals xs us → Vals ys ws → Vals (xs ++ ys) (us ++ ws)
  | _, _, _, _, .nil, s => s
  | _, _, _, _, .cons r t, s => .cons r (Vals.append t s)
theorem Vals.take : ∀ {xs : List V} {us : List Value} (n : Nat), Vals xs us → Vals (xs.take n) (us.take n)
  | _, _, 0, _ => .nil
  | _, _, _ + 1, .nil => .nil
  | _, _, n + 1, .cons r t => .cons r (Vals.take n t)
theorem Vals.drop : ∀ {xs : List V} {us : List Value} (n : Nat), Vals xs us → Vals (xs.drop n) (us.drop n)
  | _, _, 0, r => r
  | _, _, _ + 1, .nil => .nil
  | _, _, n + 1, .cons _ t => Vals.drop n t
noncomputable def RelO : Option V → Option Value → Prop
  | some v, some u => RelV v u
  | none, none => True
  | _, _ => False
noncomputable def KV {κ : Type} : List (κ × V) → List (κ × Value) → Prop := Paired fun (p : κ × V) (q : κ × Value) => p.1 = q.1 ∧ RelV p.2 q.2

noncomputable def kV : Key → V
  | .inl i => .int i
  | .inr x => .str x

inductive HO where
    | lst (xs : List V)
    | tup (xs : List V)
    | dK (kvs : List (Key × V)) | dT (kvs : List (List Key × V))
    | set (S : Int → Bool) (n : Nat)
    | ins (C dx : Addr) (fs : List (Str × V))
    | own (x : Addr)
    | xd (fs : List (Str × V))
    | met (f x : Addr)
    | rng (lo hi : Int)
    | frz (o : Obj) (u : HO)
    | tbl (ps : Array Value)
    | ext (φ : Heap → Prop)

noncomputable abbrev Hp := Addr → Option HO
noncomputable def upd (H : Hp) (a : Addr) (o : HO) : Hp := fun b => if b = a then some o else H b
theorem upd_same {H : Hp} {a : Addr} {o : HO} : upd H a o a = some o := by unfold upd; rw [if_pos rfl]
theorem upd_ne {H : Hp} {a b : Addr} {o : HO} (h : b ≠ a) : upd H a o b = H b := by unfold upd; rw [if_neg h]
theorem ne_of {H : Hp} {a b : Addr} {o u : HO} (h : H a = some o) (h' : H b = some u) (d : o ≠ u) : a ≠ b := by
  intro e; subst e; rw [h] at h'; exact d (Option.some.inj h')
theorem ne_of_none {H : Hp} {a b : Addr} {o : HO} (h : H a = some o) (h' : H b = none) : a ≠ b := by
  intro e; subst e; rw [h] at h'; cases h'

section
variable (P : Program) (w : World)
noncomputable def ObjOk (H : Hp) (h : Heap) (a : Addr) : HO → Prop
  | .lst xs => xs.length ≤ sizeLine ∧ ∃ (its : List Value) (n : Nat), Vals xs its ∧ h.get? a = some { cls := .type "list", data := .seq its.toArray n }
  | .tup xs => xs.length ≤ sizeLine ∧ ∃ its : List Value, Vals xs its ∧ IsTup h a its.toArray
  | .dK kvs => kvs.length ≤ sizeLine ∧ (a == sysModules) = false ∧ ∃ vs, KV kvs vs ∧ h.DictOf (mixKind P w) a vs
  | .dT kvs => kvs.length ≤ sizeLine ∧ (a == sysModules) = false ∧ ∃ xs : List (List Key × Addr × Value),
      Paired (fun (p : List Key × V) (q : List Key × Addr × Value) => p.1 = q.1 ∧ H q.2.1 = some (.tup (p.1.map kV)) ∧ RelV p.2 q.2.2) kvs xs ∧
      ∃ o es ep, h.get? a = some o ∧ o.ExactDict ∧ o.data = .dict es ep ∧ es.toList = xs.map (entryOfKey (tupleKind (mixKind P w))) ∧ (xs.map (·.1)).Nodup
  | .set S n => h.SetOf (intKind P w) a S n
  | .ins C dx fs => H dx = some (.own a) ∧ fs.length ≤ 1000 ∧ dx ≠ a ∧ h.get? a = some (PySem.W.instObj C dx) ∧
      ∃ mA, h.Ns1 dx mA ∧ (∀ f, RelO (fs.lookup f) (mA f)) ∧ PySem.Within mA (fs.map (·.1))
  | .own _ => ∃ o, h.get? a = some o
  | .xd fs => ∃ mA, h.Ns1 a mA ∧ ∀ f, RelO (fs.lookup f) (mA f)
  | .rng lo hi => ∃ t u v, h.get? a = some { cls := .type "range", data := .fields #[.int lo t, .int hi u, .int 1 v] }
  | .frz o u => h.get? a = some o ∧ ObjOk H h a u
  | .tbl ps => h.get? a = some { cls := .none, data := .fields ps }
  | .met f x => h.get? a = some (PySem.W.methodObj (.ref f) (.ref x))
  | .ext φ => φ h ∧ (∃ o, h.get? a = some o) ∧ ∀ h1 h2 : Heap, φ h1 → (∀ o, h1.get? a = some o → h2.get? a = some o) → φ h2
noncomputable def HOk (H : Hp) (h : Heap) : Prop := ∀ a o, H a = some o → ObjOk P w H h a o
end

section
variable {P : Program} {w : World} {H H' : Hp} {h h' : Heap} {a : Addr} {o : HO}
theorem ObjOk.lt (x : ObjOk P w H h a o) : a < h.objs.size := by
  cases o with
  | lst xs => obtain ⟨_, _, _, _, e⟩ := x; exact Heap.lt_size e
  | tup xs => obtain ⟨_, _, _, p⟩ := x; exact p.lt
  | dK kvs => obtain ⟨_, _, _, _, o, _, _, e, _⟩ := x; exact Heap.lt_size e
  | dT kvs => obtain ⟨_, _, _, _, o, _, _, e, _⟩ := x; exact Heap.lt_size e
  | set S n => obtain ⟨o, _, _, _, e, _⟩ := x; exact Heap.lt_size e
  | ins C dx fs => obtain ⟨_, _, _, e, _⟩ := x; exact Heap.lt_size e
  | own y => obtain ⟨_, e⟩ := x; exact Heap.lt_size e
  | xd fs => obtain ⟨_, ⟨_, _, _, e, _⟩, _⟩ := x; exact Heap.lt_size e
  | rng lo hi => obtain ⟨_, _, _, e⟩ := x; exact Heap.lt_size e
  | frz ob u => obtain ⟨e, _⟩ := x; exact Heap.lt_size e
  | tbl ps => exact Heap.lt_size (show h.get? a = some _ from x)
  | met f y => exact Heap.lt_size (show h.get? a = some _ from x)
  | ext φ => obtain ⟨_, ⟨_, e⟩, _⟩ := x; exact Heap.lt_size e
theorem Paired.mapP {α β : Type} {F G : α → β → Prop} : ∀ {l₁ : List α} {l₂ : List β}, Paired F l₁ l₂ → (∀ a b, F a b → G a b) → Paired G l₁ l₂
  | _, _, .nil, _ => .nil
  | _, _, .cons r t, f => .cons (f _ _ r) (Paired.mapP t f)
theorem ObjOk.stay (x : ObjOk P w H h a o) (k : ∀ b u, (b = a ∨ H b = some (.own a)) → h.get? b = some u → h'.get? b = some u)
    (ho : ∀ b, H b = some (.own a) → H' b = some (.own a)) (ht : ∀ b xs, H b = some (.tup xs) → H' b = some (.tup xs)) : ObjOk P w H' h' a o := by
  induction o with
  | lst xs => obtain ⟨z, its, n, r, e⟩ := x; exact ⟨z, its, n, r, k _ _ (.inl rfl) e⟩
  | tup xs => obtain ⟨z, its, r, ob, e, c⟩ := x; exact ⟨z, its, r, ob, k _ _ (.inl rfl) e, c⟩
  | dK kvs => obtain ⟨z, y, vs, r, ob, es, ep, e, c⟩ := x; exact ⟨z, y, vs, r, ob, es, ep, k _ _ (.inl rfl) e, c⟩
  | dT kvs =>
    obtain ⟨z, y, xs, r, ob, es, ep, e, c⟩ := x
    exact ⟨z, y, xs, Paired.mapP r fun p q z => ⟨z.1, ht _ _ z.2.1, z.2.2⟩, ob, es, ep, k _ _ (.inl rfl) e, c⟩
  | set S n => obtain ⟨ob, es, ep, t, e, c⟩ := x; exact ⟨ob, es, ep, t, k _ _ (.inl rfl) e, c⟩
  | ins C dx fs =>
    obtain ⟨d, z, ne, e, mA, ⟨od, es, ep, e2, c⟩, r⟩ := x
    exact ⟨ho _ d, z, ne, k _ _ (.inl rfl) e, mA, ⟨od, es, ep, k _ _ (.inr d) e2, c⟩, r⟩
  | own y => obtain ⟨ob, e⟩ := x; exact ⟨ob, k _ _ (.inl rfl) e⟩
  | xd fs => obtain ⟨mA, ⟨od, es, ep, e, c⟩, r⟩ := x; exact ⟨mA, ⟨od, es, ep, k _ _ (.inl rfl) e, c⟩, r⟩
  | rng lo hi => obtain ⟨t, u, v, e⟩ := x; exact ⟨t, u, v, k _ _ (.inl rfl) e⟩
  | frz ob u ih => obtain ⟨e, q⟩ := x; exact ⟨k _ _ (.inl rfl) e, ih q⟩
  | tbl ps =>
    have e : h.get? a = some { cls := .none, data := .fields ps } := x
    show h'.get? a = some { cls := .none, data := .fields ps }
    exact k a _ (.inl rfl) e
  | met f y =>
    have e : h.get? a = some (PySem.W.methodObj (.ref f) (.ref y)) := x
    show h'.get? a = some (PySem.W.methodObj (.ref f) (.ref y))
    exact k a _ (.inl rfl) e
  | ext φ => obtain ⟨p, ⟨o, e⟩, st⟩ := x; exact ⟨st _ _ p fun o q => k _ _ (.inl rfl) q, ⟨o, k _ _ (.inl rfl) e⟩, st⟩
theorem HOk.lt (x : HOk P w H h) (e : H a = some o) : a < h.objs.size := (x a o e).lt
theorem HOk.fresh (x : HOk P w H h) (e : h.objs.size ≤ a) : H a = none := by
  cases q : H a with
  | none => rfl
  | some u => exact absurd (Nat.lt_of_lt_of_le (x.lt q) e) (Nat.lt_irrefl _)
theorem HOk.kept (x : HOk P w H h) (k : ∀ b u, h.get? b = some u → h'.get? b = some u) : HOk P w H h' := fun a o e =>
  (x a o e).stay (fun b u _ q => k b u q) (fun _ q => q) fun _ _ q => q
theorem HOk.laid (x : HOk P w H h) (k : ∀ b u, h.get? b = some u → h'.get? b = some u) (hp : h.objs.size ≤ a) (new : ObjOk P w (upd H a o) h' a o) : HOk P w (upd H a o) h' := fun b u e => by
  have hn := x.fresh hp
  by_cases hb : b = a
  · subst hb; rw [upd_same] at e; cases e; exact new
  · rw [upd_ne hb] at e
    exact (x b u e).stay (fun c v _ q => k c v q) (fun c q => by rw [upd_ne (ne_of_none q hn)]; exact q) fun c xs q => by rw [upd_ne (ne_of_none q hn)]; exact q
end

noncomputable def Rd (H : Hp) (a : Addr) (u : HO) : Prop := H a = some u ∨ ∃ o, H a = some (.frz o u)
theorem Rd.ok {P : Program} {w : World} {H : Hp} {h : Heap} {a : Addr} {u : HO} (r : Rd H a u) (x : HOk P w H h) : ObjOk P w H h a u := by
  rcases r with r | ⟨o, r⟩
  · exact x a u r
  · obtain ⟨_, q⟩ := x a _ r
    exact q
noncomputable def Mut : Option HO → Prop
  | some (.lst _) => True
  | some (.dK _) => True
  | some (.dT _) => True
  | some (.set _ _) => True
  | some (.ins _ _ _) => True
  | some (.ext _) => True
  | _ => False
section
variable {P : Program} {w : World} {H : Hp} {h h' : Heap} {x e : Addr} {o' : HO}
theorem HOk.write (ok : HOk P w H h) (mu : Mut (H x)) (he : e = x ∨ H e = some (.own x)) (k : ∀ b u, b ≠ e → h.get? b = some u → h'.get? b = some u) (heo : ∃ u, h'.get? e = some u)
    (new : ObjOk P w (upd H x o') h' x o') : HOk P w (upd H x o') h' := fun b u q => by
  have nown : ∀ c y, H c = some (.own y) → c ≠ x := fun c y r z => by subst z; rw [r] at mu; exact mu
  have ntup : ∀ c xs, H c = some (.tup xs) → c ≠ x := fun c xs r z => by subst z; rw [r] at mu; exact mu
  by_cases hb : b = x
  · subst hb; rw [upd_same] at q; cases q; exact new
  · rw [upd_ne hb] at q
    by_cases hbe : b = e
    · have q' : H b = some (.own x) := by
        rcases he with z | z
        · exact absurd (hbe.trans z) hb
        · rw [hbe]; exact z
      rw [q] at q'; cases q'
      obtain ⟨v, hv⟩ := heo
      exact ⟨v, by rw [hbe]; exact hv⟩
    · refine (ok b u q).stay (fun c v hc r => k c v ?_ r) (fun c r => by rw [upd_ne (nown c b r)]; exact r) fun c xs r => by rw [upd_ne (ntup c xs r)]; exact r
      rcases hc with rfl | hc
      · exact hbe
      · rintro rfl
        rcases he with z | z
        · exact nown c b hc z
        · rw [hc] at z; cases z; exact hb rfl
end

set_option genInjectivity false in
structure Un (fs ex : List Addr) (H H' : Hp) (h h' : Heap) : Prop where
  keep : ∀ b o, h.get? b = some o → H b = none → b ∉ fs → b ∉ ex → h'.get? b = some o
  slot : ∀ b o, h.get? b = some o → H b = none → b ∈ fs → b ∉ ex → ∃ sl, h'.get? b = some { o with slots := sl }
  free : ∀ b o, h.get? b = some o → H b = none → b ∉ ex → H' b = none
  there : ∀ b o, h.get? b = some o → b ∉ ex → ∃ o', h'.get? b = some o'
  tups : ∀ b xs, H b = some (.tup xs) → H' b = some (.tup xs)
  frzs : ∀ b o u, H b = some (.frz o u) → H' b = some (.frz o u)
  tbls : ∀ b ps, H b = some (.tbl ps) → ∃ more, H' b = some (.tbl (ps ++ more))
section
variable {fs fs' ex ex' : List Addr} {H H1 H2 : Hp} {h h1 h2 h' : Heap} {a x e : Addr} {o : HO}
theorem Un.any (u : Un fs ex H H1 h h1) {b : Addr} {ob : Obj} (q : h.get? b = some ob) (n : H b = none) (hx : b ∉ ex) : ∃ sl, h1.get? b = some { ob with slots := sl } := by
  by_cases hb : b ∈ fs
  · exact u.slot b ob q n hb hx
  · exact ⟨ob.slots, u.keep b ob q n hb hx⟩
theorem Un.kept (k : ∀ b u, h.get? b = some u → h'.get? b = some u) : Un fs ex H H h h' :=
  ⟨fun b ob q _ _ _ => k b ob q, fun b ob q _ _ _ => ⟨ob.slots, k b ob q⟩, fun _ _ _ n _ => n, fun b ob q _ => ⟨ob, k b ob q⟩, fun _ _ q => q, fun _ _ _ q => q, fun _ ps q => ⟨#[], by rw [q]; simp⟩⟩
theorem Un.refl : Un fs ex H H h h := Un.kept fun _ _ q => q
theorem Un.laid (k : ∀ b u, h.get? b = some u → h'.get? b = some u) (hp : h.objs.size ≤ a) (hn : H a = none) : Un fs ex H (upd H a o) h h' where
  keep := fun b u q _ _ _ => k b u q
  slot := fun b u q _ _ _ => ⟨u.slots, k b u q⟩
  free := fun b u q n _ => by rw [upd_ne (Nat.ne_of_lt (Nat.lt_of_lt_of_le (Heap.lt_size q) hp))]; exact n
  there := fun b u q _ => ⟨u, k b u q⟩
  tups := fun b xs q => by rw [upd_ne (ne_of_none q hn)]; exact q
  frzs := fun b u xs q => by rw [upd_ne (ne_of_none q hn)]; exact q
  tbls := fun b ps q => ⟨#[], by rw [upd_ne (ne_of_none q hn), q]; simp⟩
theorem Un.write (mu : Mut (H x)) (he : e = x ∨ H e = some (.own x)) (k : ∀ b u, b ≠ e → h.get? b = some u → h'.get? b = some u) (heo : ∃ u, h'.get? e = some u) : Un fs ex H (upd H x o) h h' := by
  have hx : ∀ b, H b = none → b ≠ x := fun b n z => by subst z; rw [n] at mu; exact mu
  have hb : ∀ b, H b = none → b ≠ e := fun b n z => by
    subst z
    rcases he with r | r
    · exact hx b n r
    · rw [n] at r; cases r
  have hm : ∀ b u, H b = some u → ¬ Mut (some u) → b ≠ x := fun b u q nm z => by subst z; rw [q] at mu; exact nm mu
  refine ⟨fun b u q n _ _ => k b u (hb b n) q, fun b u q n _ _ => ⟨u.slots, k b u (hb b n) q⟩, fun b u q n _ => by rw [upd_ne (hx b n)]; exact n, fun b u q _ => ?_,
    fun b xs q => by rw [upd_ne (hm b _ q fun z => z)]; exact q, fun b u xs q => by rw [upd_ne (hm b _ q fun z => z)]; exact q, fun b ps q => ⟨#[], by rw [upd_ne (hm b _ q fun z => z), q]; simp⟩⟩
  by_cases hbe : b = e
  · subst hbe; exact heo
  · exact ⟨u, k b u hbe q⟩
end

noncomputable def trk (h : Heap) (H : Hp) : List Addr := (List.range h.objs.size).filter fun a => (H a).isSome
noncomputable def hidT (h : Heap) (H : Hp) : Heap := PySem.W.hideAll h (trk h H)
theorem hidT_size (h : Heap) (H : Hp) : (hidT h H).objs.size = h.objs.size := PySem.W.hideAll_size _ _
theorem hidT_get {h : Heap} {H : Hp} {b : Addr} {o : Obj} (e : h.get? b = some o) (n : H b = none) : (hidT h H).get? b = some o :=
  PySem.W.hideAll_get _ e fun hm => by
    have q : (H b).isSome = true := (List.mem_filter.mp hm).2
    rw [n] at q; simp at q
theorem of_hidT {h : Heap} {H : Hp} {b : Addr} {o : Obj} (e : (hidT h H).get? b = some o) : h.get? b = some o ∧ H b = none := by
  have e' : h.get? b = some o := PySem.W.of_hideAll (trk h H) e
  refine ⟨e', ?_⟩
  cases q : H b with
  | none => rfl
  | some x =>
    have hm : b ∈ trk h H := List.mem_filter.mpr ⟨List.mem_range.mpr (Heap.lt_size e'), by simp [q]⟩
    have z : (hidT h H).get? b = none := PySem.W.hideAll_none (trk h H) hm
    rw [z] at e; cases e

noncomputable def allNews (g h : Heap) (L : Addr) : List (Addr × Obj) := (List.range h.objs.size).filterMap fun a => if a = L ∨ (g.get? a).isSome = true then none else (h.get? a).map fun o => (a, o)
noncomputable def rest (g h : Heap) (L d : Addr) : List (Addr × Obj) := (allNews g h L).filter fun p => decide (p.1 ≠ d)
end L2

namespace L2
open PySem PySem.Spec PyProof.Rows

set_option genInjectivity false in
structure Mod (K : PySem.W.Frag) (mg : Str → Option Value) (base : Heap) : Prop where
  kin : K.In base
  glob : base.Ns mainGlobals mg
  blt : ∃ mb, base.Ns builtinsNs mb ∧ ∀ x : Str, x ≠ "__name__" → mb x = bootBuiltins x
  nolimit : base.NoLimit

set_option genInjectivity false in
structure Cx where
  prog : Program
  w : World
  K : PySem.W.Frag
  mg : Str → Option Value
  base : Heap
  A : Around
  N : List Str
  s₀ : Shared
  H₀ : Hp
  env : Env
  outer : List Env
  stack : List Env
  ex : List Addr
  fn : Str → Bool
  calm : Bool
  pn : List (Addr × Obj)
  xe : Value → Shared → Prop
noncomputable def frs (l : List Env) : List Addr := l.filterMap (·.frame)
noncomputable abbrev Cx.fs (X : Cx) : List Addr := frs X.outer

noncomputable def Vis (sc : Scope) (x : Str) : Prop := sc.names.lookup x = some .local ∨ sc.names.lookup x = some .cell ∨ sc.names.lookup x = some .free
noncomputable def Loc (sc : Scope) (x : Str) : Prop := sc.names.lookup x = some .local ∨ sc.names.lookup x = some .cell
noncomputable def Look (env : Env) (h : Heap) (m : Str → Option Value) (x : Str) (u : Value) : Prop :=
  (env.kindOf x = some .local ∧ m x = some u) ∨ ((env.kindOf x = some .cell ∨ env.kindOf x = some .free) ∧ ∃ c, env.cells.lookup x = some c ∧ h.IsCell c (some u))

set_option genInjectivity false in
structure Cx.Ok (X : Cx) : Prop where
  mod : Mod X.K X.mg X.base
  kind : X.env.scope.kind = .function
  glob : X.env.globals = mainGlobals
  blt : X.env.builtins = builtinsNs
  above : X.s₀.heap.objs.size ≤ X.env.locals
  inj : ∀ x y c, X.env.cells.lookup x = some c → X.env.cells.lookup y = some c → x = y
  has : ∀ x, (X.env.kindOf x = some .cell ∨ X.env.kindOf x = some .free) → ∃ c, X.env.cells.lookup x = some c
  cab : ∀ x c, X.fn x = true → X.env.cells.lookup x = some c → X.s₀.heap.objs.size ≤ c
  hd : X.calm = true → X.A.handled = none
  frames : X.A.frames = some X.stack
  stk : X.stack = X.outer ∨ (X.stack = X.env :: X.outer ∧ X.env.frame = some X.env.locals)
  exf : ∀ b ∈ X.ex, b ≠ X.env.locals ∧ ∀ x c, X.env.cells.lookup x = some c → c ≠ b
  bs : ∀ b o, X.base.get? b = some o → X.s₀.heap.get? b = some o ∧ X.H₀ b = none
  bsz : X.base.objs.size ≤ X.s₀.heap.objs.size
  noex : ∀ b o, X.base.get? b = some o → b ∉ X.ex
  exfs : ∀ b ∈ X.ex, b ∉ X.fs
  funs : X.s₀.heap.FunFrames X.base X.outer
  frf : ∀ b ∈ X.fs, X.H₀ b = none

set_option genInjectivity false in
structure Inv (X : Cx) (pins : List (Addr × Obj)) (σ : List (Option V)) (H : Hp) (s : Shared) : Prop where
  ok : X.Ok
  os : s.os = X.s₀.os
  bare : AllBare s.gens
  base : Un X.fs X.ex X.H₀ H X.s₀.heap s.heap
  loc : ∃ m, s.heap.Ns X.env.locals m ∧ ∀ (i : Nat) (x : Str) (v : V), X.N[i]? = some x → σ[i]? = some (some v) → Vis X.env.scope x → ∃ u, RelV v u ∧ Look X.env s.heap m x u
  cell : ∀ x c, X.env.cells.lookup x = some c → ∃ v, s.heap.IsCell c v
  free : H X.env.locals = none
  freeC : ∀ x c, X.env.cells.lookup x = some c → H c = none
  pin : ∀ p ∈ X.pn ++ pins, s.heap.get? p.1 = some p.2 ∧ H p.1 = none ∧ p.1 ≠ X.env.locals ∧ p.1 ∉ X.fs ∧ ∀ v, p.2.data ≠ .cell v
  hok : HOk X.prog X.w H s.heap
  len : σ.length = X.N.length

section
variable {X : Cx} {pins : List (Addr × Obj)} {σ : List (Option V)} {H H' : Hp} {s : Shared} {h' : Heap}

theorem Cx.Ok.nofr (ok : X.Ok) {b : Addr} {o : Obj} (e : X.base.get? b = some o) : b ∉ X.fs := fun hb => by
  have := (ok.funs.mem hb).1
  rw [e] at this; cases this
theorem Inv.bs (I : Inv X pins σ H s) : ∀ b o, X.base.get? b = some o → s.heap.get? b = some o ∧ H b = none := fun b o e =>
  ⟨I.base.keep b o (I.ok.bs b o e).1 (I.ok.bs b o e).2 (I.ok.nofr e) (I.ok.noex b o e), I.base.free b o (I.ok.bs b o e).1 (I.ok.bs b o e).2 (I.ok.noex b o e)⟩
theorem Inv.bk (I : Inv X pins σ H s) : ∀ b o, X.base.get? b = some o → s.heap.get? b = some o := fun b o e => (I.bs b o e).1
theorem Inv.mod (I : Inv X pins σ H s) : Mod X.K X.mg X.base := I.ok.mod
theorem Inv.kIn (I : Inv X pins σ H s) : X.K.In s.heap := I.ok.mod.kin.keeps I.bk
theorem Inv.lt (I : Inv X pins σ H s) : X.env.locals < s.heap.objs.size := let ⟨_, hn, _⟩ := I.loc; hn.lt
theorem Inv.sz (I : Inv X pins σ H s) : X.s₀.heap.objs.size ≤ s.heap.objs.size := Nat.le_trans I.ok.above (Nat.le_of_lt I.lt)
theorem Inv.nofs (I : Inv X pins σ H s) {a : Addr} (h : s.heap.objs.size ≤ a) : a ∉ X.fs := fun hb => by
  obtain ⟨_, o, ho, _⟩ := I.ok.funs.mem hb
  exact absurd (Nat.lt_of_lt_of_le (Heap.lt_size ho) (Nat.le_trans I.sz h)) (Nat.lt_irrefl _)
theorem Inv.cne (I : Inv X pins σ H s) : ∀ x c, X.env.cells.lookup x = some c → c ≠ X.env.locals := fun x c e z => by
  obtain ⟨v, o, ho, hd⟩ := I.cell x c e
  obtain ⟨m, ⟨o', es, ep, ho', hd', _⟩, _⟩ := I.loc
  rw [z, ho'] at ho; cases ho; rw [hd'] at hd; cases hd
theorem Inv.funs (I : Inv X pins σ H s) : s.heap.FunFrames X.base X.outer := by
  have all : ∀ (l : List Env), (∀ b ∈ frs l, b ∈ X.fs) → X.s₀.heap.FunFrames X.base l → s.heap.FunFrames X.base l := by
    intro l
    induction l with
    | nil => intro _ _; trivial
    | cons env r ih =>
      intro hs hl
      obtain ⟨hk, ⟨L, o, hf, hn, ho, hd⟩, hr⟩ := hl
      have hL : L ∈ X.fs := hs L (by unfold frs; rw [List.filterMap_cons, hf]; exact List.mem_cons_self)
      obtain ⟨sl, e⟩ := I.base.slot L o ho (I.ok.frf L hL) hL fun z => I.ok.exfs L z hL
      exact ⟨hk, ⟨L, _, hf, hn, e, hd⟩, ih (fun b hb => hs b (by unfold frs; rw [List.filterMap_cons, hf]; exact List.mem_cons_of_mem _ hb)) hr⟩
  exact all X.outer (fun _ hb => hb) I.ok.funs

theorem Inv.stack (I : Inv X pins σ H s) : s.heap.FunFrames X.base X.stack := by
  rcases I.ok.stk with e | ⟨e, hf⟩
  · rw [e]; exact I.funs
  · rw [e]
    obtain ⟨m, hn, _⟩ := I.loc
    refine .cons (by rw [I.ok.kind]; decide) hf hn ?_ I.funs
    exact Heap.get?_none_of_le (Nat.le_trans I.ok.bsz I.ok.above)
theorem Inv.stkSub (I : Inv X pins σ H s) : ∀ b ∈ frs X.stack, b ∈ X.env.locals :: X.fs := fun b hb => by
  rcases I.ok.stk with e | ⟨e, hf⟩
  · rw [e] at hb; exact List.mem_cons_of_mem _ hb
  · rw [e] at hb
    unfold frs at hb
    rw [List.filterMap_cons, hf] at hb
    exact hb
theorem Inv.stkFree (I : Inv X pins σ H s) : ∀ b ∈ frs X.stack, H b = none := fun b hb => by
  rcases List.mem_cons.mp (I.stkSub b hb) with e | hb
  · rw [e]; exact I.free
  · obtain ⟨_, o, ho, _⟩ := I.ok.funs.mem hb
    exact I.base.free b o ho (I.ok.frf b hb) fun z => I.ok.exfs b z hb

theorem Inv.step {g' : Array GenState} {t' : Nat} {d' : Drawn} {ch : List Addr} (I : Inv X pins σ H s)
    (hch : ∀ b ∈ ch, (b ∈ X.ex ∨ X.s₀.heap.objs.size ≤ b) ∧ b ≠ X.env.locals ∧ (∀ x c, X.env.cells.lookup x = some c → c ≠ b) ∧ ∀ p ∈ X.pn ++ pins, p.1 ≠ b)
    (keep : ∀ b o, b ≠ X.env.locals → b ∉ X.fs → b ∉ ch → s.heap.get? b = some o → H b = none → h'.get? b = some o)
    (slot : ∀ b o, b ≠ X.env.locals → b ∈ X.fs → b ∉ ch → s.heap.get? b = some o → H b = none → ∃ sl, h'.get? b = some { o with slots := sl }) (free : ∀ b o, b ∉ ch → s.heap.get? b = some o → H b = none → H' b = none)
    (there : ∀ b o, b ∉ ch → s.heap.get? b = some o → ∃ o', h'.get? b = some o')
    (tups : ∀ b xs, H b = some (.tup xs) → H' b = some (.tup xs)) (frzs : ∀ b o u, H b = some (.frz o u) → H' b = some (.frz o u)) (tbls : ∀ b ps, H b = some (.tbl ps) → ∃ more, H' b = some (.tbl (ps ++ more)))
    (ns : ∀ m, s.heap.Ns X.env.locals m → h'.Ns X.env.locals m) (hok : HOk X.prog X.w H' h') (hg : AllBare g') :
    Inv X pins σ H' { s with heap := h', gens := g', drawn := d', toks := t' } := by
  have neL : ∀ b o, X.s₀.heap.get? b = some o → b ≠ X.env.locals := fun b o e => Nat.ne_of_lt (Nat.lt_of_lt_of_le (Heap.lt_size e) I.ok.above)
  have neC : ∀ b o, X.s₀.heap.get? b = some o → b ∉ X.ex → b ∉ ch := fun b o e hx hb => by
    rcases (hch b hb).1 with z | z
    · exact hx z
    · exact absurd (Nat.lt_of_lt_of_le (Heap.lt_size e) z) (Nat.lt_irrefl _)
  have cellK : ∀ x c, X.env.cells.lookup x = some c → ∀ v, s.heap.IsCell c v → h'.IsCell c v := fun x c e v ⟨o, ho, hd⟩ => by
    have nch : c ∉ ch := fun z => (hch c z).2.2.1 x c e rfl
    by_cases hc : c ∈ X.fs
    · obtain ⟨sl, q⟩ := slot c o (I.cne x c e) hc nch ho (I.freeC x c e)
      exact ⟨_, q, hd⟩
    · exact ⟨o, keep c o (I.cne x c e) hc nch ho (I.freeC x c e), hd⟩
  refine ⟨I.ok, I.os, hg, ⟨fun b o e n hb hx => ?_, fun b o e n hb hx => ?_, fun b o e n hx => ?_, fun b o e hx => ?_, fun b xs e => tups b xs (I.base.tups b xs e), fun b o xs e => frzs b o xs (I.base.frzs b o xs e), fun b ps e => ?_⟩, ?_, fun x c e => ?_, ?_, fun x c e => ?_, fun p hp => ?_, hok, I.len⟩
  · exact keep b o (neL b o e) hb (neC b o e hx) (I.base.keep b o e n hb hx) (I.base.free b o e n hx)
  · obtain ⟨sl, e1⟩ := I.base.slot b o e n hb hx
    obtain ⟨sl', e2⟩ := slot b _ (neL b o e) hb (neC b o e hx) e1 (I.base.free b o e n hx)
    exact ⟨sl', e2⟩
  · obtain ⟨o', e1⟩ := I.base.there b o e hx
    exact free b o' (neC b o e hx) e1 (I.base.free b o e n hx)
  · obtain ⟨o', e1⟩ := I.base.there b o e hx
    exact there b o' (neC b o e hx) e1
  · obtain ⟨m1, e1⟩ := I.base.tbls b ps e
    obtain ⟨m2, e2⟩ := tbls b _ e1
    exact ⟨m1 ++ m2, by rw [e2, Array.append_assoc]⟩
  · obtain ⟨m, hn, hl⟩ := I.loc
    refine ⟨m, ns m hn, fun i x v e1 e2 e3 => ?_⟩
    obtain ⟨u, r, l⟩ := hl i x v e1 e2 e3
    refine ⟨u, r, ?_⟩
    rcases l with l | ⟨k, c, e, z⟩
    · exact .inl l
    · exact .inr ⟨k, c, e, cellK x c e _ z⟩
  · obtain ⟨v, z⟩ := I.cell x c e
    exact ⟨v, cellK x c e v z⟩
  · obtain ⟨m, ⟨o, _, _, ho, _⟩, _⟩ := I.loc
    exact free _ o (fun z => (hch _ z).2.1 rfl) ho I.free
  · obtain ⟨v, o, ho, hd⟩ := I.cell x c e
    exact free c o (fun z => (hch c z).2.2.1 x c e rfl) ho (I.freeC x c e)
  · obtain ⟨e, n, ne, nf, d⟩ := I.pin p hp
    have nch : p.1 ∉ ch := fun z => (hch p.1 z).2.2.2 p hp rfl
    exact ⟨keep p.1 p.2 ne nf nch e n, free p.1 p.2 nch e n, ne, nf, d⟩
theorem Inv.un {t' : Nat} (I : Inv X pins σ H s) (u : Un X.fs [] H H' s.heap h') (hok : HOk X.prog X.w H' h') : Inv X pins σ H' { s with heap := h', toks := t' } := by
  obtain ⟨m, ⟨o, es, ep, ho, r⟩, _⟩ := id I.loc
  obtain ⟨sl, hL⟩ := u.any ho I.free (by simp)
  exact I.step (g' := s.gens) (d' := s.drawn) (ch := []) (fun _ z => nomatch z) (fun b o _ hb _ e n => u.keep b o e n hb (by simp)) (fun b o _ hb _ e n => u.slot b o e n hb (by simp)) (fun b o _ e n => u.free b o e n (by simp)) (fun b o _ e => u.there b o e (by simp)) u.tups u.frzs u.tbls (fun m' hm => by
    obtain ⟨o', es', ep', ho', r'⟩ := hm
    rw [ho] at ho'; cases ho'
    exact ⟨_, es', ep', hL, r'⟩) hok I.bare
theorem Inv.call {g' : Array GenState} {t' : Nat} {d' : Drawn} {ch : List Addr} (I : Inv X pins σ H s) (u : Un (frs X.stack) ch H H' s.heap h') (hok : HOk X.prog X.w H' h') (hg : AllBare g')
    (hch : ∀ b ∈ ch, (b ∈ X.ex ∨ X.s₀.heap.objs.size ≤ b) ∧ b ≠ X.env.locals ∧ (∀ x c, X.env.cells.lookup x = some c → c ≠ b) ∧ ∀ p ∈ X.pn ++ pins, p.1 ≠ b) :
    Inv X pins σ H' { s with heap := h', gens := g', drawn := d', toks := t' } := by
  obtain ⟨m, ⟨o, es, ep, ho, r⟩, _⟩ := id I.loc
  obtain ⟨sl, hL⟩ := u.any ho I.free fun z => (hch _ z).2.1 rfl
  exact I.step (ch := ch) hch (fun b o hL hb hc e n => u.keep b o e n (fun z => (List.mem_cons.mp (I.stkSub b z)).elim hL hb) hc) (fun b o _ _ hc e n => u.any e n hc) (fun b o hc e n => u.free b o e n hc) (fun b o hc e => u.there b o e hc) u.tups u.frzs u.tbls (fun m' hm => by
    obtain ⟨o', es', ep', ho', r'⟩ := hm
    rw [ho] at ho'; cases ho'
    exact ⟨_, es', ep', hL, r'⟩) hok hg
theorem Inv.turned {t' : Nat} {it : Addr} (I : Inv X pins σ H s) (k : ∀ b o, b ≠ it → s.heap.get? b = some o → h'.get? b = some o) (hn : H it = none) (hL : it ≠ X.env.locals)
    (h1 : it ∈ X.ex ∨ X.s₀.heap.objs.size ≤ it) (h2 : ∀ x c, X.env.cells.lookup x = some c → c ≠ it) (h3 : ∀ p ∈ X.pn ++ pins, p.1 ≠ it) : Inv X pins σ H { s with heap := h', toks := t' } := by
  have nit : ∀ b u, H b = some u → b ≠ it := fun b u e z => by rw [z, hn] at e; cases e
  refine I.step (g' := s.gens) (d' := s.drawn) (ch := [it]) (fun b hb => ?_) (fun b o _ _ hc e _ => k b o (fun z => hc (by simp [z])) e) (fun b o _ _ hc e _ => ⟨o.slots, k b o (fun z => hc (by simp [z])) e⟩) (fun _ _ _ _ n => n)
    (fun b o hc e => ⟨o, k b o (fun z => hc (by simp [z])) e⟩) (fun _ _ e => e) (fun _ _ _ e => e) (fun b ps e => ⟨#[], by rw [e]; simp⟩) (fun m hm => ?_) (fun b u e => ?_) I.bare
  · have e : b = it := by simpa using hb
    subst e
    exact ⟨h1, hL, h2, h3⟩
  · obtain ⟨o, es, ep, ho, r⟩ := hm
    exact ⟨o, es, ep, k _ o (Ne.symm hL) ho, r⟩
  · refine (I.hok b u e).stay (fun c v hc q => k c v ?_ q) (fun _ q => q) fun _ _ q => q
    rcases hc with z | z
    · rw [z]; exact nit b u e
    · exact nit c _ z
theorem Inv.tok (I : Inv X pins σ H s) (t : Nat) : Inv X pins σ H { s with toks := t } := I.un (h' := s.heap) (t' := t) Un.refl I.hok
theorem Inv.kept {t' : Nat} (I : Inv X pins σ H s) (k : ∀ b u, s.heap.get? b = some u → h'.get? b = some u) : Inv X pins σ H { s with heap := h', toks := t' } := I.un (Un.kept k) (I.hok.kept k)
theorem Inv.laid {a : Addr} {o : HO} {t' : Nat} (I : Inv X pins σ H s) (k : ∀ b u, s.heap.get? b = some u → h'.get? b = some u) (hp : s.heap.objs.size ≤ a) (new : ObjOk X.prog X.w (upd H a o) h' a o) :
    Inv X pins σ (upd H a o) { s with heap := h', toks := t' } := I.un (Un.laid k hp (I.hok.fresh hp)) (I.hok.laid k hp new)
theorem Inv.write {x e : Addr} {o : HO} {t' : Nat} (I : Inv X pins σ H s) (mu : Mut (H x)) (he : e = x ∨ H e = some (.own x)) (k : ∀ b u, b ≠ e → s.heap.get? b = some u → h'.get? b = some u) (heo : ∃ u, h'.get? e = some u)
    (new : ObjOk X.prog X.w (upd H x o) h' x o) : Inv X pins σ (upd H x o) { s with heap := h', toks := t' } := I.un (Un.write mu he k heo) (I.hok.write mu he k heo new)
theorem Inv.pins_of {pins' : List (Addr × Obj)} (I : Inv X pins σ H s) (h : ∀ p ∈ pins', s.heap.get? p.1 = some p.2 ∧ H p.1 = none ∧ p.1 ≠ X.env.locals ∧ p.1 ∉ X.fs ∧ ∀ v, p.2.data ≠ .cell v) : Inv X pins' σ H s :=
  ⟨I.ok, I.os, I.bare, I.base, I.loc, I.cell, I.free, I.freeC, fun p hp => (List.mem_append.mp hp).elim (fun z => I.pin p (List.mem_append_left _ z)) (h p), I.hok, I.len⟩

theorem nodup_ix {N : List Str} (hN : N.Nodup) {i j : Nat} {x : Str} (a : N[i]? = some x) (b : N[j]? = some x) : i = j := by
  obtain ⟨h1, e1⟩ := List.getElem?_eq_some_iff.mp a
  obtain ⟨h2, e2⟩ := List.getElem?_eq_some_iff.mp b
  exact (List.getElem_inj hN).mp (e1.trans e2.symm)

theorem store_ok2 {M : Model} {A : Around} {E : Value → Shared → Prop} {i : Nat} {x : Str} {v : V} {u : Value} {Q : Unit → Shared → Prop} (I : Inv X pins σ H s) (hN : X.N.Nodup) (hi : X.N[i]? = some x) (hx : Loc X.env.scope x) (r : RelV v u)
    (h : ∀ s', Inv X pins (σ.set i (some v)) H s' → (∃ a, Heap.SameBut a s.heap s'.heap ∧ (a = X.env.locals ∨ X.env.cells.lookup x = some a)) → Q () s') (hf : X.fn x = true ∨ X.env.scope.names.lookup x = some .local := by first | exact .inl rfl | exact .inr rfl | assumption) : wpAny M A (storeName X.env x u) Q E s := by
  obtain ⟨m, hn, hl⟩ := id I.loc
  have hcls : (X.env.scope.kind == .class || (X.env.scope.kind == .module && X.env.locals != X.env.globals)) = false := by rw [I.ok.kind]; rfl
  have hiσ : i < σ.length := by rw [I.len]; exact (List.getElem?_eq_some_iff.mp hi).1
  have cne := I.cne
  have tracked : ∀ {a : Addr} {h' : Heap}, (∃ o, s.heap.get? a = some o ∧ H a = none) → Heap.SameBut a s.heap h' → HOk X.prog X.w H h' := fun {a h'} ha hs b ob e => by
    obtain ⟨_, _, hfree⟩ := ha
    refine (I.hok b ob e).stay (fun c w' hc q => (hs.2 c ?_).trans q) (fun _ q => q) fun _ _ q => q
    rintro rfl
    rcases hc with rfl | hc
    · rw [hfree] at e; cases e
    · rw [hfree] at hc; cases hc
  rcases hx with hk | hk
  · refine wpAny_storeName_local hk hn (fun h' hn' hs => ?_) hcls
    obtain ⟨oL, _, _, hoL, _⟩ := id hn
    refine h _ ⟨I.ok, I.os, I.bare, ⟨fun b o e n hb hx => ?_, fun b o e n hb hx => ?_, I.base.free, fun b o e hx => ?_, I.base.tups, I.base.frzs, I.base.tbls⟩, ⟨_, hn', fun j y v' e1 e2 e3 => ?_⟩, fun y c e => ?_, I.free, I.freeC, fun p hp => ?_, tracked ⟨oL, hoL, I.free⟩ hs, by simpa using I.len⟩ ⟨_, hs, .inl rfl⟩
    · exact (hs.2 b (Nat.ne_of_lt (Nat.lt_of_lt_of_le (Heap.lt_size e) I.ok.above))).trans (I.base.keep b o e n hb hx)
    · obtain ⟨sl, e1⟩ := I.base.slot b o e n hb hx
      exact ⟨sl, (hs.2 b (Nat.ne_of_lt (Nat.lt_of_lt_of_le (Heap.lt_size e) I.ok.above))).trans e1⟩
    · obtain ⟨o', e1⟩ := I.base.there b o e hx
      exact ⟨o', (hs.2 b (Nat.ne_of_lt (Nat.lt_of_lt_of_le (Heap.lt_size e) I.ok.above))).trans e1⟩
    · by_cases hj : j = i
      · subst hj
        rw [hi] at e1; cases e1
        rw [List.getElem?_set_self hiσ] at e2
        cases e2
        exact ⟨u, r, .inl ⟨hk, by simp⟩⟩
      · rw [List.getElem?_set_ne (Ne.symm hj)] at e2
        obtain ⟨u', r', q⟩ := hl j y v' e1 e2 e3
        refine ⟨u', r', ?_⟩
        rcases q with ⟨k, e⟩ | ⟨k, c, e, z⟩
        · refine .inl ⟨k, ?_⟩
          have : y ≠ x := fun e => hj (nodup_ix hN e1 (e ▸ hi))
          simp [this, e]
        · exact .inr ⟨k, c, e, z.sameBut hs (cne y c e)⟩
    · obtain ⟨w', z⟩ := I.cell y c e
      exact ⟨w', z.sameBut hs (cne y c e)⟩
    · obtain ⟨e, n, ne, nf, d⟩ := I.pin p hp
      exact ⟨(hs.2 p.1 ne).trans e, n, ne, nf, d⟩
  · have hfn : X.fn x = true := by
      rcases hf with z | z
      · exact z
      · rw [z] at hk; cases hk
    obtain ⟨c, hc⟩ := I.ok.has x (.inl hk)
    obtain ⟨w', z⟩ := I.cell x c hc
    refine wpAny_storeName_cell I.ok.kind hk hc z (fun h' hc' hs => ?_)
    obtain ⟨oc, hoc, hocd⟩ := id z
    refine h { s with heap := h' } ⟨I.ok, I.os, I.bare, ⟨fun b o e n hb hx => ?_, fun b o e n hb hx => ?_, I.base.free, fun b o e hx => ?_, I.base.tups, I.base.frzs, I.base.tbls⟩, ⟨m, hn.sameBut hs (Ne.symm (cne x c hc)), fun j y v' e1 e2 e3 => ?_⟩, fun y c' e => ?_, I.free, I.freeC, fun p hp => ?_, tracked ⟨oc, hoc, I.freeC x c hc⟩ hs, by simpa using I.len⟩ ⟨c, hs, .inr hc⟩
    · exact (hs.2 b (Nat.ne_of_lt (Nat.lt_of_lt_of_le (Heap.lt_size e) (I.ok.cab x c hfn hc)))).trans (I.base.keep b o e n hb hx)
    · obtain ⟨sl, e1⟩ := I.base.slot b o e n hb hx
      exact ⟨sl, (hs.2 b (Nat.ne_of_lt (Nat.lt_of_lt_of_le (Heap.lt_size e) (I.ok.cab x c hfn hc)))).trans e1⟩
    · obtain ⟨o', e1⟩ := I.base.there b o e hx
      exact ⟨o', (hs.2 b (Nat.ne_of_lt (Nat.lt_of_lt_of_le (Heap.lt_size e) (I.ok.cab x c hfn hc)))).trans e1⟩
    · by_cases hj : j = i
      · subst hj
        rw [hi] at e1; cases e1
        rw [List.getElem?_set_self hiσ] at e2
        cases e2
        exact ⟨u, r, .inr ⟨.inl hk, c, hc, hc'⟩⟩
      · rw [List.getElem?_set_ne (Ne.symm hj)] at e2
        obtain ⟨u', r', q⟩ := hl j y v' e1 e2 e3
        refine ⟨u', r', ?_⟩
        rcases q with q | ⟨k, c', e, z'⟩
        · exact .inl q
        · refine .inr ⟨k, c', e, z'.sameBut hs ?_⟩
          rintro rfl
          exact hj (nodup_ix hN e1 (I.ok.inj _ _ _ e hc ▸ hi))
    · by_cases hcc : c' = c
      · subst hcc; exact ⟨_, hc'⟩
      · obtain ⟨w2, z2⟩ := I.cell y c' e
        exact ⟨w2, z2.sameBut hs hcc⟩
    · obtain ⟨e, n, ne, nf, d⟩ := I.pin p hp
      refine ⟨(hs.2 p.1 ?_).trans e, n, ne, nf, d⟩
      intro q
      rw [q, hoc] at e
      have q' : oc = p.2 := Option.some.inj e
      exact d w' (by rw [← q']; exact hocd)
theorem store_ok {M : Model} {A : Around} {E : Value → Shared → Prop} {i : Nat} {x : Str} {v : V} {u : Value} {Q : Unit → Shared → Prop} (I : Inv X pins σ H s) (hN : X.N.Nodup) (hi : X.N[i]? = some x) (hx : Loc X.env.scope x) (r : RelV v u)
    (h : ∀ s', Inv X pins (σ.set i (some v)) H s' → Q () s') (hf : X.fn x = true ∨ X.env.scope.names.lookup x = some .local := by first | exact .inl rfl | exact .inr rfl | assumption) : wpAny M A (storeName X.env x u) Q E s :=
  store_ok2 I hN hi hx r (fun s' I' _ => h s' I') hf
theorem Inv.call' {s' : Shared} {ch : List Addr} (I : Inv X pins σ H s) (ho : s'.os = s.os) (u : Un (frs X.stack) ch H H' s.heap s'.heap) (hok : HOk X.prog X.w H' s'.heap) (hg : AllBare s'.gens)
    (hch : ∀ b ∈ ch, (b ∈ X.ex ∨ X.s₀.heap.objs.size ≤ b) ∧ b ≠ X.env.locals ∧ (∀ x c, X.env.cells.lookup x = some c → c ≠ b) ∧ ∀ p ∈ X.pn ++ pins, p.1 ≠ b) : Inv X pins σ H' s' := by
  obtain ⟨h', g', d', t', o'⟩ := s'
  have e : o' = s.os := ho
  subst e
  exact I.call (g' := g') (t' := t') (d' := d') u hok hg hch
end

noncomputable abbrev XK := Value → Option Addr → Hp → Prop
noncomputable abbrev St := List (Option V)
noncomputable abbrev VK := V → Hp → Prop
noncomputable abbrev TE := St → Hp → VK → Prop
noncomputable abbrev TT := St → Hp → (Bool → Hp → Prop) → Prop
noncomputable abbrev TA := St → Hp → (List V → Hp → Prop) → Prop
set_option genInjectivity false in
structure Ends where
  nx : St → Hp → Prop
  rt : VK
  bk : St → Hp → Prop := fun _ _ => False
  ct : St → Hp → Prop := fun _ _ => False
noncomputable abbrev TS := Ends → St → Hp → Prop

noncomputable def EP (X : Cx) (pins : List (Addr × Obj)) (σ : St) (Q : VK) (u : Value) (s' : Shared) : Prop := ∃ v H', Inv X pins σ H' s' ∧ RelV v u ∧ Q v H'
noncomputable def TP (X : Cx) (pins : List (Addr × Obj)) (σ : St) (Q : Bool → Hp → Prop) (b : Bool) (s' : Shared) : Prop := ∃ H', Inv X pins σ H' s' ∧ Q b H'
noncomputable def AP (X : Cx) (pins : List (Addr × Obj)) (σ : St) (Q : List V → Hp → Prop) (us : List Value) (s' : Shared) : Prop := ∃ vs H', Inv X pins σ H' s' ∧ Vals vs us ∧ Q vs H'
noncomputable def SP (X : Cx) (pins : List (Addr × Obj)) (D : Ends) (f : Flow) (s' : Shared) : Prop :=
  match f with
  | .next => ∃ σ' H', Inv X pins σ' H' s' ∧ D.nx σ' H'
  | .brk => ∃ σ' H', Inv X pins σ' H' s' ∧ D.bk σ' H'
  | .cont => ∃ σ' H', Inv X pins σ' H' s' ∧ D.ct σ' H'
  | .ret u => ∃ v σ' H', Inv X pins σ' H' s' ∧ RelV v u ∧ D.rt v H'

noncomputable def PE (X : Cx) (e : Expr) (t : TE) : Prop :=
  ∀ (pins : List (Addr × Obj)) (s : Shared) (σ : St) (H : Hp) (Q : VK), Inv X pins σ H s → t σ H Q → wpAny (model X.prog X.w) X.A (eval e X.env) (EP X pins σ Q) X.xe s
noncomputable def PT (X : Cx) (e : Expr) (t : TT) : Prop :=
  ∀ (pins : List (Addr × Obj)) (s : Shared) (σ : St) (H : Hp) (Q : Bool → Hp → Prop), Inv X pins σ H s → t σ H Q → wpAny (model X.prog X.w) X.A (isTrue e X.env (eval e X.env)) (TP X pins σ Q) X.xe s
noncomputable def PW (X : Cx) (e : Expr) (t : TT) : Prop :=
  ∀ (whole : Sem Value) (pins : List (Addr × Obj)) (s : Shared) (σ : St) (H : Hp) (Q : Bool → Hp → Prop), Inv X pins σ H s → t σ H Q → wpAny (model X.prog X.w) X.A (isTrue e X.env whole) (TP X pins σ Q) X.xe s
theorem PW.pt {X : Cx} {e : Expr} {t : TT} (h : PW X e t) : PT X e t := h _
noncomputable def PA (X : Cx) (es : List Expr) (t : TA) : Prop :=
  ∀ (pos : Pos) (pins : List (Addr × Obj)) (s : Shared) (σ : St) (H : Hp) (Q : List V → Hp → Prop), Inv X pins σ H s → t σ H Q → wpAny (model X.prog X.w) X.A (spliced (backTo pos (starEach es X.env))) (AP X pins σ Q) X.xe s
noncomputable def PS (X : Cx) (st : Stmt) (t : TS) : Prop :=
  ∀ (pins : List (Addr × Obj)) (s : Shared) (σ : St) (H : Hp) (D : Ends), Inv X pins σ H s → t D σ H → wpAny (model X.prog X.w) X.A (exec st X.env) (SP X pins D) X.xe s
noncomputable def PSs (X : Cx) (st : List Stmt) (t : TS) : Prop :=
  ∀ (pins : List (Addr × Obj)) (s : Shared) (σ : St) (H : Hp) (D : Ends), Inv X pins σ H s → t D σ H → wpAny (model X.prog X.w) X.A (execs st X.env) (SP X pins D) X.xe s
theorem thn {α : Type} {t : Sem α} {Q Q' : α → Shared → Prop} {M : Model} {A : Around} {E : Value → Shared → Prop} {s : Shared} (h : wpAny M A t Q E s) (hQ : ∀ a s, Q a s → Q' a s) : wpAny M A t Q' E s := wpAny_mono h hQ fun _ _ x => x
end L2

namespace L2
open PySem PySem.Spec PyProof.Rows
section
variable {X : Cx}

noncomputable def tVar (i : Nat) : TE := fun σ H Q => ∃ v, σ[i]? = some (some v) ∧ Q v H
noncomputable def tC (v : V) : TE := fun _ H Q => Q v H
theorem pe_var {i : Nat} {x : Str} {pos : Pos} (hN : X.N[i]? = some x) (hv : Vis X.env.scope x) (hd : (x == ("__debug__" : Str)) = false := by decide) (hcd : (x == ("__classdict__" : Str)) = false := by decide) : PE X (.Name x pos) (tVar i) := by
  intro pins s σ H Q I h
  obtain ⟨v, e, h⟩ := h
  obtain ⟨m, hn, hl⟩ := I.loc
  obtain ⟨u, r, l⟩ := hl i x v hN e hv
  have fin : EP X pins σ Q u s := ⟨v, H, I, r, h⟩
  rcases l with ⟨hk, hm⟩ | ⟨hk, c, hc, hcell⟩
  · exact wpAny_Name (wpAny_loadName_local I.ok.kind hk hn hm fin) hd
  · rcases hk with hk | hk
    · exact wpAny_Name (wpAny_loadName_cell I.ok.kind hk hc hcell fin) hd
    · exact wpAny_Name (wpAny_loadName_free I.ok.kind hk hc hcell fin hcd) hd
theorem pe_int {i j pos} : PE X (.Constant (.int i) j pos) (tC (.int i)) := fun _ _ _ H _ I h => wpAny_Constant_int ⟨.int i, H, I.tok _, ⟨_, rfl⟩, h⟩
theorem pe_bl {b j pos} : PE X (.Constant (.bool b) j pos) (tC (.bl b)) := fun _ _ _ H _ I h => Constant_bool ⟨.bl b, H, I, rfl, h⟩
theorem pe_non {j pos} : PE X (.Constant .none j pos) (tC .non) := fun _ _ _ H _ I h => Constant_none ⟨.non, H, I, rfl, h⟩
theorem pe_str {x j pos} : PE X (.Constant (.str x) j pos) (tC (.str x)) := fun _ _ _ H _ I h => Calls.Constant_str ⟨.str x, H, I.tok _, ⟨_, rfl⟩, h⟩

noncomputable def Gl (X : Cx) (x : Str) : Prop := X.env.kindOf x = some .globalImplicit
theorem ld_glob {E : Value → Shared → Prop} {pins : List (Addr × Obj)} {s : Shared} {σ : St} {H : Hp} {x : Str} {u : Value} {pos : Pos} {Q : Value → Shared → Prop} (I : Inv X pins σ H s) (hg : Gl X x) (hm : X.mg x = some u) (h : Q u s)
    (hd : (x == ("__debug__" : Str)) = false := by decide) : wpAny (model X.prog X.w) X.A (eval (.Name x pos) X.env) Q E s :=
  Calls.Name_function_global I.ok.kind hg (Calls.loadGlobal_global (by rw [I.ok.glob]; exact I.mod.glob.keeps I.bk) hm h) hd
theorem ld_blt {E : Value → Shared → Prop} {pins : List (Addr × Obj)} {s : Shared} {σ : St} {H : Hp} {x : Str} {u : Value} {pos : Pos} {Q : Value → Shared → Prop} (I : Inv X pins σ H s) (hg : Gl X x) (hm : X.mg x = none) (hv : bootBuiltins x = some u) (h : Q u s)
    (hn : x ≠ "__name__" := by decide) (hd : (x == ("__debug__" : Str)) = false := by decide) : wpAny (model X.prog X.w) X.A (eval (.Name x pos) X.env) Q E s := by
  obtain ⟨mb, h1, h2⟩ := I.mod.blt
  exact Calls.Name_function_global I.ok.kind hg (Calls.loadGlobal_builtin (by rw [I.ok.glob]; exact I.mod.glob.keeps I.bk) hm (by rw [I.ok.blt]; exact h1.keeps I.bk) ((h2 x hn).trans hv) h) hd
theorem pe_glob {x : Str} {v : V} {u : Value} {pos : Pos} (hg : Gl X x) (hm : X.mg x = some u) (r : RelV v u) (hd : (x == ("__debug__" : Str)) = false := by decide) : PE X (.Name x pos) (tC v) :=
  fun _ _ _ H _ I h => ld_glob I hg hm ⟨v, H, I, r, h⟩ hd
theorem pe_bltn {x : Str} {v : V} {u : Value} {pos : Pos} (hg : Gl X x) (hm : X.mg x = none) (hv : bootBuiltins x = some u) (r : RelV v u) (hn : x ≠ "__name__" := by decide) (hd : (x == ("__debug__" : Str)) = false := by decide) : PE X (.Name x pos) (tC v) :=
  fun _ _ _ H _ I h => ld_blt I hg hm hv ⟨v, H, I, r, h⟩ hn hd

variable {a b : Expr} {ta tb : TE} {pos : Pos}
noncomputable def PC (X : Cx) (op : CmpOp) (a b : Expr) (t : TE) : Prop :=
  ∀ (pins : List (Addr × Obj)) (s : Shared) (σ : St) (H : Hp) (Q : VK), Inv X pins σ H s → t σ H Q →
    wpAny (model X.prog X.w) X.A (eval a X.env) (fun v s₁ => wpAny (model X.prog X.w) X.A (eval b X.env) (fun u s₂ => wpAny (model X.prog X.w) X.A (compareOp op v u) (EP X pins σ Q) X.xe s₂) X.xe s₁) X.xe s
noncomputable def tB (t : TE) : TT := fun σ H Q => t σ H fun x H1 => ∃ c, x = .bl c ∧ Q c H1
theorem pt_cmp {op : CmpOp} {t : TE} (h : PC X op a b t) (h1 : behindInMarks op b = false := by first | exact nobehind _ (by decide) (by decide) | rfl) : PT X (.Compare a [op] [b] pos) (tB t) := by
  intro pins s σ H Q I hw
  refine wpAny_isTrue_Compare1 (thn (h pins s σ H _ I hw) fun v s1 h1 => thn h1 fun u s2 h2 => thn h2 fun c s3 ⟨x, H1, I1, r1, q1⟩ => ?_) h1
  obtain ⟨d, rfl, q⟩ := q1
  cases r1
  exact wpAny_truthy_bool ⟨H1, I1, q⟩
theorem pt_val {e : Expr} {t : TE} (h : PE X e t) (he : ∀ whole, isTrue e X.env whole = (do let v ← whole; standAt e.pos; holding [v] (truthy v)) := by intro _; rfl) : PT X e (tB t) := by
  intro pins s σ H Q I hw
  refine isTrue_plain (thn (h pins s σ H _ I hw) fun v s1 ⟨x, H1, I1, r1, q1⟩ => ?_) (he _)
  obtain ⟨d, rfl, q⟩ := q1
  cases r1
  exact wpAny_truthy_bool ⟨H1, I1, q⟩

variable {tA tB' : TT} {rest : List Expr}
noncomputable def tAnd (t u : TT) : TT := fun σ H Q => t σ H fun c H1 => if c = true then u σ H1 Q else Q false H1
noncomputable def tOr (t u : TT) : TT := fun σ H Q => t σ H fun c H1 => if c = true then Q true H1 else u σ H1 Q
noncomputable def tNot (t : TT) : TT := fun σ H Q => t σ H fun c H1 => Q (!c) H1
theorem pw_and1 (ha : PT X a tA) : PW X (.BoolOp .And [a] pos) tA := by
  intro wh pins s σ H Q I h
  refine isTrue_and (thn (ha pins s σ H Q I h) fun c s1 e => ?_)
  cases c with
  | true => exact isTrue_and_nil e
  | false => exact e
theorem pw_or1 (ha : PT X a tA) : PW X (.BoolOp .Or [a] pos) tA := by
  intro wh pins s σ H Q I h
  refine isTrue_or (thn (ha pins s σ H Q I h) fun c s1 e => ?_)
  cases c with
  | false => exact isTrue_or_nil e
  | true => exact e
theorem pw_and (ha : PT X a tA) (hb : PW X (.BoolOp .And (b :: rest) pos) tB') : PW X (.BoolOp .And (a :: b :: rest) pos) (tAnd tA tB') := by
  intro wh pins s σ H Q I h
  refine isTrue_and (thn (ha pins s σ H _ I h) fun c s1 ⟨H1, I1, q1⟩ => ?_)
  cases c with
  | true => exact hb wh pins s1 σ H1 Q I1 q1
  | false => exact ⟨H1, I1, q1⟩
theorem pw_or (ha : PT X a tA) (hb : PW X (.BoolOp .Or (b :: rest) pos) tB') : PW X (.BoolOp .Or (a :: b :: rest) pos) (tOr tA tB') := by
  intro wh pins s σ H Q I h
  refine isTrue_or (thn (ha pins s σ H _ I h) fun c s1 ⟨H1, I1, q1⟩ => ?_)
  cases c with
  | true => exact ⟨H1, I1, q1⟩
  | false => exact hb wh pins s1 σ H1 Q I1 q1
theorem pt_not (ha : PT X a tA) : PT X (.UnaryOp .Not a pos) (tNot tA) := by
  intro pins s σ H Q I h
  exact isTrue_not (ha pins s σ H (fun c H1 => Q (!c) H1) I h)
end
end L2

namespace L2
open PySem PySem.Spec PyProof.Rows

noncomputable def SqL (K : PySem.W.Frag) (H : Hp) (a : Addr) (xs : List V) : Prop :=
  Rd H a (.lst xs) ∨
    ∃ (o : Obj) (its : Array Value) (n : Nat), K.lookup a = some o ∧ o.cls = .type "list" ∧ o.dict = none ∧ o.data = .seq its n ∧ its.size ≤ sizeLine ∧ Vals xs its.toList
noncomputable def SqT (K : PySem.W.Frag) (H : Hp) (a : Addr) (xs : List V) : Prop :=
  Rd H a (.tup xs) ∨
    ∃ (o : Obj) (its : Array Value) (n : Nat), K.lookup a = some o ∧ o.cls = .type "tuple" ∧ o.data = .seq its n ∧ its.size ≤ sizeLine ∧ Vals xs its.toList
noncomputable def absV : Value → Option V
  | .none => some .non
  | .bool b => some (.bl b)
  | .int i _ => some (.int i)
  | .str x _ => some (.str x)
  | .bytes b _ => some (.byt b)
  | .float b _ => some (.flt b)
  | .ref a => some (.ref a)
  | .type n => some (.ty n)
  | _ => none
theorem RelV.abs {x : V} {u : Value} (r : RelV x u) : absV u = some x := by
  cases x with
  | non => cases r; rfl
  | bl _ => cases r; rfl
  | int _ => obtain ⟨t, rfl⟩ := r; rfl
  | str _ => obtain ⟨t, rfl⟩ := r; rfl
  | byt _ => obtain ⟨t, rfl⟩ := r; rfl
  | flt _ => obtain ⟨t, rfl⟩ := r; rfl
  | ref _ => cases r; rfl
  | ty _ => cases r; rfl
theorem RelV.inj {x y : V} {u : Value} (r : RelV x u) (q : RelV y u) : x = y := Option.some.inj (r.abs.symm.trans q.abs)
theorem Vals.inj : ∀ {xs ys : List V} {us : List Value}, Vals xs us → Vals ys us → xs = ys
  | _, _, _, .nil, .nil => rfl
  | _, _, _, .cons r t, .cons r' t' => by rw [r.inj r', Vals.inj t t']
section
variable {X : Cx} {pins : List (Addr × Obj)} {σ : St} {H : Hp} {s : Shared} {a : Addr} {xs ys : List V}
theorem SqL.of {K : PySem.W.Frag} (h : H a = some (.lst xs)) : SqL K H a xs := .inl (.inl h)
theorem SqT.of {K : PySem.W.Frag} (h : H a = some (.tup xs)) : SqT K H a xs := .inl (.inl h)
theorem Inv.list (I : Inv X pins σ H s) (h : SqL X.K H a xs) : ∃ its : List Value, Vals xs its ∧ PlainL s.heap a its.toArray ∧ xs.length ≤ sizeLine := by
  rcases h with h | ⟨o, its, n, hk, hc, hd, hs, hz, r⟩
  · obtain ⟨z, its, n, r, e⟩ := h.ok I.hok
    exact ⟨its, r, ⟨_, n, e, rfl, rfl, rfl⟩, z⟩
  · refine ⟨its.toList, r, ⟨o, n, I.kIn a o hk, hc, hd, by simpa using hs⟩, ?_⟩
    have e := r.length
    simp only [Array.length_toList] at e
    omega
theorem Inv.tuple (I : Inv X pins σ H s) (h : SqT X.K H a xs) : ∃ its : List Value, Vals xs its ∧ IsTup s.heap a its.toArray ∧ xs.length ≤ sizeLine := by
  rcases h with h | ⟨o, its, n, hk, hc, hs, hz, r⟩
  · obtain ⟨z, its, r, p⟩ := h.ok I.hok
    exact ⟨its, r, p, z⟩
  · refine ⟨its.toList, r, ⟨o, I.kIn a o hk, hc, n, by simpa using hs⟩, ?_⟩
    have e := r.length
    simp only [Array.length_toList] at e
    omega
theorem Inv.list_inj (I : Inv X pins σ H s) (h : SqL X.K H a xs) (h' : SqL X.K H a ys) : xs = ys := by
  obtain ⟨its, r, ⟨o, n, e, _, _, d⟩, _⟩ := I.list h
  obtain ⟨its', r', ⟨o', n', e', _, _, d'⟩, _⟩ := I.list h'
  rw [e] at e'; cases e'
  rw [d] at d'
  injection d' with d1 _
  have : its = its' := by simpa using congrArg Array.toList d1
  subst this
  exact r.inj r'
end

noncomputable abbrev Cx.wish (X : Cx) (E : Value → Shared → Prop) : Cx := { X with xe := E }
noncomputable abbrev Cx.nox (X : Cx) : Cx := X.wish fun _ _ => False
theorem Cx.Ok.wish {X : Cx} (ok : X.Ok) (E : Value → Shared → Prop) : (X.wish E).Ok :=
  ⟨ok.mod, ok.kind, ok.glob, ok.blt, ok.above, ok.inj, ok.has, ok.cab, ok.hd, ok.frames, ok.stk, ok.exf, ok.bs, ok.bsz, ok.noex, ok.exfs, ok.funs, ok.frf⟩
theorem Cx.Ok.unwish {X : Cx} {E : Value → Shared → Prop} (ok : (X.wish E).Ok) : X.Ok :=
  ⟨ok.mod, ok.kind, ok.glob, ok.blt, ok.above, ok.inj, ok.has, ok.cab, ok.hd, ok.frames, ok.stk, ok.exf, ok.bs, ok.bsz, ok.noex, ok.exfs, ok.funs, ok.frf⟩
section
variable {X : Cx} {pins : List (Addr × Obj)} {σ : St} {H : Hp} {s : Shared} {E : Value → Shared → Prop}
theorem Inv.wish (I : Inv X pins σ H s) (E : Value → Shared → Prop) : Inv (X.wish E) pins σ H s := ⟨I.ok.wish E, I.os, I.bare, I.base, I.loc, I.cell, I.free, I.freeC, I.pin, I.hok, I.len⟩
theorem Inv.unwish (I : Inv (X.wish E) pins σ H s) : Inv X pins σ H s := ⟨I.ok.unwish, I.os, I.bare, I.base, I.loc, I.cell, I.free, I.freeC, I.pin, I.hok, I.len⟩
theorem SP.unwish {D : Ends} {f : Flow} {s' : Shared} (h : SP (X.wish E) pins D f s') : SP X pins D f s' := by
  cases f with
  | next => obtain ⟨σ', H', I, q⟩ := h; exact ⟨σ', H', I.unwish, q⟩
  | brk => obtain ⟨σ', H', I, q⟩ := h; exact ⟨σ', H', I.unwish, q⟩
  | cont => obtain ⟨σ', H', I, q⟩ := h; exact ⟨σ', H', I.unwish, q⟩
  | ret u => obtain ⟨v, σ', H', I, r, q⟩ := h; exact ⟨v, σ', H', I.unwish, r, q⟩
theorem PSs.nox {st : List Stmt} {t : TS} (h : PSs X.nox st t) : PSs X st t := fun pins s σ H D I hw =>
  wpAny_mono (h pins s σ H D (I.wish _) hw) (fun _ _ q => q.unwish) fun _ _ z => False.elim z
end

section
variable {X : Cx} {st : Stmt} {rest : List Stmt} {t u : TS} {e : Expr} {te : TE} {pos : Pos}
noncomputable def tNext : TS := fun D σ H => D.nx σ H
noncomputable def tSeq (t u : TS) : TS := fun D σ H => t { D with nx := u D } σ H
theorem pss_nil : PSs X [] tNext := fun _ _ σ H _ I h => wpAny_execs_nil ⟨σ, H, I, h⟩
theorem pss_cons (h1 : PS X st t) (h2 : PSs X rest u) : PSs X (st :: rest) (tSeq t u) := by
  intro pins s σ H D I h
  refine wpAny_execs_cons (thn (h1 pins s σ H { D with nx := u D } I h) fun f s1 q => ?_)
  cases f with
  | next =>
    obtain ⟨σ', H', I', q⟩ := q
    exact h2 pins s1 σ' H' D I' q
  | ret v => exact q
  | brk => exact q
  | cont => exact q
theorem pss_one (h1 : PS X st t) : PSs X [st] t := by
  intro pins s σ H D I h
  refine wpAny_execs_cons (thn (h1 pins s σ H D I h) fun f s1 q => ?_)
  cases f with
  | next => exact wpAny_execs_nil q
  | ret v => exact q
  | brk => exact q
  | cont => exact q
theorem Inv.quiet {pins : List (Addr × Obj)} {σ : St} {H : Hp} {s : Shared} (I : Inv X pins σ H s) : interactive X.env = false := by simp [interactive, I.ok.kind]
noncomputable def tDrop (te : TE) : TS := fun D σ H => te σ H fun _ H1 => D.nx σ H1
theorem ps_expr (he : PE X e te) (hs : swapsWith e none pos.line X.env = pure false := by rfl) : PS X (.Expr e pos) (tDrop te) := by
  intro pins s σ H D I h
  exact wpAny_Expr_any (thn (he pins s σ H _ I h) fun v s1 ⟨x, H1, I1, r1, q1⟩ => ⟨σ, H1, I1, q1⟩) I.quiet hs
noncomputable def tRet (te : TE) : TS := fun D σ H => te σ H D.rt
theorem ps_ret (he : PE X e te) : PS X (.Return (some e) pos) (tRet te) := by
  intro pins s σ H D I h
  exact wpAny_Return_some (thn (he pins s σ H _ I h) fun v s1 ⟨x, H1, I1, r1, q1⟩ => ⟨x, σ, H1, I1, r1, q1⟩)
noncomputable def tIfS (c : TT) (t u : TS) : TS := fun D σ H => c σ H fun b H1 => if b = true then t D σ H1 else u D σ H1
theorem ps_if {c : Expr} {a b : List Stmt} {tc : TT} (hc : PT X c tc) (ha : PSs X a t) (hb : PSs X b u) : PS X (.If c a b pos) (tIfS tc t u) := by
  intro pins s σ H D I h
  refine wpAny_If (thn (hc pins s σ H _ I h) fun d s1 ⟨H1, I1, q1⟩ => ?_)
  cases d with
  | true => exact ha pins s1 σ H1 D I1 q1
  | false => exact hb pins s1 σ H1 D I1 q1
end

noncomputable abbrev TG := V → St → Hp → (St → Hp → Prop) → Prop
noncomputable abbrev TGs := List V → St → Hp → (St → Hp → Prop) → Prop
noncomputable def PG (X : Cx) (target : Expr) (t : TG) : Prop :=
  ∀ (pins : List (Addr × Obj)) (s : Shared) (σ : St) (H : Hp) (v : V) (u : Value) (Q : St → Hp → Prop), Inv X pins σ H s → RelV v u → t v σ H Q →
    wpAny (model X.prog X.w) X.A (assign target X.env u) (fun _ s' => ∃ σ' H', Inv X pins σ' H' s' ∧ Q σ' H') X.xe s
noncomputable def PGs (X : Cx) (ts : List Expr) (t : TGs) : Prop :=
  ∀ (pins : List (Addr × Obj)) (s : Shared) (σ : St) (H : Hp) (vs : List V) (us : List Value) (Q : St → Hp → Prop), Inv X pins σ H s → Vals vs us → t vs σ H Q →
    wpAny (model X.prog X.w) X.A (assignInOrder ((assignEach ts X.env).map (·.2)) us) (fun _ s' => ∃ σ' H', Inv X pins σ' H' s' ∧ Q σ' H') X.xe s
noncomputable abbrev TSet := V → V → V → Hp → (Hp → Prop) → Prop
noncomputable def PSet (X : Cx) (t : TSet) : Prop :=
  ∀ (pins : List (Addr × Obj)) (s : Shared) (σ : St) (H : Hp) (o i v : V) (ov iv u : Value) (Q : Hp → Prop), Inv X pins σ H s → RelV o ov → RelV i iv → RelV v u → t o i v H Q →
    wpAny (model X.prog X.w) X.A (setItem ov iv u) (fun _ s' => ∃ H', Inv X pins σ H' s' ∧ Q H') X.xe s
section
variable {X : Cx} {pos : Pos}
noncomputable def gName (i : Nat) : TG := fun v σ H Q => Q (σ.set i (some v)) H
theorem pg_name {i : Nat} {x : Str} (hN : X.N.Nodup) (hi : X.N[i]? = some x) (hx : Loc X.env.scope x) (hf : X.fn x = true ∨ X.env.scope.names.lookup x = some .local := by first | exact .inl rfl | exact .inr rfl | assumption) : PG X (.Name x pos) (gName i) := by
  intro pins s σ H v u Q I r h
  exact wpAny_assign_Name (store_ok I hN hi hx r (fun s' I' => ⟨_, H, I', h⟩) hf)
noncomputable def gNil : TGs := fun vs σ H Q => vs = [] ∧ Q σ H
noncomputable def gCons (t : TG) (u : TGs) : TGs := fun vs σ H Q => ∃ v r, vs = v :: r ∧ t v σ H fun σ' H' => u r σ' H' Q
theorem pgs_nil : PGs X [] gNil := by
  intro pins s σ H vs us Q I r h
  obtain ⟨e, h⟩ := h
  subst e
  cases r
  exact assignInOrder_nil ⟨σ, H, I, h⟩
theorem pgs_cons {e : Expr} {es : List Expr} {t : TG} {u : TGs} (h1 : PG X e t) (h2 : PGs X es u)
    (hs : (assignEach (e :: es) X.env).map (·.2) = assign e X.env :: (assignEach es X.env).map (·.2) := by rfl) : PGs X (e :: es) (gCons t u) := by
  intro pins s σ H vs us Q I r h
  obtain ⟨v, vr, e1, h⟩ := h
  subst e1
  cases r with
  | cons r rr =>
    rw [hs]
    refine assignInOrder_cons (thn (h1 pins s σ H _ _ _ I r h) fun _ s1 ⟨σ1, H1, I1, q1⟩ => ?_)
    exact h2 pins s1 σ1 H1 _ _ Q I1 rr q1
noncomputable def gTup (K : PySem.W.Frag) (n : Nat) (t : TGs) : TG := fun v σ H Q => ∃ a xs, v = .ref a ∧ SqT K H a xs ∧ xs.length = n ∧ t xs σ H Q
theorem pg_tup {es : List Expr} {k : Nat} {t : TGs} {n : Nat} (hc : X.calm = true) (h : PGs X es t)
    (hn : (assignEach es X.env).length = n := by rfl) (hst : (assignEach es X.env).findIdx? (·.1) = none := by rfl) : PG X (.Tuple es k pos) (gTup X.K n t) := by
  intro pins s σ H v u Q I r hw
  obtain ⟨a, xs, e1, hq, hl, hw⟩ := hw
  subst e1
  cases r
  obtain ⟨its, rv, ht, hz⟩ := I.tuple hq
  refine assign_Tuple_tuple (I.ok.hd hc) ht (by simp [hn, ← hl, rv.length]) hst fun h' hx => ?_
  have I1 : Inv X pins σ H { s with heap := h' } := I.kept (t' := s.toks) fun b o e => hx b o (Nat.ne_of_lt (Heap.lt_size e)) e
  exact h pins _ σ H xs _ Q I1 (by simpa using rv) hw
noncomputable def gSub (to ti : TE) (t : TSet) : TG := fun v σ H Q => to σ H fun o H1 => ti σ H1 fun i H2 => t o i v H2 fun H3 => Q σ H3
theorem pg_sub {o i : Expr} {to ti : TE} {t : TSet} (ho : PE X o to) (hi : PE X i ti) (hs : PSet X t)
    (ha : ∀ v, assign (.Subscript o i pos) X.env v = (do
      let ov ← holding [v] (eval o X.env)
      let iv ← holding [v, ov] (eval i X.env)
      standAt pos
      holding [v, ov, iv] (setItem ov iv v)
      release [v, ov, iv] []) := by intro _; rfl) : PG X (.Subscript o i pos) (gSub to ti t) := by
  intro pins s σ H v u Q I r h
  rw [ha]
  refine wpAny_bind (wpAny_holding (thn (ho pins s σ H _ I h) fun ov s1 ⟨x, H1, I1, r1, q1⟩ => ?_))
  refine wpAny_bind (wpAny_holding (thn (hi pins s1 σ H1 _ I1 q1) fun iv s2 ⟨y, H2, I2, r2, q2⟩ => ?_))
  refine wpAny_bind (wpAny_standAt (wpAny_bind (wpAny_holding (thn (hs pins s2 σ H2 x y v ov iv u _ I2 r1 r2 r q2) fun _ s3 ⟨H3, I3, q3⟩ => ?_))))
  exact wpAny_release ⟨σ, H3, I3, q3⟩
noncomputable def tAsg (te : TE) (g : TG) : TS := fun D σ H => te σ H fun x H1 => g x σ H1 D.nx
theorem ps_asg {tg e : Expr} {te : TE} {g : TG} (he : PE X e te) (hg : PG X tg g) (hs : swapsWithSole [tg] e pos.line X.env = pure false := by rfl) (hw : swappedStores [tg] e X.env = pure none := by rfl)
    (h1 : (assignEach [tg] X.env).map (·.2) = [assign tg X.env] := by rfl) : PS X (.Assign [tg] e pos) (tAsg te g) := by
  intro pins s σ H D I h
  refine wpAny_Assign_stores (thn (he pins s σ H _ I h) fun v s1 ⟨x, H1, I1, r1, q1⟩ => ?_) hs hw
  rw [h1]
  exact thn (hg pins s1 σ H1 x v _ I1 r1 q1) fun _ s2 q => q
theorem ps_set {i : Nat} {x : Str} {e : Expr} {te : TE} {pos' : Pos} (hN : X.N.Nodup) (hi : X.N[i]? = some x) (hx : Loc X.env.scope x) (he : PE X e te) (hs : swapsWith e (some (.Name x pos')) pos.line X.env = pure false := by rfl) (hf : X.fn x = true ∨ X.env.scope.names.lookup x = some .local := by first | exact .inl rfl | exact .inr rfl | assumption) :
    PS X (.Assign [.Name x pos'] e pos) (tAsg te (gName i)) := by
  intro pins s σ H D I h
  refine wpAny_Assign_Name (thn (he pins s σ H _ I h) fun v s1 ⟨y, H1, I1, r1, q1⟩ => ?_) hs
  exact store_ok I1 hN hi hx r1 (fun s2 I2 => ⟨_, H1, I2, q1⟩) hf
end

section
variable {X : Cx} {pos : Pos}
noncomputable def tWhile (c : TT) (tb : TS) : TS := fun D σ H => ∃ W : Nat → St → Hp → Prop, (∃ m, W m σ H) ∧ ∀ m σ H, W m σ H →
  c σ H fun b H1 => if b = true then ∃ N : St → Hp → Prop, (∀ σ' H', N σ' H' → ∃ m', m' < m ∧ W m' σ' H') ∧ tb { D with nx := N, ct := N, bk := D.nx } σ H1 else D.nx σ H1
theorem ps_while {c : Expr} {body : List Stmt} {tc : TT} {tb : TS} (hp : PassesOwn (model X.prog X.w) X.A X.env X.xe) (hc : PT X c tc) (hb : PSs X body tb) : PS X (.While c body [] pos) (tWhile tc tb) := by
  intro pins s σ H D I h
  obtain ⟨W, ⟨m0, w0⟩, turn⟩ := h
  refine wpAny_While (codeAny_whileLoop (fun n s' => ∃ σ' H', Inv X pins σ' H' s' ∧ W n σ' H') ?_ m0 ⟨σ, H, I, w0⟩)
  rintro n s1 ⟨σ1, H1, I1, w1⟩
  refine wpAny_passesOwn hp (thn (hc pins s1 σ1 H1 _ I1 (turn n σ1 H1 w1)) fun b s2 ⟨H2, I2, q2⟩ => ?_)
  cases b with
  | true =>
    obtain ⟨N, hN, q2⟩ := q2
    rw [if_pos rfl]
    refine wpAny_passesOwn hp (thn (hb pins s2 σ1 H2 _ I2 q2) fun f s3 q3 => ?_)
    cases f with
    | next =>
      obtain ⟨σ3, H3, I3, n3⟩ := q3
      obtain ⟨m', hm, w3⟩ := hN σ3 H3 n3
      exact ⟨m', hm, σ3, H3, I3, w3⟩
    | cont =>
      obtain ⟨σ3, H3, I3, n3⟩ := q3
      obtain ⟨m', hm, w3⟩ := hN σ3 H3 n3
      exact ⟨m', hm, σ3, H3, I3, w3⟩
    | brk => exact q3
    | ret v => exact q3
  | false =>
    rw [if_neg Bool.false_ne_true]
    exact wpAny_execs_nil ⟨σ1, H2, I2, q2⟩
end

set_option genInjectivity false in
structure It where
  go : Nat → Hp → Prop
  yld : Nat → Hp → V → Hp → Prop
  stop : Nat → Hp → Prop
noncomputable def FpOk (X : Cx) (pins : List (Addr × Obj)) (H : Hp) (b : Addr) : Prop :=
  H b = none ∧ b ≠ X.env.locals ∧ b ∉ X.fs ∧ (b ∈ X.ex ∨ X.s₀.heap.objs.size ≤ b) ∧ (∀ x c, X.env.cells.lookup x = some c → c ≠ b) ∧ ∀ p ∈ X.pn ++ pins, p.1 ≠ b
theorem Inv.fpOk {X : Cx} {pins : List (Addr × Obj)} {σ : St} {H H' : Hp} {s : Shared} {b : Addr} (I : Inv X pins σ H s) (hb : s.heap.objs.size ≤ b) (hn : H' b = none) : FpOk X pins H' b := by
  refine ⟨hn, Nat.ne_of_gt (Nat.lt_of_lt_of_le I.lt hb), I.nofs hb, .inr (Nat.le_trans I.sz hb), fun x c e z => ?_, fun p hp z => ?_⟩
  · obtain ⟨v, q⟩ := I.cell x c e
    exact absurd (Nat.lt_of_lt_of_le q.lt (by rw [z]; exact hb)) (Nat.lt_irrefl _)
  · exact absurd (Nat.lt_of_lt_of_le (Heap.lt_size (I.pin p hp).1) (by rw [z]; exact hb)) (Nat.lt_irrefl _)
set_option genInjectivity false in
structure Turn (P : Program) (w : World) (K : PySem.W.Frag) (tg : Expr) (J : It) (fp : List Addr) (it : Addr) (tn : Nat → Heap → Prop) : Prop where
  mem : it ∈ fp
  obj : ∀ i h, tn i h → ∀ b ∈ fp, ∃ o, h.get? b = some o ∧ ∀ v, o.data ≠ .cell v
  keep : ∀ i h h', tn i h → (∀ b ∈ fp, ∀ o, h.get? b = some o → h'.get? b = some o) → tn i h'
  item : ∀ (X : Cx), X.prog = P → X.w = w → X.K = K → X.calm = true → ∀ (i : Nat) (pins : List (Addr × Obj)) (s : Shared) (σ : St) (H : Hp) (E : Value → Shared → Prop), Inv X pins σ H s → (∀ b ∈ fp, FpOk X pins H b) → tn i s.heap → J.go i H →
    wpAny (model P w) X.A (pyNext (.ref it)) (fun r s1 => ∃ u, r = some u ∧
      wpAny (model P w) X.A (letOwnedTupleGo tg (.ref it) u) (fun _ s2 => ∃ x H', Inv X pins σ H' s2 ∧ RelV x u ∧ J.yld i H x H' ∧ tn (i + 1) s2.heap ∧ ∀ b ∈ fp, H' b = none) E s1) E s
  done : ∀ (X : Cx), X.prog = P → X.w = w → X.K = K → X.calm = true → ∀ (i : Nat) (pins : List (Addr × Obj)) (s : Shared) (σ : St) (H : Hp) (E : Value → Shared → Prop), Inv X pins σ H s → (∀ b ∈ fp, FpOk X pins H b) → tn i s.heap → J.stop i H →
    wpAny (model P w) X.A (pyNext (.ref it)) (fun r s1 => r = none ∧ Inv X pins σ H s1) E s
  self : ∀ (A : Around) (i : Nat) (s : Shared) (Q : Value → Shared → Prop) (E : Value → Shared → Prop), tn i s.heap → Q (.ref it) s → wpAny (model P w) A (pyIter (.ref it)) Q E s
noncomputable abbrev TI := St → Hp → (It → Hp → Prop) → Prop
noncomputable def PIE (X : Cx) (pins : List (Addr × Obj)) (σ : St) (tg : Expr) (R : It → Hp → Prop) (itv : Value) (s2 : Shared) : Prop :=
  ∃ (it : Addr) (fp : List Addr) (tn : Nat → Heap → Prop) (J : It) (H' : Hp), itv = .ref it ∧ Inv X pins σ H' s2 ∧ Turn X.prog X.w X.K tg J fp it tn ∧ tn 0 s2.heap ∧ (∀ b ∈ fp, FpOk X pins H' b) ∧ R J H'
noncomputable def PI (X : Cx) (tg iter : Expr) (wi : TI) : Prop :=
  ∀ (pins : List (Addr × Obj)) (s : Shared) (σ : St) (H : Hp) (R : It → Hp → Prop), Inv X pins σ H s → wi σ H R →
    wpAny (model X.prog X.w) X.A (eval iter X.env) (fun v s1 => wpAny (model X.prog X.w) X.A (pyIter v) (PIE X pins σ tg R) X.xe s1) X.xe s

theorem go_of {M : Model} {A : Around} {E : Value → Shared → Prop} {s : Shared} {tg : Expr} {it : Addr} {u : Value} {o : Obj} {n : String} {vs : Array Value} {Q : Unit → Shared → Prop} (ho : s.heap.get? it = some o) (hc : o.cls = .type n) (hd : o.data = .fields vs)
    (hn : ["enumerate", "zip", "dict_itemiterator", "dict_reverseitemiterator", "odict_iterator", "itertools.zip_longest", "itertools.pairwise"].contains n = false) (hQ : Q () s) : wpAny M A (letOwnedTupleGo tg (.ref it) u) Q E s := by
  unfold letOwnedTupleGo
  cases tg <;> first
    | exact wpAny_pure hQ
    | (cases u <;> first
        | exact wpAny_pure hQ
        | (refine wpAny_bind (wpAny_load ho ?_)
           rw [hc, hd]
           show wpAny M A (if (["enumerate", "zip", "dict_itemiterator", "dict_reverseitemiterator", "odict_iterator", "itertools.zip_longest", "itertools.pairwise"].contains n && vs[0]? == some (rawInt _)) = true then _ else _) Q E s
           rw [if_neg (by intro h; rw [hn, Bool.false_and] at h; cases h)]
           exact wpAny_pure hQ))

noncomputable def Itl (K : PySem.W.Frag) (a : Addr) : It :=
  ⟨fun i H => ∃ xs x, SqL K H a xs ∧ xs[i]? = some x, fun i H x H' => H' = H ∧ ∀ xs, SqL K H a xs → xs[i]? = some x, fun i H => ∃ xs, SqL K H a xs ∧ xs.length ≤ i⟩
noncomputable def Itr (lo : Int) (n : Nat) : It := ⟨fun i _ => i < n, fun i H x H' => H' = H ∧ x = .int (lo + i), fun i _ => n ≤ i⟩
theorem turn_list {P : Program} {w : World} {K : PySem.W.Frag} {tg : Expr} (a it : Addr) : Turn P w K tg (Itl K a) [it] it (fun i h => h.IsListIter it a i) where
  mem := by simp
  obj := fun i h st b hb => by
    have e : b = it := by simpa using hb
    subst e
    obtain ⟨o, e, c, d⟩ := st
    exact ⟨o, e, fun v z => by rw [d] at z; cases z⟩
  keep := fun i h h' st k => st.at fun o e => k it (by simp) o e
  item := by
    intro X hP hw hK hc i pins s σ H E I hf st hg
    subst hP hw hK
    obtain ⟨xs, x, hq, hx⟩ := hg
    obtain ⟨its, rv, p, hz⟩ := I.list hq
    obtain ⟨u, hu, ru⟩ := rv.get hx
    obtain ⟨f0, f1, f2, f3, f4, f5⟩ := hf it (by simp)
    refine wpAny_pyNext_list_item st p.isList (x := u) (by simpa using hu) fun h' st' sb => ?_
    have I1 : Inv X pins σ H { s with heap := h' } := I.turned (t' := s.toks) (fun b o hb e => (sb.2 b hb).trans e) f0 f1 f3 f4 f5
    obtain ⟨o, e, c, d⟩ := id st'
    exact ⟨u, rfl, go_of (s := { s with heap := h' }) e c d (by decide) ⟨x, H, I1, ru, ⟨rfl, fun ys hy => by rw [I.list_inj hy hq]; exact hx⟩, st', fun b hb => (hf b hb).1⟩⟩
  done := by
    intro X hP hw hK hc i pins s σ H E I hf st hg
    subst hP hw hK
    obtain ⟨xs, hq, hx⟩ := hg
    obtain ⟨its, rv, p, hz⟩ := I.list hq
    obtain ⟨f0, f1, f2, f3, f4, f5⟩ := hf it (by simp)
    have hl := rv.length
    exact wpAny_pyNext_list_end (I.ok.hd hc) st p.isList (by simp; omega) fun h' eb => ⟨rfl, I.turned (t' := s.toks) (fun b o hb e => eb b o hb e) f0 f1 f3 f4 f5⟩
  self := fun _ _ _ _ _ st h => wpAny_pyIter_listiter st h
theorem turn_range {P : Program} {w : World} {K : PySem.W.Frag} {tg : Expr} (it : Addr) (lo : Int) (n : Nat) : Turn P w K tg (Itr lo n) [it] it (fun i h => IsRangeIter h it (lo + (i : Nat) * 1) ((n : Int) - (i : Nat)) 1) where
  mem := by simp
  obj := fun i h st b hb => by
    have e : b = it := by simpa using hb
    subst e
    exact ⟨_, st, fun v z => by
      have z' : Data.fields _ = Data.cell v := z
      cases z'⟩
  keep := fun i h h' st k => k it (by simp) _ st
  item := by
    intro X hP hw hK hc i pins s σ H E I hf st hg
    subst hP hw hK
    obtain ⟨f0, f1, f2, f3, f4, f5⟩ := hf it (by simp)
    have W := Walks.range (prog := X.prog) (w := X.w) (I.ok.hd hc) it lo 1 n
    refine W.item i s _ _ hg st fun v h' tk hv st' kk => ?_
    obtain ⟨t, rfl⟩ := hv
    have I1 : Inv X pins σ H { s with heap := h', toks := tk } := I.turned (fun b o hb e => kk b o (by simpa using hb) e) f0 f1 f3 f4 f5
    refine ⟨_, rfl, go_of (s := { s with heap := h', toks := tk }) (n := "range_iterator") st' rfl rfl (by decide) ⟨.int (lo + i), H, I1, ⟨t, ?_⟩, ⟨rfl, rfl⟩, st', fun b hb => (hf b hb).1⟩⟩
    rw [Int.mul_one]
  done := by
    intro X hP hw hK hc i pins s σ H E I hf st hg
    subst hP hw hK
    obtain ⟨f0, f1, f2, f3, f4, f5⟩ := hf it (by simp)
    exact wpAny_pyNext_range_end (I.ok.hd hc) st (by have : n ≤ i := hg; omega) fun h' eb => ⟨rfl, I.turned (t' := s.toks) (fun b o hb e => eb b o hb e) f0 f1 f3 f4 f5⟩
  self := fun _ _ _ _ _ st h => wpAny_pyIter_rangeiter st h
end L2

namespace L2
open PySem PySem.Spec PyProof.Rows
section
variable {X : Cx} {tg : Expr}
noncomputable def iList (K : PySem.W.Frag) (tl : TE) : TI := fun σ H R => tl σ H fun x H1 => ∃ a, x = .ref a ∧ (∃ xs, SqL K H1 a xs) ∧ R (Itl K a) H1
theorem pi_list {l : Expr} {tl : TE} (hl : PE X l tl) : PI X tg l (iList X.K tl) := by
  intro pins s σ H R I h
  refine thn (hl pins s σ H _ I h) fun v s1 ⟨x, H1, I1, r1, q1⟩ => ?_
  obtain ⟨a, e, ⟨xs, hq⟩, q⟩ := q1
  subst e
  cases r1
  obtain ⟨its, rv, p, hz⟩ := I1.list hq
  refine wpAny_pyIter_list p.isList ?_
  refine ⟨s1.heap.objs.size, [s1.heap.objs.size], _, _, H1, rfl, I1.kept (t' := s1.toks) fun b o e => Heap.get?_push_of_some _ e, turn_list a _, ⟨_, Heap.get?_push_size _ rfl, rfl, rfl⟩, fun b hb => ?_, q⟩
  have e : b = s1.heap.objs.size := by simpa using hb
  subst e
  exact I1.fpOk (Nat.le_refl _) (I1.hok.fresh (Nat.le_refl _))
theorem range_it {pins : List (Addr × Obj)} {σ : St} {H : Hp} {s : Shared} {R : It → Hp → Prop} {E : Value → Shared → Prop} {lo hi : Int} {t u v : Tok} {tk : Nat} (I : Inv X pins σ H s) (h1 : -(2 ^ 62) ≤ lo) (h2 : lo < 2 ^ 62) (h3 : -(2 ^ 62) ≤ hi) (h4 : hi < 2 ^ 62)
    (q : R (Itr lo (hi - lo).toNat) H) : wpAny (model X.prog X.w) X.A (pyIter (.ref s.heap.objs.size)) (PIE X pins σ tg R) E { s with heap := s.heap.push { cls := .type "range", data := .fields #[.int lo t, .int hi u, .int 1 v] }, toks := tk } := by
  refine wpAny_pyIter_range (IsRange.new ..) (small_one h1 h2 h3 h4) ?_
  have I1 : Inv X pins σ H { s with heap := s.heap.push { cls := .type "range", data := .fields #[.int lo t, .int hi u, .int 1 v] }, toks := tk } := I.kept fun b o e => Heap.get?_push_of_some _ e
  refine ⟨(s.heap.push { cls := .type "range", data := .fields #[.int lo t, .int hi u, .int 1 v] }).objs.size, [(s.heap.push { cls := .type "range", data := .fields #[.int lo t, .int hi u, .int 1 v] }).objs.size], _, _, H, rfl,
    I1.kept (t' := tk) fun b o e => Heap.get?_push_of_some _ e, turn_range _ lo (hi - lo).toNat, ?_, fun b hb => ?_, q⟩
  · have e1 : lo + ((0 : Nat) : Int) * 1 = lo := by simp
    have e2 : (((hi - lo).toNat : Nat) : Int) - ((0 : Nat) : Int) = Builtin.Range.rangeSize lo hi 1 := by rw [rangeSize_one]; split <;> omega
    show IsRangeIter _ _ (lo + ((0 : Nat) : Int) * 1) ((((hi - lo).toNat : Nat) : Int) - ((0 : Nat) : Int)) 1
    rw [e1, e2]
    exact Heap.get?_push_size _ rfl
  · have e : b = (s.heap.push { cls := .type "range", data := .fields #[.int lo t, .int hi u, .int 1 v] }).objs.size := by simpa using hb
    subst e
    exact I1.fpOk (Nat.le_refl _) (I1.hok.fresh (Nat.le_refl _))
noncomputable def iRng1 (ta : TA) : TI := fun σ H R => ta σ H fun vs H1 => ∃ j : Int, vs = [.int j] ∧ -(2 ^ 62) ≤ j ∧ j < 2 ^ 62 ∧ R (Itr 0 j.toNat) H1
theorem pi_range1 {a : Expr} {ta : TA} {p pos : Pos} (hg : Gl X "range") (hm : X.mg "range" = none) (ha : PA X [a] ta) (hs : starEach [a] X.env = [(false, eval a X.env)] := by rfl) : PI X tg (.Call (.Name "range" p) [a] [] pos) (iRng1 ta) := by
  intro pins s σ H R I h
  refine Call_ (ld_blt I hg hm boot_range (PyProof.Rows.callWith_type1 (thn (ha pos pins s σ H _ I h) fun us s1 ⟨vs, H1, I1, r1, q1⟩ => ?_) hs rfl))
  obtain ⟨j, e, q1, q2, q⟩ := q1
  subst e
  cases r1 with
  | cons r rr =>
    cases rr
    obtain ⟨t, rfl⟩ := r
    exact call_range_1 (range_it I1 (by omega) (by omega) q1 q2 (by simpa using q))
noncomputable def tFor (wi : TI) (g : TG) (tb : TS) : TS := fun D σ H => wi σ H fun J H1 => ∃ W : Nat → Nat → St → Hp → Prop, (∃ m, W 0 m σ H1) ∧ ∀ i m σ H, W i m σ H →
  (J.stop i H ∧ D.nx σ H) ∨ (J.go i H ∧ ∃ N : St → Hp → Prop, (∀ σ' H', N σ' H' → ∃ m', m' < m ∧ W (i + 1) m' σ' H') ∧ ∀ x H', J.yld i H x H' → g x σ H' fun σ2 H2 => tb { D with nx := N, ct := N, bk := D.nx } σ2 H2)
noncomputable def pinsAt (fp : List Addr) (h : Heap) : List (Addr × Obj) := fp.filterMap fun b => (h.get? b).map fun o => (b, o)
theorem mem_pinsAt {fp : List Addr} {h : Heap} {b : Addr} {o : Obj} (hb : b ∈ fp) (e : h.get? b = some o) : (b, o) ∈ pinsAt fp h := List.mem_filterMap.mpr ⟨b, hb, by rw [e]; rfl⟩
theorem of_pinsAt {fp : List Addr} {h : Heap} {p : Addr × Obj} (hp : p ∈ pinsAt fp h) : p.1 ∈ fp ∧ h.get? p.1 = some p.2 := by
  obtain ⟨b, hb, e⟩ := List.mem_filterMap.mp hp
  cases q : h.get? b with
  | none => rw [q] at e; cases e
  | some o =>
    rw [q] at e
    have e' : (b, o) = p := Option.some.inj e
    subst e'
    exact ⟨hb, q⟩
theorem Inv.pinned {pins : List (Addr × Obj)} {σ : St} {H : Hp} {s : Shared} {fp : List Addr} (I : Inv X pins σ H s) (hf : ∀ b ∈ fp, FpOk X pins H b) (ho : ∀ b ∈ fp, ∃ o, s.heap.get? b = some o ∧ ∀ v, o.data ≠ .cell v) : Inv X (pins ++ pinsAt fp s.heap) σ H s :=
  I.pins_of fun p hp => (List.mem_append.mp hp).elim (fun z => I.pin p (List.mem_append_right _ z)) fun z => by
    obtain ⟨hb, e⟩ := of_pinsAt z
    obtain ⟨f0, f1, f2, _⟩ := hf p.1 hb
    obtain ⟨o, e', d⟩ := ho p.1 hb
    rw [e] at e'; cases e'
    exact ⟨e, f0, f1, f2, d⟩
theorem Inv.unpinned {pins pl : List (Addr × Obj)} {σ : St} {H : Hp} {s : Shared} (I : Inv X (pins ++ pl) σ H s) : Inv X pins σ H s := I.pins_of fun p hp => I.pin p (List.mem_append_right _ (List.mem_append_left _ hp))
theorem ps_for {iter : Expr} {body : List Stmt} {wi : TI} {g : TG} {tb : TS} {pos : Pos} (hp : PassesOwn (model X.prog X.w) X.A X.env X.xe) (hc : X.calm = true) (hi : PI X tg iter wi) (hg : PG X tg g) (hb : PSs X body tb)
    (hs : ∀ x, foldedSetIterable iter X.env x = pure x := by intro _; rfl) : PS X (.For tg iter body [] pos) (tFor wi g tb) := by
  intro pins s σ H D I h
  refine wpAny_For (thn (hi pins s σ H _ I h) fun v s1 h1 => thn h1 fun itv s2 h2 => ?_) hs
  obtain ⟨it, fp, tn, J, H2, e, I2, T, st2, f2, W, ⟨m0, w0⟩, turn⟩ := h2
  subst e

  have stat : ∀ {H' : Hp}, (∀ b ∈ fp, H' b = none) → ∀ b ∈ fp, FpOk X pins H' b := fun hn b hb => ⟨hn b hb, (f2 b hb).2⟩
  refine codeAny_forLoop_any (fun n s' => ∃ i σ' H', Inv X pins σ' H' s' ∧ tn i s'.heap ∧ (∀ b ∈ fp, H' b = none) ∧ W i n σ' H') ?_ m0 ⟨0, σ, H2, I2, st2, fun b hb => (f2 b hb).1, w0⟩
  rintro n s3 ⟨i, σ3, H3, I3, st3, fr3, w3⟩
  rcases turn i n σ3 H3 w3 with ⟨stop, qn⟩ | ⟨go, N, hN, step⟩
  · refine wpAny_passesOwn hp (thn (T.done X rfl rfl rfl hc i pins s3 σ3 H3 X.xe I3 (stat fr3) st3 stop) fun r s4 ⟨hr, I4⟩ => ?_)
    subst hr
    exact wpAny_execs_nil ⟨σ3, H3, I4, qn⟩
  · refine wpAny_passesOwn hp (thn (T.item X rfl rfl rfl hc i pins s3 σ3 H3 X.xe I3 (stat fr3) st3 go) fun r s4 ⟨u, hr, h4⟩ => ?_)
    subst hr
    refine wpAny_passesOwn hp (thn h4 fun _ s5 ⟨x, H5, I5, r5, y5, st5, fr5⟩ => ?_)
    have I5' := I5.pinned (stat fr5) (T.obj _ _ st5)
    refine wpAny_passesOwn hp (thn (hg _ s5 σ3 H5 x u _ I5' r5 (step x H5 y5)) fun _ s6 ⟨σ6, H6, I6, q6⟩ => ?_)
    refine wpAny_passesOwn hp (thn (hb _ s6 σ6 H6 _ I6 q6) fun f s7 q7 => ?_)
    have again : ∀ {σ7 : St} {H7 : Hp}, Inv X (pins ++ pinsAt fp s5.heap) σ7 H7 s7 → N σ7 H7 → ∃ m, m < n ∧ ∃ i σ' H', Inv X pins σ' H' s7 ∧ tn i s7.heap ∧ (∀ b ∈ fp, H' b = none) ∧ W i m σ' H' := fun {σ7 H7} I7 n7 => by
      obtain ⟨m', hm, w7⟩ := hN σ7 H7 n7
      refine ⟨m', hm, i + 1, σ7, H7, I7.unpinned, T.keep _ _ _ st5 fun b hb o e => (I7.pin (b, o) (List.mem_append_right _ (List.mem_append_right _ (mem_pinsAt hb e)))).1, fun b hb => ?_, w7⟩
      obtain ⟨o, e, d⟩ := T.obj _ _ st5 b hb
      exact (I7.pin (b, o) (List.mem_append_right _ (List.mem_append_right _ (mem_pinsAt hb e)))).2.1
    cases f with
    | next => obtain ⟨σ7, H7, I7, n7⟩ := q7; exact again I7 n7
    | cont => obtain ⟨σ7, H7, I7, n7⟩ := q7; exact again I7 n7
    | brk => obtain ⟨σ7, H7, I7, q7⟩ := q7; exact ⟨σ7, H7, I7.unpinned, q7⟩
    | ret v => obtain ⟨x7, σ7, H7, I7, r7, q7⟩ := q7; exact ⟨x7, σ7, H7, I7.unpinned, r7, q7⟩
end

theorem for_list {K : PySem.W.Frag} {a : Addr} {xs : List V} {g : TG} {tb : TS} {D : Ends} {σ : St} {H : Hp} (Pv : Nat → St → Hp → Prop) (h0 : Pv 0 σ H) (hl : ∀ i σ H, i ≤ xs.length → Pv i σ H → SqL K H a xs)
    (hs : ∀ i x σ H, xs[i]? = some x → Pv i σ H → g x σ H fun σ2 H2 => tb { D with nx := Pv (i + 1), ct := Pv (i + 1), bk := D.nx } σ2 H2) (hd : ∀ σ H, Pv xs.length σ H → D.nx σ H) :
    ∃ W : Nat → Nat → St → Hp → Prop, (∃ m, W 0 m σ H) ∧ ∀ i m σ H, W i m σ H →
      ((Itl K a).stop i H ∧ D.nx σ H) ∨ ((Itl K a).go i H ∧ ∃ N : St → Hp → Prop, (∀ σ' H', N σ' H' → ∃ m', m' < m ∧ W (i + 1) m' σ' H') ∧ ∀ x H', (Itl K a).yld i H x H' → g x σ H' fun σ2 H2 => tb { D with nx := N, ct := N, bk := D.nx } σ2 H2) := by
  refine ⟨fun i m σ H => m = xs.length - i ∧ i ≤ xs.length ∧ Pv i σ H, ⟨xs.length, by simp, Nat.zero_le _, h0⟩, ?_⟩
  rintro i m σ H ⟨rfl, hi, p⟩
  have q := hl i σ H hi p
  by_cases hlt : i < xs.length
  · refine .inr ⟨⟨xs, xs[i], q, by simp [hlt]⟩, Pv (i + 1), fun σ' H' p' => ⟨xs.length - (i + 1), by omega, rfl, hlt, p'⟩, fun x H' y => ?_⟩
    obtain ⟨e, y⟩ := y
    subst e
    exact hs i x σ _ (y xs q) p
  · have e : i = xs.length := by omega
    subst e
    exact .inl ⟨⟨xs, q, Nat.le_refl _⟩, hd σ H p⟩
theorem for_range {lo : Int} {n : Nat} {g : TG} {tb : TS} {D : Ends} {σ : St} {H : Hp} (Pv : Nat → St → Hp → Prop) (h0 : Pv 0 σ H)
    (hs : ∀ i σ H, i < n → Pv i σ H → g (.int (lo + i)) σ H fun σ2 H2 => tb { D with nx := Pv (i + 1), ct := Pv (i + 1), bk := D.nx } σ2 H2) (hd : ∀ σ H, Pv n σ H → D.nx σ H) :
    ∃ W : Nat → Nat → St → Hp → Prop, (∃ m, W 0 m σ H) ∧ ∀ i m σ H, W i m σ H →
      ((Itr lo n).stop i H ∧ D.nx σ H) ∨ ((Itr lo n).go i H ∧ ∃ N : St → Hp → Prop, (∀ σ' H', N σ' H' → ∃ m', m' < m ∧ W (i + 1) m' σ' H') ∧ ∀ x H', (Itr lo n).yld i H x H' → g x σ H' fun σ2 H2 => tb { D with nx := N, ct := N, bk := D.nx } σ2 H2) := by
  refine ⟨fun i m σ H => m = n - i ∧ i ≤ n ∧ Pv i σ H, ⟨n, by simp, Nat.zero_le _, h0⟩, ?_⟩
  rintro i m σ H ⟨rfl, hi, p⟩
  by_cases hlt : i < n
  · refine .inr ⟨hlt, Pv (i + 1), fun σ' H' p' => ⟨n - (i + 1), by omega, rfl, hlt, p'⟩, fun x H' y => ?_⟩
    obtain ⟨e, y⟩ := y
    subst e y
    exact hs i σ _ hlt p
  · have e : i = n := by omega
    subst e
    exact .inl ⟨Nat.le_refl _, hd σ H p⟩
end L2

namespace L2
open PySem PySem.Spec PyProof.Rows

noncomputable abbrev R2 := V → V → Hp → VK → Prop
noncomputable def OpR (X : Cx) (f : Value → Value → Sem Value) (r : R2) : Prop :=
  ∀ (pins : List (Addr × Obj)) (s : Shared) (σ : St) (H : Hp) (x y : V) (v u : Value) (Q : VK), Inv X pins σ H s → RelV x v → RelV y u → r x y H Q →
    wpAny (model X.prog X.w) X.A (f v u) (EP X pins σ Q) X.xe s
noncomputable def UnR (X : Cx) (f : Value → Sem Value) (r : V → Hp → VK → Prop) : Prop :=
  ∀ (pins : List (Addr × Obj)) (s : Shared) (σ : St) (H : Hp) (x : V) (v : Value) (Q : VK), Inv X pins σ H s → RelV x v → r x H Q →
    wpAny (model X.prog X.w) X.A (f v) (EP X pins σ Q) X.xe s
noncomputable def CallR (X : Cx) (f : Value) (r : List V → Hp → VK → Prop) : Prop :=
  ∀ (pins : List (Addr × Obj)) (s : Shared) (σ : St) (H : Hp) (xs : List V) (us : List Value) (Q : VK), Inv X pins σ H s → Vals xs us → r xs H Q →
    wpAny (model X.prog X.w) X.A (call f us) (EP X pins σ Q) X.xe s
noncomputable def tOp (r : R2) (ta tb : TE) : TE := fun σ H Q => ta σ H fun x H1 => tb σ H1 fun y H2 => r x y H2 Q
noncomputable def tUn (r : V → Hp → VK → Prop) (ta : TE) : TE := fun σ H Q => ta σ H fun x H1 => r x H1 Q
noncomputable def rI (C : Int → Int → Prop) (g : Int → Int → V) : R2 := fun x y H Q => ∃ i j, x = .int i ∧ y = .int j ∧ C i j ∧ Q (g i j) H
noncomputable def rI0 (g : Int → Int → V) : R2 := fun x y H Q => ∃ i j, x = .int i ∧ y = .int j ∧ Q (g i j) H
noncomputable def rU (g : Int → V) : V → Hp → VK → Prop := fun x H Q => ∃ i, x = .int i ∧ Q (g i) H

section
variable {X : Cx} {a b c : Expr} {ta tb tc : TE} {pos : Pos}

theorem binT (ha : PE X a ta) (hb : PE X b tb) {pins : List (Addr × Obj)} {s : Shared} {σ : St} {H : Hp} {R : V → V → Hp → Prop} (I : Inv X pins σ H s)
    (h : ta σ H fun x H1 => tb σ H1 fun y H2 => R x y H2) {Q : Value → Shared → Prop} {f : Value → Value → Sem Value}
    (hf : ∀ v u s2 x y H2, Inv X pins σ H2 s2 → RelV x v → RelV y u → R x y H2 → wpAny (model X.prog X.w) X.A (f v u) Q X.xe s2) :
    wpAny (model X.prog X.w) X.A (eval a X.env) (fun v s₁ => wpAny (model X.prog X.w) X.A (eval b X.env) (fun u s₂ => wpAny (model X.prog X.w) X.A (f v u) Q X.xe s₂) X.xe s₁) X.xe s := by
  refine thn (ha pins s σ H _ I h) fun v s1 ⟨x, H1, I1, r1, q1⟩ => ?_
  refine thn (hb pins s1 σ H1 _ I1 q1) fun u s2 ⟨y, H2, I2, r2, q2⟩ => ?_
  exact hf v u s2 x y H2 I2 r1 r2 q2

theorem pe_op {op : Operator} {r : R2} (ho : OpR X (binaryOp op) r) (ha : PE X a ta) (hb : PE X b tb) : PE X (.BinOp a op b pos) (tOp r ta tb) := by
  intro pins s σ H Q I h
  exact wpAny_BinOp (binT ha hb I h fun v u s2 x y H2 I2 rx ry q => ho pins s2 σ H2 x y v u Q I2 rx ry q)
theorem pe_un {op : UnaryOp} {r : V → Hp → VK → Prop} (ho : UnR X (unaryOp op) r) (ha : PE X a ta) : PE X (.UnaryOp op a pos) (tUn r ta) := by
  intro pins s σ H Q I h
  exact UnaryOp_ (thn (ha pins s σ H _ I h) fun v s1 ⟨x, H1, I1, r1, q1⟩ => ho pins s1 σ H1 x v Q I1 r1 q1)
theorem opI {f : Value → Value → Sem Value} {C : Int → Int → Prop} {g : Int → Int → Int}
    (rule : ∀ (i j : Int) (t u : Tok) (s : Shared) (Q : Value → Shared → Prop) (E : Value → Shared → Prop), C i j → Q (.int (g i j) s.toks) { s with toks := s.toks + 1 } → wpAny (model X.prog X.w) X.A (f (.int i t) (.int j u)) Q E s) :
    OpR X f (rI C fun i j => .int (g i j)) := by
  intro pins s σ H x y v u Q I rx ry h
  obtain ⟨i, j, rfl, rfl, hc, q⟩ := h
  obtain ⟨t, rfl⟩ := rx
  obtain ⟨t', rfl⟩ := ry
  exact rule i j t t' s _ _ hc ⟨.int (g i j), H, I.tok _, ⟨_, rfl⟩, q⟩
theorem opI0 {f : Value → Value → Sem Value} {g : Int → Int → Int}
    (rule : ∀ (i j : Int) (t u : Tok) (s : Shared) (Q : Value → Shared → Prop) (E : Value → Shared → Prop), Q (.int (g i j) s.toks) { s with toks := s.toks + 1 } → wpAny (model X.prog X.w) X.A (f (.int i t) (.int j u)) Q E s) :
    OpR X f (rI0 fun i j => .int (g i j)) := by
  intro pins s σ H x y v u Q I rx ry h
  obtain ⟨i, j, rfl, rfl, q⟩ := h
  obtain ⟨t, rfl⟩ := rx
  obtain ⟨t', rfl⟩ := ry
  exact rule i j t t' s _ _ ⟨.int (g i j), H, I.tok _, ⟨_, rfl⟩, q⟩
theorem opB0 {f : Value → Value → Sem Value} {g : Int → Int → Bool}
    (rule : ∀ (i j : Int) (t u : Tok) (s : Shared) (Q : Value → Shared → Prop) (E : Value → Shared → Prop), Q (.bool (g i j)) s → wpAny (model X.prog X.w) X.A (f (.int i t) (.int j u)) Q E s) :
    OpR X f (rI0 fun i j => .bl (g i j)) := by
  intro pins s σ H x y v u Q I rx ry h
  obtain ⟨i, j, rfl, rfl, q⟩ := h
  obtain ⟨t, rfl⟩ := rx
  obtain ⟨t', rfl⟩ := ry
  exact rule i j t t' s _ _ ⟨.bl (g i j), H, I, rfl, q⟩

noncomputable def CDiv (i j : Int) : Prop := 0 < j ∧ j < 1073741824
noncomputable def CMul (i j : Int) : Prop := (-(2 ^ 64) < i ∧ i < 2 ^ 64) ∨ (-(2 ^ 64) < j ∧ j < 2 ^ 64)
theorem CMul.ok {i j : Int} (h : CMul i j) : IntMulOk i j := by
  rcases h with ⟨h1, h2⟩ | ⟨h1, h2⟩
  · exact .of_left (intBits_le_64 h1 h2)
  · exact .of_right (intBits_le_64 h1 h2)
theorem op_add : OpR X (binaryOp .Add) (rI0 fun i j => .int (i + j)) := opI0 fun _ _ _ _ _ _ _ q => add_int q
theorem op_sub : OpR X (binaryOp .Sub) (rI0 fun i j => .int (i - j)) := opI0 fun _ _ _ _ _ _ _ q => sub_int q
theorem op_mul : OpR X (binaryOp .Mult) (rI CMul fun i j => .int (i * j)) := opI fun _ _ _ _ _ _ _ hc q => mul_int q hc.ok
theorem op_fdiv : OpR X (binaryOp .FloorDiv) (rI CDiv fun i j => .int (i / j)) := opI fun i j _ _ _ _ _ hc q => by
  have h1 : (0 : Int) < j := hc.1
  have h2 : j < 1073741824 := hc.2
  exact floordiv_int (by omega) (by rw [Int.fdiv_eq_ediv_of_nonneg i (by omega)]; exact q) (.inl (PyProof.noPylong_small (by omega)))
theorem op_mod : OpR X (binaryOp .Mod) (rI (fun _ j => 0 < j) fun i j => .int (i % j)) := opI fun i j _ _ _ _ _ hc q => by
  have h1 : (0 : Int) < j := hc
  exact mod_int' (by omega) (by rw [Int.fmod_eq_emod_of_nonneg i (by omega)]; exact q)
theorem unI {f : Value → Sem Value} {g : Int → Int}
    (rule : ∀ (i : Int) (t : Tok) (s : Shared) (Q : Value → Shared → Prop) (E : Value → Shared → Prop), Q (.int (g i) s.toks) { s with toks := s.toks + 1 } → wpAny (model X.prog X.w) X.A (f (.int i t)) Q E s) :
    UnR X f (rU fun i => .int (g i)) := by
  intro pins s σ H x v Q I rx h
  obtain ⟨i, rfl, q⟩ := h
  obtain ⟨t, rfl⟩ := rx
  exact rule i t s _ _ ⟨.int (g i), H, I.tok _, ⟨_, rfl⟩, q⟩
theorem un_neg : UnR X (unaryOp .USub) (rU fun i => .int (-i)) := unI fun _ _ _ _ _ q => neg_int q
end

noncomputable def scal : V → V → Bool
  | .non, .non => true | .non, .int _ => true | .int _, .non => true | .non, .bl _ => true | .bl _, .non => true | .non, .str _ => true | .str _, .non => true
  | .int _, .int _ => true | .bl _, .bl _ => true | .str _, .str _ => true | .byt _, .byt _ => true
  | .int _, .str _ => true | .str _, .int _ => true | .bl _, .str _ => true | .str _, .bl _ => true
  | _, _ => false
noncomputable def rEq : R2 := fun x y H Q => scal x y = true ∧ Q (.bl (decide (x = y))) H
noncomputable def rNe : R2 := fun x y H Q => scal x y = true ∧ Q (.bl (!decide (x = y))) H

theorem dec_int {i j : Int} : decide (V.int i = V.int j) = (i == j) := by
  rw [Bool.eq_iff_iff]
  simp
theorem dec_bl {i j : Bool} : decide (V.bl i = V.bl j) = (i == j) := by
  rw [Bool.eq_iff_iff]
  simp
theorem dec_str {i j : Str} : decide (V.str i = V.str j) = (i == j) := by
  rw [Bool.eq_iff_iff]
  simp
theorem dec_byt {i j : Array UInt8} : decide (V.byt i = V.byt j) = (i.toList == j.toList) := by
  rw [Bool.eq_iff_iff]
  cases i
  cases j
  simp

section
variable {X : Cx} {a b c : Expr} {ta tb tc : TE} {pos : Pos}
theorem fin_bl {pins : List (Addr × Obj)} {σ : St} {H : Hp} {s : Shared} {Q : VK} {k k' : Bool} (I : Inv X pins σ H s) (q : Q (.bl k) H) (e : k = k') : EP X pins σ Q (.bool k') s := by
  subst e
  exact ⟨.bl k, H, I, rfl, q⟩
theorem op_eq : OpR X (compareOp .Eq) rEq := by
  intro pins s σ H x y v u Q I rx ry h
  obtain ⟨hs, q⟩ := h
  cases x with
  | non =>
    cases rx
    cases y with
    | non => cases ry; exact PySem.EqNone.eq_none_none (fin_bl I q (by simp))
    | bl j => cases ry; exact PySem.EqNone.eq_none_bool (fin_bl I q (by simp))
    | int j => obtain ⟨t', rfl⟩ := ry; exact PySem.EqNone.eq_none_int (fin_bl I q (by simp))
    | str j => obtain ⟨t', rfl⟩ := ry; exact PySem.EqNone.eq_none_str (fin_bl I q (by simp))
    | _ => exact absurd (show false = true from hs) Bool.false_ne_true
  | bl i =>
    cases rx
    cases y with
    | non => cases ry; exact PySem.EqNone.eq_bool_none (fin_bl I q (by simp))
    | bl j => cases ry; exact eq_bool (fin_bl I q dec_bl)
    | str j => obtain ⟨t', rfl⟩ := ry; exact PySem.EqMixed.eq_bool_str (fin_bl I q (by simp))
    | _ => exact absurd (show false = true from hs) Bool.false_ne_true
  | int i =>
    obtain ⟨t, rfl⟩ := rx
    cases y with
    | non => cases ry; exact PySem.EqNone.eq_int_none (fin_bl I q (by simp))
    | int j => obtain ⟨t', rfl⟩ := ry; exact eq_int (fin_bl I q dec_int)
    | str j => obtain ⟨t', rfl⟩ := ry; exact PySem.EqMixed.eq_int_str (fin_bl I q (by simp))
    | _ => exact absurd (show false = true from hs) Bool.false_ne_true
  | str i =>
    obtain ⟨t, rfl⟩ := rx
    cases y with
    | non => cases ry; exact PySem.EqNone.eq_str_none (fin_bl I q (by simp))
    | bl j => cases ry; exact PySem.EqMixed.eq_str_bool (fin_bl I q (by simp))
    | int j => obtain ⟨t', rfl⟩ := ry; exact PySem.EqMixed.eq_str_int (fin_bl I q (by simp))
    | str j => obtain ⟨t', rfl⟩ := ry; exact eq_str (fin_bl I q dec_str)
    | _ => exact absurd (show false = true from hs) Bool.false_ne_true
  | byt i =>
    obtain ⟨t, rfl⟩ := rx
    cases y with
    | byt j => obtain ⟨t', rfl⟩ := ry; exact PySem.W.eq_bytes (fin_bl I q dec_byt)
    | _ => exact absurd (show false = true from hs) Bool.false_ne_true
  | _ => cases y <;> exact absurd (show false = true from hs) Bool.false_ne_true
theorem op_ne : OpR X (compareOp .NotEq) rNe := by
  intro pins s σ H x y v u Q I rx ry h
  obtain ⟨hs, q⟩ := h
  cases x with
  | non =>
    cases rx
    cases y with
    | non => cases ry; exact PySem.EqNone.ne_none_none (fin_bl I q (by simp))
    | bl j => cases ry; exact PySem.EqNone.ne_none_bool (fin_bl I q (by simp))
    | int j => obtain ⟨t', rfl⟩ := ry; exact PySem.EqNone.ne_none_int (fin_bl I q (by simp))
    | str j => obtain ⟨t', rfl⟩ := ry; exact PySem.EqNone.ne_none_str (fin_bl I q (by simp))
    | _ => exact absurd (show false = true from hs) Bool.false_ne_true
  | bl i =>
    cases rx
    cases y with
    | non => cases ry; exact PySem.EqNone.ne_bool_none (fin_bl I q (by simp))
    | bl j => cases ry; exact ne_bool (fin_bl I q (congrArg not dec_bl))
    | str j => obtain ⟨t', rfl⟩ := ry; exact PySem.EqMixed.ne_bool_str (fin_bl I q (by simp))
    | _ => exact absurd (show false = true from hs) Bool.false_ne_true
  | int i =>
    obtain ⟨t, rfl⟩ := rx
    cases y with
    | non => cases ry; exact PySem.EqNone.ne_int_none (fin_bl I q (by simp))
    | int j => obtain ⟨t', rfl⟩ := ry; exact ne_int (fin_bl I q (congrArg not dec_int))
    | str j => obtain ⟨t', rfl⟩ := ry; exact PySem.EqMixed.ne_int_str (fin_bl I q (by simp))
    | _ => exact absurd (show false = true from hs) Bool.false_ne_true
  | str i =>
    obtain ⟨t, rfl⟩ := rx
    cases y with
    | non => cases ry; exact PySem.EqNone.ne_str_none (fin_bl I q (by simp))
    | bl j => cases ry; exact PySem.EqMixed.ne_str_bool (fin_bl I q (by simp))
    | int j => obtain ⟨t', rfl⟩ := ry; exact PySem.EqMixed.ne_str_int (fin_bl I q (by simp))
    | str j => obtain ⟨t', rfl⟩ := ry; exact ne_str (fin_bl I q (congrArg not dec_str))
    | _ => exact absurd (show false = true from hs) Bool.false_ne_true
  | byt i =>
    obtain ⟨t, rfl⟩ := rx
    cases y with
    | byt j => obtain ⟨t', rfl⟩ := ry; exact PySem.W.ne_bytes (fin_bl I q (congrArg not dec_byt))
    | _ => exact absurd (show false = true from hs) Bool.false_ne_true
  | _ => cases y <;> exact absurd (show false = true from hs) Bool.false_ne_true

theorem op_lt : OpR X (compareOp .Lt) (rI0 fun i j => .bl (decide (i < j))) := opB0 fun _ _ _ _ _ _ _ q => lt_int q
theorem op_gt : OpR X (compareOp .Gt) (rI0 fun i j => .bl (decide (j < i))) := opB0 fun _ _ _ _ _ _ _ q => gt_int q
theorem op_lt_str : OpR X (compareOp .Lt) (fun x y H Q => ∃ i j, x = .str i ∧ y = .str j ∧ Q (.bl (decide (i.cps.toList < j.cps.toList))) H) := by
  intro pins s σ H x y v u Q I rx ry h
  obtain ⟨i, j, rfl, rfl, q⟩ := h
  obtain ⟨t, rfl⟩ := rx
  obtain ⟨t', rfl⟩ := ry
  exact lt_str (fin_bl I q rfl)
theorem op_notin_str : OpR X (compareOp .NotIn) (fun x y H Q => ∃ i j, x = .str i ∧ y = .str j ∧ Q (.bl (!(!(Builtin.Str.occurrences j i 0 j.length 1).isEmpty))) H) := by
  intro pins s σ H x y v u Q I rx ry h
  obtain ⟨i, j, rfl, rfl, q⟩ := h
  obtain ⟨t, rfl⟩ := rx
  obtain ⟨t', rfl⟩ := ry
  exact notIn_str (fin_bl I q rfl)
theorem nomark (b : Expr) {op : CmpOp} (h : op ≠ .In := by decide) (h2 : op ≠ .NotIn := by decide) : behindInMarks op b = false := by
  have e1 : (op == CmpOp.In) = false := by cases op <;> first | rfl | exact absurd rfl h
  have e2 : (op == CmpOp.NotIn) = false := by cases op <;> first | rfl | exact absurd rfl h2
  cases b <;> simp [behindInMarks, e1, e2]
theorem pe_cmpR {op : CmpOp} {r : R2} (ho : OpR X (compareOp op) r) (ha : PE X a ta) (hb : PE X b tb) (hm : behindInMarks op b = false) : PE X (.Compare a [op] [b] pos) (tOp r ta tb) := by
  intro pins s σ H Q I h
  exact wpAny_Compare1 (binT ha hb I h fun v u s2 x y H2 I2 rx ry q => ho pins s2 σ H2 x y v u Q I2 rx ry q) hm
noncomputable def tTest (t : TE) : TT := fun σ H Q => t σ H fun x H' => ∃ k, x = .bl k ∧ Q k H'
theorem pt_cmpR {op : CmpOp} {r : R2} (ho : OpR X (compareOp op) r) (ha : PE X a ta) (hb : PE X b tb) (hm : behindInMarks op b = false) : PT X (.Compare a [op] [b] pos) (tTest (tOp r ta tb)) := by
  intro pins s σ H Q I h
  refine wpAny_isTrue_Compare1 (thn (ha pins s σ H _ I h) fun v s1 ⟨x, H1, I1, r1, q1⟩ => thn (hb pins s1 σ H1 _ I1 q1) fun u s2 ⟨y, H2, I2, r2, q2⟩ =>
    thn (ho pins s2 σ H2 x y v u _ I2 r1 r2 q2) fun c s3 ⟨z, H3, I3, r3, k, e, q3⟩ => ?_) hm
  subst e
  cases r3
  exact wpAny_truthy_bool ⟨H3, I3, q3⟩
theorem line63 : (sizeLine : Nat) < 2 ^ 63 := by rw [sizeLine_eq]; decide
theorem op_add_str : OpR X (binaryOp .Add) (fun x y H Q => ∃ i j, x = .str i ∧ y = .str j ∧ i.length + j.length ≤ sizeLine ∧ Q (.str (i ++ j)) H) := by
  intro pins s σ H x y v u Q I rx ry h
  obtain ⟨i, j, rfl, rfl, hz, q⟩ := h
  obtain ⟨t, rfl⟩ := rx
  obtain ⟨t', rfl⟩ := ry
  exact add_str (fun t' tk => ⟨.str (i ++ j), H, I.tok _, ⟨_, rfl⟩, q⟩) hz
theorem vals1 {x : V} {us : List Value} (r : Vals [x] us) : ∃ u, us = [u] ∧ RelV x u := by
  cases r with
  | cons r1 r2 => cases r2; exact ⟨_, rfl, r1⟩
theorem vals2 {x y : V} {us : List Value} (r : Vals [x, y] us) : ∃ u w', us = [u, w'] ∧ RelV x u ∧ RelV y w' := by
  cases r with
  | cons r1 r2 =>
    cases r2 with
    | cons r3 r4 => cases r4; exact ⟨_, _, rfl, r1, r3⟩
end
end L2

namespace L2
open PySem PySem.Spec PyProof.Rows

set_option genInjectivity false in
structure ObjM (h : Heap) (x dx C : Addr) (mA : Str → Option Value) : Prop where
  obj : h.get? x = some (PySem.W.instObj C dx)
  ns : h.Ns1 dx mA
  ne : dx ≠ x

theorem lookIn_ns {h : Heap} {dx : Addr} {mA : Str → Option Value} (n : h.Ns1 dx mA) : ∃ od, h.get? dx = some od ∧ ∀ name, PySem.W.lookIn name od = some (mA name) := by
  obtain ⟨o, es, ep, ho, hd, hk, _, hm⟩ := n
  refine ⟨o, ho, fun name => ?_⟩
  have e := hm name
  unfold nsFind findBy at e
  rw [← Array.find?_toList] at e
  unfold PySem.W.lookIn
  rw [hd]
  dsimp only
  split
  · rename_i y q
    rw [q] at e
    exact congrArg some e
  · rename_i q
    rw [q] at e
    have a : es.toList.any (·.refKey) = false := by
      rw [List.any_eq_false]
      intro y hy
      obtain ⟨z, t, hkey⟩ := hk y (Array.mem_toList_iff.mp hy)
      simp [DictEntry.refKey, hkey]
    have a' : ¬ es.toList.any (·.refKey) = true := by rw [a]; exact Bool.false_ne_true
    rw [if_neg a']
    exact congrArg some e

theorem ObjM.look {h : Heap} {x dx C : Addr} {mA : Str → Option Value} (I : ObjM h x dx C mA) : ∃ od, PySem.W.InstAt h x (PySem.W.instObj C dx) C (some od) ∧ ∀ name, PySem.W.lookIn name od = some (mA name) :=
  let ⟨od, ho, hl⟩ := lookIn_ns I.ns
  ⟨od, ⟨I.obj, rfl, rfl, ho⟩, hl⟩

section
variable {prog : Program} {w : World} {A : Around} {E : Value → Shared → Prop} {s : Shared} {K : PySem.W.Frag} {x dx C f : Addr} {mA : Str → Option Value} {name : Str} {v : Value}

theorem get_map {expr : Bool} {Q : Value → Shared → Prop} (X : K.In s.heap) (I : ObjM s.heap x dx C mA) (hg : PySem.W.plainGet K C name = true) (hh : PySem.W.hasDictIn K C = true)
    (ha : PySem.W.findIn K (.ref C) name = some none) (hv : mA name = some v) (hv' : PySem.W.handedIn v = true) (h : Q v { s with toks := s.toks + 1 }) :
    wpAny (model prog w) A (getAttr (.ref x) name expr) Q E s := by
  obtain ⟨od, J, hl⟩ := I.look
  exact PySem.W.get_value X J (PySem.W.plainGet_of hg).1 (PySem.W.findObj_own hh ha rfl (by rw [hl, hv])) hv' h

theorem set_map {ns : List Str} {Q : Unit → Shared → Prop} (X : K.In s.heap) (I : ObjM s.heap x dx C mA)
    (hs : PySem.W.findIn K (.ref C) "__setattr__" = some (some (.builtin "object.__setattr__"))) (hp : PySem.W.plainOver K C = true) (ht : PySem.W.takerIn K C name = some none) (hh : PySem.W.hasDictIn K C = true)
    (hw : PySem.Within mA ns) (hsz : ns.length ≤ sizeLine)
    (h : ∀ h', ObjM h' x dx C (fun y => if y = name then some v else mA y) → Heap.SameBut dx s.heap h' → Q () { s with heap := h', toks := s.toks + 2 }) :
    wpAny (model prog w) A (setAttr (.ref x) name v) Q E s := by
  obtain ⟨od, J, hl⟩ := I.look
  refine PySem.W.set_plain X J hs (PySem.W.osa_open (s := { s with toks := s.toks + 1 }) (r := none) X J hp ht fun b => ?_)
  obtain ⟨cd, hc, hd'⟩ := PySem.W.any_some hh
  have hx : s.heap.get? x = some ⟨.ref C, some dx, .plain, #[]⟩ := I.obj
  refine wpAny_bind (wpAny_pure (wpAny_bind (wpAny_bind (wpAny_loadPart hx (wpAny_bind (PySem.W.Looks.here (s := { s with toks := s.toks + 1 }) (PySem.W.looks_clsIn X hc) ?_))))))
  rw [hd']
  refine wpAny_pure (a := some dx) (wpAny_bind (wpAny_pure (wpAny_bind ?_)))
  refine wpAny_nsSet1 (s := { s with toks := s.toks + 1 }) I.ns fun h' hn2 hs2 => ?_
  obtain ⟨oD, esD, epD, hoD, hdD, hcD⟩ := hn2.count (PySem.Within.cons name v hw)
  refine wpAny_bind (wpAny_lookBehind hoD (by rw [hdD]; exact pastItsLine_dict (Nat.le_trans hcD (by rw [List.length_cons]; omega))) ?_)
  exact wpAny_pure (h _ ⟨(hs2.2 _ (Ne.symm I.ne)).trans I.obj, hn2, I.ne⟩ hs2)

theorem make_map {R : Result → Shared → Prop} {vs : List Value} {kw : List (Str × Value)} (X : K.In s.heap) (hm : PySem.W.makesIn K C = true)
    (hi : PySem.W.findIn K (.ref C) "__init__" = some (some (.ref f))) (hf : PySem.W.typeIn K (.ref f) = some (.type "function"))
    (h : codeAny (model prog w) (A.under (.builtin "type.__call__" ⟨.ref C :: vs, kw⟩)) (.call (.ref f) ⟨.ref (s.heap.objs.size + 1) :: vs, kw⟩) (PySem.W.InitBack (s.heap.objs.size + 1) R)
      { s with heap := (s.heap.push PySem.W.emptyDict).push (PySem.W.instObj C s.heap.objs.size) }) :
    codeAny (model prog w) A (.call (.ref C) ⟨vs, kw⟩) R s := by
  obtain ⟨hh, g, d, t, os⟩ := s
  exact PySem.W.make_core (PySem.W.makes_of X hm) (PySem.W.looks_findIn X hi) (fun self => PySem.W.bind_fn X self hf) (.inl rfl) h
end

noncomputable def putF (f : Str) (v : V) : List (Str × V) → List (Str × V)
  | [] => [(f, v)]
  | (g, x) :: r => if g = f then (g, v) :: r else (g, x) :: putF f v r
theorem lookup_putF (f g : Str) (v : V) : ∀ fs : List (Str × V), (putF f v fs).lookup g = if g = f then some v else fs.lookup g
  | [] => by
    show List.lookup g [(f, v)] = _
    by_cases h : g = f
    · have hb : (g == f) = true := beq_iff_eq.mpr h
      simp only [List.lookup, hb, if_pos h]
    · have hb : (g == f) = false := beq_eq_false_iff_ne.mpr h
      simp only [List.lookup, hb, if_neg h]
  | (k, x) :: r => by
    have ih := lookup_putF f g v r
    rw [show putF f v ((k, x) :: r) = (if k = f then (k, v) :: r else (k, x) :: putF f v r) from rfl]
    by_cases hk : k = f
    · rw [if_pos hk]
      by_cases h : g = k
      · have hb : (g == k) = true := beq_iff_eq.mpr h
        simp only [List.lookup, hb, if_pos (h.trans hk)]
      · have hb : (g == k) = false := beq_eq_false_iff_ne.mpr h
        simp only [List.lookup, hb, if_neg (fun e : g = f => h (e.trans hk.symm))]
    · rw [if_neg hk]
      by_cases h : g = k
      · have hb : (g == k) = true := beq_iff_eq.mpr h
        simp only [List.lookup, hb, if_neg (fun e : g = f => hk (h.symm.trans e))]
      · have hb : (g == k) = false := beq_eq_false_iff_ne.mpr h
        simp only [List.lookup, hb]
        exact ih
theorem keys_putF (f : Str) (v : V) : ∀ fs : List (Str × V), f ∈ (putF f v fs).map (·.1) ∧ ∀ g, g ∈ fs.map (·.1) → g ∈ (putF f v fs).map (·.1)
  | [] => ⟨by simp [putF], fun g h => by simp at h⟩
  | (k, x) :: r => by
    obtain ⟨i1, i2⟩ := keys_putF f v r
    rw [show putF f v ((k, x) :: r) = (if k = f then (k, v) :: r else (k, x) :: putF f v r) from rfl]
    by_cases hk : k = f
    · rw [if_pos hk]
      subst hk
      exact ⟨by simp, fun g h => by simpa using h⟩
    · rw [if_neg hk]
      refine ⟨?_, fun g h => ?_⟩
      · rw [List.map_cons]
        exact List.mem_cons_of_mem _ i1
      · rw [List.map_cons] at h ⊢
        rcases List.mem_cons.mp h with e | e
        · exact List.mem_cons.mpr (.inl e)
        · exact List.mem_cons_of_mem _ (i2 g e)
theorem length_putF (f : Str) (v : V) : ∀ fs : List (Str × V), (putF f v fs).length ≤ fs.length + 1
  | [] => by simp [putF]
  | (k, x) :: r => by
    have ih := length_putF f v r
    rw [show putF f v ((k, x) :: r) = (if k = f then (k, v) :: r else (k, x) :: putF f v r) from rfl]
    by_cases hk : k = f
    · rw [if_pos hk, List.length_cons, List.length_cons]; omega
    · rw [if_neg hk, List.length_cons, List.length_cons]; omega

theorem RelO.some_of {v : V} {o : Option Value} (r : RelO (some v) o) : ∃ u, o = some u ∧ RelV v u := by
  cases o with
  | none => exact (show False from r).elim
  | some u => exact ⟨u, rfl, r⟩
theorem handed_of {v : V} {u : Value} (r : RelV v u) : PySem.W.handedIn u = true := by
  cases v with
  | non => cases (show u = Value.none from r); rfl
  | bl b => cases (show u = Value.bool b from r); rfl
  | int i => obtain ⟨t, e⟩ := (show ∃ t, u = Value.int i t from r); cases e; rfl
  | str x => obtain ⟨t, e⟩ := (show ∃ t, u = Value.str x t from r); cases e; rfl
  | byt b => obtain ⟨t, e⟩ := (show ∃ t, u = Value.bytes b t from r); cases e; rfl
  | flt b => obtain ⟨t, e⟩ := (show ∃ t, u = Value.float b t from r); cases e; rfl
  | ref a => cases (show u = Value.ref a from r); rfl
  | ty n => cases (show u = Value.type n from r); rfl

section
variable {P : Program} {w : World} {H H' : Hp} {h h' : Heap} {a C dx : Addr} {fs fs' : List (Str × V)}
theorem ins_get (hok : HOk P w H h) (e : H a = some (.ins C dx fs)) : ∃ mA, ObjM h a dx C mA ∧ (∀ f, RelO (fs.lookup f) (mA f)) ∧ PySem.Within mA (fs.map (·.1)) ∧ fs.length ≤ 1000 ∧ H dx = some (.own a) := by
  obtain ⟨d, z, ne, ob, mA, n, r, q⟩ := (show ObjOk P w H h a (.ins C dx fs) from hok a _ e)
  exact ⟨mA, ⟨ob, n, ne⟩, r, q, z, d⟩
end

set_option genInjectivity false in
structure Cls (K : PySem.W.Frag) (C : Addr) : Prop where
  pg : PySem.W.plainGet K C Str.empty = true
  hd : PySem.W.hasDictIn K C = true
  po : PySem.W.plainOver K C = true
  sa : PySem.W.findIn K (.ref C) "__setattr__" = some (some (.builtin "object.__setattr__"))
theorem Cls.get {K : PySem.W.Frag} {C : Addr} (c : Cls K C) (f : Str) : PySem.W.plainGet K C f = true := c.pg
noncomputable def NoAttr (K : PySem.W.Frag) (C : Addr) (f : Str) : Prop := PySem.W.findIn K (.ref C) f = some none
theorem NoAttr.taker {K : PySem.W.Frag} {C : Addr} {f : Str} (n : NoAttr K C f) : PySem.W.takerIn K C f = some none := by
  unfold PySem.W.takerIn
  rw [show PySem.W.findIn K (.ref C) f = some none from n]
  rfl
section
variable {X : Cx} {pins : List (Addr × Obj)} {σ : St} {H : Hp} {s : Shared} {a C dx : Addr} {fs : List (Str × V)} {f : Str} {v : V} {A : Around} {E : Value → Shared → Prop}

theorem getattr_ok {b : Bool} {Q : Value → Shared → Prop} (I : Inv X pins σ H s) (e : H a = some (.ins C dx fs)) (c : Cls X.K C) (n : NoAttr X.K C f) (l : fs.lookup f = some v)
    (h : ∀ u s', Inv X pins σ H s' → RelV v u → Q u s') : wpAny (model X.prog X.w) A (getAttr (.ref a) f b) Q E s := by
  obtain ⟨mA, O, r, _, _, _⟩ := ins_get I.hok e
  obtain ⟨u, hu, ru⟩ := RelO.some_of (v := v) (o := mA f) (by rw [← l]; exact r f)
  exact get_map I.kIn O (c.get f) c.hd n hu (handed_of ru) (h u _ (I.tok _) ru)

theorem setattr_ok {y : V} {u : Value} {Q : Unit → Shared → Prop} (I : Inv X pins σ H s) (e : H a = some (.ins C dx fs)) (c : Cls X.K C) (n : NoAttr X.K C f) (hl : fs.length < 1000) (ry : RelV y u)
    (h : ∀ s', Inv X pins σ (upd H a (.ins C dx (putF f y fs))) s' → Q () s') : wpAny (model X.prog X.w) A (setAttr (.ref a) f u) Q E s := by
  obtain ⟨mA, O, r, wi, _, ho⟩ := ins_get I.hok e
  have hz : (fs.map (·.1)).length ≤ sizeLine := by rw [List.length_map, sizeLine_eq]; omega
  refine set_map I.kIn O c.sa c.po n.taker c.hd wi hz fun h' O' sb => h _ ?_
  have hd : ∃ o, h'.get? dx = some o := let ⟨o, _, _, e', _⟩ := O'.ns; ⟨o, e'⟩
  refine I.write (x := a) (e := dx) (by rw [e]; exact True.intro) (.inr ho) (fun b q hb z => (sb.2 b hb).trans z) hd ?_
  refine ⟨by rw [upd_ne O.ne]; exact ho, ?_, O.ne, O'.obj, _, O'.ns, fun g => ?_, fun g hg => ?_⟩
  · have := length_putF f y fs; omega
  · show RelO ((putF f y fs).lookup g) (if g = f then some u else mA g)
    rw [lookup_putF]
    by_cases q : g = f
    · rw [if_pos q, if_pos q]; exact ry
    · rw [if_neg q, if_neg q]; exact r g
  · by_cases q : g = f
    · rw [q]; exact (keys_putF f y fs).1
    · refine (keys_putF f y fs).2 g (wi g fun z => hg ?_)
      show (if g = f then some u else mA g) = none
      rw [if_neg q]; exact z

theorem Inv.made (I : Inv X pins σ H s) : Inv X pins σ (upd (upd H s.heap.objs.size (.own (s.heap.objs.size + 1))) (s.heap.objs.size + 1) (.ins C s.heap.objs.size []))
    { s with heap := (s.heap.push PySem.W.emptyDict).push (PySem.W.instObj C s.heap.objs.size) } := by
  have e1 : (s.heap.push PySem.W.emptyDict).get? s.heap.objs.size = some PySem.W.emptyDict := Heap.get?_push_size s.heap rfl
  have e2 : ((s.heap.push PySem.W.emptyDict).push (PySem.W.instObj C s.heap.objs.size)).get? (s.heap.objs.size + 1) = some (PySem.W.instObj C s.heap.objs.size) := by
    have := Heap.get?_push_size (s.heap.push PySem.W.emptyDict) (o := PySem.W.instObj C s.heap.objs.size) rfl
    rwa [Heap.size_push] at this
  have e3 : (s.heap.push PySem.W.emptyDict).Ns s.heap.objs.size (fun _ => none) := ⟨PySem.W.emptyDict, #[], _, e1, rfl, (fun e he => absurd he (by simp)), fun _ => rfl⟩
  have I1 := I.laid (a := s.heap.objs.size) (o := .own (s.heap.objs.size + 1)) (h' := s.heap.push PySem.W.emptyDict) (t' := s.toks) (fun b u q => Heap.get?_push_of_some _ q) (Nat.le_refl _) ⟨_, e1⟩
  refine I1.laid (a := s.heap.objs.size + 1) (o := .ins C s.heap.objs.size []) (t' := s.toks) (fun b u q => Heap.get?_push_of_some _ q) (Nat.le_of_eq (Heap.size_push _ _)) ?_
  have ne : s.heap.objs.size ≠ s.heap.objs.size + 1 := Nat.ne_of_lt (Nat.lt_succ_self _)
  refine ⟨by rw [upd_ne ne, upd_same], Nat.zero_le _, ne, e2, fun _ => none, (Heap.Ns1.of_empty e3).at fun o q => Heap.get?_push_of_some _ q, fun _ => True.intro, fun y hy => absurd rfl hy⟩

theorem attr_of {prog : Program} {w : World} {env : Env} {e : Expr} {f : Str} {pos : Pos} {s : Shared} {Q : Value → Shared → Prop} (hb : attributeBase e f env (eval e env) = eval e env)
    (h : wpAny (model prog w) A (eval e env) (fun o s₁ => wpAny (model prog w) A (getAttr o f true) Q E s₁) E s) : wpAny (model prog w) A (eval (.Attribute e f pos) env) Q E s :=
  Attribute_any_ h (by rw [arm_eval_Attribute, hb])
end

noncomputable def tFld (K : PySem.W.Frag) (ta : TE) (f : Str) : TE := fun σ H Q => ta σ H fun x H1 => ∃ a C dx fs v, x = .ref a ∧ H1 a = some (.ins C dx fs) ∧ Cls K C ∧ NoAttr K C f ∧ fs.lookup f = some v ∧ Q v H1
noncomputable def sFld (K : PySem.W.Frag) (ta tv : TE) (f : Str) : TS := fun D σ H => tv σ H fun y H1 => ta σ H1 fun x H2 => ∃ a C dx fs, x = .ref a ∧ H2 a = some (.ins C dx fs) ∧ Cls K C ∧ NoAttr K C f ∧ fs.length < 1000 ∧
  D.nx σ (upd H2 a (.ins C dx (putF f y fs)))
section
variable {X : Cx} {o e value : Expr} {f : Str} {pos pos' tpos : Pos} {ta tv : TE}
theorem pe_fld (he : PE X e ta) (hb : attributeBase e f X.env (eval e X.env) = eval e X.env) : PE X (.Attribute e f pos) (tFld X.K ta f) := by
  intro pins s σ H Q I h
  refine attr_of hb (thn (he pins s σ H _ I h) fun u s1 ⟨x, H1, I1, rx, a, C, dx, fs, v, ex, ea, c, n, l, q⟩ => ?_)
  subst ex
  obtain rfl : u = Value.ref a := rx
  exact getattr_ok I1 ea c n l fun u' s2 I2 ru => ⟨v, H1, I2, ru, q⟩
theorem ps_fld (ha : PE X o ta) (hv : PE X value tv) (hs : swapsWith value (some (.Attribute o f pos')) pos.line X.env = pure false) : PS X (.Assign [.Attribute o f pos'] value pos) (sFld X.K ta tv f) := by
  intro pins s σ H D I h
  refine plainObj_wpAny_Assign_Attribute (thn (hv pins s σ H _ I h) fun u s1 ⟨y, H1, I1, ry, q⟩ => thn (ha pins s1 σ H1 _ I1 q) fun ov s2 ⟨x, H2, I2, rx, a, C, dx, fs, ex, ea, c, n, l, q2⟩ => ?_) hs
  subst ex
  obtain rfl : ov = Value.ref a := rx
  exact setattr_ok I2 ea c n l ry fun s3 I3 => ⟨σ, _, I3, q2⟩
end

section
variable {X : Cx} {pins : List (Addr × Obj)} {σ : St} {H : Hp} {s : Shared} {A : Around} {E : Value → Shared → Prop} {Q : Value → Shared → Prop} {c : Value} {b : Bool}
inductive TyOf (K : PySem.W.Frag) (H : Hp) : V → Value → Prop where
  | non : TyOf K H .non (.type "NoneType")
  | bl (x : Bool) : TyOf K H (.bl x) (.type "bool")
  | int (i : Int) : TyOf K H (.int i) (.type "int")
  | str (x : Str) : TyOf K H (.str x) (.type "str")
  | flt (x : UInt64) : TyOf K H (.flt x) (.type "float")
  | lst {a : Addr} {xs : List V} (e : H a = some (.lst xs)) : TyOf K H (.ref a) (.type "list")
  | frz {a : Addr} {o : Obj} {xs : List V} (e : H a = some (.frz o (.lst xs))) : TyOf K H (.ref a) (.type "list")
  | tup {a : Addr} {xs : List V} (e : H a = some (.tup xs)) : TyOf K H (.ref a) (.type "tuple")
  | dK {a : Addr} {kvs : List (Key × V)} (e : H a = some (.dK kvs)) : TyOf K H (.ref a) (.type "dict")
  | dT {a : Addr} {kvs : List (List Key × V)} (e : H a = some (.dT kvs)) : TyOf K H (.ref a) (.type "dict")
  | ins {a C dx : Addr} {fs : List (Str × V)} (e : H a = some (.ins C dx fs)) (cl : Cls K C) (ha : PySem.W.findIn K (.ref C) "__class__" = some (some (.builtin "object.__class__")))
      (hn : PySem.W.specialIn K (.builtin "object.__class__") "__get__" = some (some (.builtin "getset_descriptor.__get__"))) (htk : PySem.W.takesIn K (.builtin "object.__class__") = some true)
      (hm : PySem.W.mroIn K C (.type "object") = some true) : TyOf K H (.ref a) (.ref C)
theorem isinst_ok {x : V} {u t : Value} (I : Inv X pins σ H s) (rx : RelV x u) (ty : TyOf X.K H x t) (e : PySem.W.kitOne X.K t c = some b) (h : ∀ tk, Q (.bool b) { s with toks := tk }) :
    wpAny (model X.prog X.w) A (call (.builtin "isinstance") [u, c]) Q E s := by
  cases ty with
  | non => cases (show u = Value.none from rx); exact PySem.W.kia_one PySem.W.kitx_none I.kIn True.intro e (fun z => nomatch z) h
  | bl y => cases (show u = Value.bool y from rx); exact PySem.W.kia_one PySem.W.kitx_bool I.kIn True.intro e (fun z => nomatch z) h
  | int i => obtain ⟨t, q⟩ := (show ∃ t, u = Value.int i t from rx); cases q; exact PySem.W.kia_one PySem.W.kitx_int I.kIn True.intro e (fun z => nomatch z) h
  | str y => obtain ⟨t, q⟩ := (show ∃ t, u = Value.str y t from rx); cases q; exact PySem.W.kia_one PySem.W.kitx_str I.kIn True.intro e (fun z => nomatch z) h
  | flt y => obtain ⟨t, q⟩ := (show ∃ t, u = Value.float y t from rx); cases q; exact PySem.W.kia_one PySem.W.kitx_float I.kIn True.intro e (fun z => nomatch z) h
  | @lst a xs ea =>
    cases (show u = Value.ref a from rx)
    obtain ⟨_, _, n, _, h1⟩ := (show ObjOk X.prog X.w H s.heap a (.lst xs) from I.hok a _ ea)
    exact PySem.W.kia_one PySem.W.kitx_list I.kIn ⟨_, h1, rfl⟩ e (fun z => nomatch z) h
  | @frz a ob xs ea =>
    cases (show u = Value.ref a from rx)
    obtain ⟨_, _, _, n, _, h1⟩ := (show ObjOk X.prog X.w H s.heap a (.frz ob (.lst xs)) from I.hok a _ ea)
    exact PySem.W.kia_one PySem.W.kitx_list I.kIn ⟨_, h1, rfl⟩ e (fun z => nomatch z) h
  | @tup a xs ea =>
    cases (show u = Value.ref a from rx)
    obtain ⟨_, _, _, p⟩ := (show ObjOk X.prog X.w H s.heap a (.tup xs) from I.hok a _ ea)
    obtain ⟨o, h1, h2, _⟩ := p
    exact PySem.W.kia_one PySem.W.kitx_tuple I.kIn ⟨o, h1, h2⟩ e (fun z => nomatch z) h
  | @dK a kvs ea =>
    cases (show u = Value.ref a from rx)
    obtain ⟨_, _, vs, _, p⟩ := (show ObjOk X.prog X.w H s.heap a (.dK kvs) from I.hok a _ ea)
    obtain ⟨o, es, ep, h1, h2, _⟩ := p
    exact PySem.W.kia_one PySem.W.kitx_dict I.kIn ⟨o, h1, h2.1⟩ e (fun z => nomatch z) h
  | @dT a kvs ea =>
    cases (show u = Value.ref a from rx)
    obtain ⟨_, _, xs, _, o, es, ep, h1, h2, _⟩ := (show ObjOk X.prog X.w H s.heap a (.dT kvs) from I.hok a _ ea)
    exact PySem.W.kia_one PySem.W.kitx_dict I.kIn ⟨o, h1, h2.1⟩ e (fun z => nomatch z) h
  | @ins a C dx fs ea cl ha hn htk hm =>
    cases (show u = Value.ref a from rx)
    obtain ⟨mA, O, _⟩ := ins_get I.hok ea
    obtain ⟨od, J, _⟩ := O.look
    exact PySem.W.kia_one (PySem.W.kitx_own (cl.get _) cl.hd ha hn htk hm) I.kIn J e (fun z => nomatch z) h
end
end L2

namespace L2
open PySem PySem.Spec PyProof.Rows

set_option genInjectivity false in
structure Room (k : Nat) (A : Around) : Prop where
  hd : A.handled = none
  dp : A.depth + 3 * k + 5 < recursionLimit
  un : A.units + 16 * k + 200 < cLine
theorem Room.mono {j k : Nat} {A : Around} (r : Room k A) (h : j ≤ k) : Room j A := ⟨r.hd, by have := r.dp; omega, by have := r.un; omega⟩
theorem Room.deeper {k : Nat} {A : Around} (r : Room (k + 1) A) (env : Env) : Room k (A.deeper env) :=
  ⟨r.hd, by have := r.dp; show A.depth + 1 + 3 * k + 5 < _; omega, by have := r.un; show A.units + 3 + 16 * k + 200 < _; omega⟩
theorem make_depth {A : Around} {C : Addr} {us : List Value} {kw : List (Str × Value)} : (A.under (.builtin "type.__call__" ⟨.ref C :: us, kw⟩)).depth = A.depth + 1 := by
  first | rfl | simp [Around.under, Code.weight, Code.isCreation, Code.isGuard, Code.isCaller, Code.frames, Code.isFrame, guardIds]
theorem make_units {A : Around} {C : Addr} {us : List Value} {kw : List (Str × Value)} : (A.under (.builtin "type.__call__" ⟨.ref C :: us, kw⟩)).units = A.units + 1 := by
  first | rfl | simp [Around.under, Code.cUnits, Code.frames, Code.isFrame]
theorem Room.make {k : Nat} {A : Around} (r : Room (k + 1) A) (C : Addr) (us : List Value) (kw : List (Str × Value)) : Room k (A.under (.builtin "type.__call__" ⟨.ref C :: us, kw⟩)) :=
  ⟨r.hd, by have := r.dp; rw [make_depth]; omega, by have := r.un; rw [make_units]; omega⟩
theorem Room.depth {k : Nat} {A : Around} (r : Room k A) : A.depth < recursionLimit := by have := r.dp; omega
theorem Room.units {k : Nat} {A : Around} (r : Room k A) : A.units + 64 < cLine := by have := r.un; omega
noncomputable def tNil : TA := fun _ H Q => Q [] H
noncomputable def tCons (ta : TE) (tr : TA) : TA := fun σ H Q => ta σ H fun x H1 => tr σ H1 fun xs H2 => Q (x :: xs) H2
section
variable {X : Cx} {e : Expr} {es : List Expr} {te : TE} {t : TA} {pos : Pos}
theorem pa_nil : PA X [] tNil := fun _ _ _ _ H Q I h => Calls.spliced_nil ⟨[], H, I, .nil, h⟩
theorem pa_cons (ha : PE X e te) (hr : PA X es t) (hs : starEach (e :: es) X.env = (false, eval e X.env) :: starEach es X.env := by rfl) : PA X (e :: es) (tCons te t) := by
  intro pos pins s σ H Q I h
  rw [hs]
  show wpAny _ _ (spliced ((false, eval e X.env) :: backTo pos (starEach es X.env))) _ _ s
  refine Calls.spliced_cons (thn (ha pins s σ H _ I h) fun u s1 ⟨x, H1, I1, r1, q1⟩ => ?_)
  exact thn (hr pos pins s1 σ H1 _ I1 q1) fun us s2 ⟨xs, H2, I2, r2, q2⟩ => ⟨x :: xs, H2, I2, .cons r1 r2, q2⟩

noncomputable def tTup (t : TA) : TE := fun σ H Q => t σ H fun xs H1 => xs.length ≤ sizeLine ∧ ∀ p, H1 p = none → Q (.ref p) (upd H1 p (.tup xs))
noncomputable def tLst (t : TA) : TE := fun σ H Q => t σ H fun xs H1 => xs.length ≤ sizeLine ∧ ∀ p, H1 p = none → Q (.ref p) (upd H1 p (.lst xs))
theorem pe_tup {x1} (h : PA X es t) : PE X (.Tuple es x1 pos) (tTup t) := by
  intro pins s σ H Q I hq
  refine wpAny_Tuple_spliced (thn (h pos pins s σ H _ I hq) fun us s1 ⟨xs, H1, I1, r, z, q⟩ => ⟨by rw [← r.length]; exact z, ?_⟩)
  have hf : H1 s1.heap.objs.size = none := I1.hok.fresh (Nat.le_refl _)
  refine ⟨.ref s1.heap.objs.size, upd H1 s1.heap.objs.size (.tup xs), I1.laid (t' := s1.toks) (fun b u e => Heap.get?_push_of_some _ e) (Nat.le_refl _) ?_, rfl, q _ hf⟩
  exact ⟨z, us, r, ⟨_, Heap.get?_push_size _ rfl, rfl, _, rfl⟩⟩
theorem pe_lst (h : PA X es t) : PE X (.List es pos) (tLst t) := by
  intro pins s σ H Q I hq
  refine wpAny_List_spliced (thn (h pos pins s σ H _ I hq) fun us s1 ⟨xs, H1, I1, r, z, q⟩ => ⟨by rw [← r.length]; exact z, ?_⟩)
  have hf : H1 s1.heap.objs.size = none := I1.hok.fresh (Nat.le_refl _)
  refine ⟨.ref s1.heap.objs.size, upd H1 s1.heap.objs.size (.lst xs), I1.laid (t' := s1.toks) (fun b u e => Heap.get?_push_of_some _ e) (Nat.le_refl _) ?_, rfl, q _ hf⟩
  exact ⟨z, us, 0, r, Heap.get?_push_size _ rfl⟩
end

noncomputable abbrev Sp := List V → Hp → VK → XK → Prop
noncomputable abbrev CXT := List Env → Hp → Shared → XK → Value → Shared → Prop

set_option genInjectivity false in
structure Env0 (P : Program) (w : World) (K : PySem.W.Frag) (mg : Str → Option Value) (base : Heap) (A : Around) (outer : List Env) (s : Shared) (H : Hp) : Prop where
  frames : A.frames = some outer
  mod : Mod K mg base
  bs : ∀ b o, base.get? b = some o → s.heap.get? b = some o ∧ H b = none
  bsz : base.objs.size ≤ s.heap.objs.size
  funs : s.heap.FunFrames base outer
  frf : ∀ b ∈ frs outer, H b = none
  hok : HOk P w H s.heap
  bare : AllBare s.gens
noncomputable def CE (outer : List Env) (P : Program) (w : World) (H : Hp) (s : Shared) (Q : VK) (u : Value) (s' : Shared) : Prop :=
  ∃ v H', s'.os = s.os ∧ AllBare s'.gens ∧ Un (frs outer) [] H H' s.heap s'.heap ∧ HOk P w H' s'.heap ∧ RelV v u ∧ Q v H'
noncomputable def CR (CX : CXT) (outer : List Env) (P : Program) (w : World) (H : Hp) (s : Shared) (Q : VK) (E : XK) (r : Result) (s' : Shared) : Prop :=
  match r with
  | .ok (.ret u) => CE outer P w H s Q u s'
  | .ok _ => False
  | .error e => CX outer H s E e s'
set_option genInjectivity false in
structure FnOk (P : Program) (w : World) (K : PySem.W.Frag) (mg : Str → Option Value) (base : Heap) (CX : CXT) (k : Nat) (f : Addr) (fd : FuncData) (ps : List Str) (sp : Sp) : Prop where
  len : ∀ vs H Q E, sp vs H Q E → vs.length = ps.length
  run : ∀ (A : Around) (outer : List Env) (s : Shared) (H : Hp) (args : Args) (us : List Value) (vs : List V) (Q : VK) (E : XK), Room k A → Env0 P w K mg base A outer s H → BindsTo s fd args (ps.zip us) → Vals vs us → sp vs H Q E →
    codeAny (model P w) A (.call (.ref f) args) (CR CX outer P w H s Q E) s
theorem Env0.make {P : Program} {w : World} {K : PySem.W.Frag} {mg : Str → Option Value} {base : Heap} {A : Around} {outer : List Env} {s : Shared} {H : Hp} (e : Env0 P w K mg base A outer s H) (C : Addr) (us : List Value) (kw : List (Str × Value)) :
    Env0 P w K mg base (A.under (.builtin "type.__call__" ⟨.ref C :: us, kw⟩)) outer s H := ⟨by first | exact e.frames | (simpa [Around.under, Code.envs, Code.isFrame, pushEnvs] using e.frames), e.mod, e.bs, e.bsz, e.funs, e.frf, e.hok, e.bare⟩
section
variable {X : Cx} {pins : List (Addr × Obj)} {σ : St} {H : Hp} {s s' : Shared}
theorem Inv.env0 (I : Inv X pins σ H s) : Env0 X.prog X.w X.K X.mg X.base X.A X.stack s H :=
  ⟨I.ok.frames, I.ok.mod, I.bs, Nat.le_trans I.ok.bsz I.sz, I.stack, I.stkFree, I.hok, I.bare⟩
theorem Inv.after {Q : VK} {u : Value} (I : Inv X pins σ H s) (h : CE X.stack X.prog X.w H s Q u s') : EP X pins σ Q u s' := by
  obtain ⟨v, H', os, bare, un, hok, r, q⟩ := h
  obtain ⟨hh, g, d, t, os'⟩ := s'
  obtain rfl : os' = s.os := os
  exact ⟨v, H', I.call (h' := hh) (g' := g) (d' := d) (t' := t) (ch := []) un hok bare (fun b z => absurd z (by simp)), r, q⟩
end

noncomputable def tCall (sp : Sp) (dvs : List V) (E : XK) (t : TA) : TE := fun σ H Q => t σ H fun vs H1 => sp (vs ++ dvs) H1 Q E
noncomputable def tMake (C : Addr) (sp : Sp) (dvs : List V) (E : XK) (t : TA) : TE := fun σ H Q => t σ H fun vs H1 => ∀ x dx, H1 x = none → H1 dx = none → dx ≠ x →
  sp (.ref x :: (vs ++ dvs)) (upd (upd H1 dx (.own x)) x (.ins C dx [])) (fun v H2 => v = .non ∧ Q (.ref x) H2) E

noncomputable def Binds (K : PySem.W.Frag) (fd : FuncData) (ps : List Str) (ds : List Value) : Prop :=
  ∀ (s : Shared) (us : List Value), K.In s.heap → (us ++ ds).length = ps.length → BindsTo s fd ⟨us, []⟩ (ps.zip (us ++ ds))
theorem Binds.all {K : PySem.W.Frag} {fd : FuncData} {ps : List Str} (h : ∀ us : List Value, us.length = ps.length → bindArgs fd ⟨us, []⟩ = pure (ps.zip us)) : Binds K fd ps [] := fun s us _ hl => by
  rw [List.append_nil] at hl ⊢
  exact .of_eq (h us hl)

noncomputable def Passes (CX : CXT) (X : Cx) (E : XK) : Prop := ∀ (pins : List (Addr × Obj)) (σ : St) (H : Hp) (s : Shared) (e : Value) (s' : Shared), Inv X pins σ H s → CX X.stack H s E e s' → X.xe e s'

section
variable {X : Cx} {CX : CXT} {k : Nat} {f C : Addr} {fd : FuncData} {ps : List Str} {sp : Sp} {dvs : List V} {ds : List Value} {E : XK} {x m : Str} {p pos apos : Pos} {e o : Expr} {es : List Expr} {ta : TE} {t : TA}

theorem run_fn {pins : List (Addr × Obj)} {σ : St} {H : Hp} {s : Shared} {Q : VK} {us : List Value} {vs : List V} (F : FnOk X.prog X.w X.K X.mg X.base CX k f fd ps sp) (hr : Room k X.A) (hb : Binds X.K fd ps ds) (hd : Vals dvs ds) (hx : Passes CX X E)
    (I : Inv X pins σ H s) (r : Vals vs us) (h : sp (vs ++ dvs) H Q E) : wpAny (model X.prog X.w) X.A (call (.ref f) us) (EP X pins σ Q) X.xe s := by
  have r2 : Vals (vs ++ dvs) (us ++ ds) := r.append hd
  have hl : (us ++ ds).length = ps.length := by rw [← r2.length]; exact F.len _ _ _ _ h
  refine wpAny_call (codeAny_mono (F.run X.A X.stack s H ⟨us, []⟩ (us ++ ds) (vs ++ dvs) Q E hr I.env0 (hb s us I.kIn hl) r2 h) fun r s' hq => ?_)
  cases r with
  | error e => exact hx pins σ H s e s' I hq
  | ok fl =>
    cases fl with
    | ret u => exact I.after hq
    | next => exact False.elim hq
    | brk => exact False.elim hq
    | cont => exact False.elim hq

theorem pe_call (F : FnOk X.prog X.w X.K X.mg X.base CX k f fd ps sp) (hr : Room k X.A) (hg : Gl X x) (hm : X.mg x = some (.ref f)) (hk : PySem.W.keepIn X.K (.ref f) = true) (hb : Binds X.K fd ps ds) (hd : Vals dvs ds) (hx : Passes CX X E)
    (ha : PA X (e :: es) t) (hdb : (x == ("__debug__" : Str)) = false := by decide) (he : starEach (e :: es) X.env = (false, eval e X.env) :: starEach es X.env := by rfl) (hpl : (backTo pos (starEach es X.env)).any (·.1) = false := by rfl) :
    PE X (.Call (.Name x p) (e :: es) [] pos) (tCall sp dvs E t) := by
  intro pins s σ H Q I h
  refine wpAny_Call_Name_kw (ld_glob I hg hm ?_ hdb)
  refine PySem.W.callWith_K (h₀ := X.base) I.ok.mod.kin hk (thn (ha pos pins s σ H _ I h) fun us s1 ⟨vs, H1, I1, r, q⟩ => ⟨I1.kIn, ?_⟩) he hpl
  exact run_fn F hr hb hd hx I1 r q
set_option genInjectivity false in
structure Mk (K : PySem.W.Frag) (C f : Addr) : Prop where
  makes : PySem.W.makesIn K C = true
  init : PySem.W.findIn K (.ref C) "__init__" = some (some (.ref f))
  fn : PySem.W.isFn K (.ref f) = true
  kp : PySem.W.keepIn K (.ref C) = true

theorem run_make {pins : List (Addr × Obj)} {σ : St} {H : Hp} {s : Shared} {Q : VK} {us : List Value} {vs : List V} (M : Mk X.K C f) (F : FnOk X.prog X.w X.K X.mg X.base CX k f fd ps sp) (hr : Room (k + 1) X.A) (hb : Binds X.K fd ps ds) (hd : Vals dvs ds)
    (hx : Passes CX X E) (I : Inv X pins σ H s) (r : Vals vs us)
    (h : ∀ x dx, H x = none → H dx = none → dx ≠ x → sp (.ref x :: (vs ++ dvs)) (upd (upd H dx (.own x)) x (.ins C dx [])) (fun v H2 => v = .non ∧ Q (.ref x) H2) E) :
    wpAny (model X.prog X.w) X.A (call (.ref C) us) (EP X pins σ Q) X.xe s := by
  have hq := h (s.heap.objs.size + 1) s.heap.objs.size (I.hok.fresh (Nat.le_succ _)) (I.hok.fresh (Nat.le_refl _)) (Nat.ne_of_lt (Nat.lt_succ_self _))
  have I2 := Inv.made (C := C) I
  have r2 : Vals (V.ref (s.heap.objs.size + 1) :: (vs ++ dvs)) (Value.ref (s.heap.objs.size + 1) :: (us ++ ds)) := .cons rfl (r.append hd)
  have hl : (Value.ref (s.heap.objs.size + 1) :: us ++ ds).length = ps.length := by
    have e := r2.length
    rw [F.len _ _ _ _ hq] at e
    exact e.symm
  refine wpAny_call (make_map (f := f) I.kIn M.makes M.init (beq_iff_eq.mp M.fn) (codeAny_mono (F.run _ X.stack _ _ ⟨Value.ref (s.heap.objs.size + 1) :: us, []⟩ (Value.ref (s.heap.objs.size + 1) :: (us ++ ds)) _ _ E (hr.make C us [])
    (I2.env0.make C us []) (hb _ (Value.ref (s.heap.objs.size + 1) :: us) I2.kIn hl) r2 hq) fun r s' hq' => ?_))
  cases r with
  | error e => exact hx pins σ _ _ e s' I2 hq'
  | ok fl =>
    cases fl with
    | ret u =>
      obtain ⟨v, H', I3, rv, ev, q3⟩ := I2.after hq'
      subst ev
      exact ⟨rv, ⟨V.ref (s.heap.objs.size + 1), H', I3, rfl, q3⟩⟩
    | next => exact False.elim hq'
    | brk => exact False.elim hq'
    | cont => exact False.elim hq'
theorem pe_make (M : Mk X.K C f) (F : FnOk X.prog X.w X.K X.mg X.base CX k f fd ps sp) (hr : Room (k + 1) X.A) (hg : Gl X x) (hm : X.mg x = some (.ref C)) (hb : Binds X.K fd ps ds) (hd : Vals dvs ds) (hx : Passes CX X E)
    (ha : PA X (e :: es) t) (hdb : (x == ("__debug__" : Str)) = false := by decide) (he : starEach (e :: es) X.env = (false, eval e X.env) :: starEach es X.env := by rfl) (hpl : (backTo pos (starEach es X.env)).any (·.1) = false := by rfl) :
    PE X (.Call (.Name x p) (e :: es) [] pos) (tMake C sp dvs E t) := by
  intro pins s σ H Q I h
  refine wpAny_Call_Name_kw (ld_glob I hg hm ?_ hdb)
  refine PySem.W.callWith_K (h₀ := X.base) I.ok.mod.kin M.kp (thn (ha pos pins s σ H _ I h) fun us s1 ⟨vs, H1, I1, r, q⟩ => ⟨I1.kIn, ?_⟩) he hpl
  exact run_make M F hr hb hd hx I1 r q
end

section
variable {X : Cx} {CX : CXT} {k : Nat} {f C : Addr} {fd : FuncData} {ps ks : List Str} {sp : Sp} {E : XK} {x m : Str} {p pos apos kpos : Pos} {e o : Expr} {es : List Expr} {kws : List Keyword} {te ta : TE} {t tk : TA} {nm : Option Str}
variable {g : List Value → List Value → List Value} {gV : List V → List V → List V}
end

set_option genInjectivity false in
structure FnScope (N P : List Str) (sc : Scope) : Prop where
  kind : sc.kind = .function
  co : sc.isCoroutine = false
  gen : sc.isGenerator = false
  nd : N.Nodup
  pre : N.take P.length = P
  par : ∀ x ∈ P, sc.names.lookup x = some .local ∨ sc.names.lookup x = some .cell
  nofree : ∀ y ∈ sc.names, y.2 ≠ .free

theorem bindL_out {kindOf : Str → Option NameKind} {x : Str} : ∀ {binds : List (Str × Value)} {m : Str → Option Value}, (∀ v, (x, v) ∉ binds) → bindL kindOf binds m x = m x
  | [], _, _ => rfl
  | (n, v) :: r, m, h => by
    unfold bindL
    rw [bindL_out fun w hw => h w (List.mem_cons_of_mem _ hw)]
    split
    · have : x ≠ n := by rintro rfl; exact h v List.mem_cons_self
      simp [this]
    · rfl
theorem bindC_out {kindOf : Str → Option NameKind} {x : Str} : ∀ {binds : List (Str × Value)} {m : Str → Option Value}, (∀ v, (x, v) ∉ binds) → bindC kindOf binds m x = m x
  | [], _, _ => rfl
  | (n, v) :: r, m, h => by
    unfold bindC
    rw [bindC_out fun w hw => h w (List.mem_cons_of_mem _ hw)]
    split
    · rfl
    · have : x ≠ n := by rintro rfl; exact h v List.mem_cons_self
      simp [this]
theorem bindL_get {kindOf : Str → Option NameKind} {x : Str} {v : Value} : ∀ {P : List Str} {vs : List Value} {i : Nat} {m : Str → Option Value}, P.Nodup → P[i]? = some x → vs[i]? = some v → kindOf x = some .local →
    bindL kindOf (P.zip vs) m x = some v
  | [], _, _, _, _, h, _, _ => by simp at h
  | _ :: _, [], _, _, _, _, h, _ => by simp at h
  | p :: P, w :: vs, 0, m, nd, h1, h2, hk => by
    simp at h1 h2; subst h1; subst h2
    show bindL kindOf ((p, w) :: P.zip vs) m p = _
    unfold bindL
    rw [bindL_out fun v hv => (List.nodup_cons.mp nd).1 (List.of_mem_zip hv).1, if_pos hk]
    simp
  | p :: P, w :: vs, i + 1, m, nd, h1, h2, hk => by
    show bindL kindOf ((p, w) :: P.zip vs) m x = _
    unfold bindL
    exact bindL_get (i := i) (List.nodup_cons.mp nd).2 (by simpa using h1) (by simpa using h2) hk
theorem bindC_get {kindOf : Str → Option NameKind} {x : Str} {v : Value} : ∀ {P : List Str} {vs : List Value} {i : Nat} {m : Str → Option Value}, P.Nodup → P[i]? = some x → vs[i]? = some v → kindOf x ≠ some .local →
    bindC kindOf (P.zip vs) m x = some v
  | [], _, _, _, _, h, _, _ => by simp at h
  | _ :: _, [], _, _, _, _, h, _ => by simp at h
  | p :: P, w :: vs, 0, m, nd, h1, h2, hk => by
    simp at h1 h2; subst h1; subst h2
    show bindC kindOf ((p, w) :: P.zip vs) m p = _
    unfold bindC
    rw [bindC_out fun v hv => (List.nodup_cons.mp nd).1 (List.of_mem_zip hv).1, if_neg hk]
    simp
  | p :: P, w :: vs, i + 1, m, nd, h1, h2, hk => by
    show bindC kindOf ((p, w) :: P.zip vs) m x = _
    unfold bindC
    exact bindC_get (i := i) (List.nodup_cons.mp nd).2 (by simpa using h1) (by simpa using h2) hk

noncomputable def start (N : List Str) (vs : List V) : St := vs.map some ++ List.replicate (N.length - vs.length) none

noncomputable def cxOf (CX : CXT) (P : Program) (w : World) (K : PySem.W.Frag) (mg : Str → Option Value) (base : Heap) (N : List Str) (qual : Str) (scope : Scope) (f : Addr) (cd : Value) (A : Around) (outer : List Env) (s : Shared) (H : Hp) (E : XK) : Cx where
  prog := P
  w := w
  K := K
  mg := mg
  base := base
  A := A.deeper (envOfC qual scope s.heap.objs.size f cd)
  N := N
  s₀ := s
  H₀ := H
  env := envOfC qual scope s.heap.objs.size f cd
  outer := outer
  stack := envOfC qual scope s.heap.objs.size f cd :: outer
  ex := []
  calm := true
  fn := fun _ => true
  pn := []
  xe := fun e s' => wpAny (model P w) (A.deeper (envOfC qual scope s.heap.objs.size f cd)) (leaving (envOfC qual scope s.heap.objs.size f cd) e) (fun _ s'' => CX outer H s E e s'') (fun e' s'' => CX outer H s E e' s'') s'

theorem cell_has {sc : Scope} {n : Nat} {x : Str} (h : sc.names.lookup x = some .cell) : ∃ c, (cellsFrom n sc.names []).lookup x = some c := by
  have q := PySem.W.cellsFrom_some sc.names n [] (.inl h)
  exact Option.isSome_iff_exists.mp q

theorem inv_start {CX : CXT} {P : Program} {w : World} {K : PySem.W.Frag} {mg : Str → Option Value} {base : Heap} {N ps : List Str} {qual : Str} {scope : Scope} {f : Addr} {cd : Value} {A : Around} {outer : List Env} {s s1 : Shared} {H : Hp} {E : XK} {us : List Value} {vs : List V}
    (S : FnScope N ps scope) (hd : A.handled = none) (e0 : Env0 P w K mg base A outer s H) (hl : vs.length = ps.length) (r : Vals vs us)
    (x : InCallC s s.heap.objs.size (bindL (envOfC qual scope s.heap.objs.size f cd).kindOf (ps.zip us) fun _ => none) (cellsFrom (s.heap.objs.size + 1) scope.names []) (bindC (envOfC qual scope s.heap.objs.size f cd).kindOf (ps.zip us) fun _ => none) s1) :
    Inv (cxOf CX P w K mg base N qual scope f cd A outer s H E) [] (start N vs) H s1 := by
  have hpl : ps.length ≤ N.length := by have := congrArg List.length S.pre; rw [List.length_take] at this; omega
  obtain ⟨h1, tk, rfl, hk⟩ := x.done
  have noA : ∀ b : Addr, b ∉ (cxOf CX P w K mg base N qual scope f cd A outer s H E).ex := fun b z => absurd (show b ∈ ([] : List Addr) from z) (by simp)
  refine ⟨⟨e0.mod, S.kind, rfl, rfl, Nat.le_refl _, fun y z c h1 h2 => ?_, fun y hy => ?_, fun y c _ h => ?_, fun _ => hd, Around.frames_deeper e0.frames, .inr ⟨rfl, rfl⟩, fun b z => absurd z (noA b), e0.bs, e0.bsz, fun b _ _ => noA b, fun b z => absurd z (noA b), e0.funs, e0.frf⟩,
    rfl, e0.bare, Un.kept hk, ⟨_, x.toInCall.ns, fun i y v h1 h2 h3 => ?_⟩, fun y c h => ⟨_, x.cell y c h⟩, e0.hok.fresh (Nat.le_refl _), fun y c h => ?_, fun p hp => absurd (show p ∈ ([] : List (Addr × Obj)) from hp) (by simp), e0.hok.kept hk, ?_⟩
  · exact name_of_addr x.apart (PySem.mem_of_lookup h1) (PySem.mem_of_lookup h2)
  · have hy : scope.names.lookup y = some .cell ∨ scope.names.lookup y = some .free := hy
    rcases hy with hy | hy
    · exact cell_has hy
    · exact absurd rfl (S.nofree _ (PySem.mem_of_lookup hy))
  · exact Nat.le_of_lt (x.above y c (PySem.mem_of_lookup h))
  · have hi : i < vs.length := by
      unfold start at h2
      by_cases hi : i < vs.length
      · exact hi
      · rw [List.getElem?_append_right (by simpa using hi)] at h2
        rw [List.getElem?_replicate] at h2
        split at h2 <;> cases h2
    have ha : vs[i]? = some v := by
      unfold start at h2
      rw [List.getElem?_append_left (by simpa using hi), List.getElem?_map] at h2
      cases e : vs[i]? with
      | none => rw [e] at h2; cases h2
      | some a => rw [e] at h2; cases h2; rfl
    obtain ⟨u, hu, rv⟩ := r.get ha
    have hp : ps[i]? = some y := by
      rw [← S.pre, List.getElem?_take_of_lt (by omega)]; exact h1
    have ndP : ps.Nodup := by rw [← S.pre]; exact S.nd.sublist (List.take_sublist _ _)
    refine ⟨u, rv, ?_⟩
    rcases S.par y (List.mem_of_getElem? hp) with k | k
    · exact .inl ⟨k, bindL_get ndP hp hu k⟩
    · obtain ⟨c, e⟩ := cell_has (n := s.heap.objs.size + 1) k
      refine .inr ⟨.inl k, c, e, ?_⟩
      have q := x.cell y c e
      rw [bindC_get ndP hp hu (by show scope.names.lookup y ≠ _; rw [k]; decide)] at q
      exact q
  · exact e0.hok.fresh (Nat.le_of_lt (x.above y c (PySem.mem_of_lookup h)))
  · unfold start
    show _ = N.length
    rw [List.length_append, List.length_map, List.length_replicate]
    omega

theorem fn_of {CX : CXT} {P : Program} {w : World} {K : PySem.W.Frag} {mg : Str → Option Value} {base : Heap} {k : Nat} {f : Addr} {name qual : Str} {params : Arguments} {body : List Stmt} {scope : Scope} {dV kV doc pm cdv ct oc : Value} {an od : Option Addr}
    {osl : Array (Option Value)} {N ps : List Str} {sp : Sp} (lk : K.lookup f = some ⟨oc, od, .func (PySem.W.fnOf name qual params body scope dV kV doc pm an cdv ct), osl⟩) (hcd : PySem.W.codeIn K cdv qual = true) (S : FnScope N ps scope)
    (len : ∀ vs H Q E, sp vs H Q E → vs.length = ps.length)
    (hbody : ∀ (A : Around) (outer : List Env) (s : Shared) (H : Hp) (vs : List V) (Q : VK) (E : XK), Room k (A.deeper (envOfC qual scope s.heap.objs.size f cdv)) → sp vs H Q E →
      ∃ t, PSs (cxOf CX P w K mg base N qual scope f cdv A outer s H E) body t ∧ t { nx := fun _ H' => Q .non H', rt := Q } (start N vs) H) :
    FnOk P w K mg base CX (k + 1) f (PySem.W.fnOf name qual params body scope dV kV doc pm an cdv ct) ps sp := by
  refine ⟨len, fun A outer s H args us vs Q E hr e0 hb r hsp => ?_⟩
  have hl := len _ _ _ _ hsp
  have KX : K.In s.heap := e0.mod.kin.keeps fun b o e => (e0.bs b o e).1
  have lim : s.heap.NoLimit := e0.mod.nolimit.keeps fun b o e => (e0.bs b o e).1
  have hkind : ∀ y ∈ ps.zip us, scope.names.lookup y.1 = some .local ∨ (scope.names.lookup y.1 = some .cell ∧ ((cellsFrom (s.heap.objs.size + 1) scope.names []).lookup y.1).isSome = true) := fun ⟨n, v⟩ hy => by
    rcases S.par n (List.of_mem_zip hy).1 with q | q
    · exact .inl q
    · exact .inr ⟨q, PySem.W.cellsFrom_some _ _ _ (.inl q)⟩
  refine codeAny_call_function hr.depth (KX _ _ lk) rfl S.co S.gen rfl (PySem.W.codeRec_of KX hcd) (hb _ _ _ _ ?_)
  refine wpAny_newFunctionEnv_cells S.kind hkind fun env he s1 x => ?_
  subst he
  refine ⟨lim.keeps x.toInCall.keep, codeAny_func ?_⟩
  obtain ⟨t, ht, hq⟩ := hbody A outer s H vs Q E (hr.deeper _) hsp
  have I : Inv (cxOf CX P w K mg base N qual scope f cdv A outer s H E) [] (start N vs) H s1 := inv_start S hr.hd e0 hl r x
  refine wpAny_mono (ht [] s1 (start N vs) H _ I hq) (fun fl s' hs => ?_) fun e s' hs => hs
  have fin : ∀ {σ' : St} {H' : Hp} {v : V} {u : Value}, Inv (cxOf CX P w K mg base N qual scope f cdv A outer s H E) [] σ' H' s' → RelV v u → Q v H' → CE outer P w H s Q u s' :=
    fun {σ' H' v u} J rv q => ⟨v, H', J.os, J.bare, J.base, J.hok, rv, q⟩
  cases fl with
  | ret u =>
    obtain ⟨v, σ', H', J, rv, q⟩ := hs
    exact fin J rv q
  | next =>
    obtain ⟨σ', H', J, q⟩ := hs
    exact fin (v := V.non) (u := Value.none) J rfl q
  | brk =>
    obtain ⟨_, _, _, q⟩ := hs
    exact False.elim q
  | cont =>
    obtain ⟨_, _, _, q⟩ := hs
    exact False.elim q
end L2

namespace L2
open PySem PySem.Spec PyProof.Rows
section
variable {X : Cx} {x : Str} {p pos : Pos} {e : Expr} {es : List Expr} {t : TA} {id T : String} {r : List V → Hp → VK → Prop}

noncomputable def tCB (r : List V → Hp → VK → Prop) (t : TA) : TE := fun σ H Q => t σ H fun vs H1 => r vs H1 Q
theorem pe_callB (hc : CallR X (.builtin id) r) (hg : Gl X x) (hm : X.mg x = none) (hv : bootBuiltins x = some (.builtin id)) (ha : PA X (e :: es) t) (hn : x ≠ "__name__" := by decide) (hdb : (x == ("__debug__" : Str)) = false := by decide)
    (he : starEach (e :: es) X.env = (false, eval e X.env) :: starEach es X.env := by rfl) (hpl : (backTo pos (starEach es X.env)).any (·.1) = false := by rfl) : PE X (.Call (.Name x p) (e :: es) [] pos) (tCB r t) := by
  intro pins s σ H Q I h
  refine wpAny_Call_Name_kw (ld_blt I hg hm hv ?_ hn hdb)
  exact PyProof.Rows.callWith_builtin1 (thn (ha pos pins s σ H _ I h) fun us s1 ⟨vs, H1, I1, r1, q1⟩ => hc pins s1 σ H1 vs us Q I1 r1 q1) he hpl
theorem pe_callTy (hc : CallR X (.type T) r) (hg : Gl X x) (hm : X.mg x = none) (hv : bootBuiltins x = some (.type T)) (ha : PA X (e :: es) t) (hn : x ≠ "__name__" := by decide) (hdb : (x == ("__debug__" : Str)) = false := by decide)
    (he : starEach (e :: es) X.env = (false, eval e X.env) :: starEach es X.env := by rfl) (hpl : (backTo pos (starEach es X.env)).any (·.1) = false := by rfl) : PE X (.Call (.Name x p) (e :: es) [] pos) (tCB r t) := by
  intro pins s σ H Q I h
  refine wpAny_Call_Name_kw (ld_blt I hg hm hv ?_ hn hdb)
  exact PyProof.Rows.callWith_type1 (thn (ha pos pins s σ H _ I h) fun us s1 ⟨vs, H1, I1, r1, q1⟩ => hc pins s1 σ H1 vs us Q I1 r1 q1) he hpl
end
end L2

namespace HT
open PySem PyProof.Rows

section
open PySem.SeqAt
open PySem.AutoSeq1 (wpAny_loadPart')
open PySem.MeetsSeq PySem.MeetsSeq2 PySem.MeetsSeq3

end

section
variable {prog : Program} {w : World} {A : Around} {E : Value → Shared → Prop} {s : Shared}

noncomputable def sIx (n d : Nat) : Option Int → Nat
  | none => d
  | some v => if v < 0 then (v + (n : Int)).toNat else min v.toNat n
theorem sIx_none (n d : Nat) : sIx n d none = d := rfl
theorem sIx_nat (n d k : Nat) : sIx n d (some (k : Int)) = min k n := by
  show (if (k : Int) < 0 then ((k : Int) + (n : Int)).toNat else min (k : Int).toNat n) = min k n
  rw [if_neg (by omega), Int.toNat_natCast]
theorem sIx_le (n d : Nat) (hd : d ≤ n) (o : Option Int) : sIx n d o ≤ n := by
  cases o with
  | none => exact hd
  | some v =>
    show (if v < 0 then (v + (n : Int)).toNat else min v.toNat n) ≤ n
    by_cases hv : v < 0
    · rw [if_pos hv]; omega
    · rw [if_neg hv]; exact Nat.min_le_right _ _
end
end HT

namespace L2
open PySem PySem.Spec PyProof.Rows

noncomputable abbrev TO := St → Hp → (Option Int → Hp → Prop) → Prop
noncomputable def PO (X : Cx) (e : Option Expr) (t : TO) : Prop :=
  ∀ (pins : List (Addr × Obj)) (s : Shared) (σ : St) (H : Hp) (Q : Option Int → Hp → Prop), Inv X pins σ H s → t σ H Q →
    wpAny (model X.prog X.w) X.A (evalPart e X.env) (fun u s' => ∃ o H', Inv X pins σ H' s' ∧ IsPart u o ∧ Q o H') X.xe s
noncomputable def tNoPart : TO := fun _ H Q => Q none H
noncomputable def tPart (t : TE) : TO := fun σ H Q => t σ H fun x H1 => ∃ i, x = .int i ∧ Q (some i) H1

theorem intsAre_of {ns : List Int} : ∀ {us : List Value}, Vals (ns.map V.int) us → IntsAre us ns := by
  induction ns with
  | nil => intro us r; rw [List.map_nil] at r; cases r; exact .nil
  | cons n ns ih =>
    intro us r
    rw [List.map_cons] at r
    cases r with
    | cons r1 r2 =>
      obtain ⟨t, e⟩ := r1
      subst e
      exact .cons n t (ih r2)

section
variable {X : Cx} {e : Expr} {te : TE} {lo hi : Option Expr} {tl th : TO} {pos p2 : Pos}

theorem po_none : PO X none tNoPart := by
  intro pins s σ H Q I h
  rw [evalPart_none]
  exact wpAny_pure ⟨none, H, I, .none, h⟩
theorem po_some (h : PE X e te) : PO X (some e) (tPart te) := by
  intro pins s σ H Q I hw
  rw [evalPart_some]
  refine thn (h pins s σ H _ I hw) fun u s1 ⟨x, H1, I1, r1, q1⟩ => ?_
  obtain ⟨i, rfl, q⟩ := q1
  obtain ⟨t, rfl⟩ := r1
  exact ⟨some i, H1, I1, .int i t, q⟩

noncomputable def SlR (X : Cx) (r : V → Option Int → Option Int → Hp → VK → Prop) : Prop :=
  ∀ (pins : List (Addr × Obj)) (s : Shared) (σ : St) (H : Hp) (x : V) (v vl vu : Value) (lo hi : Option Int) (sl : Addr) (Q : VK), Inv X pins σ H s → RelV x v → s.heap.IsSliceOf sl vl vu .none → IsPart vl lo → IsPart vu hi → r x lo hi H Q →
    ∃ T id, typeLookup (.type T) "__getitem__" = pure (some (.builtin id)) ∧ s.TypeIs v T ∧ wpAny (model X.prog X.w) X.A (getItem v (.ref sl)) (EP X pins σ Q) X.xe s
noncomputable def tSl (r : V → Option Int → Option Int → Hp → VK → Prop) (te : TE) (tl th : TO) : TE := fun σ H Q => te σ H fun x H1 => tl σ H1 fun l H2 => th σ H2 fun u H3 => r x l u H3 Q
theorem pe_slice {r : V → Option Int → Option Int → Hp → VK → Prop} (hr : SlR X r) (he : PE X e te) (hl : PO X lo tl) (hu : PO X hi th) : PE X (.Subscript e (.Slice lo hi none p2) pos) (tSl r te tl th) := by
  intro pins s σ H Q I h
  refine Subscript_ (thn (he pins s σ H _ I h) fun v s1 ⟨x, H1, I1, r1, q1⟩ => ?_)
  refine wpAny_Slice (thn (hl pins s1 σ H1 _ I1 q1) fun vl s2 ⟨l, H2, I2, pl, q2⟩ => thn (hu pins s2 σ H2 _ I2 q2) fun vu s3 ⟨u, H3, I3, pu, q3⟩ => ?_)
  rw [evalPart_none]
  refine wpAny_pure ?_
  have I4 : Inv X pins σ H3 { s3 with heap := s3.heap.push { cls := .type "slice", data := .fields #[vl, vu, .none] } } := I3.kept (t' := s3.toks) fun b ob q => Heap.get?_push_of_some _ q
  obtain ⟨T, id, hT, ht, hg⟩ := hr pins { s3 with heap := s3.heap.push { cls := .type "slice", data := .fields #[vl, vu, .none] } } σ H3 x v vl vu l u s3.heap.objs.size Q I4 r1 (Heap.IsSliceOf.new ..) pl pu q3
  show wpAny (model X.prog X.w) X.A (subscriptTail e (.Slice lo hi none p2) v (.ref s3.heap.objs.size)) (EP X pins σ Q) X.xe { s3 with heap := s3.heap.push { cls := .type "slice", data := .fields #[vl, vu, .none] } }
  exact tail_any (ops := [.ref s3.heap.objs.size, v]) ht hT hg (by with_unfolding_all rfl)

end
end L2

namespace L2
open PySem PySem.Spec PyProof.Rows

noncomputable def ixN (n : Nat) (i : Int) : Option Nat := if 0 ≤ i then (if i < n then some i.toNat else none) else if -(n : Int) ≤ i then some (i + n).toNat else none
noncomputable def atI {α : Type} (xs : List α) (i : Int) : Option α := (ixN xs.length i).bind fun j => xs[j]?
theorem ixN_seq {n : Nat} {i : Int} {j : Nat} (h : ixN n i = some j) : seqIndex? i n = some j ∧ j < n ∧ -(n : Int) ≤ i ∧ i < n := by
  unfold ixN at h
  by_cases h0 : 0 ≤ i
  · rw [if_pos h0] at h
    by_cases h1 : i < n
    · rw [if_pos h1] at h
      have e : i.toNat = j := Option.some.inj h
      exact ⟨by rw [seqIndex_of h0 h1, e], by omega, by omega, h1⟩
    · rw [if_neg h1] at h; cases h
  · rw [if_neg h0] at h
    by_cases h1 : -(n : Int) ≤ i
    · rw [if_pos h1] at h
      have e : (i + n).toNat = j := Option.some.inj h
      exact ⟨by rw [seqIndex_neg (by omega) h1, e], by omega, h1, by omega⟩
    · rw [if_neg h1] at h; cases h
theorem atI_get {α : Type} {xs : List α} {i : Int} {v : α} (h : atI xs i = some v) : ∃ j, seqIndex? i xs.length = some j ∧ xs[j]? = some v ∧ j < xs.length ∧ -(xs.length : Int) ≤ i ∧ i < xs.length := by
  unfold atI at h
  cases e : ixN xs.length i with
  | none => rw [e] at h; cases h
  | some j =>
    rw [e] at h
    obtain ⟨h1, h2, h3, h4⟩ := ixN_seq e
    exact ⟨j, h1, h, h2, h3, h4⟩
theorem atI_nat {α : Type} {xs : List α} {j : Nat} {v : α} (h : xs[j]? = some v) : atI xs (j : Int) = some v := by
  have hj : j < xs.length := (List.getElem?_eq_some_iff.mp h).1
  have e : ixN xs.length (j : Int) = some j := by
    unfold ixN
    rw [if_pos (by omega), if_pos (by omega)]; simp
  unfold atI; rw [e]; exact h
noncomputable def PlainIx (b : Expr) : Prop := ∀ o i, subscripted b false o i = operate [o, i] (getItem o i)
noncomputable def IxR (X : Cx) (r : R2) : Prop :=
  ∀ (value slice : Expr) (pins : List (Addr × Obj)) (s : Shared) (σ : St) (H : Hp) (x y : V) (v u : Value) (Q : VK), Inv X pins σ H s → RelV x v → RelV y u → r x y H Q →
    subscripted slice false v u = operate [v, u] (getItem v u) → wpAny (model X.prog X.w) X.A (subscriptTail value slice v u) (EP X pins σ Q) X.xe s
noncomputable def MtR (X : Cx) (id : String) (r : V → List V → Hp → VK → Prop) : Prop :=
  ∀ (pins : List (Addr × Obj)) (s : Shared) (σ : St) (H : Hp) (x : V) (xs : List V) (v : Value) (us : List Value) (Q : VK), Inv X pins σ H s → RelV x v → Vals xs us → r x xs H Q →
    wpAny (model X.prog X.w) X.A (call (.builtin id) (v :: us)) (EP X pins σ Q) X.xe s
section
variable {X : Cx} {a b : Expr} {ta tb : TE} {pos : Pos}
theorem pe_ix {r : R2} (hr : IxR X r) (ha : PE X a ta) (hb : PE X b tb) (hs : PlainIx b) : PE X (.Subscript a b pos) (tOp r ta tb) := by
  intro pins s σ H Q I h
  exact Subscript_ (binT ha hb I h fun v u s2 x y H2 I2 rx ry q => hr a b pins s2 σ H2 x y v u Q I2 rx ry q (hs _ _))

noncomputable def rIxL (K : PySem.W.Frag) : R2 := fun x y H Q => ∃ p xs i v, x = .ref p ∧ y = .int i ∧ SqL K H p xs ∧ atI xs i = some v ∧ Q v H
noncomputable def rIxT (K : PySem.W.Frag) : R2 := fun x y H Q => ∃ p xs i v, x = .ref p ∧ y = .int i ∧ SqT K H p xs ∧ atI xs i = some v ∧ Q v H
noncomputable def rIxS : R2 := fun x y H Q => ∃ z i c, x = .str z ∧ y = .int i ∧ z.length ≤ sizeLine ∧ atI z.cps.toList i = some c ∧ Q (.str ⟨#[c]⟩) H
theorem ix_list : IxR X (rIxL X.K) := by
  intro value slice pins s σ H x y v u Q I rx ry h hs
  obtain ⟨p, xs, i, z, rfl, rfl, hq, he, q⟩ := h
  cases rx
  obtain ⟨t, rfl⟩ := ry
  obtain ⟨its, r, pl, hz⟩ := I.list hq
  obtain ⟨j, h1, h2, h3, h4, h5⟩ := atI_get he
  obtain ⟨w, ew, rw'⟩ := r.get h2
  have hl := r.length
  have hn := line63
  have fin : EP X pins σ Q w s := ⟨z, H, I, rw', q⟩
  by_cases h0 : 0 ≤ i
  · have hj : i.toNat = j := by
      rw [seqIndex_of h0 h5] at h1
      exact Option.some.inj h1
    exact item_listR pl.isList h0 (by omega) (by rw [hj]; simpa using ew) fin hs
  · have hj : (i + (its.toArray.size : Int)).toNat = j := by
      rw [seqIndex_neg (by omega) h4] at h1
      rw [List.size_toArray, ← hl]
      exact Option.some.inj h1
    exact subscriptTail_builtinR (x := w) pl.isList.typeIs slot_list_getitem.lookup
      (wpAny_getItem_list_neg (Q := fun r s' => r = w ∧ EP X pins σ Q r s') pl.isList (by omega) (by rw [List.size_toArray] <;> omega) (by omega) (by rw [hj]; simpa using ew) ⟨rfl, fin⟩) hs
theorem ix_tup : IxR X (rIxT X.K) := by
  intro value slice pins s σ H x y v u Q I rx ry h hs
  obtain ⟨p, xs, i, z, rfl, rfl, hq, he, q⟩ := h
  cases rx
  obtain ⟨t, rfl⟩ := ry
  obtain ⟨its, r, pl, hz⟩ := I.tuple hq
  obtain ⟨j, h1, h2, h3, h4, h5⟩ := atI_get he
  obtain ⟨w, ew, rw'⟩ := r.get h2
  have hl := r.length
  have hn := line63
  have fin : EP X pins σ Q w s := ⟨z, H, I, rw', q⟩
  exact subscriptTail_builtinR (x := w) pl.typeIs slot_tuple_getitem.lookup
    (getItem_tuple (j := j) (Q := fun r s' => r = w ∧ EP X pins σ Q r s') pl (by omega) (by omega) (by rw [List.size_toArray, ← hl]; exact h1) (by simpa using ew) ⟨rfl, fin⟩) hs
theorem ix_str : IxR X rIxS := by
  intro value slice pins s σ H x y v u Q I rx ry h hs
  obtain ⟨z, i, c, rfl, rfl, hz, he, q⟩ := h
  obtain ⟨t, rfl⟩ := rx
  obtain ⟨t', rfl⟩ := ry
  obtain ⟨j, h1, h2, h3, h4, h5⟩ := atI_get he
  have hl : z.cps.toList.length = z.length := by simp [Str.length]
  rw [hl] at h1 h4 h5
  have hn := line63
  exact tail_any (typeIs_str s z t) slot_str_getitem.lookup (getItem_str (c := c) (by
    have e1 : decide (i < -(2 ^ 63 : Int)) = false := decide_eq_false (by omega)
    have e2 : decide (i ≥ 2 ^ 63) = false := decide_eq_false (by omega)
    rw [e1, e2, Bool.or_false]) (by rw [h1]; simpa using h2) ⟨.str ⟨#[c]⟩, H, I.tok _, ⟨_, rfl⟩, q⟩) hs
theorem mapSeq_set (its : List Value) (n j : Nat) (u : Value) : Obj.mapSeq (·.setIfInBounds j u) { cls := .type "list", data := .seq its.toArray n } = { cls := .type "list", data := .seq (its.set j u).toArray n } := by
  simp [Obj.mapSeq]
theorem Inv.lst {pins : List (Addr × Obj)} {σ : St} {H : Hp} {s : Shared} {p : Addr} {xs : List V} (I : Inv X pins σ H s) (h : H p = some (.lst xs)) :
    ∃ (its : List Value) (n : Nat), Vals xs its ∧ s.heap.get? p = some { cls := .type "list", data := .seq its.toArray n } ∧ xs.length ≤ sizeLine := by
  obtain ⟨z, its, n, r, e⟩ := I.hok p _ h
  exact ⟨its, n, r, e, z⟩
theorem Inv.lstUpd {pins : List (Addr × Obj)} {σ : St} {H : Hp} {s : Shared} {p : Addr} {xs ys : List V} {its its' : List Value} {n n' : Nat} {f : Obj → Obj} (I : Inv X pins σ H s) (h : H p = some (.lst xs))
    (ho : s.heap.get? p = some { cls := .type "list", data := .seq its.toArray n }) (hf : f { cls := .type "list", data := .seq its.toArray n } = { cls := .type "list", data := .seq its'.toArray n' }) (r : Vals ys its') (hz : ys.length ≤ sizeLine) (t : Nat) :
    Inv X pins σ (upd H p (.lst ys)) { s with heap := s.heap.update p f, toks := t } := by
  have e : (s.heap.update p f).get? p = some { cls := .type "list", data := .seq its'.toArray n' } := by
    rw [Heap.get?_update_self f ho (by rw [hf] <;> rfl), hf]
  refine I.write (x := p) (e := p) (by rw [h]; trivial) (.inl rfl) (fun b u hb q => (Heap.get?_update_other _ _ (Ne.symm hb)).trans q) ⟨_, e⟩ ?_
  exact ⟨hz, its', n', r, e⟩
noncomputable def rSetL : V → V → V → Hp → (Hp → Prop) → Prop := fun o i v H Q => ∃ p xs k j, o = .ref p ∧ i = .int k ∧ H p = some (.lst xs) ∧ ixN xs.length k = some j ∧ Q (upd H p (.lst (xs.set j v)))
theorem set_list : PSet X rSetL := by
  intro pins s σ H o i v ov iv u Q I ro ri rv h
  obtain ⟨p, xs, k, j, rfl, rfl, hp, hj, q⟩ := h
  cases ro
  obtain ⟨t, rfl⟩ := ri
  obtain ⟨its, n, r, ho, hz⟩ := I.lst hp
  obtain ⟨h1, h2, h3, h4⟩ := ixN_seq hj
  have hl := r.length
  have hn := line63
  have I' : Inv X pins σ (upd H p (.lst (xs.set j v))) { s with heap := s.heap.update p (Obj.mapSeq (·.setIfInBounds j u)) } :=
    I.lstUpd hp ho (mapSeq_set its n j u) (r.set rv j) (by rw [List.length_set]; exact hz) s.toks
  by_cases h0 : 0 ≤ k
  · have hk : k.toNat = j := by
      rw [seqIndex_of h0 h4] at h1
      exact Option.some.inj h1
    exact PySem.W.ki_setAt ho h0 (by omega) (by rw [List.size_toArray, ← hl]; exact h4) (by rw [hk]; exact ⟨_, I', q⟩)
  · have hk : (k + (its.toArray.size : Int)).toNat = j := by
      rw [seqIndex_neg (by omega) h3] at h1
      rw [List.size_toArray, ← hl]
      exact Option.some.inj h1
    exact PySem.W.ki_setBack ho (by omega) (by rw [List.size_toArray, ← hl]; exact h3) (by omega) (by rw [hk]; exact ⟨_, I', q⟩)

noncomputable def flatV : V → Bool
  | .non => true
  | .bl _ => true
  | .int _ => true
  | .str _ => true
  | _ => false
noncomputable def eqV : V → V → Bool
  | .non, .non => true
  | .bl a, .bl b => a == b
  | .bl a, .int b => (if a then 1 else 0) == b
  | .int a, .bl b => a == (if b then 1 else 0)
  | .int a, .int b => a == b
  | .str a, .str b => a == b
  | _, _ => false
theorem eqAt_V {A : Around} {s : Shared} {y x : V} {u v : Value} (ry : RelV y u) (rx : RelV x v) (fy : flatV y = true) (fx : flatV x = true) : SeqAt.EqAt A s u v (eqV y x) := by
  cases y with
  | non =>
    cases ry
    cases x with
    | non => cases rx; exact SeqAt.EqAt.same _
    | bl b => cases rx; exact SeqAt.EqAt.none_bool b
    | int b => obtain ⟨t, rfl⟩ := rx; exact SeqAt.EqAt.none_int b t
    | str b => obtain ⟨t, rfl⟩ := rx; exact SeqAt.EqAt.none_str b t
    | _ => exact absurd (show false = true from fx) Bool.false_ne_true
  | bl a =>
    cases ry
    cases x with
    | non => cases rx; exact SeqAt.EqAt.bool_none a
    | bl b => cases rx; exact SeqAt.EqAt.bool_bool a b
    | int b => obtain ⟨t, rfl⟩ := rx; exact SeqAt.EqAt.bool_int a b t
    | str b => obtain ⟨t, rfl⟩ := rx; exact SeqAt.EqAt.bool_str a b t
    | _ => exact absurd (show false = true from fx) Bool.false_ne_true
  | int a =>
    obtain ⟨t', rfl⟩ := ry
    cases x with
    | non => cases rx; exact SeqAt.EqAt.int_none a t'
    | bl b => cases rx; exact SeqAt.EqAt.int_bool a t' b
    | int b => obtain ⟨t, rfl⟩ := rx; exact SeqAt.EqAt.int_int a t' b t
    | str b => obtain ⟨t, rfl⟩ := rx; exact SeqAt.EqAt.int_str a t' b t
    | _ => exact absurd (show false = true from fx) Bool.false_ne_true
  | str a =>
    obtain ⟨t', rfl⟩ := ry
    cases x with
    | non => cases rx; exact SeqAt.EqAt.str_none a t'
    | bl b => cases rx; exact SeqAt.EqAt.str_bool a t' b
    | int b => obtain ⟨t, rfl⟩ := rx; exact SeqAt.EqAt.str_int a t' b t
    | str b => obtain ⟨t, rfl⟩ := rx; exact SeqAt.EqAt.str_str a t' b t
    | _ => exact absurd (show false = true from fx) Bool.false_ne_true
  | _ => exact absurd (show false = true from fy) Bool.false_ne_true
noncomputable def eqU (x : V) (u : Value) : Bool := match u with
  | .none => eqV .non x
  | .bool b => eqV (.bl b) x
  | .int i _ => eqV (.int i) x
  | .str z _ => eqV (.str z) x
  | _ => false
theorem eqU_of {x y : V} {u : Value} (r : RelV y u) (f : flatV y = true) : eqU x u = eqV y x := by
  cases y with
  | non => cases r; rfl
  | bl b => cases r; rfl
  | int i => obtain ⟨t, rfl⟩ := r; rfl
  | str z => obtain ⟨t, rfl⟩ := r; rfl
  | _ => exact absurd (show false = true from f) Bool.false_ne_true
theorem any_eqU {x : V} : ∀ {xs : List V} {us : List Value}, Vals xs us → xs.all flatV = true → us.any (eqU x) = xs.any fun y => eqV y x
  | _, _, .nil, _ => rfl
  | y :: xs, u :: us, .cons r t, f => by
    rw [List.all_cons, Bool.and_eq_true] at f
    rw [List.any_cons, List.any_cons, eqU_of r f.1, any_eqU t f.2]
theorem mem_eqAt {A : Around} {s : Shared} {x : V} {v : Value} (rx : RelV x v) (fx : flatV x = true) : ∀ {xs : List V} {us : List Value}, Vals xs us → xs.all flatV = true → ∀ u ∈ us, SeqAt.EqAt A s u v (eqU x u)
  | _, _, .nil, _ => fun u hu => by cases hu
  | y :: xs, u :: us, .cons r t, f => fun u' hu => by
    rw [List.all_cons, Bool.and_eq_true] at f
    rcases List.mem_cons.mp hu with rfl | hu
    · rw [eqU_of r f.1]; exact eqAt_V r rx f.1 fx
    · exact mem_eqAt rx fx t f.2 u' hu
noncomputable def inV (x : V) (xs : List V) : Bool := xs.any fun y => eqV y x
noncomputable def rIn (K : PySem.W.Frag) (neg : Bool) : R2 := fun x y H Q => ∃ p xs, y = .ref p ∧ (SqL K H p xs ∨ SqT K H p xs) ∧ flatV x = true ∧ xs.all flatV = true ∧ Q (.bl (if neg then !inV x xs else inV x xs)) H
theorem op_notIn_seq : OpR X (compareOp .NotIn) (rIn X.K true) := by
  intro pins s σ H x y v u Q I rx ry h
  obtain ⟨p, xs, rfl, hq, fx, fs, q⟩ := h
  cases ry
  rcases hq with hq | hq
  · obtain ⟨its, r, pl, hz⟩ := I.list hq
    refine SeqAt.notIn_listAt (eqU x) pl.isList (fun w hw => mem_eqAt rx fx r fs w (by simpa using hw)) ⟨.bl _, H, I, rfl, ?_⟩
    rw [show its.toArray.any (eqU x) = its.any (eqU x) by simp, any_eqU r fs]
    exact q
  · obtain ⟨its, r, pl, hz⟩ := I.tuple hq
    refine SeqAt.notIn_tupleAt (eqU x) pl (fun w hw => mem_eqAt rx fx r fs w (by simpa using hw)) ⟨.bl _, H, I, rfl, ?_⟩
    rw [show its.toArray.any (eqU x) = its.any (eqU x) by simp, any_eqU r fs]
    exact q
theorem call_len_seq : CallR X (.builtin "len") (fun xs H Q => ∃ p ys, xs = [.ref p] ∧ (SqL X.K H p ys ∨ SqT X.K H p ys) ∧ Q (.int ys.length) H) := by
  intro pins s σ H xs us Q I r h
  obtain ⟨p, ys, rfl, hq, q⟩ := h
  obtain ⟨u, rfl, rx⟩ := vals1 r
  cases rx
  have hn := line63
  rcases hq with hq | hq
  · obtain ⟨its, r', pl, hz⟩ := I.list hq
    have hlen := r'.length
    exact Calls.call_len_list pl.isList (by simp only [List.size_toArray] <;> omega) ⟨.int ys.length, H, I.tok _, ⟨s.toks + 1, by rw [List.size_toArray, hlen]⟩, q⟩
  · obtain ⟨its, r', pl, hz⟩ := I.tuple hq
    have hlen := r'.length
    exact len_tuple pl (by simp only [List.size_toArray] <;> omega) ⟨.int ys.length, H, I.tok _, ⟨s.toks + 1, by rw [List.size_toArray, hlen]⟩, q⟩
theorem call_len_str : CallR X (.builtin "len") (fun xs H Q => ∃ z, xs = [.str z] ∧ z.length ≤ sizeLine ∧ Q (.int z.length) H) := by
  intro pins s σ H xs us Q I r h
  obtain ⟨z, rfl, hz, q⟩ := h
  obtain ⟨u, rfl, t, rfl⟩ := vals1 r
  have hn := line63
  exact len_str (by omega) ⟨.int z.length, H, I.tok _, ⟨_, rfl⟩, q⟩
noncomputable def tyV (K : PySem.W.Frag) (T : String) (x : V) (H : Hp) : Prop := match x with
  | .str _ => T = "str"
  | .int _ => T = "int"
  | .ref p => (T = "list" ∧ ∃ xs, SqL K H p xs) ∨ (T = "tuple" ∧ ∃ o, K.lookup p = some o ∧ o.cls = .type "tuple" ∧ o.dict = none) ∨
      (T = "dict" ∧ ((∃ kvs, H p = some (.dK kvs)) ∨ ∃ kvs, H p = some (.dT kvs))) ∨ (T = "set" ∧ ∃ S n, H p = some (.set S n))
  | _ => False
theorem tyV_is {pins : List (Addr × Obj)} {σ : St} {H : Hp} {s : Shared} {T : String} {x : V} {v : Value} (I : Inv X pins σ H s) (r : RelV x v) (ty : tyV X.K T x H) :
    s.TypeIs v T ∧ ∀ a, v = .ref a → ∃ ob, s.heap.get? a = some ob ∧ ob.dict = none := by
  cases x with
  | str z =>
    obtain ⟨t, rfl⟩ := r
    cases (show T = "str" from ty)
    exact ⟨typeIs_str s z t, fun _ e => nomatch e⟩
  | int i =>
    obtain ⟨t, rfl⟩ := r
    cases (show T = "int" from ty)
    exact ⟨typeIs_int s i t, fun _ e => nomatch e⟩
  | ref p =>
    cases r
    rcases ty with ⟨rfl, xs, hq⟩ | ⟨rfl, o, hk, hc, hd⟩ | ⟨rfl, hk⟩ | ⟨rfl, S, n, hk⟩
    · obtain ⟨its, _, pl, _⟩ := I.list hq
      refine ⟨pl.isList.typeIs, fun a e => ?_⟩
      cases e
      obtain ⟨o, n, e, c, hd, _⟩ := pl
      exact ⟨o, e, hd⟩
    · refine ⟨⟨o, I.kIn p o hk, hc⟩, fun a e => ?_⟩
      cases e
      exact ⟨o, I.kIn _ o hk, hd⟩
    · have z : ∃ o, s.heap.get? p = some o ∧ o.ExactDict := by
        rcases hk with ⟨kvs, hk⟩ | ⟨kvs, hk⟩
        · obtain ⟨_, _, _, _, o, _, _, e, ex, _⟩ := I.hok p _ hk
          exact ⟨o, e, ex⟩
        · obtain ⟨_, _, _, _, o, _, _, e, ex, _⟩ := I.hok p _ hk
          exact ⟨o, e, ex⟩
      obtain ⟨o, e, ex⟩ := z
      refine ⟨⟨o, e, ex.1⟩, fun a e2 => ?_⟩
      cases e2
      exact ⟨o, e, ex.2.1⟩
    · obtain ⟨o, _, _, _, e, ex, _⟩ := I.hok p _ hk
      refine ⟨⟨o, e, ex.1⟩, fun a e2 => ?_⟩
      cases e2
      exact ⟨o, e, ex.2.1⟩
  | _ => exact False.elim ty
noncomputable def tBM (K : PySem.W.Frag) (T : String) (r : V → List V → Hp → VK → Prop) (to : TE) (t : TA) : TE := fun σ H Q => to σ H fun x H1 => tyV K T x H1 ∧ t σ H1 fun xs H2 => r x xs H2 Q
variable {o e : Expr} {es : List Expr} {to : TE} {t : TA} {name : Str} {apos cpos : Pos} {T id : String} {r : V → List V → Hp → VK → Prop}
theorem pe_bm (pa : PlainAttrs T) (slot : Slot T name id) (hty : typeOf (.builtin id) = pure (.type "method_descriptor")) (hm : MtR X id r) (ho : PE X o to) (ha : PA X (e :: es) t)
    (hbase : attributeBase o name X.env (eval o X.env) = eval o X.env := by rfl)
    (hfew : ((backTo cpos (starEach (e :: es) X.env)).all (fun x => !x.1) && (backToKw cpos (keywordEach [] X.env)).all (fun x => x.1.isSome)
      && decide ((e :: es).length + ([] : List Keyword).length + (if ([] : List Keyword).isEmpty then 0 else 1) < 30)) = true := by rfl)
    (hline : (apos.endLine == cpos.line) = true := by rfl) (hs : starEach (e :: es) X.env = (false, eval e X.env) :: starEach es X.env := by rfl) (hplain : (backTo cpos (starEach es X.env)).any (·.1) = false := by rfl) :
    PE X (.Call (.Attribute o name apos) (e :: es) [] cpos) (tBM X.K T r to t) := by
  intro pins s σ H Q I h
  refine wpAny_Call_method_late hbase hfew hline rfl (thn (ho pins s σ H _ I h) fun v s1 ⟨x, H1, I1, r1, ty, q1⟩ => ?_)
  obtain ⟨h1, h2⟩ := tyV_is I1 r1 ty
  refine ⟨T, id, pa, slot, hty, h1, h2, ?_⟩
  have hA := ha cpos pins s1 σ H1 _ I1 q1
  rw [hs] at hA ⊢
  refine Calls.callWith_builtin (by show (false || (backTo cpos (starEach es X.env)).any (·.1)) = false; rw [hplain] <;> rfl) (Calls.evalArgs_plain ?_)
  exact thn hA fun us s2 ⟨vs, H2, I2, r2, q2⟩ => hm pins s2 σ H2 x vs v us Q I2 r1 r2 q2
end
end L2

namespace L2
open PySem PySem.Spec PyProof.Rows

noncomputable def MtM (X : Cx) (id : String) (r : V → List V → Hp → VK → Prop) : Prop :=
  ∀ (pins : List (Addr × Obj)) (s : Shared) (σ : St) (H : Hp) (x : V) (xs : List V) (v : Value) (us : List Value) (Q : VK), Inv X pins σ H s → RelV x v → Vals xs us → r x xs H Q →
    wpAny (model X.prog X.w) X.A (call (.builtin id) (v :: us)) (EP X pins σ Q) X.xe s

theorem Vals.one : ∀ {x : V} {us : List Value}, Vals [x] us → ∃ u, us = [u] ∧ RelV x u
  | _, _, .cons r .nil => ⟨_, rfl, r⟩
theorem Vals.reverse {xs : List V} {us : List Value} (h : Vals xs us) : Vals xs.reverse us.reverse := by
  induction h with
  | nil => exact .nil
  | cons r t ih => rw [List.reverse_cons, List.reverse_cons]; exact Vals.append ih (.cons r .nil)
theorem Vals.rep {xs : List V} {us : List Value} (h : Vals xs us) : ∀ k : Nat, Vals (List.replicate k xs).flatten (List.replicate k us).flatten
  | 0 => .nil
  | k + 1 => by
    rw [List.replicate_succ, List.replicate_succ, List.flatten_cons, List.flatten_cons]
    exact Vals.append h (Vals.rep h k)
theorem foldl_rep (its : List Value) : ∀ (k : Nat) (acc : List Value),
    List.foldl (fun x1 x2 => x1 ++ x2) acc.toArray (List.replicate k its.toArray) = (acc ++ (List.replicate k its).flatten).toArray
  | 0, acc => by simp
  | k + 1, acc => by
    have e : acc.toArray ++ its.toArray = (acc ++ its).toArray := by simp
    have e2 : (acc ++ its) ++ (List.replicate k its).flatten = acc ++ (List.replicate (k + 1) its).flatten := by
      rw [List.replicate_succ, List.flatten_cons, List.append_assoc]
    rw [← e2, ← foldl_rep its k (acc ++ its), ← e, List.replicate_succ, List.foldl_cons]

section
variable {X : Cx} {pins : List (Addr × Obj)} {σ : St} {H : Hp} {s : Shared} {l b : Addr} {xs ys zs : List V}

theorem Inv.lset {its its' : List Value} {n : Nat} {f : Array Value → Array Value} {t' : Nat} (I : Inv X pins σ H s) (hH : H l = some (.lst xs))
    (e : s.heap.get? l = some { cls := .type "list", data := .seq its.toArray n }) (hf : f its.toArray = its'.toArray) (hv : Vals ys its') (hz : ys.length ≤ sizeLine) :
    Inv X pins σ (upd H l (.lst ys)) { s with heap := s.heap.update l (Obj.mapSeq f), toks := t' } := by
  have q := PySem.IsL.update e f
  rw [hf] at q
  refine I.write (x := l) (e := l) (by rw [hH]; exact trivial) (.inl rfl) (fun b' u hb hu => (Heap.get?_update_other s.heap (Obj.mapSeq f) (Ne.symm hb)).trans hu) ⟨_, q⟩ ?_
  exact ⟨hz, its', _, hv, q⟩
theorem Inv.lnew {its : List Value} {t' : Nat} (I : Inv X pins σ H s) (hv : Vals ys its) (hz : ys.length ≤ sizeLine) :
    Inv X pins σ (upd H s.heap.objs.size (.lst ys)) { s with heap := s.heap.push { cls := .type "list", data := .seq its.toArray }, toks := t' } :=
  I.laid (fun _ _ q => Heap.get?_push_of_some _ q) (Nat.le_refl _) ⟨hz, its, 0, hv, Heap.get?_push_size _ rfl⟩
theorem Inv.fresh (I : Inv X pins σ H s) : H s.heap.objs.size = none := I.hok.fresh (Nat.le_refl _)
theorem Inv.lstM (I : Inv X pins σ H s) (hH : H l = some (.lst xs)) : xs.length ≤ sizeLine ∧ ∃ (its : List Value) (n : Nat), Vals xs its ∧ xs.length = its.length ∧ s.heap.get? l = some { cls := .type "list", data := .seq its.toArray n } := by
  obtain ⟨z, its, n, r, e⟩ := I.hok l _ hH
  exact ⟨z, its, n, r, r.length, e⟩

theorem notLongL {n : Nat} (h : n ≤ sizeLine) : Builtin.List.listTooLong n = false := by
  unfold Builtin.List.listTooLong
  exact decide_eq_false (by omega)
end

section
variable {X : Cx}

noncomputable def rAppend : V → List V → Hp → VK → Prop := fun x vs H Q => ∃ l xs y, x = .ref l ∧ vs = [y] ∧ H l = some (.lst xs) ∧ xs.length < sizeLine ∧ Q .non (upd H l (.lst (xs ++ [y])))
theorem mt_append : MtM X "list.append" rAppend := by
  intro pins s σ H x vs v us Q I rx rv h
  obtain ⟨l, xs, y, rfl, rfl, hH, hz, q⟩ := h
  cases rx
  obtain ⟨u, rfl, ru⟩ := rv.one
  obtain ⟨z, its, n, r, hl, e⟩ := I.lstM hH
  refine call_meets F.slot_list_append ⟨_, e, rfl⟩ F.entry_list_append (F.args_list_append_2 _ _) (PySem.list_append l its.toArray n u (by rw [List.size_toArray]; omega)) ⟨e, ?_⟩
  refine ⟨.non, _, I.lset (its' := its ++ [u]) hH e (by simp) (r.append (.cons ru .nil)) ?_, rfl, q⟩
  rw [List.length_append, List.length_singleton]
  omega

theorem len_rep {α : Type} (xs : List α) (k : Nat) : (List.replicate k xs).flatten.length = k * xs.length := by
  induction k with
  | zero => simp
  | succ k ih => rw [List.replicate_succ, List.flatten_cons, List.length_append, ih, Nat.succ_mul, Nat.add_comm]
end

section
variable {prog : Program} {w : World} {A : Around} {E : Value → Shared → Prop} {s : Shared}
end

section
variable {X : Cx}
end
end L2

namespace Att
open PySem PySem.W PySem.Calls PyProof.Rows

theorem ints_of_wellAll {P : Params} {h : Heap} : ∀ (ns : List Int) (vs : List Value), WellAll P h vs (ns.map WData.int) → IntsAre vs ns := by
  intro ns
  induction ns with
  | nil =>
    intro vs w
    rw [List.map_nil] at w
    cases w
    exact .nil
  | cons n ns ih =>
    intro vs w
    rw [List.map_cons] at w
    cases w with
    | cons a b =>
      cases a
      exact .cons _ _ (ih _ b)

theorem script_of {l : OpenLaw} {n : Nat} (hn : l.most = some n) {P : Params} {h : Heap} {args : List WData} {vals : List Value}
    (hpre : l.row.toRowW.claim.pre args = true) (hwl : WellAll P h vals args) :
    ∃ a vs ns, vals = [Value.ref a] ∧ args = [WData.list (ns.map WData.int)] ∧ h.get? a = some { cls := .type "list", data := .seq vs.toArray } ∧ IntsAre vs ns ∧ ns.length ≤ n := by
  have hsh : WShape.hasAll [] args [.list .int] = true := (pre_splitW hpre).1
  have hc : l.pre.holds [] { args := args } = true := (pre_splitW hpre).2
  obtain ⟨d, r, rfl, h1, h2⟩ := hasAllW_cons hsh
  obtain rfl := hasAllW_nil h2
  obtain ⟨xs, rfl, h3⟩ := hasW_list h1
  obtain ⟨ns, rfl⟩ := items_int h3
  have hlen : ns.length ≤ n := by
    unfold OpenLaw.pre at hc
    have h4 : (WTm.not (.lt (.lit (.int (n : Int))) (.len (.arg 0)))).holds [] { args := [.list (ns.map .int)] } = true := by
      have h4 := (holds_andW hc).1
      rw [hn] at h4
      exact h4
    have h5 := condW_of h4 (w_not (w_lt w_lit (w_len_list (w_arg rfl))))
    rw [List.length_map] at h5
    refine Nat.le_of_not_lt fun q => ?_
    have q' : (n : Int) < ((ns.length : Nat) : Int) := by omega
    first
      | (rw [decide_eq_true q'] at h5; exact absurd h5 (by decide))
      | (simp at h5; omega)
  cases hwl with
  | cons w1 w2 =>
    cases w2
    cases w1 with
    | list ho hall => exact ⟨_, _, ns, rfl, rfl, ho, ints_of_wellAll ns _ hall, hlen⟩

theorem post_true (l : OpenLaw) (args : List WData) : l.row.toRowW.claim.post args (.bool true) args = true :=
  postW_of (r := l.row.toRowW) (X := (true == true))
    (show WShape.has [] (.bool true) .bool = true by first | rfl | decide | simp [WShape.has, WShape.arms, WShape.armsAll])
    (show (WTm.eq .res (.lit (.bool true))).value [] { args := args, res := some (.bool true), after := args } = some (.bool (true == true)) from w_eq_bool (w_res rfl) w_lit) rfl

theorem attach_call {l : OpenLaw} {n : Nat} {q : Program} {loose : List Str} {XP : (Str → Option Value) → Heap → Prop} {YP : World → Heap → Prop} {d : DefRec}
    (hn : l.most = some n) (hdf : d.params.defaults = [])
    (call : ∀ (w : World) (s₀ s₁ : Shared) (mg mb : Str → Option Value) (fa : Addr) (o : Obj) (pm cd doc : Value) (a : Addr) (vs : List Value) (ns : List Int),
      Ground q loose [] XP w s₀ mg mb s₁.heap → YP w s₁.heap →
      s₁.heap.get? fa = some o → o.data = .func (docDef d.name d.params d.body d.scope pm cd doc) → s₁.heap.CodeRec cd d.name → mg d.name = some (.ref fa) →
      s₁.heap.get? a = some { cls := .type "list", data := .seq vs.toArray } → IntsAre vs ns → ns.length ≤ n → s₁.gens = #[] →
      codeAny (model l.prog w) callerA (.call (.ref fa) ⟨[.ref a], []⟩) (fun r s' => r = .ok (.ret (.bool true)) ∧ OldK s₁.heap s'.heap ∧ s'.os = s₁.os ∧ AllBare s'.gens) s₁) :
    WalkO q loose XP YP l.row.toRowW d [] (fun f vs => PySem.call f vs) := by
  intro w s₀ s₁ mg mb G Y fa o pm cd doc dV kV ho hd hcd hD hmg hg args vals as hpre hlay hrd hwl hlo
  obtain rfl : dV = .none := Dflts.none hD hdf
  obtain rfl : kV = .none := Dflts.noKw hD
  obtain ⟨a, vs, ns, rfl, rfl, hobj, hints, hlen⟩ := script_of hn hpre hwl
  refine enter_call (codeAny_mono (call w s₀ s₁ mg mb fa o pm cd doc a vs ns G Y ho (fd_plain hd) hcd hmg hobj hints hlen hg) fun r s' hq => ?_)
  obtain ⟨rfl, h2, h3, h4⟩ := hq
  exact ⟨.inl ⟨.bool true, .bool true, [], rfl, fun _ => rfl, .bool true, post_true l _, fun _ => ⟨List.Pairwise.nil, fun _ hm => (nomatch hm)⟩⟩, h2, h3, h4⟩

section
variable {prog : Program} {w : World} {A : Around} {E : Value → Shared → Prop} {s : Shared} {K : Frag}

end
end Att

namespace L2
open PySem PySem.Spec PyProof.Rows

theorem vals_ints : ∀ {vs : List Value} {ns : List Int}, IntsAre vs ns → Vals (ns.map V.int) vs
  | _, _, .nil => .nil
  | _, _, .cons n t h => .cons ⟨t, rfl⟩ (vals_ints h)

noncomputable def Only (H : Hp) : Prop := ∀ b, H b = none ∨ ∃ o xs, H b = some (.frz o (.lst xs))

theorem law_call {P : Program} {w : World} {K : PySem.W.Frag} {mg mb : Str → Option Value} {CX : CXT} {k : Nat} {fa a : Addr} {fd : FuncData} {x : Str} {sp : Sp} {s₁ : Shared} {vs : List Value} {ns : List Int}
    (KX : K.In s₁.heap) (hns : s₁.heap.Ns mainGlobals mg) (hb : s₁.heap.Ns builtinsNs mb) (hbb : ∀ x : Str, x ≠ "__name__" → mb x = bootBuiltins x) (hlim : s₁.heap.NoLimit) (hg : s₁.gens = #[])
    (ha : s₁.heap.get? a = some { cls := .type "list", data := .seq vs.toArray }) (hi : IntsAre vs ns) (hl : ns.length ≤ sizeLine) (hr : Room k callerA)
    (F : ∀ base : Heap, K.In base → base.Ns mainGlobals mg → FnOk P w K mg base CX k fa fd [x] sp) (hbind : ∀ (s : Shared) (u : Value), BindsTo s fd ⟨[u], []⟩ [(x, u)])
    (hsp : ∀ H : Hp, Only H → SqL K H a (ns.map V.int) → sp [.ref a] H (fun v _ => v = .bl true) fun _ _ _ => False)
    (hCX : ∀ H e s', CX [] H s₁ (fun _ _ _ => False) e s' → False) :
    codeAny (model P w) callerA (.call (.ref fa) ⟨[.ref a], []⟩) (fun r s' => r = .ok (.ret (.bool true)) ∧ OldK s₁.heap s'.heap ∧ s'.os = s₁.os ∧ AllBare s'.gens) s₁ := by
  have rv := vals_ints hi
  have lenV := hi.length

  have core : ∀ H : Hp, Only H → SqL K H a (ns.map V.int) → HOk P w H s₁.heap → (∀ b, H b ≠ none → b = a) → (H a ≠ none → K.lookup a = none) →
      codeAny (model P w) callerA (.call (.ref fa) ⟨[.ref a], []⟩) (fun r s' => r = .ok (.ret (.bool true)) ∧ OldK s₁.heap s'.heap ∧ s'.os = s₁.os ∧ AllBare s'.gens) s₁ := by
    intro H hO hS hok hA hK
    have base_of : ∀ {b : Addr} {o : Obj}, s₁.heap.get? b = some o → H b = none → (hidT s₁.heap H).get? b = some o := fun e n => hidT_get e n
    have noA : ∀ {b : Addr} {o : Obj} {es : Array DictEntry} {ep : Nat}, s₁.heap.get? b = some o → o.data = .dict es ep → H b = none := fun {b o es ep} e d => by
      cases q : H b with
      | none => rfl
      | some u =>
        have e' : b = a := hA b (by rw [q]; simp)
        subst e'
        rw [ha] at e; cases e
        have d' : Data.seq vs.toArray _ = Data.dict es ep := d
        cases d'
    have nsK : ∀ {b : Addr} {m : Str → Option Value}, s₁.heap.Ns b m → (hidT s₁.heap H).Ns b m := fun {b m} ⟨o, es, ep, e, d, r⟩ => ⟨o, es, ep, base_of e (noA e d), d, r⟩
    have hKb : K.In (hidT s₁.heap H) := fun b o e => base_of (KX b o e) (by
      cases q : H b with
      | none => rfl
      | some u =>
        have e' : b = a := hA b (by rw [q]; simp)
        subst e'
        rw [hK (by rw [q]; simp)] at e; cases e)
    have hM : Mod K mg (hidT s₁.heap H) := ⟨hKb, nsK hns, ⟨mb, nsK hb, hbb⟩, let ⟨mc, h1, h2⟩ := hlim; ⟨mc, nsK h1, h2⟩⟩
    have e0 : Env0 P w K mg (hidT s₁.heap H) callerA [] s₁ H := ⟨rfl, hM, fun b o e => of_hidT e, Nat.le_of_eq (hidT_size _ _), trivial, fun b hb => absurd (show b ∈ ([] : List Addr) from hb) (by simp), hok, .of_eq hg⟩
    refine codeAny_mono ((F _ hKb (nsK hns)).run callerA [] s₁ H ⟨[.ref a], []⟩ [.ref a] [.ref a] _ _ hr e0 (hbind s₁ (.ref a)) (.cons rfl .nil) (hsp H hO hS)) fun r s' h => ?_
    cases r with
    | error e => exact (hCX H e s' h).elim
    | ok fl =>
      cases fl with
      | next => exact False.elim h
      | brk => exact False.elim h
      | cont => exact False.elim h
      | ret u =>
        obtain ⟨v, H', os, bare, un, hok', r', q⟩ := h
        have q' : v = .bl true := q
        subst q'
        obtain rfl : u = Value.bool true := r'
        refine ⟨rfl, OldK.of_keep fun b o e => ?_, os, bare⟩
        cases q : H b with
        | none => exact un.keep b o e q (by intro z; exact absurd (show b ∈ ([] : List Addr) from z) (by simp)) (by simp)
        | some u =>
          rcases hO b with z | ⟨ob, xs, z⟩
          · rw [q] at z; cases z
          · have z2 := un.frzs b ob _ z
            obtain ⟨e1, _⟩ := hok b _ z
            obtain ⟨e2, _⟩ := hok' b _ z2
            rw [e] at e1; cases e1
            exact e2
  cases hk : K.lookup a with
  | some o =>
  
    have e := KX a o hk
    rw [ha] at e
    cases e
    refine core (fun _ => none) (fun _ => .inl rfl) (.inr ⟨_, vs.toArray, _, hk, rfl, rfl, rfl, by rw [List.size_toArray, lenV]; exact hl, by simpa using rv⟩) (fun b u z => by have z' : (none : Option HO) = some u := z; cases z') (fun b z => absurd rfl z) fun z => absurd rfl z
  | none =>
    refine core (fun b => if b = a then some (.frz { cls := .type "list", data := .seq vs.toArray } (.lst (ns.map V.int))) else none) (fun b => ?_) (.inl (.inr ⟨{ cls := .type "list", data := .seq vs.toArray }, if_pos rfl⟩)) (fun b u z => ?_) (fun b z => ?_) fun _ => hk
    · by_cases hb : b = a
      · exact .inr ⟨_, _, if_pos hb⟩
      · exact .inl (if_neg hb)
    · by_cases hb : b = a
      · have z' := (if_pos hb).symm.trans z
        cases z'
        subst hb
        exact ⟨ha, by rw [List.length_map]; exact hl, vs, _, rv, ha⟩
      · have z' := (if_neg hb).symm.trans z
        cases z'
    · by_cases hb : b = a
      · exact hb
      · exact absurd (if_neg hb) z
end L2

namespace L2
open PySem PySem.Spec PyProof.Rows

theorem walk_of {l : PySem.W.OpenLaw} {n k : Nat} {q : Program} {loose : List Str} {XP : (Str → Option Value) → Heap → Prop} {YP : World → Heap → Prop} {d : DefRec} {K : Params → PySem.W.Frag} {CX : World → CXT} {sp : World → Sp} {x : Str}
    (hn : l.most = some n) (hn2 : n ≤ sizeLine) (hdf : d.params.defaults = []) (hr : Room k callerA)
    (hY : ∀ (w : World) (h : Heap), YP w h → (K w.params).In h)
    (F : ∀ (w : World) (mg : Str → Option Value) (fa : Addr) (h : Heap), (K w.params).In h → h.Ns mainGlobals mg → mg d.name = some (.ref fa) →
      ∃ fd : FuncData, (∀ (s : Shared) (u : Value), BindsTo s fd ⟨[u], []⟩ [(x, u)]) ∧
        ∀ base : Heap, (K w.params).In base → base.Ns mainGlobals mg → FnOk l.prog w (K w.params) mg base (CX w) k fa fd [x] (sp w))
    (hsp : ∀ (w : World) (H : Hp) (a : Addr) (ns : List Int), ns.length ≤ n → Only H → SqL (K w.params) H a (ns.map V.int) → sp w [.ref a] H (fun v _ => v = .bl true) fun _ _ _ => False)
    (hCX : ∀ (w : World) (H : Hp) (s : Shared) (e : Value) (s' : Shared), CX w [] H s (fun _ _ _ => False) e s' → False) :
    PySem.W.WalkO q loose XP YP l.row.toRowW d [] (fun f vs => PySem.call f vs) := by
  refine Att.attach_call hn hdf fun w s₀ s₁ mg mb fa o pm cd doc a vs ns G Y ho hd hcd hmg hobj hints hlen hg => ?_
  have KX := hY w _ Y
  obtain ⟨fd, hb, hF⟩ := F w mg fa _ KX G.T.g hmg
  exact law_call KX G.T.g G.T.b G.T.builtins G.T.nolimit hg hobj hints (Nat.le_trans hlen hn2) hr hF hb (fun H hO hS => hsp w H a ns hlen hO hS) fun H e s' => hCX w H s₁ e s'
end L2


namespace L2
open PySem PySem.Spec PyProof.Rows

noncomputable def inClass (s : Stmt) (j : Nat) : Stmt := match s with
  | .ClassDef _ _ _ body _ _ _ _ _ _ _ => body.getD j (.Pass ⟨0, 0, 0, 0⟩)
  | _ => .Pass ⟨0, 0, 0, 0⟩
noncomputable def defArgs (s : Stmt) : Arguments := match s with
  | .FunctionDef _ a _ _ _ _ _ _ _ _ => a
  | _ => { posonlyargs := [], args := [], vararg := none, kwonlyargs := [], kw_defaults := [], kwarg := none, defaults := [] }
noncomputable def defBody (s : Stmt) : List Stmt := match s with
  | .FunctionDef _ _ b _ _ _ _ _ _ _ => b
  | _ => []
noncomputable def defScope (s : Stmt) : Scope := match s with
  | .FunctionDef _ _ _ _ _ _ sc _ _ _ => sc
  | _ => { kind := .function, names := [], isGenerator := false, isCoroutine := false }

noncomputable abbrev E0 : XK := fun _ _ _ => False
set_option genInjectivity false in
structure Fun (K : PySem.W.Frag) (x qual : Str) (st : Stmt) (f : Addr) (fd : FuncData) : Prop where
  ex : ∃ (oc : Value) (od : Option Addr) (kV doc pm : Value) (an : Option Addr) (cdv ct : Value) (osl : Array (Option Value)),
    fd = PySem.W.fnOf x qual (defArgs st) (defBody st) (defScope st) .none kV doc pm an cdv ct ∧ K.lookup f = some ⟨oc, od, .func fd, osl⟩ ∧ PySem.W.codeIn K cdv qual = true
  kp : PySem.W.keepIn K (.ref f) = true
section
variable {P : Program} {w : World} {K : PySem.W.Frag} {mg : Str → Option Value} {base : Heap}
theorem Fun.binds {x qual : Str} {st : Stmt} {f : Addr} {fd : FuncData} {ps : List Str} (F : Fun K x qual st f fd)
    (h : ∀ (kV doc pm : Value) (an : Option Addr) (cdv ct : Value) (us : List Value), us.length = ps.length → bindArgs (PySem.W.fnOf x qual (defArgs st) (defBody st) (defScope st) .none kV doc pm an cdv ct) ⟨us, []⟩ = pure (ps.zip us)) : Binds K fd ps [] := by
  obtain ⟨oc, od, kV, doc, pm, an, cdv, ct, osl, rfl, lk, hcd⟩ := F.ex
  exact .all (h kV doc pm an cdv ct)
theorem fun_mk {x qual : Str} {st : Stmt} {f : Addr} {oc : Value} {od an : Option Addr} {osl : Array (Option Value)} {kV doc pm cdv ct : Value} (l : K.lookup f = some ⟨oc, od, .func (PySem.W.fnOf x qual (defArgs st) (defBody st) (defScope st) .none kV doc pm an cdv ct), osl⟩)
    (c : PySem.W.codeIn K cdv qual = true) (k : PySem.W.keepIn K (.ref f) = true) : Fun K x qual st f (PySem.W.fnOf x qual (defArgs st) (defBody st) (defScope st) .none kV doc pm an cdv ct) := ⟨⟨oc, od, kV, doc, pm, an, cdv, ct, osl, rfl, l, c⟩, k⟩
end
theorem hu_of {A : Around} {k : Nat} (hr : Room k A) : A.units + 1 < cLine := Nat.lt_of_le_of_lt (Nat.add_le_add_left (by decide : 1 ≤ 64) _) hr.units
section
variable {X : Cx}
theorem pv (i : Nat) {x : Str} {pos : Pos} (hN : X.N[i]? = some x := by rfl) (hv : Vis X.env.scope x := by first | exact Or.inl rfl | exact Or.inr (Or.inl rfl) | exact Or.inr (Or.inr rfl)) (hd : (x == ("__debug__" : Str)) = false := by decide)
    (hcd : (x == ("__classdict__" : Str)) = false := by decide) : PE X (.Name x pos) (tVar i) := pe_var hN hv hd hcd
end

theorem iteF {A B : Prop} (h : B) : if false = true then A else B := by
  rw [if_neg Bool.false_ne_true]
  exact h
theorem iteT {A B : Prop} (h : A) : if true = true then A else B := by
  rw [if_pos rfl]
  exact h
theorem ite2 {c A B : Prop} [Decidable c] (h1 : c → A) (h2 : ¬ c → B) : if c then A else B := by
  by_cases h : c
  · rw [if_pos h]
    exact h1 h
  · rw [if_neg h]
    exact h2 h
noncomputable def Same (H H' : Hp) : Prop := ∀ b o, H b = some o → H' b = some o
theorem Same.refl (H : Hp) : Same H H := fun _ _ h => h
theorem Same.trans {H H1 H2 : Hp} (a : Same H H1) (b : Same H1 H2) : Same H H2 := fun c o h => b c o (a c o h)
theorem Same.seq {K : PySem.W.Frag} {H H' : Hp} {a : Addr} {xs : List V} (e : Same H H') (h : SqL K H a xs) : SqL K H' a xs := by
  rcases h with (h | ⟨o, h⟩) | h
  · exact .inl (.inl (e _ _ h))
  · exact .inl (.inr ⟨o, e _ _ h⟩)
  · exact .inr h

end L2

namespace Wd
noncomputable abbrev W := List Nat
theorem ltt {a b c : W} (h : a < b) (h' : b < c) : a < c := List.lt_trans h h'
theorem ltir (a : W) : ¬ a < a := List.lt_irrefl a
theorem tri {a b : W} (h : ¬ a < b) (h' : ¬ b < a) : a = b := List.le_antisymm (List.not_lt.mp h') (List.not_lt.mp h)
theorem lele {a b c : W} (h : ¬ b < a) (h' : ¬ c < b) : ¬ c < a := fun hc => List.not_lt.mpr (List.le_trans (List.not_lt.mp h) (List.not_lt.mp h')) hc
noncomputable def rot (k : Nat) (w : W) : W := w.drop k ++ w.take k
theorem ext_get {a b : W} (hl : a.length = b.length) (h : ∀ i, i < a.length → a[i]? = b[i]?) : a = b := by
  apply List.ext_getElem? 
  intro i
  by_cases hi : i < a.length
  · exact h i hi
  · rw [List.getElem?_eq_none (by omega), List.getElem?_eq_none (by omega)]
noncomputable def leastTo (w : W) : Nat → W
  | 0 => w
  | n + 1 => if rot (n + 1) w < leastTo w n then rot (n + 1) w else leastTo w n
noncomputable def least (w : W) : W := leastTo w (w.length - 1)
end Wd

namespace Wd
theorem lt_app {a b : W} (h : a < b) (hl : b.length ≤ a.length) (x y : W) : a ++ x < b ++ y := by
  induction a generalizing b with
  | nil =>
    cases b with
    | nil => exact absurd h (ltir _)
    | cons d b => simp at hl
  | cons c a ih =>
    cases b with
    | nil => exact absurd h (by simp)
    | cons d b =>
      rw [List.cons_append, List.cons_append]
      rw [List.cons_lt_cons_iff] at h ⊢
      rcases h with h | ⟨h, h'⟩
      · exact .inl h
      · exact .inr ⟨h, ih h' (by simpa using hl)⟩
theorem lt_app_left (p : W) {a b : W} : p ++ a < p ++ b ↔ a < b := by
  induction p with
  | nil => rfl
  | cons c p ih =>
    rw [List.cons_append, List.cons_append, List.cons_lt_cons_iff]
    constructor
    · intro h
      rcases h with h | ⟨_, h⟩
      · exact absurd h (Nat.lt_irrefl _)
      · exact ih.mp h
    · intro h
      exact .inr ⟨rfl, ih.mpr h⟩
end Wd

namespace Wd
noncomputable def rep (n : Nat) (l : W) : W := (List.replicate n l).flatten
theorem rep_succ (n : Nat) (l : W) : rep (n + 1) l = l ++ rep n l := by unfold rep; rw [List.replicate_succ, List.flatten_cons]
theorem rep_zero (l : W) : rep 0 l = [] := rfl
theorem rep_one (l : W) : rep 1 l = l := by rw [rep_succ, rep_zero, List.append_nil]
theorem rep_len (n : Nat) (l : W) : (rep n l).length = n * l.length := by
  induction n with
  | zero => rw [rep_zero, Nat.zero_mul]; rfl
  | succ n ih => rw [rep_succ, List.length_append, ih, Nat.succ_mul, Nat.add_comm]
theorem rep_get {l : W} {n i : Nat} (h : i < n * l.length) : (rep n l)[i]? = l[i % l.length]? := by
  induction n generalizing i with
  | zero => rw [Nat.zero_mul] at h; omega
  | succ n ih =>
    rw [rep_succ]
    rw [Nat.succ_mul] at h
    by_cases hi : i < l.length
    · rw [List.getElem?_append_left hi, Nat.mod_eq_of_lt hi]
    · rw [List.getElem?_append_right (by omega), ih (by omega)]
      congr 1
      rw [← Nat.mod_eq_sub_mod (by omega)]
end Wd
namespace Wd
end Wd

namespace Wd
end Wd

namespace Wd
noncomputable def spell (k : Nat) : Nat → Nat → W
  | 0, _ => []
  | n + 1, N => spell k n (N / k) ++ [97 + N % k]
theorem spell_len (k : Nat) : ∀ n N, (spell k n N).length = n
  | 0, _ => rfl
  | n + 1, N => by rw [spell, List.length_append, spell_len k n]; rfl
theorem spell_rev (k : Nat) : ∀ n N, ((List.range n).map fun i => 97 + N / k ^ i % k).reverse = spell k n N
  | 0, _ => rfl
  | n + 1, N => by
    rw [List.range_succ_eq_map, List.map_cons, List.map_map, List.reverse_cons, spell, ← spell_rev k n (N / k), Nat.pow_zero, Nat.div_one]
    congr 3
    funext i
    show 97 + N / k ^ (i + 1) % k = 97 + N / k / k ^ i % k
    rw [Nat.div_div_eq_div_mul, Nat.pow_succ, Nat.mul_comm]
theorem spell_lt {k : Nat} (hk : 0 < k) : ∀ n N M, N < M → M < k ^ n → spell k n N < spell k n M
  | 0, N, M, h1, h2 => by rw [Nat.pow_zero] at h2; omega
  | n + 1, N, M, h1, h2 => by
    rw [spell, spell]
    have hle : N / k ≤ M / k := Nat.div_le_div_right (Nat.le_of_lt h1)
    rcases Nat.lt_or_eq_of_le hle with h | h
    · exact lt_app (spell_lt hk n _ _ h (Nat.div_lt_of_lt_mul (by rw [Nat.mul_comm, ← Nat.pow_succ]; exact h2))) (by rw [spell_len, spell_len]; exact Nat.le_refl _) _ _
    · rw [h, lt_app_left]
      have e1 := Nat.div_add_mod N k
      have e2 := Nat.div_add_mod M k
      rw [h] at e1
      have : N % k < M % k := by omega
      rw [List.cons_lt_cons_iff]
      left
      omega
theorem spell_mem {k : Nat} (hk : 0 < k) : ∀ n N, ∀ c ∈ spell k n N, 97 ≤ c ∧ c < 97 + k
  | 0, _, c, h => by cases h
  | n + 1, N, c, h => by
    rw [spell, List.mem_append] at h
    rcases h with h | h
    · exact spell_mem hk n _ c h
    · have e : c = 97 + N % k := by simpa using h
      have := Nat.mod_lt N hk
      omega
noncomputable def num (k : Nat) (w : W) : Nat := w.foldl (fun a c => a * k + (c - 97)) 0
theorem num_snoc (k : Nat) (w : W) (c : Nat) : num k (w ++ [c]) = num k w * k + (c - 97) := by
  unfold num
  rw [List.foldl_append]
  rfl
theorem num_spell {k : Nat} (hk : 0 < k) : ∀ n N, N < k ^ n → num k (spell k n N) = N
  | 0, N, h => by
    rw [Nat.pow_zero] at h
    have : N = 0 := by omega
    subst this
    rfl
  | n + 1, N, h => by
    rw [spell, num_snoc, num_spell hk n _ (Nat.div_lt_of_lt_mul (by rw [Nat.mul_comm, ← Nat.pow_succ]; exact h))]
    have e := Nat.div_add_mod N k
    rw [Nat.mul_comm] at e
    omega
theorem snoc_ex {w : W} (h : 0 < w.length) : ∃ u c, w = u ++ [c] := by
  exact ⟨w.dropLast, w.getLast (List.length_pos_iff.mp h), (List.dropLast_concat_getLast _).symm⟩
theorem spell_num {k : Nat} : ∀ (n : Nat) (w : W), w.length = n → (∀ c ∈ w, 97 ≤ c ∧ c < 97 + k) → spell k n (num k w) = w ∧ num k w < k ^ n
  | 0, w, h, _ => by
    have : w = [] := List.length_eq_zero_iff.mp h
    subst this
    exact ⟨rfl, by rw [Nat.pow_zero]; exact Nat.zero_lt_one⟩
  | n + 1, w, h, hw => by
    obtain ⟨u, c, rfl⟩ := snoc_ex (w := w) (by omega)
    rw [List.length_append] at h
    have hu : u.length = n := by
      have : [c].length = 1 := rfl
      omega
    obtain ⟨h1, h2⟩ := spell_num n u hu fun d hd => hw d (List.mem_append_left _ hd)
    have hc := hw c (by simp)
    have hk : 0 < k := by omega
    have hd : (num k u * k + (c - 97)) / k = num k u := by rw [Nat.add_comm, Nat.add_mul_div_right _ _ hk, Nat.div_eq_of_lt (by omega), Nat.zero_add]
    have hm : (num k u * k + (c - 97)) % k = c - 97 := by rw [Nat.add_comm, Nat.add_mul_mod_self_right, Nat.mod_eq_of_lt (by omega)]
    rw [num_snoc, spell, hd, hm, h1]
    refine ⟨by rw [show 97 + (c - 97) = c by omega], ?_⟩
    rw [Nat.pow_succ]
    have : num k u * k + k ≤ k ^ n * k := by rw [← Nat.succ_mul]; exact Nat.mul_le_mul_right k h2
    omega
theorem num_cons (k c : Nat) : ∀ w : W, num k (c :: w) = (c - 97) * k ^ w.length + num k w := by
  intro w
  have key : ∀ (w : W) (a : Nat), w.foldl (fun a c => a * k + (c - 97)) a = a * k ^ w.length + num k w := by
    intro w
    induction w with
    | nil => intro a; simp [num]
    | cons d w ih =>
      intro a
      unfold num
      rw [List.foldl_cons, List.foldl_cons, ih, ih, List.length_cons, Nat.pow_succ, Nat.zero_mul, Nat.zero_add, Nat.add_mul, Nat.mul_assoc, Nat.mul_comm k, Nat.add_assoc]
  unfold num
  rw [List.foldl_cons, key]
  rw [Nat.zero_mul, Nat.zero_add]
  rfl
noncomputable def allW (k n : Nat) : List W := (List.range (k ^ n)).map (spell k n)
theorem allW_len (k n : Nat) : (allW k n).length = k ^ n := by rw [allW, List.length_map, List.length_range]
theorem allW_get {k n i : Nat} (h : i < k ^ n) : (allW k n)[i]? = some (spell k n i) := by
  rw [allW, List.getElem?_map, List.getElem?_range h]
  rfl
end Wd

namespace Wd
noncomputable def Okk (k : Nat) (w : W) : Prop := ∀ c ∈ w, 97 ≤ c ∧ c < 97 + k
noncomputable def Lst (w : W) : Prop := w = least w
noncomputable instance (w : W) : Decidable (Lst w) := inferInstanceAs (Decidable (w = least w))
set_option genInjectivity false in
structure LW (k n : Nat) (w : W) : Prop where
  len : w.length = n
  ok : Okk k w
  lst : Lst w
end Wd

namespace Wd
noncomputable def Nn (k : Nat) (w : W) (m : Nat) : Prop := ∀ v, LW k w.length v → ∀ p, m ≤ p → p < w.length → v.take p = w.take p → ¬ w.getD p 0 < v.getD p 0
end Wd

namespace Wd
theorem mem_allW {k n : Nat} {w : W} (hk : 0 < k) : w ∈ allW k n ↔ w.length = n ∧ Okk k w := by
  unfold allW
  rw [List.mem_map]
  constructor
  · rintro ⟨i, _, rfl⟩
    exact ⟨spell_len k n i, spell_mem hk n i⟩
  · rintro ⟨hl, ho⟩
    obtain ⟨h1, h2⟩ := spell_num n w hl ho
    exact ⟨num k w, List.mem_range.mpr h2, h1⟩
theorem allW_sorted {k n : Nat} (hk : 0 < k) : (allW k n).Pairwise (· < ·) := by
  unfold allW
  rw [List.pairwise_map]
  refine List.Pairwise.imp_of_mem ?_ List.pairwise_lt_range
  intro a b _ hb hab
  exact spell_lt hk n a b hab (List.mem_range.mp hb)
theorem allW_succ (k n : Nat) (hk : 0 < k) : allW k (n + 1) = (allW k n).flatMap fun w => (List.range k).map fun c => w ++ [97 + c] := by
  unfold allW
  rw [List.flatMap_map, Nat.pow_succ]
  generalize k ^ n = m
  induction m with
  | zero => simp
  | succ m ih =>
    rw [Nat.succ_mul, List.range_add, List.map_append, ih, List.range_succ, List.flatMap_append]
    congr 1
    simp only [List.flatMap_cons, List.flatMap_nil, List.append_nil, List.map_map]
    apply List.map_congr_left
    intro c hc
    have hc' := List.mem_range.mp hc
    show spell k (n + 1) (m * k + c) = _
    rw [spell]
    have e1 : (m * k + c) / k = m := by rw [Nat.mul_comm, Nat.mul_add_div hk, Nat.div_eq_of_lt hc']; omega
    have e2 : (m * k + c) % k = c := by rw [Nat.mul_comm, Nat.mul_add_mod, Nat.mod_eq_of_lt hc']
    rw [e1, e2]
end Wd

namespace Wd
noncomputable def ringAt (t : W) (n i : Nat) : W := (List.range n).map fun k => t.getD ((i + k) % t.length) 0
theorem ringAt_len (t : W) (n i : Nat) : (ringAt t n i).length = n := by rw [ringAt, List.length_map, List.length_range]
theorem ringAt_get {t : W} {n i k : Nat} (h : k < n) (ht : 0 < t.length) : (ringAt t n i)[k]? = t[(i + k) % t.length]? := by
  rw [ringAt, List.getElem?_map, List.getElem?_range h]
  show some (t.getD ((i + k) % t.length) 0) = _
  rw [List.getD_eq_getElem?_getD, List.getElem?_eq_getElem (Nat.mod_lt _ ht)]
  rfl
theorem row_at {t : W} {n i : Nat} (h : i + n ≤ t.length) : (t.drop i).take n = ringAt t n i := by
  apply ext_get
  · rw [List.length_take, List.length_drop, ringAt_len]
    omega
  · intro k hk
    rw [List.length_take, List.length_drop] at hk
    rw [List.getElem?_take_of_lt (by omega), List.getElem?_drop, ringAt_get (by omega) (by omega), Nat.mod_eq_of_lt (by omega)]
theorem ring_at {t : W} {n i c : Nat} (h : i + n ≤ c * t.length) (ht : 0 < t.length) : ((rep c t).drop i).take n = ringAt t n i := by
  apply ext_get
  · rw [List.length_take, List.length_drop, rep_len, ringAt_len]
    omega
  · intro k hk
    rw [List.length_take, List.length_drop, rep_len] at hk
    rw [List.getElem?_take_of_lt (by omega), List.getElem?_drop, ringAt_get (by omega) ht, rep_get (by omega)]
noncomputable def rowW (t : W) (n : Nat) : List W := (List.range (t.length + 1 - n)).map (ringAt t n)
noncomputable def ringW (t : W) (n : Nat) : List W := (List.range t.length).map (ringAt t n)
noncomputable def win (t : W) (n : Nat) (b : Bool) : List W := if b = true then ringW t n else rowW t n
theorem ringW_len (t : W) (n : Nat) : (ringW t n).length = t.length := by rw [ringW, List.length_map, List.length_range]
end Wd

set_option linter.all false
namespace Wd
noncomputable def rotN {α : Type _} (t : List α) (s : Nat) : List α := t.drop s ++ t.take s
theorem rotN_len {α : Type _} (t : List α) (s : Nat) : (rotN t s).length = t.length := by
  rw [rotN, List.length_append, List.length_drop, List.length_take]; omega
theorem rotN_get {α : Type _} {t : List α} {s i : Nat} (hi : i < t.length) (hs : s < t.length) : (rotN t s)[i]? = t[(i + s) % t.length]? := by
  unfold rotN
  by_cases h : i + s < t.length
  · rw [List.getElem?_append_left (by rw [List.length_drop]; omega), List.getElem?_drop, Nat.mod_eq_of_lt h, Nat.add_comm]
  · rw [List.getElem?_append_right (by rw [List.length_drop]; omega), List.length_drop, List.getElem?_take_of_lt (by omega), Nat.mod_eq_sub_mod (by omega), Nat.mod_eq_of_lt (by omega)]
    congr 1
    omega
theorem ringAt_mod {t : W} {n i : Nat} : ringAt t n (i % t.length) = ringAt t n i := by
  unfold ringAt
  refine List.map_congr_left fun k _ => ?_
  rw [Nat.mod_add_mod]
theorem ringAt_rot {t : W} {n s i : Nat} (hs : s < t.length) : ringAt (rotN t s) n i = ringAt t n (i + s) := by
  unfold ringAt
  refine List.map_congr_left fun k _ => ?_
  have h : 0 < t.length := by omega
  rw [rotN_len, List.getD_eq_getElem?_getD, List.getD_eq_getElem?_getD, rotN_get (Nat.mod_lt _ h) hs, Nat.mod_add_mod, show i + k + s = i + s + k by omega]
theorem ringW_get {t : W} {n i : Nat} (h : i < t.length) : (ringW t n)[i]? = some (ringAt t n i) := by
  rw [ringW, List.getElem?_map, List.getElem?_range h]; rfl
theorem ringW_rot {t : W} {n s : Nat} (hs : s < t.length) : ringW (rotN t s) n = rotN (ringW t n) s := by
  have h : 0 < t.length := by omega
  apply List.ext_getElem?
  intro i
  by_cases hi : i < t.length
  · rw [ringW_get (by rw [rotN_len]; exact hi), rotN_get (by rw [ringW_len]; exact hi) (by rw [ringW_len]; exact hs), ringW_len, ringW_get (Nat.mod_lt _ h), ringAt_rot hs, ringAt_mod]
  · rw [List.getElem?_eq_none (by rw [ringW_len, rotN_len]; omega), List.getElem?_eq_none (by rw [rotN_len, ringW_len]; omega)]
theorem sorted_same : ∀ {xs ys : List W}, xs.Perm ys → xs.Pairwise (fun a b => ¬ b < a) → ys.Pairwise (fun a b => ¬ b < a) → xs = ys := by
  intro xs ys h h1 h2
  refine List.Perm.eq_of_pairwise ?_ h1 h2 h
  intro a b _ _ z1 z2
  exact Std.Trichotomous.trichotomous a b z2 z1
end Wd

set_option linter.all false
namespace Hg
variable {bg en : List Nat → List Nat}
inductive Rch (bg en : List Nat → List Nat) (ms : List (List Nat)) (p : List Nat) : List Nat → Prop
  | self : Rch bg en ms p p
  | fw {w : List Nat} : w ∈ ms → Rch bg en ms p (bg w) → Rch bg en ms p (en w)
  | bw {w : List Nat} : w ∈ ms → Rch bg en ms p (en w) → Rch bg en ms p (bg w)
noncomputable def Cl (bg en : List Nat → List Nat) (ls : List (List Nat)) (w : List Nat) : Prop := bg w ∈ ls ↔ en w ∈ ls
noncomputable def addT (ls : List (List Nat)) (t : List Nat) : List (List Nat) := if t ∈ ls then ls else ls ++ [t]
theorem addT_len (ls : List (List Nat)) (t : List Nat) : (addT ls t).length ≤ ls.length + 1 := by
  unfold addT
  split
  · omega
  · simp
set_option genInjectivity false in
structure Pass (bg en : List Nat → List Nat) (ms : List (List Nat)) (p : List Nat) (fs : List (List Nat)) (i : Nat) (ls : List (List Nat)) : Prop where
  nd : ls.Nodup
  pre : fs <+: ls
  rch : ∀ z ∈ ls, Rch bg en ms p z
  cl : ls.length = fs.length → ∀ w ∈ ms.take i, Cl bg en fs w
end Hg

set_option linter.all false
namespace Wd
end Wd

namespace Wd
theorem nodup_le : ∀ (a b : List W), a.Nodup → (∀ x ∈ a, x ∈ b) → a.length ≤ b.length
  | [], b, _, _ => Nat.zero_le _
  | x :: a, b, hn, hs => by
    obtain ⟨h1, h2⟩ := List.nodup_cons.mp hn
    have hx : x ∈ b := hs x List.mem_cons_self
    have := nodup_le a (b.erase x) h2 fun y hy => (List.mem_erase_of_ne (fun e => h1 (by rw [← e]; exact hy))).mpr (hs y (List.mem_cons_of_mem _ hy))
    rw [List.length_erase_of_mem hx] at this
    have hp : 0 < b.length := List.length_pos_of_mem hx
    rw [List.length_cons]
    omega
end Wd

namespace Wd
noncomputable def it (f : W → W) : Nat → W → W
  | 0, w => w
  | k + 1, w => f (it f k w)
theorem it_add (f : W → W) (a b : Nat) (w : W) : it f (a + b) w = it f a (it f b w) := by
  induction a with
  | zero => rw [Nat.zero_add]; rfl
  | succ a ih => rw [Nat.succ_add]; show f _ = f _; rw [ih]
set_option genInjectivity false in
structure FairOn (f : W → W) (L : List W) : Prop where
  nd : L.Nodup
  pm : (L.map f).Perm L
theorem inj_map {f : W → W} : ∀ {L : List W}, (L.map f).Nodup → ∀ {a b : W}, a ∈ L → b ∈ L → f a = f b → a = b
  | [], _, _, _, ha, _, _ => by simp at ha
  | x :: L, h, a, b, ha, hb, e => by
    rw [List.map_cons, List.nodup_cons] at h
    rcases List.mem_cons.mp ha with ha' | ha'
    · rcases List.mem_cons.mp hb with hb' | hb'
      · rw [ha', hb']
      · subst ha'
        exact absurd (e ▸ List.mem_map_of_mem hb') h.1
    · rcases List.mem_cons.mp hb with hb' | hb'
      · subst hb'
        exact absurd (e ▸ List.mem_map_of_mem ha') h.1
      · exact inj_map h.2 ha' hb' e
section
variable {f : W → W} {L : List W} {w : W} {p : Nat}
theorem FairOn.mem (h : FairOn f L) (hw : w ∈ L) : f w ∈ L := h.pm.mem_iff.mp (List.mem_map_of_mem hw)
theorem FairOn.inj (h : FairOn f L) {a b : W} (ha : a ∈ L) (hb : b ∈ L) (e : f a = f b) : a = b := inj_map (h.pm.nodup_iff.mpr h.nd) ha hb e
theorem FairOn.it_mem (h : FairOn f L) (hw : w ∈ L) : ∀ k, it f k w ∈ L
  | 0 => hw
  | k + 1 => h.mem (h.it_mem hw k)
noncomputable def OrbOk (f : W → W) (w : W) (p : Nat) : Prop := ∀ i j, i < j → j < p → it f i w ≠ it f j w
noncomputable def orb (f : W → W) (w : W) (p : Nat) : List W := (List.range p).map fun i => it f i w
theorem orb_len (f : W → W) (w : W) (p : Nat) : (orb f w p).length = p := by rw [orb, List.length_map, List.length_range]
theorem orb_snoc (f : W → W) (w : W) (p : Nat) : orb f w (p + 1) = orb f w p ++ [it f p w] := by rw [orb, List.range_succ, List.map_append]; rfl
theorem orb_get (f : W → W) (w : W) {p i : Nat} (h : i < p) : (orb f w p)[i]? = some (it f i w) := by rw [orb, List.getElem?_map, List.getElem?_range h]; rfl
theorem orb_mem {y : W} : y ∈ orb f w p ↔ ∃ i, i < p ∧ y = it f i w := by
  rw [orb, List.mem_map]
  exact ⟨fun ⟨i, h, e⟩ => ⟨i, List.mem_range.mp h, e.symm⟩, fun ⟨i, h, e⟩ => ⟨i, List.mem_range.mpr h, e.symm⟩⟩
theorem OrbOk.nodup (h : OrbOk f w p) : (orb f w p).Nodup := by
  unfold orb
  refine List.pairwise_map.mpr ?_
  refine List.Pairwise.imp_of_mem (fun {a b} ha hb hab => ?_) (List.pairwise_lt_range (n := p))
  exact h a b hab (List.mem_range.mp hb)
theorem OrbOk.one : OrbOk f w 1 := fun i j h1 h2 => by omega
theorem OrbOk.more (h : FairOn f L) (hw : w ∈ L) (ho : OrbOk f w p) (hne : it f p w ≠ w) : OrbOk f w (p + 1) := by
  intro i j hij hj
  by_cases hjp : j < p
  · exact ho i j hij hjp
  · obtain rfl : j = p := by omega
    intro e
    cases i with
    | zero => exact hne e.symm
    | succ i =>
      cases j with
      | zero => omega
      | succ j => exact ho i j (by omega) (by omega) (h.inj (h.it_mem hw i) (h.it_mem hw j) e)
theorem OrbOk.le (h : FairOn f L) (hw : w ∈ L) (ho : OrbOk f w p) : p ≤ L.length := by
  have := nodup_le (orb f w p) L ho.nodup fun x hx => by
    obtain ⟨i, _, rfl⟩ := orb_mem.mp hx
    exact h.it_mem hw i
  rwa [orb_len] at this
noncomputable def Peri (f : W → W) (w : W) (p : Nat) : Prop := 1 ≤ p ∧ it f p w = w ∧ OrbOk f w p
theorem Peri.uniq {q : Nat} (h : Peri f w p) (g : Peri f w q) : p = q := by
  rcases Nat.lt_trichotomy p q with z | z | z
  · exact absurd h.2.1.symm (g.2.2 0 p h.1 z)
  · exact z
  · exact absurd g.2.1.symm (h.2.2 0 q g.1 z)
theorem Peri.ex (h : FairOn f L) (hw : w ∈ L) : ∃ p, Peri f w p := by
  refine Classical.byContradiction fun hno => ?_
  have key : ∀ p, OrbOk f w (p + 1) := by
    intro p
    induction p with
    | zero => exact OrbOk.one
    | succ p ih => exact ih.more h hw fun z => hno ⟨p + 1, by omega, z, ih⟩
  have := (key L.length).le h hw
  omega
theorem Peri.mul (h : Peri f w p) : ∀ q, it f (q * p) w = w
  | 0 => by rw [Nat.zero_mul]; rfl
  | q + 1 => by rw [Nat.succ_mul, Nat.add_comm, it_add, h.mul q]; exact h.2.1
theorem Peri.mod (h : Peri f w p) (k : Nat) : it f k w = it f (k % p) w := by
  conv => lhs; rw [← Nat.mod_add_div k p, it_add, Nat.mul_comm, h.mul]
theorem Peri.mem (h : Peri f w p) {y : W} : y ∈ orb f w p ↔ ∃ k, y = it f k w := by
  rw [orb_mem]
  exact ⟨fun ⟨i, _, e⟩ => ⟨i, e⟩, fun ⟨k, e⟩ => ⟨k % p, Nat.mod_lt _ h.1, e.trans (h.mod k)⟩⟩
theorem Peri.back (h : Peri f w p) (k : Nat) : ∃ j, w = it f j (it f k w) := by
  refine ⟨p - k % p, ?_⟩
  have hk := Nat.mod_lt k h.1
  rw [h.mod k, ← it_add, Nat.sub_add_cancel (Nat.le_of_lt hk), h.2.1]
noncomputable def LeastO (f : W → W) (w : W) : Prop := ∀ k, ¬ it f k w < w
theorem not_met (h : FairOn f L) (hL : L.Pairwise (· < ·)) {i : Nat} (hi : L[i]? = some w) : (¬ ∃ x ∈ L.take i, ∃ k, w = it f k x) ↔ LeastO f w := by
  have hil := (List.getElem?_eq_some_iff.mp hi).1
  have hwL := List.mem_of_getElem? hi
  have hgw : L[i] = w := (List.getElem?_eq_some_iff.mp hi).2
  rw [List.pairwise_iff_getElem] at hL
  have hle : ∀ {y}, y ∈ L → y < w → y ∈ L.take i := fun {y} hy hlt => by
    obtain ⟨j, hj, rfl⟩ := List.mem_iff_getElem.mp hy
    have hji : j < i := by
      rcases Nat.lt_trichotomy j i with z | z | z
      · exact z
      · subst z; rw [hgw] at hlt; exact absurd hlt (ltir _)
      · have := hL i j hil hj z
        rw [hgw] at this
        exact absurd (ltt this hlt) (ltir _)
    exact List.mem_iff_getElem.mpr ⟨j, by rw [List.length_take]; omega, by rw [List.getElem_take]⟩
  have hlt : ∀ {y}, y ∈ L.take i → y ∈ L ∧ y < w := fun {y} hy => by
    obtain ⟨j, hj, rfl⟩ := List.mem_iff_getElem.mp hy
    rw [List.length_take] at hj
    rw [List.getElem_take]
    refine ⟨List.getElem_mem _, ?_⟩
    rw [← hgw]
    exact hL j i (by omega) hil (by omega)
  constructor
  · intro hno k hk
    obtain ⟨p, hp⟩ := Peri.ex h hwL
    obtain ⟨j, hj⟩ := hp.back k
    exact hno ⟨_, hle (h.it_mem hwL k) hk, j, hj⟩
  · rintro hlo ⟨x, hx, k, e⟩
    obtain ⟨hxL, hxw⟩ := hlt hx
    obtain ⟨p, hp⟩ := Peri.ex h hxL
    obtain ⟨j, hj⟩ := hp.back k
    rw [← e] at hj
    exact hlo j (hj ▸ hxw)
noncomputable def rdT (f : W → W) (w : W) (p : Nat) : W := (orb f w p).map fun y => y.headD 97
noncomputable def perO (f : W → W) (w : W) : Nat := @dite _ (∃ p, Peri f w p) (Classical.propDecidable _) (fun h => h.choose) fun _ => 1
theorem Peri.perO (h : Peri f w p) : perO f w = p := by
  have hx : ∃ p, Peri f w p := ⟨p, h⟩
  unfold Wd.perO
  rw [dif_pos hx]
  exact hx.choose_spec.uniq h
noncomputable def rdO (f : W → W) (w : W) : W := rdT f w (perO f w)
open Classical in
noncomputable def rounds (f : W → W) (L : List W) : List W := (L.filter fun w => decide (LeastO f w)).map (rdO f)
open Classical in
theorem rounds_snoc (f : W → W) (L : List W) (w : W) : rounds f (L ++ [w]) = if LeastO f w then rounds f L ++ [rdO f w] else rounds f L := by
  unfold rounds
  rw [List.filter_append, List.map_append, List.filter_cons, List.filter_nil]
  by_cases h : LeastO f w
  · rw [if_pos h, if_pos (decide_eq_true h)]
    rfl
  · rw [if_neg h, if_neg (fun z => h (of_decide_eq_true z)), List.map_nil, List.append_nil]
theorem rounds_len (f : W → W) (L : List W) : (rounds f L).length ≤ L.length := by
  unfold rounds
  rw [List.length_map]
  exact List.length_filter_le ..
end
end Wd

set_option linter.all false
namespace Hg
variable {bg en : List Nat → List Nat}
end Hg

set_option linter.all false
namespace Wd
end Wd

set_option linter.all false
namespace Wd
noncomputable def ltrs (k : Nat) : W := (List.range k).map (97 + ·)
theorem mem_ltrs {k c : Nat} : c ∈ ltrs k ↔ 97 ≤ c ∧ c < 97 + k := by
  unfold ltrs
  rw [List.mem_map]
  exact ⟨fun ⟨i, h, e⟩ => by rw [List.mem_range] at h; omega, fun h => ⟨c - 97, List.mem_range.mpr (by omega), by omega⟩⟩
theorem ltrs_sorted (k : Nat) : (ltrs k).Pairwise (· < ·) := by
  unfold ltrs
  exact List.pairwise_map.mpr (List.pairwise_lt_range.imp fun h => by omega)
section
variable {k n : Nat} {t : W}
theorem full {a b : List W} (hn : a.Nodup) (hs : ∀ x ∈ a, x ∈ b) (hl : b.length ≤ a.length) {x : W} (hx : x ∈ b) : x ∈ a := by
  refine Classical.byContradiction fun hno => ?_
  have := nodup_le (x :: a) b (List.nodup_cons.mpr ⟨hno, hn⟩) fun y hy => by
    rcases List.mem_cons.mp hy with rfl | hy
    · exact hx
    · exact hs y hy
  rw [List.length_cons] at this
  omega
end
end Wd

set_option linter.all false
namespace Wd
set_option genInjectivity false in
structure NextBy (f : W → W) (L : List W) (n : Nat) : Prop where
  n1 : 1 ≤ n
  len : ∀ w ∈ L, w.length = n
  sh : ∀ w ∈ L, ∃ c, f w = w.drop 1 ++ [c]
section
variable {f : W → W} {L : List W} {n : Nat} {w : W} {p : Nat}
theorem NextBy.get (N : NextBy f L n) (h : FairOn f L) (hw : w ∈ L) : ∀ k i, k < n → (it f i w)[k]? = (it f (i + k) w)[0]?
  | 0, i, _ => rfl
  | k + 1, i, hk => by
    have hm := h.it_mem hw i
    obtain ⟨c, e⟩ := N.sh _ hm
    have hl := N.len _ hm
    have e1 : (it f (i + 1) w)[k]? = (it f i w)[k + 1]? := by
      show (f (it f i w))[k]? = _
      rw [e, List.getElem?_append_left (by rw [List.length_drop]; omega), List.getElem?_drop, Nat.add_comm]
    rw [← e1, N.get h hw k (i + 1) (by omega), show i + 1 + k = i + (k + 1) by omega]
theorem rdT_get (f : W → W) (w : W) {i : Nat} (hi : i < p) (hl : 1 ≤ (it f i w).length) : (rdT f w p)[i]? = (it f i w)[0]? := by
  unfold rdT
  rw [List.getElem?_map, orb_get f w hi]
  cases h : it f i w with
  | nil => rw [h] at hl; simp at hl
  | cons a r => rfl
theorem rdT_len (f : W → W) (w : W) (p : Nat) : (rdT f w p).length = p := by rw [rdT, List.length_map, orb_len]
theorem NextBy.win (N : NextBy f L n) (h : FairOn f L) (hw : w ∈ L) (hp : Peri f w p) (i : Nat) : ringAt (rdT f w p) n i = it f i w := by
  have hl := rdT_len f w p
  have hp1 := hp.1
  have hn := N.n1
  apply ext_get
  · rw [ringAt_len, N.len _ (h.it_mem hw i)]
  · intro k hk
    rw [ringAt_len] at hk
    have hm : (i + k) % p < p := Nat.mod_lt _ hp1
    rw [ringAt_get hk (by omega), hl, rdT_get f w hm (by rw [N.len _ (h.it_mem hw _)]; exact hn), ← hp.mod, N.get h hw k i hk]
theorem NextBy.wins (N : NextBy f L n) (h : FairOn f L) (hw : w ∈ L) (hp : Peri f w p) : ringW (rdT f w p) n = orb f w p := by
  unfold ringW orb
  rw [rdT_len]
  exact List.map_congr_left fun i _ => N.win h hw hp i
theorem min_ex : ∀ {l : List W}, l ≠ [] → ∃ m ∈ l, ∀ y ∈ l, ¬ y < m
  | [], h => absurd rfl h
  | [a], _ => ⟨a, by simp, fun y hy => by rw [List.mem_singleton.mp hy]; exact ltir _⟩
  | a :: b :: l, _ => by
    obtain ⟨m, hm, hmin⟩ := min_ex (l := b :: l) (by simp)
    by_cases c : a < m
    · refine ⟨a, by simp, fun y hy z => ?_⟩
      rcases List.mem_cons.mp hy with rfl | hy
      · exact ltir _ z
      · exact hmin y hy (ltt z c)
    · refine ⟨m, List.mem_cons_of_mem _ hm, fun y hy => ?_⟩
      rcases List.mem_cons.mp hy with rfl | hy
      · exact c
      · exact hmin y hy
theorem least_ex (h : FairOn f L) (hw : w ∈ L) : ∃ m k j, m = it f k w ∧ w = it f j m ∧ LeastO f m := by
  obtain ⟨p, hp⟩ := Peri.ex h hw
  obtain ⟨m, hm, hmin⟩ := min_ex (l := orb f w p) (fun z => by have := orb_len f w p; rw [z, List.length_nil] at this; have := hp.1; omega)
  obtain ⟨k, _, e⟩ := orb_mem.mp hm
  obtain ⟨j, hj⟩ := hp.back k
  exact ⟨m, k, j, e, by rw [e]; exact hj, fun i z => hmin _ (hp.mem.mpr ⟨i + k, by rw [e, ← it_add]⟩) z⟩
theorem least_one (h : FairOn f L) {a b : W} (ha : a ∈ L) (hb : b ∈ L) (la : LeastO f a) (lb : LeastO f b) {i j : Nat} (e : it f i a = it f j b) : a = b := by
  obtain ⟨p, hp⟩ := Peri.ex h ha
  obtain ⟨q, hq⟩ := Peri.ex h hb
  obtain ⟨x, hx⟩ := hp.back i
  obtain ⟨y, hy⟩ := hq.back j
  rw [e, ← it_add] at hx
  rw [← e, ← it_add] at hy
  refine tri (fun z => lb (x + j) ?_) (fun z => la (y + i) ?_)
  · rw [← hx]; exact z
  · rw [← hy]; exact z
end
end Wd

set_option linter.all false
namespace Wd
set_option genInjectivity false in
structure Sw (f g : W → W) (L : List W) (a b : W) : Prop where
  ne : a ≠ b
  ma : a ∈ L
  mb : b ∈ L
  ga : g a = f b
  gb : g b = f a
  go : ∀ y ∈ L, y ≠ a → y ≠ b → g y = f y
section
variable {f g : W → W} {L : List W} {n : Nat} {a b w m : W} {p : Nat}
theorem Sw.back (s : Sw f g L a b) : Sw g f L a b := ⟨s.ne, s.ma, s.mb, s.gb.symm, s.ga.symm, fun y hy h1 h2 => (s.go y hy h1 h2).symm⟩
theorem Sw.it_same (s : Sw f g L a b) (h : FairOn f L) (hw : w ∈ L) (hn : ∀ k, it f k w ≠ a ∧ it f k w ≠ b) : ∀ k, it g k w = it f k w
  | 0 => rfl
  | k + 1 => by
    show g (it g k w) = f (it f k w)
    rw [s.it_same h hw hn k]
    exact s.go _ (h.it_mem hw k) (hn k).1 (hn k).2
theorem Sw.along (s : Sw f g L a b) (h : FairOn f L) {i : Nat} (hn : ∀ k, 1 ≤ k → k < i → it f k a ≠ a ∧ it f k a ≠ b) : ∀ k, 1 ≤ k → k ≤ i → it g k b = it f k a
  | 0, h0, _ => absurd h0 (by omega)
  | 1, _, _ => s.gb
  | k + 2, _, hk => by
    show g (it g (k + 1) b) = f (it f (k + 1) a)
    rw [s.along h hn (k + 1) (by omega) (by omega)]
    exact s.go _ (h.it_mem s.ma _) (hn _ (by omega) (by omega)).1 (hn _ (by omega) (by omega)).2
theorem Peri.ne (hp : Peri f w p) {i j : Nat} (hi : i < p) (hj : j < p) (e : i ≠ j) : it f i w ≠ it f j w := by
  rcases Nat.lt_or_gt_of_ne e with c | c
  · exact hp.2.2 i j c hj
  · exact fun z => hp.2.2 j i c hi z.symm
theorem Sw.join (s : Sw f g L a b) (h : FairOn f L) (hg : FairOn g L) (hn : ∀ k, it f k a ≠ b) : ∃ k, it g k a = b := by
  obtain ⟨p, hp⟩ := Peri.ex h s.ma
  have e1 := s.along h (i := p) fun k h1 h2 => ⟨fun z => hp.ne (i := 0) (j := k) (by omega) h2 (by omega) z.symm, hn k⟩
  have e2 := e1 p hp.1 (Nat.le_refl _)
  rw [hp.2.1] at e2
  obtain ⟨q, hq⟩ := Peri.ex hg s.mb
  obtain ⟨j, e3⟩ := hq.back p
  rw [e2] at e3
  exact ⟨j, e3.symm⟩
theorem Peri.of (h : FairOn f L) (hw : w ∈ L) (hp : Peri f w p) (k : Nat) : Peri f (it f k w) p := by
  have hc : ∀ j, it f j (it f k w) = it f (j + k) w := fun j => (it_add f j k w).symm
  refine ⟨hp.1, ?_, fun i j h1 h2 z => ?_⟩
  · rw [hc, Nat.add_comm, it_add, hp.2.1]
  · rw [hc, hc, hp.mod (i + k), hp.mod (j + k)] at z
    have hpp := hp.1
    refine hp.ne (Nat.mod_lt _ hpp) (Nat.mod_lt _ hpp) (fun e => ?_) z
    have e1 := Nat.div_add_mod (i + k) p
    have e2 := Nat.div_add_mod (j + k) p
    rw [e] at e1
    have : j - i = p * ((j + k) / p) - p * ((i + k) / p) := by omega
    rw [← Nat.mul_sub] at this
    rcases Nat.eq_zero_or_pos ((j + k) / p - (i + k) / p) with c | c
    · rw [c] at this; omega
    · have := Nat.le_mul_of_pos_right p c; omega
open Classical in
theorem mem_rounds {t : W} : t ∈ rounds f L ↔ ∃ m ∈ L, LeastO f m ∧ t = rdO f m := by
  unfold rounds
  rw [List.mem_map]
  constructor
  · rintro ⟨m, h1, rfl⟩
    rw [List.mem_filter] at h1
    exact ⟨m, h1.1, of_decide_eq_true h1.2, rfl⟩
  · rintro ⟨m, h1, h2, rfl⟩
    exact ⟨m, List.mem_filter.mpr ⟨h1, decide_eq_true h2⟩, rfl⟩
theorem rdO_wins (N : NextBy f L n) (h : FairOn f L) (hw : w ∈ L) {x : W} : x ∈ ringW (rdO f w) n ↔ ∃ k, x = it f k w := by
  obtain ⟨p, hp⟩ := Peri.ex h hw
  unfold rdO
  rw [hp.perO, N.wins h hw hp]
  exact hp.mem
theorem rdO_len (h : FairOn f L) (hw : w ∈ L) (hp : Peri f w p) : (rdO f w).length = p := by
  unfold rdO
  rw [hp.perO, rdT_len]
theorem rd_alike (N : NextBy f L n) (M : NextBy g L n) (h : FairOn f L) (hg : FairOn g L) {x y : W} (hx : x ∈ L) (hy : y ∈ L) (e : rdO f x = rdO g y) : x = y ∧ ∀ k, it f k x = it g k x := by
  obtain ⟨p, hp⟩ := Peri.ex h hx
  obtain ⟨q, hq⟩ := Peri.ex hg hy
  have hpq : p = q := by rw [← rdO_len h hx hp, e, rdO_len hg hy hq]
  subst hpq
  have e0 := e
  unfold rdO at e
  rw [hp.perO, hq.perO] at e
  have hw := fun i => (N.win h hx hp i).symm.trans ((congrArg (fun t => ringAt t n i) e).trans (M.win hg hy hq i))
  have hxy : x = y := hw 0
  subst hxy
  exact ⟨rfl, hw⟩
theorem rounds_nd (N : NextBy f L n) (h : FairOn f L) : (rounds f L).Nodup := by
  unfold rounds
  refine List.pairwise_map.mpr (List.Pairwise.imp_of_mem (fun {x y} hx hy hxy e => hxy ?_) (h.nd.filter _))
  exact (rd_alike N N h h (List.mem_filter.mp hx).1 (List.mem_filter.mp hy).1 e).1
theorem Sw.stays (s : Sw f g L a b) (N : NextBy f L n) (M : NextBy g L n) (h : FairOn f L) (hg : FairOn g L) (hm : m ∈ L) (hl : LeastO f m) : rdO f m ∈ rounds g L ↔ ∀ k, it f k m ≠ a ∧ it f k m ≠ b := by
  constructor
  · intro z k
    obtain ⟨m', h1, h2, e⟩ := mem_rounds.mp z
    obtain ⟨rfl, e2⟩ := rd_alike N M h hg hm h1 e
    have hk := e2 (k + 1)
    have hk0 := e2 k
    refine ⟨fun c => ?_, fun c => ?_⟩
    · have : f (it f k m) = g (it g k m) := hk
      rw [← hk0, c, s.ga] at this
      exact s.ne (h.inj s.ma s.mb this)
    · have : f (it f k m) = g (it g k m) := hk
      rw [← hk0, c, s.gb] at this
      exact s.ne (h.inj s.ma s.mb this.symm)
  · intro hn
    have hs := s.it_same h hm hn
    refine mem_rounds.mpr ⟨m, hm, fun k => by rw [hs k]; exact hl k, ?_⟩
    obtain ⟨p, hp⟩ := Peri.ex h hm
    have hq : Peri g m p := ⟨hp.1, by rw [hs]; exact hp.2.1, fun i j h1 h2 => by rw [hs, hs]; exact hp.2.2 i j h1 h2⟩
    unfold rdO rdT
    rw [hp.perO, hq.perO]
    unfold orb
    congr 1
    exact List.map_congr_left fun i _ => (hs i).symm
theorem perm_two {α : Type _} [DecidableEq α] {l : List α} {x y : α} (hl : l.Nodup) (hxy : x ≠ y) (hm : ∀ z, z ∈ l ↔ z = x ∨ z = y) : l = [x, y] ∨ l = [y, x] := by
  have hp : l.Perm [x, y] := (List.perm_ext_iff_of_nodup hl (by simp [hxy])).mpr fun z => by rw [hm]; simp
  have hlen := hp.length_eq
  match l, hlen with
  | [u, v], _ =>
    have hu := (hm u).mp (by simp)
    have hv := (hm v).mp (by simp)
    have huv : u ≠ v := fun e => by subst e; simp at hl
    rcases hu with rfl | rfl <;> rcases hv with rfl | rfl
    · exact absurd rfl huv
    · exact .inl rfl
    · exact .inr rfl
    · exact absurd rfl huv
theorem perm_one {α : Type _} [DecidableEq α] {l : List α} {x : α} (hl : l.Nodup) (hm : ∀ z, z ∈ l ↔ z = x) : l = [x] := by
  have hp : l.Perm [x] := (List.perm_ext_iff_of_nodup hl (by simp)).mpr fun z => by rw [hm]; simp
  exact List.perm_singleton.mp hp
theorem Sw.gone (s : Sw f g L a b) (N : NextBy f L n) (M : NextBy g L n) (h : FairOn f L) (hg : FairOn g L) {A B : List W} (hA : A.Perm (rounds f L)) (hB : B.Perm (rounds g L)) {q : W → Bool} (hq : ∀ t, q t = true ↔ ¬ t ∈ B) {p r : Nat} (hp : Peri f a p) (hr : Peri f b r) :
    ((∃ k, it f k a = b) ∧ ∃ X, A.filter q = [X] ∧ X.length = p ∧ a ∈ ringW X n ∧ b ∈ ringW X n) ∨
    ((¬ ∃ k, it f k a = b) ∧ ∃ X Y, A.filter q = [X, Y] ∧ X.length + Y.length = p + r ∧ ((a ∈ ringW X n ∧ a ∉ ringW Y n ∧ b ∉ ringW X n ∧ b ∈ ringW Y n) ∨ (a ∉ ringW X n ∧ a ∈ ringW Y n ∧ b ∈ ringW X n ∧ b ∉ ringW Y n))) := by
  obtain ⟨ma, ka, ja, ea1, ea2, la⟩ := least_ex h s.ma
  obtain ⟨mb, kb, jb, eb1, eb2, lb⟩ := least_ex h s.mb
  have hma : ma ∈ L := by rw [ea1]; exact h.it_mem s.ma _
  have hmb : mb ∈ L := by rw [eb1]; exact h.it_mem s.mb _
  have hnd : (A.filter q).Nodup := (hA.nodup_iff.mpr (rounds_nd N h)).filter _
  have hmem : ∀ t, t ∈ A.filter q ↔ t = rdO f ma ∨ t = rdO f mb := fun t => by
    rw [List.mem_filter, hq, hA.mem_iff, hB.mem_iff]
    constructor
    · rintro ⟨h1, h2⟩
      obtain ⟨m, hm, hl, rfl⟩ := mem_rounds.mp h1
      rw [s.stays N M h hg hm hl] at h2
      obtain ⟨k, hk⟩ := Classical.not_forall.mp h2
      by_cases c : it f k m = a
      · left
        rw [least_one h hm hma hl la (i := k) (j := ja) (c.trans ea2)]
      · right
        have c2 : it f k m = b := Classical.byContradiction fun z => hk ⟨c, z⟩
        rw [least_one h hm hmb hl lb (i := k) (j := jb) (c2.trans eb2)]
    · rintro (rfl | rfl)
      · exact ⟨mem_rounds.mpr ⟨ma, hma, la, rfl⟩, fun z => ((s.stays N M h hg hma la).mp z ja).1 ea2.symm⟩
      · exact ⟨mem_rounds.mpr ⟨mb, hmb, lb, rfl⟩, fun z => ((s.stays N M h hg hmb lb).mp z jb).2 eb2.symm⟩
  have hla : (rdO f ma).length = p := rdO_len h hma (by rw [ea1]; exact hp.of h s.ma ka)
  have hlb : (rdO f mb).length = r := rdO_len h hmb (by rw [eb1]; exact hr.of h s.mb kb)
  have haa : a ∈ ringW (rdO f ma) n := (rdO_wins N h hma).mpr ⟨ja, ea2⟩
  have hbb : b ∈ ringW (rdO f mb) n := (rdO_wins N h hmb).mpr ⟨jb, eb2⟩
  by_cases c : ∃ k, it f k a = b
  · left
    refine ⟨c, rdO f ma, ?_, hla, haa, ?_⟩
    · have : mb = ma := by
        obtain ⟨k, e⟩ := c
        refine least_one h hmb hma lb la (i := jb) (j := k + ja) ?_
        rw [it_add, ← ea2, e, ← eb2]
      subst this
      exact perm_one hnd fun z => by rw [hmem]; exact or_self_iff
    · obtain ⟨k, e⟩ := c
      exact (rdO_wins N h hma).mpr ⟨k + ja, by rw [it_add, ← ea2, e]⟩
  · right
    refine ⟨c, ?_⟩
    have hab : a ∉ ringW (rdO f mb) n := fun z => by
      obtain ⟨k, e⟩ := (rdO_wins N h hmb).mp z
      obtain ⟨q', hq'⟩ := Peri.ex h hmb
      obtain ⟨j, e2⟩ := hq'.back k
      rw [← e] at e2
      exact c ⟨jb + j, by rw [it_add, ← e2, ← eb2]⟩
    have hba : b ∉ ringW (rdO f ma) n := fun z => by
      obtain ⟨k, e⟩ := (rdO_wins N h hma).mp z
      exact c ⟨k + ka, by rw [it_add, ← ea1, ← e]⟩
    have hne : rdO f ma ≠ rdO f mb := fun e => hab (e ▸ haa)
    rcases perm_two hnd hne hmem with e | e
    · exact ⟨_, _, e, by rw [hla, hlb], .inl ⟨haa, hab, hba, hbb⟩⟩
    · exact ⟨_, _, e, by rw [hla, hlb, Nat.add_comm], .inr ⟨hab, haa, hbb, hba⟩⟩
end
end Wd

set_option linter.all false
namespace Wd
theorem ringAt_next {r : W} {n i : Nat} (hn : 1 ≤ n) : ringAt r n (i + 1) = (ringAt r n i).drop 1 ++ [r.getD ((i + n) % r.length) 0] := by
  obtain ⟨m, rfl⟩ : ∃ m, n = m + 1 := ⟨n - 1, by omega⟩
  unfold ringAt
  conv => lhs; rw [List.range_succ, List.map_append]
  conv => rhs; rw [List.range_succ_eq_map, List.map_cons, List.drop_succ_cons, List.drop_zero, List.map_map]
  congr 1
  · refine List.map_congr_left fun k _ => ?_
    show r.getD ((i + 1 + k) % r.length) 0 = r.getD ((i + (k + 1)) % r.length) 0
    rw [show i + 1 + k = i + (k + 1) by omega]
  · show [r.getD ((i + 1 + m) % r.length) 0] = _
    rw [show i + 1 + m = i + (m + 1) by omega]
set_option genInjectivity false in
structure RingBy (f : W → W) (r : W) (n : Nat) (L : List W) : Prop where
  pos : 0 < r.length
  n1 : 1 ≤ n
  nd : L.Nodup
  all : (ringW r n).Perm L
  nx : ∀ i, i < r.length → f (ringAt r n i) = ringAt r n (i + 1)
section
variable {f : W → W} {r : W} {n : Nat} {L : List W}
theorem RingBy.nx' (h : RingBy f r n L) (i : Nat) : f (ringAt r n i) = ringAt r n (i + 1) := by
  have hm := Nat.mod_lt i h.pos
  rw [← ringAt_mod (i := i), h.nx _ hm, ← ringAt_mod (i := i % r.length + 1), ← ringAt_mod (i := i + 1), Nat.mod_add_mod]
end
end Wd

set_option linter.all false
namespace Wd
theorem filt_len {α : Type _} (p : α → Bool) : ∀ l : List α, l.length = (l.filter p).length + (l.filter fun t => !p t).length
  | [] => rfl
  | x :: l => by
    have := filt_len p l
    cases h : p x <;> simp [List.filter_cons, h] <;> omega
section
variable {f g : W → W} {L : List W} {n : Nat} {a b w x y z : W} {p : Nat}
noncomputable def SO (f : W → W) (x y : W) : Prop := ∃ k, it f k x = y
theorem SO.refl (f : W → W) (x : W) : SO f x x := ⟨0, rfl⟩
theorem SO.trans (h : SO f x y) (k : SO f y z) : SO f x z := by
  obtain ⟨i, rfl⟩ := h
  obtain ⟨j, rfl⟩ := k
  exact ⟨j + i, it_add f j i x⟩
theorem SO.symm (hf : FairOn f L) (hx : x ∈ L) (h : SO f x y) : SO f y x := by
  obtain ⟨i, rfl⟩ := h
  obtain ⟨p, hp⟩ := Peri.ex hf hx
  obtain ⟨j, e⟩ := hp.back i
  exact ⟨j, e.symm⟩
theorem Sw.keeps (s : Sw f g L a b) (h : FairOn f L) (hg : FairOn g L) (hn : ¬ SO f a b) (hx : x ∈ L) (hxy : SO f x y) : SO g x y := by
  have hj : SO g a b := s.join h hg fun k z => hn ⟨k, z⟩
  have hj2 : SO g b a := hj.symm hg s.ma
  have h1 : ∀ u ∈ L, SO g u (f u) := fun u hu => by
    by_cases e1 : u = a
    · subst e1
      exact hj.trans ⟨1, s.gb⟩
    · by_cases e2 : u = b
      · subst e2
        exact hj2.trans ⟨1, s.ga⟩
      · exact ⟨1, s.go u hu e1 e2⟩
  obtain ⟨k, rfl⟩ := hxy
  induction k with
  | zero => exact .refl _ _
  | succ k ih => exact ih.trans (h1 _ (h.it_mem hx k))
theorem Sw.joins (s : Sw f g L a b) (h : FairOn f L) (hg : FairOn g L) (hn : ¬ SO f a b) : SO g a b := s.join h hg fun k z => hn ⟨k, z⟩
theorem Sw.fewer (s : Sw f g L a b) (N : NextBy f L n) (M : NextBy g L n) (h : FairOn f L) (hg : FairOn g L) (hn : ¬ SO f a b) : (rounds g L).length + 1 = (rounds f L).length := by
  obtain ⟨p, hp⟩ := Peri.ex h s.ma
  obtain ⟨p', hp'⟩ := Peri.ex h s.mb
  obtain ⟨u, hu⟩ := Peri.ex hg s.ma
  obtain ⟨u', hu'⟩ := Peri.ex hg s.mb
  have hA := List.Perm.refl (rounds f L)
  have hB := List.Perm.refl (rounds g L)
  have q1 : ∀ t, (fun t => !decide (t ∈ rounds g L)) t = true ↔ ¬ t ∈ rounds g L := fun t => by simp
  have q2 : ∀ t, (fun t => !decide (t ∈ rounds f L)) t = true ↔ ¬ t ∈ rounds f L := fun t => by simp
  rcases s.gone N M h hg hA hB q1 hp hp' with ⟨c, _⟩ | ⟨_, X, Y, e1, _⟩
  · exact absurd c hn
  rcases s.back.gone M N hg h hB hA q2 hu hu' with ⟨_, Z, e2, _⟩ | ⟨c, _⟩
  · have nf := rounds_nd N h
    have ng := rounds_nd M hg
    have hc : ((rounds f L).filter fun t => decide (t ∈ rounds g L)).Perm ((rounds g L).filter fun t => decide (t ∈ rounds f L)) :=
      (List.perm_ext_iff_of_nodup (nf.filter _) (ng.filter _)).mpr fun t => by
        rw [List.mem_filter, List.mem_filter, decide_eq_true_iff, decide_eq_true_iff]
        exact and_comm
    have l1 := filt_len (fun t => decide (t ∈ rounds g L)) (rounds f L)
    have l2 := filt_len (fun t => decide (t ∈ rounds f L)) (rounds g L)
    have l3 := hc.length_eq
    have e1' := congrArg List.length e1
    have e2' := congrArg List.length e2
    simp only [List.length_cons, List.length_nil] at e1' e2'
    omega
  · exact absurd (s.joins h hg hn) c
theorem one_round (N : NextBy f L n) (h : FairOn f L) (hx : x ∈ L) (ha : ∀ u ∈ L, ∀ v ∈ L, SO f u v) : ∃ m ∈ L, LeastO f m ∧ rounds f L = [rdO f m] := by
  obtain ⟨m, k, j, e1, e2, lm⟩ := least_ex h hx
  have hm : m ∈ L := by rw [e1]; exact h.it_mem hx _
  refine ⟨m, hm, lm, perm_one (rounds_nd N h) fun t => ?_⟩
  rw [mem_rounds]
  constructor
  · rintro ⟨m', h1, h2, rfl⟩
    obtain ⟨k, e⟩ := ha m hm m' h1
    rw [least_one h h1 hm h2 lm (i := 0) (j := k) e.symm]
  · rintro rfl
    exact ⟨m, hm, lm, rfl⟩
end
end Wd

set_option Elab.async false
set_option linter.all false
set_option maxRecDepth 100000
set_option maxHeartbeats 4000000

namespace L2
open PySem PySem.Spec PyProof.Rows

noncomputable def tx (l : List Nat) : Str := ⟨l.toArray⟩
noncomputable abbrev T (l : List Nat) : V := .str (tx l)
theorem tx_len (l : List Nat) : (tx l).length = l.length := by simp [tx, Str.length]
theorem tx_cps (l : List Nat) : (tx l).cps.toList = l := by simp [tx]
theorem tx_eta (x : Str) : tx x.cps.toList = x := by cases x; simp [tx]
theorem tx_inj {a b : List Nat} (h : tx a = tx b) : a = b := by
  have e := congrArg (fun x : Str => x.cps.toList) h
  simpa [tx] using e
theorem T_inj {a b : List Nat} (h : T a = T b) : a = b := tx_inj (V.str.inj h)
theorem T_dec {a b : List Nat} : decide (T a = T b) = decide (a = b) := by
  rw [Bool.eq_iff_iff, decide_eq_true_iff, decide_eq_true_iff]
  exact ⟨T_inj, fun h => by rw [h]⟩
theorem tx_app (a b : List Nat) : tx a ++ tx b = tx (a ++ b) := by
  rw [← tx_eta (tx a ++ tx b), PySem.W.KT.app_list, tx_cps, tx_cps]

section
variable {X : Cx}
theorem op_add_T : OpR X (binaryOp .Add) (fun x y H Q => ∃ a, x = T a ∧ ∃ b, y = T b ∧ a.length + b.length ≤ sizeLine ∧ Q (T (a ++ b)) H) := by
  intro pins s σ H x y v u Q I rx ry h
  obtain ⟨a, e1, b, e2, hz, q⟩ := h
  exact op_add_str pins s σ H x y v u Q I rx ry ⟨tx a, tx b, e1, e2, by rw [tx_len, tx_len]; exact hz, by rw [tx_app]; exact q⟩
theorem op_lt_T : OpR X (compareOp .Lt) (fun x y H Q => ∃ a, x = T a ∧ ∃ b, y = T b ∧ Q (.bl (decide (a < b))) H) := by
  intro pins s σ H x y v u Q I rx ry h
  obtain ⟨a, e1, b, e2, q⟩ := h
  exact op_lt_str pins s σ H x y v u Q I rx ry ⟨tx a, tx b, e1, e2, by rw [tx_cps, tx_cps]; exact q⟩
theorem op_eq_T : OpR X (compareOp .Eq) (fun x y H Q => ∃ a, x = T a ∧ ∃ b, y = T b ∧ Q (.bl (decide (a = b))) H) := by
  intro pins s σ H x y v u Q I rx ry h
  obtain ⟨a, rfl, b, rfl, q⟩ := h
  exact op_eq pins s σ H _ _ v u Q I rx ry ⟨rfl, by rw [T_dec]; exact q⟩
theorem op_ne_T : OpR X (compareOp .NotEq) (fun x y H Q => ∃ a, x = T a ∧ ∃ b, y = T b ∧ Q (.bl (!decide (a = b))) H) := by
  intro pins s σ H x y v u Q I rx ry h
  obtain ⟨a, rfl, b, rfl, q⟩ := h
  exact op_ne pins s σ H _ _ v u Q I rx ry ⟨rfl, by rw [T_dec]; exact q⟩
theorem op_eq_I : OpR X (compareOp .Eq) (fun x y H Q => ∃ a, x = .int a ∧ ∃ b, y = .int b ∧ Q (.bl (decide (a = b))) H) := by
  intro pins s σ H x y v u Q I rx ry h
  obtain ⟨a, rfl, b, rfl, q⟩ := h
  exact op_eq pins s σ H _ _ v u Q I rx ry ⟨rfl, by rw [dec_int, Bool.beq_eq_decide_eq]; exact q⟩
theorem op_ne_I : OpR X (compareOp .NotEq) (fun x y H Q => ∃ a, x = .int a ∧ ∃ b, y = .int b ∧ Q (.bl (!decide (a = b))) H) := by
  intro pins s σ H x y v u Q I rx ry h
  obtain ⟨a, rfl, b, rfl, q⟩ := h
  exact op_ne pins s σ H _ _ v u Q I rx ry ⟨rfl, by rw [dec_int, Bool.beq_eq_decide_eq]; exact q⟩
noncomputable def cutL (l : List Nat) (lo hi : Option Int) : List Nat := (l.drop (HT.sIx l.length 0 lo)).take (HT.sIx l.length l.length hi - HT.sIx l.length 0 lo)
theorem cutL_length_le (l : List Nat) (lo hi : Option Int) : (cutL l lo hi).length ≤ l.length := by
  unfold cutL
  rw [List.length_take, List.length_drop]
  omega
theorem clip_sIx (v : Option Int) (n d : Nat) : (match v with | none => (d : Int) | some i => max 0 (min (if i < 0 then i + (n : Int) else i) (n : Int))) = ((HT.sIx n d v : Nat) : Int) := by
  cases v with
  | none => rfl
  | some i =>
    show max 0 (min (if i < 0 then i + (n : Int) else i) (n : Int)) = (((if i < 0 then (i + (n : Int)).toNat else min i.toNat n) : Nat) : Int)
    by_cases hi : i < 0
    · simp only [if_pos hi]; omega
    · simp only [if_neg hi]; omega
theorem indices_sIx (lo hi : Option Int) (n : Nat) : Builtin.Str.strSliceIndices lo hi 1 n = Builtin.Str.strSliceIndices (some ((HT.sIx n 0 lo : Nat) : Int)) (some ((HT.sIx n n hi : Nat) : Int)) 1 n := by
  have h1 := HT.sIx_le n 0 (Nat.zero_le _) lo
  have h2 := HT.sIx_le n n (Nat.le_refl _) hi
  have c1 := clip_sIx lo n 0
  have c2 := clip_sIx hi n n
  have d1 := clip_sIx (some ((HT.sIx n 0 lo : Nat) : Int)) n 0
  have d2 := clip_sIx (some ((HT.sIx n n hi : Nat) : Int)) n n
  rw [HT.sIx_nat, Nat.min_eq_left h1] at d1
  rw [HT.sIx_nat, Nat.min_eq_left h2] at d2
  unfold Builtin.Str.strSliceIndices
  simp only [show ((1 : Int) > 0) from by decide, if_true]
  have g : ∀ a b c d : Int, a = c → b = d → sliceRange a b 1 = sliceRange c d 1 := fun a b c d h1 h2 => by rw [h1, h2]
  exact g _ _ _ _ (c1.trans d1.symm) (c2.trans d2.symm)
theorem slice_tx (l : List Nat) (lo hi : Option Int) : Txt.slice (tx l) lo hi = tx (cutL l lo hi) := by
  have h1 := HT.sIx_le l.length 0 (Nat.zero_le _) lo
  have h2 := HT.sIx_le l.length l.length (Nat.le_refl _) hi
  unfold Txt.slice
  rw [tx_len, indices_sIx]
  by_cases hab : HT.sIx l.length 0 lo ≤ HT.sIx l.length l.length hi
  · have e := StrLaws.sliceText_nat (tx l) hab (by rw [tx_len]; exact h2)
    unfold StrLaws.sliceText at e
    rw [tx_len, tx_cps] at e
    exact e
  · have e0 : Builtin.Str.strSliceIndices (some ((HT.sIx l.length 0 lo : Nat) : Int)) (some ((HT.sIx l.length l.length hi : Nat) : Int)) 1 l.length = [] := by
      unfold Builtin.Str.strSliceIndices sliceRange
      have n1 : ¬ (((HT.sIx l.length 0 lo : Nat) : Int) < 0) := by omega
      have n2 : ¬ (((HT.sIx l.length l.length hi : Nat) : Int) < 0) := by omega
      simp only [show ((1 : Int) > 0) from by decide, if_true, if_neg n1, if_neg n2]
      have n3 : ¬ (max (0 : Int) (min ((HT.sIx l.length 0 lo : Nat) : Int) (l.length : Int)) < max (0 : Int) (min ((HT.sIx l.length l.length hi : Nat) : Int) (l.length : Int))) := by omega
      simp [n3]
    have e1 : cutL l lo hi = [] := by
      unfold cutL
      rw [show HT.sIx l.length l.length hi - HT.sIx l.length 0 lo = 0 by omega, List.take_zero]
    rw [e0, e1]
    cases l with
    | nil => rfl
    | cons c r => rfl
theorem sl_T : SlR X (fun x lo hi H Q => ∃ a, x = T a ∧ a.length ≤ sizeLine ∧ Q (T (cutL a lo hi)) H) := by
  intro pins s σ H x v vl vu lo hi sl Q I rx hs pl pu h
  obtain ⟨a, rfl, hz, q⟩ := h
  obtain ⟨t, rfl⟩ := rx
  obtain ⟨l, hl1, hl2⟩ : ∃ l : Option (Int × Tok), partValue l = vl ∧ l.map (·.1) = lo := by
    cases pl with
    | none => exact ⟨none, rfl, rfl⟩
    | int i t => exact ⟨some (i, t), rfl, rfl⟩
  obtain ⟨u, hu1, hu2⟩ : ∃ u : Option (Int × Tok), partValue u = vu ∧ u.map (·.1) = hi := by
    cases pu with
    | none => exact ⟨none, rfl, rfl⟩
    | int i t => exact ⟨some (i, t), rfl, rfl⟩
  refine ⟨"str", _, F.slot_str_getitem.lookup, typeIs_str _ _ _, ?_⟩
  have hsl : s.heap.IsSlice sl l u none := by
    obtain ⟨o, ho, hc, hd⟩ := hs
    exact ⟨o, ho, hc, by rw [hl1, hu1]; exact hd⟩
  refine wpAny_getItem_str_slice hsl rfl ?_
  have key : (if ((1 : Int) == 1 && (Builtin.Str.strSliceIndices lo hi 1 (tx a).length).length == (tx a).length) = true then (tx a) else ⟨((Builtin.Str.strSliceIndices lo hi 1 (tx a).length).filterMap ((tx a).cps[·]?)).toArray⟩) = tx (cutL a lo hi) := slice_tx a lo hi
  unfold sliceMade slicePicked
  rw [hl2, hu2]
  refine post_val_or_str ⟨?_, fun t' k => ?_⟩
  · show (Txt.slice (tx a) lo hi).length ≤ sizeLine
    exact Nat.le_trans (Txt.slice_le _ _ _) (by rw [tx_len]; exact hz)
  · refine ⟨T (cutL a lo hi), H, I.tok _, ⟨t', ?_⟩, q⟩
    exact congrArg (fun z => Value.str z t') key

theorem rep_length (n : Nat) (l : List Nat) : (Wd.rep n l).length = n * l.length := Wd.rep_len n l
theorem foldl_cps (n : Nat) (c : Array Nat) : ∀ acc : Array Nat, (List.replicate n c).foldl (· ++ ·) acc = acc ++ (Wd.rep n c.toList).toArray := by
  induction n with
  | zero => intro acc; simp [Wd.rep]
  | succ n ih =>
    intro acc
    rw [List.replicate_succ, List.foldl_cons, ih]
    rw [Wd.rep_succ, Array.append_assoc]
    congr 1
    apply Array.ext'
    simp
theorem mul_tx (n : Nat) (l : List Nat) : Txt.mul (tx l) (n : Int) = tx (Wd.rep n l) := by
  unfold Txt.mul
  by_cases h1 : (n : Int) < 1
  · have e : n = 0 := by omega
    subst e
    rw [if_pos h1]
    rfl
  · rw [if_neg h1]
    by_cases h2 : ((n : Int) == 1 || (tx l).length == 0) = true
    · rw [if_pos h2]
      rw [Bool.or_eq_true, beq_iff_eq, beq_iff_eq, tx_len] at h2
      rcases h2 with h2 | h2
      · have e : n = 1 := by omega
        subst e
        rw [Wd.rep_one]
      · have e : l = [] := List.length_eq_zero_iff.mp h2
        subst e
        have : Wd.rep n [] = [] := List.length_eq_zero_iff.mp (by rw [rep_length]; simp)
        rw [this]
    · rw [if_neg h2, Int.toNat_natCast, foldl_cps]
      simp [tx]
theorem op_mul_T : OpR X (binaryOp .Mult) (fun x y H Q => ∃ a, x = T a ∧ ∃ n : Nat, y = .int n ∧ (n ≤ sizeLine ∧ n * a.length ≤ sizeLine) ∧ Q (T (Wd.rep n a)) H) := by
  intro pins s σ H x y v u Q I rx ry h
  obtain ⟨a, rfl, n, rfl, ⟨h1, h2⟩, q⟩ := h
  obtain ⟨t, rfl⟩ := rx
  obtain ⟨t', rfl⟩ := ry
  have hs : sizeLine = 16777216 := sizeLine_eq
  refine SB.mul ⟨?_, ?_, ?_⟩ fun t' k => ⟨T (Wd.rep n a), H, I.tok _, ⟨t', by rw [mul_tx]⟩, q⟩
  · have e1 : decide ((n : Int) < -(2 ^ 63 : Int)) = false := decide_eq_false (by omega)
    have e2 : decide ((n : Int) ≥ 2 ^ 63) = false := decide_eq_false (by omega)
    rw [e1, e2]
    rfl
  · intro hn _
    rw [tx_len]
    have h3 : n * a.length ≤ 16777216 := by omega
    intro hc
    have h4 : ((n * a.length : Nat) : Int) ≤ 16777216 := by omega
    have hn' : (0 : Int) < n := by omega
    have h5 : ((2 ^ 63 - 1) / (n : Int)) * n ≤ 2 ^ 63 - 1 := Int.ediv_mul_le _ (by omega)
    have h6 : (2 ^ 63 - 1 : Int) < ((2 ^ 63 - 1) / (n : Int) + 1) * n := Int.lt_ediv_add_one_mul_self _ hn'
    have h7 : ((2 ^ 63 - 1) / (n : Int) + 1) * n ≤ (a.length : Int) * n := Int.mul_le_mul_of_nonneg_right (by omega) (by omega)
    have h8 : ((n * a.length : Nat) : Int) = (a.length : Int) * n := by rw [Int.natCast_mul, Int.mul_comm]
    omega
  · intro hn _
    rw [tx_len, Int.toNat_natCast, Nat.mul_comm]
    unfold Builtin.Str.tooLong
    exact decide_eq_false (by omega)

theorem strsAre_T : ∀ {ls : List (List Nat)} {us : List Value}, Vals (ls.map T) us → StrsAre us (ls.map tx)
  | [], us, r => by
    cases r
    exact .nil
  | l :: ls, us, r => by
    rw [List.map_cons] at r
    cases r with
    | cons r1 r2 =>
      obtain ⟨t, rfl⟩ := r1
      exact .cons _ _ (strsAre_T r2)
theorem glued_empty : ∀ (ls : List (List Nat)) (acc : Array Nat), (ls.map tx).foldl (fun acc p => acc ++ (tx []).cps ++ p.cps) acc = acc ++ ls.flatten.toArray
  | [], acc => by simp
  | l :: ls, acc => by
    rw [List.map_cons, List.foldl_cons, glued_empty ls]
    simp [tx]
theorem join_tx (ls : List (List Nat)) : Txt.join (tx []) (ls.map tx) = tx ls.flatten := by
  unfold Txt.join Builtin.Str.glued
  cases ls with
  | nil => rfl
  | cons l ls =>
    rw [List.map_cons, List.drop_succ_cons, List.drop_zero, List.headD_cons, glued_empty]
    simp [tx]
theorem sum_len_tx (ls : List (List Nat)) : ((ls.map tx).map (·.length)).sum = ls.flatten.length := by
  induction ls with
  | nil => rfl
  | cons l ls ih => rw [List.map_cons, List.map_cons, List.sum_cons, ih, List.flatten_cons, List.length_append, tx_len]
theorem mt_join : MtR X "str.join" (fun x xs H Q => x = T [] ∧ ∃ (p : Addr) (ls : List (List Nat)), xs = [.ref p] ∧ SqL X.K H p (ls.map T) ∧ ls.flatten.length ≤ sizeLine ∧ Q (T ls.flatten) H) := by
  intro pins s σ H x xs v us Q I rx rs h
  obtain ⟨rfl, p, ls, rfl, hq, hz, q⟩ := h
  obtain ⟨t, rfl⟩ := rx
  obtain ⟨u, rfl, ru⟩ := vals1 rs
  cases ru
  obtain ⟨its, r, pl, _⟩ := I.list hq
  have hs : sizeLine = 16777216 := sizeLine_eq
  refine join_list pl.isList (ys := ls.map tx) (by simpa using strsAre_T r) ?_ fun t' k => ⟨T ls.flatten, H, I.tok _, ⟨t', by rw [join_tx]⟩, q⟩
  rw [sum_len_tx, tx_len, List.length_nil, Nat.mul_zero]
  omega
end
end L2
namespace L2
theorem cutL_from {w : List Nat} {k : Nat} (h : k ≤ w.length) : cutL w (some (k : Int)) none = w.drop k := by
  unfold cutL
  rw [HT.sIx_nat, HT.sIx_none, Nat.min_eq_left h]
  exact List.take_of_length_le (by rw [List.length_drop]; omega)
theorem cutL_to {w : List Nat} {k : Nat} (h : k ≤ w.length) : cutL w none (some (k : Int)) = w.take k := by
  unfold cutL
  rw [HT.sIx_nat, HT.sIx_none, Nat.min_eq_left h, List.drop_zero, Nat.sub_zero]
theorem cutL_mid {w : List Nat} {a b : Nat} (hb : b ≤ w.length) (hab : a ≤ b) : cutL w (some (a : Int)) (some (b : Int)) = (w.drop a).take (b - a) := by
  unfold cutL
  rw [HT.sIx_nat, HT.sIx_nat, Nat.min_eq_left hb, Nat.min_eq_left (show a ≤ w.length by omega)]
end L2

set_option Elab.async false
set_option linter.all false
set_option maxRecDepth 100000
set_option maxHeartbeats 4000000

namespace L2
open PySem PySem.Spec PyProof.Rows

set_option genInjectivity false in
structure CompSc (N N' : List Str) (sc scope : Scope) (x : Str) : Prop where
  kind : scope.kind = .function
  cell : ∀ y ∈ scope.names, y.2 ≠ .cell
  names : ∀ y ∈ scope.names, y.2 = .local → scope.names.lookup y.1 = some .local
  var : scope.names.lookup x = some .local
  ok : ∀ y ∈ scope.names, y.2 = .free → sc.names.lookup y.1 = some .cell ∨ sc.names.lookup y.1 = some .free
  hd : N'[0]? = some x
  len : N'.length = N.length + 1
  sub : ∀ i, i < N.length → N'[i + 1]? = N[i]? ∨ N'[i + 1]? = some ("" : Str)
  noe : scope.names.lookup ("" : Str) = none
  nol : ∀ y ∈ N'.tail, scope.names.lookup y ≠ some .local
  nd : N'.Nodup

noncomputable def closOf (cells : List (Str × Addr)) : List (Str × NameKind) → List (Str × Addr) → List (Str × Addr)
  | [], acc => acc
  | (n, k) :: r, acc => closOf cells r (if k == .free then (n, (cells.lookup n).getD 0) :: acc else acc)
theorem clos_sound {cells : List (Str × Addr)} {y : Str} {c : Addr} : ∀ (names : List (Str × NameKind)) (acc : List (Str × Addr)), (∀ z ∈ names, z.2 = .free → ∃ c, cells.lookup z.1 = some c) →
    (acc.lookup y = some c → cells.lookup y = some c) → (closOf cells names acc).lookup y = some c → cells.lookup y = some c
  | [], acc, _, ha, h => ha h
  | (n, k) :: r, acc, hz, ha, h => by
    unfold closOf at h
    refine clos_sound r _ (fun z hm => hz z (List.mem_cons_of_mem _ hm)) (fun q => ?_) h
    split at q
    · rename_i hk
      obtain ⟨c', e⟩ := hz (n, k) List.mem_cons_self (by simpa using hk)
      rw [List.lookup_cons] at q
      split at q
      · rename_i he
        have : y = n := by simpa using he
        subst this
        rw [e] at q
        rw [e]
        exact q
      · exact ha q
    · exact ha q
theorem clos_acc {cells : List (Str × Addr)} {y : Str} : ∀ (names : List (Str × NameKind)) (acc : List (Str × Addr)), (∃ c, acc.lookup y = some c) → ∃ c, (closOf cells names acc).lookup y = some c
  | [], acc, h => h
  | (n, k) :: r, acc, ⟨c, h⟩ => by
    unfold closOf
    refine clos_acc r _ ?_
    split
    · rw [List.lookup_cons]
      split
      · exact ⟨_, rfl⟩
      · exact ⟨c, h⟩
    · exact ⟨c, h⟩
theorem clos_has {cells : List (Str × Addr)} {y : Str} : ∀ (names : List (Str × NameKind)) (acc : List (Str × Addr)), (y, NameKind.free) ∈ names → ∃ c, (closOf cells names acc).lookup y = some c
  | (n, k) :: r, acc, h => by
    unfold closOf
    rcases List.mem_cons.mp h with e | h
    · cases e
      refine clos_acc r _ ⟨(cells.lookup y).getD 0, ?_⟩
      simp
    · exact clos_has r _ h
theorem clos_eq {scope : Scope} {env : Env} (h : ∀ z ∈ scope.names, z.2 = .free → ∃ c, env.cells.lookup z.1 = some c) : closureFor scope env = pure (closOf env.cells scope.names []) := by
  have gen : ∀ (names : List (Str × NameKind)) (acc : List (Str × Addr)), (∀ z ∈ names, z.2 = .free → ∃ c, env.cells.lookup z.1 = some c) →
      (forIn names acc fun (x : Str × NameKind) (r : List (Str × Addr)) => (if (x.2 == NameKind.free) = true then (do let a ← cellOf env x.1; pure (ForInStep.yield ((x.1, a) :: r))) else pure (ForInStep.yield r) : Sem (ForInStep (List (Str × Addr))))) = (pure (closOf env.cells names acc) : Sem (List (Str × Addr))) := by
    intro names
    induction names with
    | nil => intro acc _; rfl
    | cons z r ih =>
      intro acc hz
      obtain ⟨n, k⟩ := z
      rw [List.forIn_cons]
      unfold closOf
      by_cases hk : (k == NameKind.free) = true
      · obtain ⟨c, e⟩ := hz (n, k) List.mem_cons_self (by simpa using hk)
        have e' : env.cells.lookup n = some c := e
        simp only [hk, if_true, cellOf, e', pure_bind, Option.getD_some]
        exact ih _ fun z hm => hz z (List.mem_cons_of_mem _ hm)
      · simp only [hk, Bool.false_eq_true, if_false, pure_bind]
        exact ih _ fun z hm => hz z (List.mem_cons_of_mem _ hm)
  have g := gen scope.names [] h
  unfold closureFor
  refine Eq.trans ?_ (congrArg (fun (m : Sem (List (Str × Addr))) => m >>= fun cs => pure cs) g)
  rfl
theorem relabel_lookup (scope : Scope) (env : Env) (y : Str) : (relabel scope env).names.lookup y = (scope.names.lookup y).map fun k => if (k == NameKind.free && env.scope.kind == .function && env.kindOf y == some .cell) = true then NameKind.cell else k := by
  unfold relabel
  show List.lookup y (scope.names.map fun (n, k) => if (k == NameKind.free && env.scope.kind == .function && env.kindOf n == some .cell) = true then (n, NameKind.cell) else (n, k)) = _
  induction scope.names with
  | nil => rfl
  | cons z r ih =>
    obtain ⟨n, k⟩ := z
    rw [List.map_cons]
    by_cases hy : (y == n) = true
    · have e : y = n := by simpa using hy
      subst e
      by_cases hc : (k == NameKind.free && env.scope.kind == .function && env.kindOf y == some .cell) = true
      · simp only [hc, if_true, List.lookup_cons, beq_self_eq_true, Option.map_some]
      · simp only [hc, if_false, List.lookup_cons, beq_self_eq_true, Option.map_some, Bool.false_eq_true]
    · have hy' : (y == n) = false := by simpa using hy
      by_cases hc : (k == NameKind.free && env.scope.kind == .function && env.kindOf n == some .cell) = true
      · simp only [hc, if_true, List.lookup_cons, hy']
        exact ih
      · simp only [hc, if_false, List.lookup_cons, hy', Bool.false_eq_true]
        exact ih
theorem lookup_mem {κ : Type} : ∀ {l : List (Str × κ)} {y : Str} {k : κ}, l.lookup y = some k → (y, k) ∈ l := fun h => PySem.mem_of_lookup h

noncomputable abbrev cxComp (X : Cx) (N' : List Str) (scope : Scope) (cl : List (Str × Addr)) (C : Addr) (s : Shared) (H : Hp) (fp : List Addr) : Cx :=
  { X with env := compEnvC scope cl C X.env, N := N', s₀ := s, H₀ := H, outer := X.stack, stack := X.stack, ex := fp, fn := fun _ => false, xe := fun _ _ => False }

noncomputable abbrev tstF (cds : List Expr) (env : Env) : Sem Bool := forIn cds true fun c r => if r = true then do let ok ← isTrue c env (eval c env); pure (ForInStep.yield ok) else pure (ForInStep.yield r)
noncomputable def PTL (X : Cx) (cds : List Expr) (t : TT) : Prop :=
  ∀ (pins : List (Addr × Obj)) (s : Shared) (σ : St) (H : Hp) (Q : Bool → Hp → Prop), Inv X pins σ H s → t σ H Q → wpAny (model X.prog X.w) X.A (tstF cds X.env) (TP X pins σ Q) X.xe s
theorem ptl_nil {X : Cx} : PTL X [] (fun _ H k => k true H) := fun pins s σ H Q I q => wpAny_tests_nil ⟨H, I, q⟩
theorem ptl_one {X : Cx} {cd : Expr} {tc : TT} (h : PT X cd tc) : PTL X [cd] tc := fun pins s σ H Q I q => wpAny_tests_one (h pins s σ H Q I q)
theorem codeAny_compLoop_ts {prog : Program} {w : World} {A : Around} {R : Result → Shared → Prop} {s : Shared} {elt target iter : Expr} {cds : List Expr} {scope : Scope} {pos : Pos} {it acc : Value} {env : Env} (I : Nat → Shared → Prop)
    (turn : ∀ n s, I n s → wpAny (model prog w) A (pyNext it) (fun r s₁ => match r with
      | none => R (.ok .next) s₁
      | some v => wpAny (model prog w) A (letOwnedTupleGo target it v) (fun _ s₁' => wpAny (model prog w) A (assign target env v) (fun _ s₂ => wpAny (model prog w) A (tstF cds env) (fun ok s₂' =>
          if ok = true then wpAny (model prog w) A (eval elt env) (fun x s₃ =>
            wpAny (model prog w) A (call (.builtin "list.append") [acc, x]) (fun _ s₄ => ∃ m, m < n ∧ I m s₄) (fun _ _ => False) s₃) (fun _ _ => False) s₂'
          else ∃ m, m < n ∧ I m s₂') (fun _ _ => False) s₂) (fun _ _ => False) s₁') (fun _ _ => False) s₁) (fun _ _ => False) s)
    (n : Nat) (h : I n s) :
    codeAny (model prog w) A (.compLoop (.ListComp elt [⟨target, iter, cds, 0⟩] scope pos) 0 it acc env) R s := by
  refine codeAny_loop rfl I (fun n s hI => ?_) n h
  show wpAny _ A ((compTurn (.ListComp elt [⟨target, iter, cds, 0⟩] scope pos) 0 it acc env).onRaise (fun x => do noteFrame x env; theTreesLotGoes x)) _ _ s
  refine wpAny_noted ?_
  rw [compTurn_list]
  refine wpAny_bind (wpAny_standAt (wpAny_bind (wpAny_mono (turn n s hI) (fun r s₁ h₁ => ?_) fun _ _ h' => h'.elim)))
  cases r with
  | none => exact wpAny_pure h₁
  | some v =>
    refine wpAny_bind (wpAny_mono h₁ (fun _ s₀ h₀ => ?_) fun _ _ h' => h'.elim)
    refine wpAny_bind (wpAny_mono h₀ (fun _ s₂ h₂ => ?_) fun _ _ h' => h'.elim)
    refine wpAny_bind ((wpAny_mono h₂ (fun ok s₃ h₃ => ?_) fun _ _ h' => h'.elim))
    cases ok with
    | false => exact wpAny_pure ⟨rfl, by simpa using h₃⟩
    | true =>
      have h₃' := h₃
      simp only [if_true] at h₃'
      exact wpAny_bind (wpAny_bind (wpAny_mono h₃' (fun x s₄ h₄ => wpAny_bind (wpAny_mono h₄ (fun _ s₅ h₅ => wpAny_pure (wpAny_pure ⟨rfl, h₅⟩)) fun _ _ h' => h'.elim)) fun _ _ h' => h'.elim))
noncomputable def compAt (te : TE) (σ : St) (Q : VK) (J : It) (H1 : Hp) : Prop := ∀ D, H1 D = none → ∃ W : Nat → Nat → List V → Hp → Prop, (∃ m, W 0 m [] (upd H1 D (.lst []))) ∧ ∀ i m ys H2, W i m ys H2 →
  (J.stop i H2 ∧ Q (.ref D) H2) ∨ (J.go i H2 ∧ ys.length < sizeLine ∧ ∃ N : V → Hp → Prop, (∀ v H', N v H' → H' D = some (.lst ys) ∧ ∃ m', m' < m ∧ W (i + 1) m' (ys ++ [v]) (upd H' D (.lst (ys ++ [v])))) ∧
    ∀ y H', J.yld i H2 y H' → te (some y :: σ) H' N)
noncomputable def tComp (wi : TI) (te : TE) : TE := fun σ H Q => wi σ H (compAt te σ Q)

noncomputable def compAtF (tc : TT) (te : TE) (σ : St) (Q : VK) (J : It) (H1 : Hp) : Prop := ∀ D, H1 D = none → ∃ W : Nat → Nat → List V → Hp → Prop, (∃ m, W 0 m [] (upd H1 D (.lst []))) ∧ ∀ i m ys H2, W i m ys H2 →
  (J.stop i H2 ∧ Q (.ref D) H2) ∨ (J.go i H2 ∧ ys.length < sizeLine ∧ ∃ N : V → Hp → Prop, (∀ v H', N v H' → H' D = some (.lst ys) ∧ ∃ m', m' < m ∧ W (i + 1) m' (ys ++ [v]) (upd H' D (.lst (ys ++ [v])))) ∧
    ∃ Nn : Hp → Prop, (∀ H', Nn H' → ∃ m', m' < m ∧ W (i + 1) m' ys H') ∧
    ∀ y H', J.yld i H2 y H' → tc (some y :: σ) H' fun b H'' => if b = true then te (some y :: σ) H'' N else Nn H'')
noncomputable def tCompF (wi : TI) (tc : TT) (te : TE) : TE := fun σ H Q => wi σ H (compAtF tc te σ Q)

section
variable {X : Cx} {N' : List Str} {scope : Scope} {x : Str} {px : Pos} {elt iter : Expr} {cds : List Expr} {pos : Pos} {te : TE} {tc : TT} {wi : TI}

theorem compx_core (S : CompSc X.N N' X.env.scope scope x) (hc : X.calm = true) (ht : ∀ cl C s H fp, PTL (cxComp X N' scope cl C s H fp) cds tc) (he : ∀ cl C s H fp, PE (cxComp X N' scope cl C s H fp) elt te)
    {pins : List (Addr × Obj)} {σ : St} {H : Hp} {s : Shared} {Q : VK} {E : Value → Shared → Prop} {RR : Value → Addr → Result → Shared → Prop} {it : Addr} {fp : List Addr} {tn : Nat → Heap → Prop} {J : It}
    (I : Inv X pins σ H s) (T : Turn X.prog X.w X.K (.Name x px) J fp it tn) (st : tn 0 s.heap) (f2 : ∀ b ∈ fp, FpOk X pins H b)
    (hw : compAtF tc te σ Q J H)
    (hRR : ∀ D C s' H', Inv X pins σ H' s' → (∃ m, s'.heap.Ns C m) → C ≠ X.env.locals → (∀ y c, X.env.cells.lookup y = some c → c ≠ C) → H' C = none → X.s₀.heap.objs.size ≤ C → (∀ p ∈ X.pn ++ pins, p.1 ≠ C) → Q (.ref D) H' → RR (.ref D) C (.ok .next) s') :
    ∃ cl, closureFor scope X.env = pure cl ∧ wpAny (model X.prog X.w) X.A (newList []) (fun acc s₃ => wpAny (model X.prog X.w) X.A (newFunctionEnv scope X.env.globals cl [] X.env.qual none .none (some X.env)) (fun cenv s₄ =>
      codeAny (model X.prog X.w) X.A (.compStart (.ListComp elt [⟨.Name x px, iter, cds, 0⟩] scope pos) 0 (.ref it) acc { cenv with scope := relabel scope X.env }) (RR acc cenv.locals) s₄) E s₃) E s := by
  have hfree : ∀ z ∈ scope.names, z.2 = .free → ∃ c, X.env.cells.lookup z.1 = some c := fun z hz hk => by
    rcases S.ok z hz hk with q | q
    · exact I.ok.has z.1 (.inl q)
    · exact I.ok.has z.1 (.inr q)
  refine ⟨_, clos_eq hfree, ?_⟩
  have clS : ∀ y c, (closOf X.env.cells scope.names []).lookup y = some c → X.env.cells.lookup y = some c := fun y c => clos_sound scope.names [] hfree fun q => by cases q
  generalize hcl : closOf X.env.cells scope.names [] = cl at clS
  have clH : ∀ y, scope.names.lookup y = some .free → ∃ c, cl.lookup y = some c := fun y hy => by
    rw [← hcl]
    exact clos_has scope.names [] (lookup_mem hy)
  refine wpAny_newObj_type (wpAny_newFunctionEnv S.cell (by intro y hy; simp at hy) (fun h₁ hns₁ hsb₁ => ?_) S.kind)
  have I3 : Inv X pins σ (upd H s.heap.objs.size (.lst [])) { s with heap := s.heap.push { cls := .type "list", data := .seq ([] : List Value).toArray } } := I.lnew (t' := s.toks) .nil (Nat.zero_le _)
  obtain ⟨W, ⟨m0, w0⟩, turn⟩ := hw s.heap.objs.size I.fresh
  dsimp only at hns₁ hsb₁ ⊢
  generalize hs3 : ({ s with heap := s.heap.push { cls := .type "list", data := .seq ([] : List Value).toArray } } : Shared) = s3 at I3
  have hh3 : s3.heap = s.heap.push { cls := .type "list", data := .seq ([] : List Value).toArray } := by rw [← hs3]
  have hsz3 : s3.heap.objs.size = s.heap.objs.size + 1 := by rw [hh3, Heap.size_push]
  rw [← hh3] at hns₁ hsb₁ ⊢
  have old : ∀ b o, s3.heap.get? b = some o → h₁.get? b = some o := fun b o e => hsb₁.extBut b o (by have := Heap.lt_size e; exact Nat.ne_of_lt this) (Heap.get?_push_of_some _ e)
  have old0 : ∀ b o, s.heap.get? b = some o → h₁.get? b = some o := fun b o e => old b o (by rw [hh3]; exact Heap.get?_push_of_some _ e)
  have CneL : s3.heap.objs.size ≠ X.env.locals := Nat.ne_of_gt I3.lt
  have CneC : ∀ y c, X.env.cells.lookup y = some c → c ≠ s3.heap.objs.size := fun y c e z => by
    obtain ⟨v, q⟩ := I3.cell y c e
    have := q.lt
    rw [z] at this
    exact absurd this (Nat.lt_irrefl _)
  have CneP : ∀ p ∈ X.pn ++ pins, p.1 ≠ s3.heap.objs.size := fun p hp z => by
    have := Heap.lt_size (I3.pin p hp).1
    rw [z] at this
    exact absurd this (Nat.lt_irrefl _)
  have CfreeH : ∀ b o, s3.heap.get? b = some o → b < s3.heap.objs.size := fun b o e => by have := Heap.lt_size e; exact this
  have fpLt : ∀ b ∈ fp, b < s3.heap.objs.size := fun b hb => by
    obtain ⟨o, e, _⟩ := T.obj 0 s.heap st b hb
    rw [hsz3]
    exact Nat.lt_succ_of_lt (Heap.lt_size e)
  have fpD : ∀ b ∈ fp, b ≠ s.heap.objs.size := fun b hb => by
    obtain ⟨o, e, _⟩ := T.obj 0 s.heap st b hb
    exact Nat.ne_of_lt (Heap.lt_size e)

  have ok' : (cxComp X N' scope cl s3.heap.objs.size s3 (upd H s.heap.objs.size (.lst [])) fp).Ok := by
    refine ⟨I3.ok.mod, ?_, I3.ok.glob, I3.ok.blt, Nat.le_refl _, fun y z c h1 h2 => I3.ok.inj y z c (clS y c h1) (clS z c h2), fun y hy => ?_, fun y c hf => (by cases hf), I3.ok.hd, I3.ok.frames, .inl rfl, fun b hb => ⟨Nat.ne_of_lt (fpLt b hb), fun y c e => (f2 b hb).2.2.2.2.1 y c (clS y c e)⟩,
      fun b o e => I3.bs b o e, Nat.le_trans I3.ok.bsz I3.sz, fun b o e hb => ?_, fun b hb z => ?_, I3.stack, I3.stkFree⟩
    · show (relabel scope X.env).kind = .function
      exact S.kind
    · have hy' : (relabel scope X.env).names.lookup y = some .cell ∨ (relabel scope X.env).names.lookup y = some .free := hy
      rw [relabel_lookup] at hy'
      cases q : scope.names.lookup y with
      | none => rw [q] at hy'; rcases hy' with z | z <;> cases z
      | some k =>
        have hm := lookup_mem q
        cases k with
        | free => exact clH y q
        | cell => exact absurd rfl (S.cell _ hm)
        | «local» => rw [q] at hy'; rcases hy' with z | z <;> simp at z
        | globalExplicit => rw [q] at hy'; rcases hy' with z | z <;> simp at z
        | globalImplicit => rw [q] at hy'; rcases hy' with z | z <;> simp at z
    · rcases (f2 b hb).2.2.2.1 with z | z
      · exact I.ok.noex b o e z
      · exact absurd (Nat.lt_of_lt_of_le (Heap.lt_size e) (Nat.le_trans I.ok.bsz z)) (Nat.lt_irrefl _)
    · rcases List.mem_cons.mp (I3.stkSub b z) with q | q
      · exact (f2 b hb).2.1 q
      · exact (f2 b hb).2.2.1 q
  have fpOk' : ∀ {H' : Hp}, (∀ b ∈ fp, H' b = none) → ∀ b ∈ fp, FpOk (cxComp X N' scope cl s3.heap.objs.size s3 (upd H s.heap.objs.size (.lst [])) fp) pins H' b := fun hn b hb =>
    ⟨hn b hb, Nat.ne_of_lt (fpLt b hb), fun z => by
      rcases List.mem_cons.mp (I3.stkSub b z) with q | q
      · exact (f2 b hb).2.1 q
      · exact (f2 b hb).2.2.1 q, .inl hb, fun y c e => (f2 b hb).2.2.2.2.1 y c (clS y c e), (f2 b hb).2.2.2.2.2⟩
  have I4 : Inv (cxComp X N' scope cl s3.heap.objs.size s3 (upd H s.heap.objs.size (.lst [])) fp) pins (none :: σ) (upd H s.heap.objs.size (.lst [])) { s3 with heap := h₁, toks := s3.toks + ([] : List (Str × Value)).length } := by
    refine ⟨ok', rfl, I3.bare, Un.kept old, ⟨_, hns₁, fun i y v e1 e2 vis => ?_⟩, fun y c e => ?_, ?_, fun y c e => I3.freeC y c (clS y c e), fun p hp => ?_, I3.hok.kept old, ?_⟩
    · cases i with
      | zero => cases e2
      | succ i =>
        have e2' : σ[i]? = some (some v) := by simpa using e2
        have hi : i < X.N.length := by rw [← I3.len]; exact (List.getElem?_eq_some_iff.mp e2').1
        have vis' : (relabel scope X.env).names.lookup y = some .local ∨ (relabel scope X.env).names.lookup y = some .cell ∨ (relabel scope X.env).names.lookup y = some .free := vis
        have e1' : N'[i + 1]? = some y := e1
        rcases S.sub i hi with q | q
        · rw [e1'] at q
          have hy : X.N[i]? = some y := q.symm
          have hmem : y ∈ N'.tail := by
            rw [List.mem_iff_getElem?]
            exact ⟨i, by rw [List.getElem?_tail]; exact e1'⟩
          have hfr : scope.names.lookup y = some .free := by
            rw [relabel_lookup] at vis'
            cases q2 : scope.names.lookup y with
            | none => rw [q2] at vis'; rcases vis' with z | z | z <;> cases z
            | some k =>
              cases k with
              | free => rfl
              | cell => exact absurd rfl (S.cell _ (lookup_mem q2))
              | «local» => exact absurd q2 (S.nol y hmem)
              | globalExplicit => rw [q2] at vis'; rcases vis' with z | z | z <;> simp at z
              | globalImplicit => rw [q2] at vis'; rcases vis' with z | z | z <;> simp at z
          have hok := S.ok (y, .free) (lookup_mem hfr) rfl
          obtain ⟨m, hn, hl⟩ := I3.loc
          have visX : Vis X.env.scope y := by
            rcases hok with z | z
            · exact .inr (.inl z)
            · exact .inr (.inr z)
          obtain ⟨u, r, l⟩ := hl i y v hy e2' visX
          refine ⟨u, r, .inr ⟨?_, ?_⟩⟩
          · show (relabel scope X.env).names.lookup y = some .cell ∨ (relabel scope X.env).names.lookup y = some .free
            rw [relabel_lookup, hfr, Option.map_some]
            by_cases hcnd : (NameKind.free == NameKind.free && X.env.scope.kind == .function && X.env.kindOf y == some .cell) = true
            · left
              rw [if_pos hcnd]
            · right
              rw [if_neg hcnd]
          · rcases l with ⟨k, _⟩ | ⟨k, c, e, z⟩
            · have k' : X.env.scope.names.lookup y = some .local := k
              have hok' : X.env.scope.names.lookup y = some .cell ∨ X.env.scope.names.lookup y = some .free := hok
              rw [k'] at hok'
              rcases hok' with z | z <;> cases z
            · obtain ⟨c', e'⟩ := clH y hfr
              have e3 := clS y c' e'
              rw [e] at e3
              cases e3
              obtain ⟨o, ho, hd⟩ := z
              exact ⟨c, e', o, old c o ho, hd⟩
        · rw [e1'] at q
          cases q
          rw [relabel_lookup, S.noe] at vis'
          rcases vis' with z | z | z <;> cases z
    · obtain ⟨v, o, ho, hd⟩ := I3.cell y c (clS y c e)
      exact ⟨v, o, old c o ho, hd⟩
    · show upd H s.heap.objs.size (.lst []) s3.heap.objs.size = none
      exact I3.hok.fresh (Nat.le_refl _)
    · obtain ⟨e, n, ne, nf, d⟩ := I3.pin p hp
      refine ⟨old _ _ e, n, CneP p hp, fun z => ?_, d⟩
      rcases List.mem_cons.mp (I3.stkSub p.1 z) with q | q
      · exact ne q
      · exact nf q
    · show (none :: σ).length = N'.length
      rw [S.len, List.length_cons, I3.len]
  have st4 : tn 0 h₁ := T.keep 0 s.heap h₁ st fun b _ o e => old0 b o e

  have loop : ∀ s₄ : Shared, s₄ = { s3 with heap := h₁, toks := s3.toks + ([] : List (Str × Value)).length } →
      codeAny (model X.prog X.w) X.A (.compLoop (.ListComp elt [⟨.Name x px, iter, cds, 0⟩] scope pos) 0 (.ref it) (.ref s.heap.objs.size) (compEnvC scope cl s3.heap.objs.size X.env)) (RR (.ref s.heap.objs.size) s3.heap.objs.size) s₄ := by
    rintro s₄ rfl
    refine codeAny_compLoop_ts (fun n s' => ∃ i v0 ys H', Inv (cxComp X N' scope cl s3.heap.objs.size s3 (upd H s.heap.objs.size (.lst [])) fp) pins (v0 :: σ) H' s' ∧ tn i s'.heap ∧ (∀ b ∈ fp, H' b = none) ∧ W i n ys H') ?_ m0
      ⟨0, none, [], _, I4, st4, fun b hb => by rw [upd_ne (fpD b hb)]; exact (f2 b hb).1, w0⟩
    rintro n s5 ⟨i, v0, ys, H5, I5, st5, fr5, w5⟩
    rcases turn i n ys H5 w5 with ⟨stop, qn⟩ | ⟨go, hz, N, hN, Nn, hNn, step⟩
    · refine thn (T.done (cxComp X N' scope cl s3.heap.objs.size s3 (upd H s.heap.objs.size (.lst [])) fp) rfl rfl rfl hc i pins s5 (v0 :: σ) H5 (fun _ _ => False) I5 (fpOk' fr5) st5 stop) fun r s6 ⟨hr, I6⟩ => ?_
      subst hr
      have hch : ∀ b ∈ fp, (b ∈ X.ex ∨ X.s₀.heap.objs.size ≤ b) ∧ b ≠ X.env.locals ∧ (∀ x c, X.env.cells.lookup x = some c → c ≠ b) ∧ ∀ p ∈ X.pn ++ pins, p.1 ≠ b := fun b hb =>
        ⟨(f2 b hb).2.2.2.1, (f2 b hb).2.1, (f2 b hb).2.2.2.2.1, (f2 b hb).2.2.2.2.2⟩
      have I7 : Inv X pins σ H5 s6 := I3.call' (ch := fp) I6.os I6.base I6.hok I6.bare hch
      obtain ⟨m, hm, _⟩ := I6.loc
      exact hRR s.heap.objs.size s3.heap.objs.size s6 H5 I7 ⟨m, hm⟩ CneL CneC I6.free (Nat.le_trans I3.sz (Nat.le_refl _)) CneP qn
    · refine thn (T.item (cxComp X N' scope cl s3.heap.objs.size s3 (upd H s.heap.objs.size (.lst [])) fp) rfl rfl rfl hc i pins s5 (v0 :: σ) H5 (fun _ _ => False) I5 (fpOk' fr5) st5 go) fun r s6 ⟨u, hr, h6⟩ => ?_
      subst hr
      refine thn h6 fun _ s7 ⟨y, H7, I7, r7, y7, st7, fr7⟩ => ?_
      have I7' := I7.pinned (fpOk' fr7) (T.obj _ _ st7)
      refine wpAny_assign_Name (store_ok (i := 0) (v := y) I7' S.nd S.hd (.inl (lookup_relabel_local S.var)) r7 (fun s8 I8 => ?_) (.inr (lookup_relabel_local S.var)))
      have I8' : Inv (cxComp X N' scope cl s3.heap.objs.size s3 (upd H s.heap.objs.size (.lst [])) fp) (pins ++ pinsAt fp s7.heap) (some y :: σ) H7 s8 := I8
      refine thn (ht cl s3.heap.objs.size s3 (upd H s.heap.objs.size (.lst [])) fp _ s8 (some y :: σ) H7 (fun b H'' => if b = true then te (some y :: σ) H'' N else Nn H'') I8' (step y H7 y7)) fun okb s8 ⟨H8, I8, q8⟩ => ?_
      cases okb with
      | false =>
        have q8' : Nn H8 := by simpa using q8
        obtain ⟨m', hm, w9⟩ := hNn H8 q8'
        refine ⟨m', hm, i + 1, some y, ys, _, I8.unpinned, T.keep _ _ _ st7 fun b hb o e => (I8.pin (b, o) (List.mem_append_right _ (List.mem_append_right _ (mem_pinsAt hb e)))).1, fun b hb => ?_, w9⟩
        obtain ⟨o, e, d⟩ := T.obj _ _ st7 b hb
        exact (I8.pin (b, o) (List.mem_append_right _ (List.mem_append_right _ (mem_pinsAt hb e)))).2.1
      | true =>
        refine thn (he cl s3.heap.objs.size s3 (upd H s.heap.objs.size (.lst [])) fp _ s8 (some y :: σ) H8 N I8 (by simpa using q8)) fun w s9 ⟨v, H9, I9, r9, q9⟩ => ?_
        obtain ⟨hD9, m', hm, w9⟩ := hN v H9 q9
        refine thn (mt_append _ s9 (some y :: σ) H9 (.ref s.heap.objs.size) [v] (.ref s.heap.objs.size) [w] (fun z H10 => z = .non ∧ H10 = upd H9 s.heap.objs.size (.lst (ys ++ [v]))) I9 rfl (.cons r9 .nil) ⟨s.heap.objs.size, ys, v, rfl, rfl, hD9, hz, rfl, rfl⟩) fun _ s10 ⟨z, H10, I10, _, ez, e10⟩ => ?_
        subst e10
        refine ⟨m', hm, i + 1, some y, ys ++ [v], _, I10.unpinned, T.keep _ _ _ st7 fun b hb o e => (I10.pin (b, o) (List.mem_append_right _ (List.mem_append_right _ (mem_pinsAt hb e)))).1, fun b hb => ?_, w9⟩
        obtain ⟨o, e, d⟩ := T.obj _ _ st7 b hb
        exact (I10.pin (b, o) (List.mem_append_right _ (List.mem_append_right _ (mem_pinsAt hb e)))).2.1
  exact codeAny_compStart_list (loop _ (by rw [← hs3])) (T.self X.A 0 _ _ _ st4 (loop _ (by rw [← hs3])))
theorem compAt.toF {te : TE} {σ : St} {Q : VK} {J : It} {H : Hp} (hw : compAt te σ Q J H) : compAtF (fun _ H k => k true H) te σ Q J H := fun D hD => by
  obtain ⟨W, h0, hW⟩ := hw D hD
  refine ⟨W, h0, fun i m ys H2 hw2 => ?_⟩
  rcases hW i m ys H2 hw2 with g | ⟨g1, g2, N, g3, g4⟩
  · exact .inl g
  · exact .inr ⟨g1, g2, N, g3, fun _ => False, fun _ z => z.elim, fun y H' hy => iteT (g4 y H' hy)⟩
theorem pe_compx {at' : St → VK → It → Hp → Prop} (S : CompSc X.N N' X.env.scope scope x) (hc : X.calm = true) (hi : PI X (.Name x px) iter wi) (ht : ∀ cl C s H fp, PTL (cxComp X N' scope cl C s H fp) cds tc) (he : ∀ cl C s H fp, PE (cxComp X N' scope cl C s H fp) elt te) (cv : ∀ σ Q J H, at' σ Q J H → compAtF tc te σ Q J H)
    (hs : ∀ x, foldedSetIterable iter X.env x = pure x := by intro _; rfl) : PE X (.ListComp elt [⟨.Name x px, iter, cds, 0⟩] scope pos) (fun σ H Q => wi σ H (at' σ Q)) := by
  intro pins s σ H Q I h
  rw [eval_ListComp]
  have hfree : ∀ z ∈ scope.names, z.2 = .free → ∃ c, X.env.cells.lookup z.1 = some c := fun z hz hk => by
    rcases S.ok z hz hk with q | q
    · exact I.ok.has z.1 (.inl q)
    · exact I.ok.has z.1 (.inr q)
  refine wpAny_comprehension_free (use := none) rfl hs (clos_eq hfree) S.kind S.names (thn (hi pins s σ H _ I h) fun xv s1 h1 => thn h1 fun itv s2 h2 => ?_)
  obtain ⟨it, fp, tn, J, H2, e, I2, T, st2, f2, hw⟩ := h2
  subst e
  obtain ⟨cl, hcl, hrun⟩ := compx_core (tc := tc) (cds := cds) (elt := elt) (iter := iter) (pos := pos) (px := px) (E := X.xe) (RR := fun acc C => compPost (model X.prog X.w) X.A X.xe none (EP X pins σ Q) acc C) S hc ht he I2 T st2 f2 (cv _ _ _ _ hw) (fun D C s' H' I' ⟨m, hm⟩ n1 n2 n3 n4 n5 q =>
    ⟨m, hm, fun h' hsb => ⟨.ref D, H', I'.turned (it := C) (t' := s'.toks) (fun b o hb e => (hsb.2 b hb).trans e) n3 n1 (.inr n4) n2 n5, rfl, q⟩⟩)
  have ecl : (pure (closOf X.env.cells scope.names []) : Sem (List (Str × Addr))) = pure cl := (clos_eq hfree).symm.trans hcl
  have ecl' : closOf X.env.cells scope.names [] = cl := by
    injection ecl
  rw [ecl']
  exact hrun
theorem ps_setCompx {at' : St → VK → It → Hp → Prop} {i : Nat} {y : Str} {py spos : Pos} (S : CompSc X.N N' X.env.scope scope x) (hc : X.calm = true) (hi : PI X (.Name x px) iter wi) (ht : ∀ cl C s H fp, PTL (cxComp X N' scope cl C s H fp) cds tc) (he : ∀ cl C s H fp, PE (cxComp X N' scope cl C s H fp) elt te) (cv : ∀ σ Q J H, at' σ Q J H → compAtF tc te σ Q J H)
    (hN : X.N.Nodup) (hy : X.N[i]? = some y) (hyl : X.env.scope.names.lookup y = some .local)
    (hsw : swapsWith (.ListComp elt [⟨.Name x px, iter, cds, 0⟩] scope pos) (some (.Name y py)) spos.line X.env = pure true := by rfl)
    (hs : ∀ x, foldedSetIterable iter X.env x = pure x := by intro _; rfl) : PS X (.Assign [.Name y py] (.ListComp elt [⟨.Name x px, iter, cds, 0⟩] scope pos) spos) (tAsg (fun σ H Q => wi σ H (at' σ Q)) (gName i)) := by
  intro pins s σ H D0 I h
  have hfree : ∀ z ∈ scope.names, z.2 = .free → ∃ c, X.env.cells.lookup z.1 = some c := fun z hz hk => by
    rcases S.ok z hz hk with q | q
    · exact I.ok.has z.1 (.inl q)
    · exact I.ok.has z.1 (.inr q)
  rw [exec_Assign_Name_used _ _ _ _ hsw]
  refine wpAny_bind (wpAny_standAt (wpAny_bind ?_))
  show wpAny _ X.A (do let _ ← comprehension (.ListComp elt [⟨.Name x px, iter, cds, 0⟩] scope pos) scope X.env _ (newList []) false (eval iter X.env) (some (assign (.Name y py) X.env))) _ _ s
  refine wpAny_bind (wpAny_mono (wpAny_comprehension_free (use := some (assign (.Name y py) X.env)) (Q := fun _ s' => SP X pins D0 .next s') rfl hs (clos_eq hfree) S.kind S.names
    (thn (hi pins s σ H _ I h) fun xv s1 h1 => thn h1 fun itv s2 h2 => ?_)) (fun _ s' hq => wpAny_pure (wpAny_pure hq)) fun _ _ e => e)
  obtain ⟨it, fp, tn, J, H2, e, I2, T, st2, f2, hw⟩ := h2
  subst e
  obtain ⟨cl, hcl, hrun⟩ := compx_core (tc := tc) (cds := cds) (elt := elt) (iter := iter) (pos := pos) (px := px) (E := X.xe) (Q := fun x H1 => gName i x σ H1 D0.nx) (RR := fun acc C => compPost (model X.prog X.w) X.A X.xe (some (assign (.Name y py) X.env)) (fun _ s' => SP X pins D0 .next s') acc C) S hc ht he I2 T st2 f2 (cv _ _ _ _ hw) (fun D C s' H' I' ⟨m, hm⟩ n1 n2 n3 n4 n5 q => by
    show wpAny _ X.A (assign (.Name y py) X.env (.ref D)) _ _ _
    refine wpAny_assign_Name (store_ok2 (i := i) (v := .ref D) I' hN hy (.inl hyl) rfl (fun s'' I'' ⟨a, hsa, hwa⟩ => ?_) (.inr hyl))
    have haC : C ≠ a := by
      rcases hwa with z | z
      · rw [z]; exact n1
      · intro z2
        exact n2 y a z z2.symm
    refine ⟨m, hm.sameBut hsa haC, fun h' hsb => ?_⟩
    exact ⟨_, H', I''.turned (it := C) (t' := s''.toks) (fun b o hb e => (hsb.2 b hb).trans e) n3 n1 (.inr n4) n2 n5, q⟩)
  have ecl : (pure (closOf X.env.cells scope.names []) : Sem (List (Str × Addr))) = pure cl := (clos_eq hfree).symm.trans hcl
  have ecl' : closOf X.env.cells scope.names [] = cl := by
    injection ecl
  rw [ecl']
  exact hrun
theorem pe_comp (S : CompSc X.N N' X.env.scope scope x) (hc : X.calm = true) (hi : PI X (.Name x px) iter wi) (he : ∀ cl C s H fp, PE (cxComp X N' scope cl C s H fp) elt te)
    (hs : ∀ x, foldedSetIterable iter X.env x = pure x := by intro _; rfl) : PE X (.ListComp elt [⟨.Name x px, iter, [], 0⟩] scope pos) (tComp wi te) :=
  pe_compx (at' := fun σ Q => compAt te σ Q) S hc hi (fun _ _ _ _ _ => ptl_nil) he (fun _ _ _ _ h => h.toF) hs
theorem ps_setComp {i : Nat} {y : Str} {py spos : Pos} (S : CompSc X.N N' X.env.scope scope x) (hc : X.calm = true) (hi : PI X (.Name x px) iter wi) (he : ∀ cl C s H fp, PE (cxComp X N' scope cl C s H fp) elt te)
    (hN : X.N.Nodup) (hy : X.N[i]? = some y) (hyl : X.env.scope.names.lookup y = some .local)
    (hsw : swapsWith (.ListComp elt [⟨.Name x px, iter, [], 0⟩] scope pos) (some (.Name y py)) spos.line X.env = pure true := by rfl)
    (hs : ∀ x, foldedSetIterable iter X.env x = pure x := by intro _; rfl) : PS X (.Assign [.Name y py] (.ListComp elt [⟨.Name x px, iter, [], 0⟩] scope pos) spos) (tAsg (tComp wi te) (gName i)) :=
  ps_setCompx (at' := fun σ Q => compAt te σ Q) S hc hi (fun _ _ _ _ _ => ptl_nil) he (fun _ _ _ _ h => h.toF) hN hy hyl hsw hs
end

theorem comp_range {lo : Int} {n : Nat} {te : TE} {σ : St} {H : Hp} {Q : VK} (f : Nat → V) (hn : n ≤ sizeLine)
    (he : ∀ i H', i < n → Same H H' → ∀ N : V → Hp → Prop, (∀ H'', Same H' H'' → N (f i) H'') → te (some (.int (lo + i)) :: σ) H' N)
    (hq : ∀ D H', H D = none → Same H H' → H' D = some (.lst ((List.range n).map f)) → Q (.ref D) H') :
    compAt te σ Q (Itr lo n) H := by
  intro D hD
  refine ⟨fun i m ys H2 => m = n - i ∧ i ≤ n ∧ ys = (List.range i).map f ∧ Same H H2 ∧ H2 D = some (.lst ys), ⟨n, rfl, Nat.zero_le _, rfl, fun b o e => ?_, upd_same⟩, ?_⟩
  · rw [upd_ne (ne_of_none e hD)]
    exact e
  · rintro i m ys H2 ⟨rfl, hi, rfl, hs, hd⟩
    by_cases hlt : i < n
    · refine .inr ⟨hlt, by rw [List.length_map, List.length_range]; omega, fun v H' => v = f i ∧ Same H2 H', fun v H' ⟨ev, hs'⟩ => ⟨hs' D _ hd, n - (i + 1), by omega, rfl, hlt, ?_, fun b o e => ?_, upd_same⟩, fun y H' hy => ?_⟩
      · rw [ev, List.range_succ, List.map_append]
        rfl
      · rw [upd_ne (ne_of_none e hD)]
        exact hs' b o (hs b o e)
      · obtain ⟨e1, e2⟩ := hy
        subst e1 e2
        exact he i _ hlt hs _ fun H'' h'' => ⟨rfl, h''⟩
    · have e : i = n := by omega
      subst e
      exact .inl ⟨Nat.le_refl _, hq D H2 hD hs hd⟩
end L2

set_option Elab.async false
set_option linter.all false
set_option maxRecDepth 100000
set_option maxHeartbeats 4000000

namespace L2
open PySem PySem.Spec PyProof.Rows

set_option genInjectivity false in
structure Cal (P : Program) (w : World) (K : PySem.W.Frag) (mg : Str → Option Value) (base : Heap) (CX : CXT) (x : Str) (k : Nat) (ps : List Str) (sp : Sp) : Prop where
  ex : ∃ (f : Addr) (fd : FuncData), FnOk P w K mg base CX k f fd ps sp ∧ mg x = some (.ref f) ∧ PySem.W.keepIn K (.ref f) = true ∧ Binds K fd ps []
section
variable {X : Cx}
theorem pe_cal {CX : CXT} {x : Str} {j k : Nat} {ps : List Str} {sp : Sp} {E : XK} {e : Expr} {es : List Expr} {t : TA} {p pos : Pos} (c : Cal X.prog X.w X.K X.mg X.base CX x j ps sp) (hr : Room k X.A) (hx : Passes CX X E) (ha : PA X (e :: es) t)
    (hjk : j ≤ k := by decide) (hg : Gl X x := by rfl) (hdb : (x == ("__debug__" : Str)) = false := by decide) (he : starEach (e :: es) X.env = (false, eval e X.env) :: starEach es X.env := by rfl) (hpl : (backTo pos (starEach es X.env)).any (·.1) = false := by rfl) :
    PE X (.Call (.Name x p) (e :: es) [] pos) (tCall sp [] E t) := by
  obtain ⟨f, fd, F, hm, hk, hb⟩ := c.ex
  exact pe_call F (hr.mono hjk) hg hm hk hb .nil hx ha hdb he hpl

theorem pe_strT (l : List Nat) {x : Str} {j pos} (h : x = tx l) : PE X (.Constant (.str x) j pos) (tC (T l)) := by
  subst h
  exact pe_str
theorem call_len_T : CallR X (.builtin "len") (fun xs H Q => ∃ (l : List Nat), xs = [T l] ∧ l.length ≤ sizeLine ∧ Q (.int (l.length : Nat)) H) := by
  intro pins s σ H xs us Q I r h
  obtain ⟨l, e, hz, q⟩ := h
  exact call_len_str pins s σ H xs us Q I r ⟨tx l, e, by rw [tx_len]; exact hz, by rw [tx_len]; exact q⟩
theorem ix_T : IxR X (fun x y H Q => ∃ (l : List Nat), x = T l ∧ ∃ (i : Int), y = .int i ∧ l.length ≤ sizeLine ∧ ∃ c, atI l i = some c ∧ Q (T [c]) H) := by
  intro value slice pins s σ H x y v u Q I rx ry h hs
  obtain ⟨l, e1, i, e2, hz, c, hc, q⟩ := h
  exact ix_str value slice pins s σ H x y v u Q I rx ry ⟨tx l, i, c, e1, e2, by rw [tx_len]; exact hz, by rw [tx_cps]; exact hc, q⟩ hs

theorem call_isinst : CallR X (.builtin "isinstance") (fun xs H Q => ∃ (x : V) (c : String) (t : Value) (b : Bool), xs = [x, .ty c] ∧ TyOf X.K H x t ∧ PySem.W.kitOne X.K t (.type c) = some b ∧ Q (.bl b) H) := by
  intro pins s σ H xs us Q I r h
  obtain ⟨x, c, t, b, rfl, ty, e, q⟩ := h
  obtain ⟨u, w', rfl, ru, rw'⟩ := vals2 r
  cases (show w' = Value.type c from rw')
  exact isinst_ok I ru ty e fun tk => ⟨.bl b, H, I.tok tk, rfl, q⟩
theorem kit_same {K : PySem.W.Frag} (T : String) : PySem.W.kitOne K (.type T) (.type T) = some true := by
  unfold PySem.W.kitOne
  rw [if_pos (by simp)]
theorem op_catL : OpR X (binaryOp .Add) (fun x y H Q => ∃ (l b : Addr) (xs zs : List V), x = .ref l ∧ y = .ref b ∧ SqL X.K H l xs ∧ SqL X.K H b zs ∧ xs.length + zs.length ≤ sizeLine ∧ ∀ p, H p = none → Q (.ref p) (upd H p (.lst (xs ++ zs)))) := by
  intro pins s σ H x y v u Q I rx ry h
  obtain ⟨l, b, xs, zs, rfl, rfl, hH, hB, hz, q⟩ := h
  cases rx
  cases ry
  obtain ⟨its, r, ⟨⟨cls, dd, data, sl⟩, n, ho, hc, hdd, hd⟩, _⟩ := I.list hH
  obtain ⟨its2, r2, ⟨⟨cls2, dd2, data2, sl2⟩, n2, ho2, hc2, hdd2, hd2⟩, _⟩ := I.list hB
  simp only at hc hd hc2 hd2
  subst hc hd hc2 hd2
  have e : its.toArray ++ its2.toArray = (its ++ its2).toArray := by simp
  refine concat_meets ⟨_, ho, rfl⟩ ⟨_, ho2, rfl⟩ noFill_list_add seq_list_add PySem.F.slot_list_add PySem.F.entry_list_add (PySem.F.args_list_add_2 _ _) (list_addW l b its.toArray its2.toArray n n2 dd dd2 sl sl2 (by rw [List.size_toArray, List.size_toArray, ← r.length, ← r2.length]; exact hz)) ⟨ho, ho2, ?_⟩
  rw [e]
  exact ⟨.ref _, _, I.lnew (t' := s.toks) (r.append r2) (by rw [List.length_append]; exact hz), rfl, q _ I.fresh⟩

theorem eqU_T {ls : List (List Nat)} {us : List Value} {a : List Nat} (r : Vals (ls.map T) us) {i : Nat} {l : List Nat} {u : Value} (h : ls[i]? = some l) (hu : us[i]? = some u) : eqU (T a) u = decide (l = a) := by
  obtain ⟨u', h1, h2⟩ := r.get (i := i) (x := T l) (by rw [List.getElem?_map, h]; rfl)
  rw [hu] at h1
  cases h1
  rw [eqU_of h2 rfl]
  show (tx l == tx a) = decide (l = a)
  rw [Bool.eq_iff_iff, beq_iff_eq, decide_eq_true_iff]
  exact ⟨tx_inj, fun h => by rw [h]⟩
theorem all_flat (ls : List (List Nat)) : (ls.map T).all flatV = true := by
  rw [List.all_map, List.all_eq_true]
  intro l _
  rfl
theorem mt_index : MtR X "list.index" (fun x xs H Q => ∃ (p : Addr) (ls : List (List Nat)) (a : List Nat) (j : Nat), x = .ref p ∧ xs = [T a] ∧ SqL X.K H p (ls.map T) ∧ ls[j]? = some a ∧ (∀ i, i < j → ls[i]? ≠ some a) ∧ Q (.int (j : Nat)) H) := by
  intro pins s σ H x xs v us Q I rx rs h
  obtain ⟨p, ls, a, j, rfl, rfl, hq, hj, hno, q⟩ := h
  cases rx
  obtain ⟨u, rfl, ru⟩ := vals1 rs
  obtain ⟨its, r, ⟨⟨cls, dd, data, sl⟩, n, ho, hc, hdd, hd⟩, hz⟩ := I.list hq
  simp only at hc hd
  subst hc hd
  have hlen : ls.length = its.length := by have := r.length; rw [List.length_map] at this; exact this
  have hjl : j < ls.length := (List.getElem?_eq_some_iff.mp hj).1
  have hs : sizeLine = 16777216 := sizeLine_eq
  rw [List.length_map] at hz
  refine call_meets PySem.F.slot_list_index ⟨_, ho, rfl⟩ PySem.F.entry_list_index (PySem.F.args_list_index_2 _ _) (SeqAt.list_indexAt p its.toArray n dd sl u (eqU (T a)) j (by rw [List.size_toArray]; omega) (by omega) ?_ ?_)
    ⟨ho, fun y hy => mem_eqAt ru rfl r (all_flat ls) y (by simpa using hy), ⟨.int (j : Nat), H, I.tok _, ⟨_, rfl⟩, q⟩⟩
  · have hu : its[j]? = some its.toArray[j] := by simp
    rw [eqU_T r hj hu]
    exact decide_eq_true rfl
  · intro m hm hmj
    rw [List.size_toArray] at hm
    have hu : its[m]? = some its.toArray[m] := by simp
    have hl : ls[m]? = some ls[m] := List.getElem?_eq_getElem (by omega)
    rw [eqU_T r hl hu]
    refine decide_eq_false fun e => hno m hmj ?_
    rw [hl, e]

theorem eqAt_T {ls ms : List (List Nat)} {us ws : List Value} (r : Vals (ls.map T) us) (r' : Vals (ms.map T) ws) {A : Around} {s : Shared} {j : Nat} {u w : Value} (hu : us[j]? = some u) (hw : ws[j]? = some w) : SeqAt.EqAt A s u w (decide (ls[j]? = ms[j]?)) := by
  have h1 : j < ls.length := by have := r.length; rw [List.length_map] at this; rw [this]; exact (List.getElem?_eq_some_iff.mp hu).1
  have h2 : j < ms.length := by have := r'.length; rw [List.length_map] at this; rw [this]; exact (List.getElem?_eq_some_iff.mp hw).1
  obtain ⟨u', e1, q1⟩ := r.get (i := j) (x := T ls[j]) (by rw [List.getElem?_map, List.getElem?_eq_getElem h1]; rfl)
  obtain ⟨w', e2, q2⟩ := r'.get (i := j) (x := T ms[j]) (by rw [List.getElem?_map, List.getElem?_eq_getElem h2]; rfl)
  rw [hu] at e1
  cases e1
  rw [hw] at e2
  cases e2
  have e := eqAt_V (A := A) (s := s) q1 q2 rfl rfl
  have ee : eqV (T ls[j]) (T ms[j]) = decide (ls[j]? = ms[j]?) := by
    show (tx ls[j] == tx ms[j]) = _
    rw [Bool.eq_iff_iff, beq_iff_eq, decide_eq_true_iff, List.getElem?_eq_getElem h1, List.getElem?_eq_getElem h2]
    exact ⟨fun h => by rw [tx_inj h], fun h => by rw [Option.some.inj h]⟩
  rw [ee] at e
  exact e
theorem all_range_eq {ls ms : List (List Nat)} (h : ls.length = ms.length) : (List.range ls.length).all (fun j => decide (ls[j]? = ms[j]?)) = decide (ls = ms) := by
  rw [Bool.eq_iff_iff, List.all_eq_true, decide_eq_true_iff]
  constructor
  · intro g
    apply List.ext_getElem?
    intro i
    by_cases hi : i < ls.length
    · exact of_decide_eq_true (g i (List.mem_range.mpr hi))
    · rw [List.getElem?_eq_none (by omega), List.getElem?_eq_none (by omega)]
  · intro g j _
    rw [g]
    exact decide_eq_true rfl
theorem op_eq_LT (hu : X.A.units < cLine) : OpR X (compareOp .Eq) (fun x y H Q => ∃ (p b : Addr) (ls ms : List (List Nat)), x = .ref p ∧ y = .ref b ∧ SqL X.K H p (ls.map T) ∧ SqL X.K H b (ms.map T) ∧ Q (.bl (decide (ls = ms))) H) := by
  intro pins s σ H x y v u Q I rx ry h
  obtain ⟨p, b, ls, ms, rfl, rfl, h1, h2, q⟩ := h
  cases rx
  cases ry
  obtain ⟨its, r, pl, _⟩ := I.list h1
  obtain ⟨its2, r2, pl2, _⟩ := I.list h2
  have l1 := r.length
  have l2 := r2.length
  rw [List.length_map] at l1 l2
  by_cases hl : ls.length = ms.length
  · refine SeqAt.eq_listAt (e := fun j => decide (ls[j]? = ms[j]?)) pl.isList pl2.isList (by rw [List.size_toArray, List.size_toArray]; omega) hu (fun j g1 g2 => eqAt_T r r2 (by simp) (by simp)) ?_
    rw [List.size_toArray, ← l1, all_range_eq hl]
    exact ⟨.bl _, H, I, rfl, q⟩
  · refine SeqAt.eq_list_lengthsAt pl.isList pl2.isList (by rw [List.size_toArray, List.size_toArray, bne_iff_ne]; omega) hu ?_
    have e : decide (ls = ms) = false := decide_eq_false fun z => hl (by rw [z])
    rw [e] at q
    exact ⟨.bl _, H, I, rfl, q⟩


end
end L2

set_option Elab.async false
set_option linter.all false
set_option maxRecDepth 100000
set_option maxHeartbeats 4000000

namespace L2
open PySem PySem.Spec PyProof.Rows

set_option genInjectivity false in
structure Fly (P : Program) (w : World) (outer : List Env) (H : Hp) (s : Shared) (a : Addr) (cls : Value) (H' : Hp) (s' : Shared) : Prop where
  os : s'.os = s.os
  bare : AllBare s'.gens
  ex : ∃ (B : Heap) (t : Addr), Heap.FlyingW B outer a cls (.ref t) s'.heap ∧ HOk P w H' B ∧ (∀ b o, s.heap.get? b = some o → H b = none → b ∉ frs outer → B.get? b = some o) ∧
    ∀ b o, s.heap.get? b = some o → b ∉ frs outer → ∃ o', B.get? b = some o'
  slot : ∀ b o, s.heap.get? b = some o → H b = none → b ∈ frs outer → ∃ sl, s'.heap.get? b = some { o with slots := sl }
  free : ∀ b o, s.heap.get? b = some o → H b = none → H' b = none
  tups : ∀ b xs, H b = some (.tup xs) → H' b = some (.tup xs)
  frzs : ∀ b o u, H b = some (.frz o u) → H' b = some (.frz o u)
  tbls : ∀ b ps, H b = some (.tbl ps) → ∃ more, H' b = some (.tbl (ps ++ more))
noncomputable def CX1 (P : Program) (w : World) : CXT := fun outer H s E e s' => ∃ a cls H', e = .ref a ∧ Fly P w outer H s a cls H' s' ∧ E cls none H'

section
variable {X : Cx} {pins : List (Addr × Obj)} {σ : St} {H H' : Hp} {s s' : Shared} {a : Addr} {cls : Value} {E : Value → Shared → Prop}

set_option genInjectivity false in
structure Own (X : Cx) : Prop where
  stk : X.stack = X.env :: X.outer
  fr : X.env.frame = some X.env.locals
  ex : X.ex = []
theorem Own.frs (O : Own X) {b : Addr} : b ∈ frs X.stack ↔ b = X.env.locals ∨ b ∈ frs X.outer := by
  unfold L2.frs
  rw [O.stk, List.filterMap_cons, O.fr]
  exact List.mem_cons
theorem Inv.oldNe (I : Inv X pins σ H s) {b : Addr} {o : Obj} (e : X.s₀.heap.get? b = some o) : b ≠ X.env.locals := Nat.ne_of_lt (Nat.lt_of_lt_of_le (Heap.lt_size e) I.ok.above)
theorem Inv.hidHok (I : Inv X pins σ H s) : HOk X.prog X.w H (PySem.W.hideAll s.heap (L2.frs X.stack)) := fun b u e =>
  (I.hok b u e).stay (fun c v hc q => PySem.W.hideAll_get _ q fun hm => by
    have n := I.stkFree c hm
    rcases hc with z | z
    · rw [z, e] at n
      cases n
    · rw [z] at n
      cases n) (fun _ q => q) fun _ _ q => q
theorem Fly.raised {args : List Value} {h : Heap} (I : Inv X pins σ H s) (O : Own X) (hx : Heap.MadeExcOf s.heap h a cls args) :
    wpAny (model X.prog X.w) X.A (leaving X.env (.ref a)) (fun _ s'' => Fly X.prog X.w X.outer X.H₀ X.s₀ a cls H s'') E { s with heap := h } := by
  have hst := I.stack
  have hin : ∀ env ∈ X.stack, ∀ b, env.frame = some b → b ∈ L2.frs X.stack := fun env he b hb => List.mem_filterMap.mpr ⟨env, he, hb⟩
  have hl := PySem.W.funFrames_hide hst hin
  rw [O.stk] at hl
  have hfr := I.ok.frames
  rw [O.stk] at hfr
  have noEx : ∀ b, b ∉ X.ex := fun b z => by
    rw [O.ex] at z
    cases z
  refine wpAny_leaves_madeW (s := { s with heap := h }) hfr O.fr (fun b o q => PySem.W.of_hideAll _ q) hl hx fun h' t x1 x2 x3 x4 => ?_
  have notIn : ∀ b o, X.s₀.heap.get? b = some o → b ∉ L2.frs X.outer → b ∉ L2.frs (X.env :: X.outer) := fun b o e nb z => by
    rw [← O.stk] at z
    rcases O.frs.mp z with q | q
    · exact I.oldNe e q
    · exact nb q
  have hokB := I.hidHok
  rw [O.stk] at hokB
  refine ⟨I.os, I.bare, ⟨_, t, x1, hokB, fun b o e n nb => ?_, fun b o e nb => ?_⟩, fun b o e n hb => ?_, fun b o e n => I.base.free b o e n (noEx b), I.base.tups, I.base.frzs, I.base.tbls⟩
  · exact PySem.W.hideAll_get _ (I.base.keep b o e n nb (noEx b)) (notIn b o e nb)
  · obtain ⟨o', e'⟩ := I.base.there b o e (noEx b)
    exact ⟨o', PySem.W.hideAll_get _ e' (notIn b o e nb)⟩
  · obtain ⟨sl, e1⟩ := I.base.slot b o e n hb (noEx b)
    obtain ⟨_, o2, e2, hd⟩ := I.funs.mem hb
    rw [e1] at e2
    cases e2
    obtain ⟨sl2, e3⟩ := x4 b _ (hx.keeps b _ e1) hd
    exact ⟨sl2, e3⟩
theorem Fly.on (I : Inv X pins σ H s) (O : Own X) (Y : Fly X.prog X.w X.stack H s a cls H' s') :
    wpAny (model X.prog X.w) X.A (leaving X.env (.ref a)) (fun _ s'' => Fly X.prog X.w X.outer X.H₀ X.s₀ a cls H' s'') E s' := by
  obtain ⟨B, t, hfl, hokB, kp, th⟩ := Y.ex
  have hfr := I.ok.frames
  rw [O.stk] at hfr hfl
  have noEx : ∀ b, b ∉ X.ex := fun b z => by
    rw [O.ex] at z
    cases z
  have notIn : ∀ b o, X.s₀.heap.get? b = some o → b ∉ L2.frs X.outer → b ∉ L2.frs X.stack := fun b o e nb z => by
    rcases O.frs.mp z with q | q
    · exact I.oldNe e q
    · exact nb q
  refine wpAny_leaves_onW hfr O.fr hfl fun h' x1 x2 => ?_
  refine ⟨Y.os.trans I.os, Y.bare, ⟨B, t, x1, hokB, fun b o e n nb => kp b o (I.base.keep b o e n nb (noEx b)) (I.base.free b o e n (noEx b)) (notIn b o e nb), fun b o e nb => ?_⟩, fun b o e n hb => ?_, fun b o e n => ?_,
    fun b xs q => Y.tups b xs (I.base.tups b xs q), fun b o u q => Y.frzs b o u (I.base.frzs b o u q), fun b ps q => ?_⟩
  · obtain ⟨o', e'⟩ := I.base.there b o e (noEx b)
    exact th b o' e' (notIn b o e nb)
  · obtain ⟨sl, e1⟩ := I.base.slot b o e n hb (noEx b)
    obtain ⟨_, o2, e2, hd⟩ := I.funs.mem hb
    rw [e1] at e2
    cases e2
    obtain ⟨sl2, e3⟩ := Y.slot b _ e1 (I.base.free b o e n (noEx b)) (O.frs.mpr (.inr hb))
    obtain ⟨sl3, e4⟩ := x2 b _ e3 hd
    exact ⟨sl3, e4⟩
  · obtain ⟨o', e'⟩ := I.base.there b o e (noEx b)
    exact Y.free b o' e' (I.base.free b o e n (noEx b))
  · obtain ⟨m1, e1⟩ := I.base.tbls b ps q
    obtain ⟨m2, e2⟩ := Y.tbls b _ e1
    exact ⟨m1 ++ m2, by rw [e2, Array.append_assoc]⟩
theorem Fly.un (I : Inv X pins σ H s) (Y : Fly X.prog X.w X.stack H s a cls H' s') : Un (L2.frs X.stack) [] H H' s.heap s'.heap := by
  obtain ⟨B, t, hfl, hokB, kp, th⟩ := Y.ex
  refine ⟨fun b o e n nb _ => hfl.1 b o (kp b o e n nb), fun b o e n hb _ => Y.slot b o e n hb, fun b o e n _ => Y.free b o e n, fun b o e _ => ?_, Y.tups, Y.frzs, Y.tbls⟩
  by_cases hb : b ∈ L2.frs X.stack
  · obtain ⟨sl, q⟩ := Y.slot b o e (I.stkFree b hb) hb
    exact ⟨_, q⟩
  · obtain ⟨o', q⟩ := th b o e hb
    exact ⟨o', hfl.1 b o' q⟩
theorem Fly.inv (I : Inv X pins σ H s) (Y : Fly X.prog X.w X.stack H s a cls H' s') : Inv X pins σ H' s' := by
  have hok : HOk X.prog X.w H' s'.heap := by
    obtain ⟨B, t, hfl, hokB, kp, th⟩ := Y.ex
    exact hokB.kept hfl.1
  exact I.call' (ch := []) Y.os (Y.un I) hok Y.bare fun _ z => nomatch z
theorem Fly.slots {outer : List Env} {h' : Heap} (Y : Fly X.prog X.w outer H s a cls H' s') (hd : ∀ b ∈ L2.frs outer, ∃ o, s.heap.get? b = some o ∧ ∀ vs, o.data ≠ .fields vs) (x : s'.heap.UpToSlots h') :
    ∀ b o, s.heap.get? b = some o → H b = none → b ∈ L2.frs outer → ∃ sl, h'.get? b = some { o with slots := sl } := fun b o e n hb => by
  obtain ⟨sl, q⟩ := Y.slot b o e n hb
  obtain ⟨o2, e2, d2⟩ := hd b hb
  rw [e] at e2
  cases e2
  obtain ⟨sl', q'⟩ := x b _ q d2
  exact ⟨sl', q'⟩
theorem Fly.again {A : Around} {Q : Unit → Shared → Prop} (I : Inv X pins σ H s) (Y : Fly X.prog X.w X.stack H s a cls H' s') (h : ∀ h', Fly X.prog X.w X.stack H s a cls H' { s' with heap := h' } → Q () { s' with heap := h' }) :
    wpAny (model X.prog X.w) A (setFlight (.ref a) none) Q E s' := by
  obtain ⟨B, t, hfl, hokB, kp, th⟩ := Y.ex
  refine lands_againW hfl fun h' x1 x2 => h h' ?_
  exact ⟨Y.os, Y.bare, ⟨B, t, x1, hokB, kp, th⟩, Y.slots (fun b hb => (I.stack.mem hb).2) x2, Y.free, Y.tups, Y.frzs, Y.tbls⟩
theorem Fly.look {Q : Unit → Shared → Prop} (I : Inv X pins σ H s) (O : Own X) (Y : Fly X.prog X.w X.stack H s a cls H' s') (h : ∀ h', Fly X.prog X.w X.stack H s a cls H' { s' with heap := h' } → Q () { s' with heap := h' }) :
    wpAny (model X.prog X.w) X.A (noteFrame (.ref a) X.env) (fun _ s2 => wpAny (model X.prog X.w) X.A (setFlight (.ref a) none) Q E s2) E s' := by
  obtain ⟨B, t, hfl, hokB, kp, th⟩ := Y.ex
  have hfr := I.ok.frames
  have hfl' := hfl
  rw [O.stk] at hfr hfl'
  refine wpAny_looks_onW hfr O.fr hfl' fun h4 x4 y4 => ?_
  refine wpAny_landsW (s := { s' with heap := h4 }) x4 fun h5 x5 y5 => h h5 ?_
  rw [← O.stk] at x5
  exact ⟨Y.os, Y.bare, ⟨B, t, x5, hokB, kp, th⟩, Y.slots (fun b hb => (I.stack.mem hb).2) (y4.trans y5), Y.free, Y.tups, Y.frzs, Y.tbls⟩
theorem Fly.looks {M : Model} {outer : List Env} (Y : Fly X.prog X.w outer H s a cls H' s') : PySem.W.Looks M s'.heap (typeOf (.ref a)) cls := by
  obtain ⟨B, t, hfl, _⟩ := Y.ex
  obtain ⟨ob, hob, hc⟩ := hfl.there
  subst hc
  exact (PySem.W.Looks.ld hob).andThen .now
end

noncomputable abbrev bmVE : List Value := [.type "ValueError", .type "Exception", .type "BaseException", .type "object"]
set_option genInjectivity false in
structure Exc (K : PySem.W.Frag) (mg : Str → Option Value) (x : Str) (C : Addr) : Prop where
  mg : mg x = some (.ref C)
  is : PySem.W.excIn K C bmVE "ValueError.__new__" = true
theorem Exc.own {K : PySem.W.Frag} {mg : Str → Option Value} {x : Str} {C : Addr} {h : Heap} (c : Exc K mg x C) (X : K.In h) : OwnCls x C bmVE "ValueError.__new__" mg h := by
  refine ⟨c.mg, ?_⟩
  have q := c.is
  unfold PySem.W.excIn at q
  split at q
  · rename_i dd cd sl ho
    split at q
    · rename_i C' bm k0 k1 k2 k3 n k5 hm hs
      simp only [beq_iff_eq, Bool.not_eq_true', Bool.and_eq_true] at q
      obtain ⟨⟨⟨⟨⟨g1, g2⟩, g3⟩, g4⟩, g5⟩, g6⟩ := q
      subst g1 g2
      obtain ⟨nm, bs, mro, ns, qn, hd, sn, sub, ab, col, del⟩ := cd
      have hsl : sl = #[k0, k1, k2, k3, some (.builtin "ValueError.__new__"), k5] := by
        cases sl with
        | mk l =>
          have hs' : l = _ := hs
          rw [hs']
      have hm' : mro = _ := hm
      have g3' : del = false := g3
      subst hsl hm' g3'
      refine ⟨bm, ns, nm, qn, bs, hd, sn, sub, ab, col, dd, k0, k1, k2, k3, k5, h.nsMap ns, X _ _ ho, ?_, ?_, ?_⟩
      · exact .of_isNs (PySem.W.isNs_of_in X g5)
      · exact PySem.W.nsMap_none_of_in X g5 g6
      · exact PySem.W.tail_of_in X g4
    · cases q
  · cases q
noncomputable def tRaise (E : Value → Hp → Prop) (C : Addr) (t : TA) : TS := fun _ σ H => t σ H fun vs H1 => vs.length ≤ sizeLine ∧ E (.ref C) H1
theorem ps_raise {x : Str} {C : Addr} {e₀ : Expr} {rest : List Expr} {np cpos pos : Pos} {t : TA} {E : Value → Hp → Prop} (c : Exc X.K X.mg x C) (hc : X.calm = true)
    (hE : ∀ (pins : List (Addr × Obj)) (σ : St) (H : Hp) (s : Shared) (h : Heap) (a : Addr) (args : List Value), Inv X pins σ H s → Heap.MadeExcOf s.heap h a (.ref C) args → E (.ref C) H → X.xe (.ref a) { s with heap := h })
    (ha : PA X (e₀ :: rest) t) (hg : Gl X x := by rfl) (hd : (x == ("__debug__" : Str)) = false := by decide)
    (he : starEach (e₀ :: rest) X.env = (false, eval e₀ X.env) :: starEach rest X.env := by rfl) (hpl : (backTo cpos (starEach rest X.env)).any (·.1) = false := by rfl) :
    PS X (.Raise (some (.Call (.Name x np) (e₀ :: rest) [] cpos)) none pos) (tRaise E C t) := by
  intro pins s σ H D I h
  have O := c.own I.mod.kin
  obtain ⟨tl, N, nm, q, bs, hdct, sn, sub, ab, col, dd, k0, k1, k2, k3, k5, mN, hC, hN, hni, T⟩ := O.obj
  refine wpAny_Raise_call_subT (C := C) (nm := nm) (q := q) (N := N) (bs := bs) (bm := tl) (hdct := hdct) (sn := sn) (sub := sub) (ab := ab) (col := col) (dd := dd) (k0 := k0) (k1 := k1) (k2 := k2) (k3 := k3) (k5 := k5) PySem.F.excBase_ValueError (mN := mN)
    (T.hasType (by decide +kernel)) (I.ok.hd hc) (by rw [he]; show (false || (backTo cpos (starEach rest X.env)).any (·.1)) = false; rw [hpl]; rfl) hni (ld_glob I hg c.mg ⟨rfl, ?_⟩ hd)
  have hA := ha cpos pins s σ H _ I h
  rw [he] at hA ⊢
  refine Calls.evalArgs_plain (thn hA fun us s2 ⟨vs, H2, I2, r2, hz, q2⟩ => ?_)
  exact ⟨rfl, by rw [← r2.length]; exact hz, I2.bk _ _ hC, hN.keeps I2.bk, T.keeps I2.bk, fun h' e hx => hE pins σ H2 s2 h' e us I2 hx q2⟩

section
variable {P : Program} {w : World} {K : PySem.W.Frag} {mg : Str → Option Value} {base : Heap} {N : List Str} {qual : Str} {scope : Scope} {f : Addr} {cdv : Value} {A : Around} {outer : List Env} {s : Shared} {H : Hp} {E : XK}
theorem ownX {CX : CXT} : Own (cxOf CX P w K mg base N qual scope f cdv A outer s H E) := ⟨rfl, rfl, rfl⟩
theorem passX : Passes (CX1 P w) (cxOf (CX1 P w) P w K mg base N qual scope f cdv A outer s H E) E := fun pins σ H1 s1 e s' I h => by
  obtain ⟨a, cls, H', rfl, Y, q⟩ := h
  exact thn (Fly.on I ownX Y) fun _ s'' Z => ⟨a, cls, H', rfl, Z, q⟩
theorem raiseX {C : Addr} {pins : List (Addr × Obj)} {σ : St} {H1 : Hp} {s1 : Shared} {h : Heap} {a : Addr} {args : List Value} (I : Inv (cxOf (CX1 P w) P w K mg base N qual scope f cdv A outer s H E) pins σ H1 s1) (hx : Heap.MadeExcOf s1.heap h a (.ref C) args) (q : E (.ref C) none H1) :
    (cxOf (CX1 P w) P w K mg base N qual scope f cdv A outer s H E).xe (.ref a) { s1 with heap := h } := thn (Fly.raised I ownX hx) fun _ s'' Z => ⟨a, .ref C, H1, rfl, Z, q⟩
theorem pass1 {X : Cx} : Passes (CX1 P w) X E0 := fun _ _ _ _ _ _ _ h => by
  obtain ⟨_, _, _, _, _, q⟩ := h
  exact q.elim
theorem Fun.okX {x qual : Str} {st : Stmt} {f : Addr} {fd : FuncData} {N ps : List Str} {k : Nat} {sp : Sp} (F : Fun K x qual st f fd) (S : FnScope N ps (defScope st)) (len : ∀ vs H Q E, sp vs H Q E → vs.length = ps.length)
    (hbody : ∀ (cdv : Value) (A : Around) (outer : List Env) (s : Shared) (H : Hp) (vs : List V) (Q : VK) (E : XK), Room k (A.deeper (envOfC qual (defScope st) s.heap.objs.size f cdv)) → sp vs H Q E →
      ∃ t, PSs (cxOf (CX1 P w) P w K mg base N qual (defScope st) f cdv A outer s H E) (defBody st) t ∧ t { nx := fun _ H' => Q .non H', rt := Q } (start N vs) H) : FnOk P w K mg base (CX1 P w) (k + 1) f fd ps sp := by
  obtain ⟨oc, od, kV, doc, pm, an, cdv, ct, osl, rfl, lk, hcd⟩ := F.ex
  exact fn_of lk hcd S len fun A outer s H vs Q E hr hsp => hbody cdv A outer s H vs Q E hr hsp
end
end L2

set_option Elab.async false
set_option linter.all false
set_option maxRecDepth 100000
set_option maxHeartbeats 4000000

namespace L2
open PySem PySem.Spec PyProof.Rows

noncomputable def XP (X : Cx) (pins : List (Addr × Obj)) (R : St → Value → Hp → Prop) (e : Value) (s' : Shared) : Prop :=
  ∃ a cls σ' H s1 H', e = .ref a ∧ Inv X pins σ' H s1 ∧ Fly X.prog X.w X.stack H s1 a cls H' s' ∧ R σ' cls H'
noncomputable abbrev TTy := Ends → (St → Value → Hp → Prop) → St → Hp → Prop
noncomputable def PTy (X : Cx) (st : List Stmt) (t : TTy) : Prop :=
  ∀ (pins : List (Addr × Obj)) (s : Shared) (σ : St) (H : Hp) (D : Ends) (R : St → Value → Hp → Prop), Inv X pins σ H s → t D R σ H → wpAny (model X.prog X.w) X.A (execs st X.env) (SP X pins D) (XP X pins R) s
section
variable {X : Cx}
noncomputable abbrev TH := Ends → St → Value → Hp → Prop
noncomputable def PH (X : Cx) (hs : List ExceptHandler) (t : TH) : Prop :=
  ∀ (pins : List (Addr × Obj)) (σ : St) (H : Hp) (s : Shared) (a : Addr) (cls : Value) (H' : Hp) (s' : Shared) (D : Ends), Inv X pins σ H s → Fly X.prog X.w X.stack H s a cls H' s' → t D σ cls H' →
    wpAny (model X.prog X.w) X.A (handleBy (.ref a) X.env hs) (SP X pins D) X.xe s'
noncomputable abbrev cxMark (X : Cx) (a : Addr) : Cx := { X with A := X.A.mark (some (.ref a)), calm := false, xe := fun _ _ => False }
theorem Inv.mark {pins : List (Addr × Obj)} {σ : St} {H : Hp} {s : Shared} (I : Inv X pins σ H s) (a : Addr) : Inv (cxMark X a) pins σ H s := by
  have ok := I.ok
  exact ⟨⟨ok.mod, ok.kind, ok.glob, ok.blt, ok.above, ok.inj, ok.has, ok.cab, fun z => (by cases z), ok.frames, ok.stk, ok.exf, ok.bs, ok.bsz, ok.noex, ok.exfs, ok.funs, ok.frf⟩, I.os, I.bare, I.base, I.loc, I.cell, I.free, I.freeC, I.pin, I.hok, I.len⟩
theorem Inv.unmark {pins : List (Addr × Obj)} {σ : St} {H : Hp} {s : Shared} {a : Addr} (I : Inv (cxMark X a) pins σ H s) (J : X.Ok) : Inv X pins σ H s := ⟨J, I.os, I.bare, I.base, I.loc, I.cell, I.free, I.freeC, I.pin, I.hok, I.len⟩
theorem SP.unmark {pins : List (Addr × Obj)} {D : Ends} {f : Flow} {s' : Shared} {a : Addr} (J : X.Ok) (h : SP (cxMark X a) pins D f s') : SP X pins D f s' := by
  cases f with
  | next => obtain ⟨σ', H', I, q⟩ := h; exact ⟨σ', H', I.unmark J, q⟩
  | brk => obtain ⟨σ', H', I, q⟩ := h; exact ⟨σ', H', I.unmark J, q⟩
  | cont => obtain ⟨σ', H', I, q⟩ := h; exact ⟨σ', H', I.unmark J, q⟩
  | ret u => obtain ⟨v, σ', H', I, r, q⟩ := h; exact ⟨v, σ', H', I.unmark J, r, q⟩
noncomputable def thPlain (K : PySem.W.Frag) (c : Value) (ts : TS) (tr : TH) : TH := fun D σ cls H' => (PySem.W.exmOne K cls c = some true ∧ ts D σ H') ∨ (PySem.W.exmOne K cls c = some false ∧ tr D σ cls H')
noncomputable def thNone : TH := fun _ _ _ _ => False
theorem ph_nil : PH X [] thNone := fun _ _ _ _ _ _ _ _ _ _ _ h => False.elim h
theorem ph_plain {x : Str} {c : Value} {np pos : Pos} {b₀ : Stmt} {suite : List Stmt} {rest : List ExceptHandler} {ts : TS} {tr : TH} (hm : X.mg x = some c) (hsu : ∀ a, PSs (cxMark X a) (b₀ :: suite) ts) (hr : PH X rest tr) (hg : Gl X x := by rfl) (hd : (x == ("__debug__" : Str)) = false := by decide) :
    PH X (.ExceptHandler (some (.Name x np)) none (b₀ :: suite) pos :: rest) (thPlain X.K c ts tr) := by
  intro pins σ H s a cls H' s' D I Y h
  have I1 := Y.inv I
  refine wpAny_handleBy_cons (codeAny_handlers_test (ld_glob (X := cxMark X a) (I1.mark a) hg hm ?_ hd)) (by intro q; cases q)
  rcases h with ⟨e, h⟩ | ⟨e, h⟩
  · refine (PySem.W.exm_one I1.kIn Y.looks e).here ?_
    refine codeAny_handlers_suite (Y.again I fun h6 Y6 => ?_)
    have I6 := Y6.inv I
    exact wpAny_mono (hsu a pins _ σ H' D (I6.mark a) h) (fun f s2 z => z.unmark I.ok) fun _ _ z => False.elim z
  · refine (PySem.W.exm_one I1.kIn Y.looks e).here ?_
    exact hr pins σ H s a cls H' s' D I Y h
noncomputable def tTry (tb : TTy) (th : TH) : TS := fun D σ H => tb D (fun σ' cls H' => th D σ' cls H') σ H
theorem ps_try {body : List Stmt} {h₀ : ExceptHandler} {hs : List ExceptHandler} {pos : Pos} {tb : TTy} {th : TH} (O : Own X) (hb : PTy X body tb) (hh : PH X (h₀ :: hs) th) : PS X (.Try body (h₀ :: hs) [] [] pos) (tTry tb th) := by
  intro pins s σ H D I q
  refine wpAny_Try_except (wpAny_mono (hb pins s σ H D _ I q) (fun f s1 z => ?_) fun e s1 z => ?_)
  · cases f with
    | next => exact wpAny_execs_nil z
    | ret v => exact z
    | brk => exact z
    | cont => exact z
  · obtain ⟨a, cls, σ', H1, s2, H', rfl, I2, Y, q2⟩ := z
    exact Y.look I2 O fun h' Y' => hh pins σ' H1 s2 a cls H' _ D I2 Y' q2
end
end L2

set_option Elab.async false
set_option linter.all false
set_option maxRecDepth 100000
set_option maxHeartbeats 4000000

namespace L2
open PySem PySem.Spec PyProof.Rows

namespace RV
theorem lri_no_len : typeLookup (.type "list_reverseiterator") "__len__" = pure none := by rw [typeLookup_type, builtinLookup_eq_fast]; kernel_rfl
theorem lri_hint : typeLookup (.type "list_reverseiterator") "__length_hint__" = pure (some (.builtin "list_reverseiterator.__length_hint__")) := by rw [typeLookup_type, builtinLookup_eq_fast]; kernel_rfl
section
variable {prog : Program} {w : World} {A : Around} {E : Value → Shared → Prop} {s : Shared}
theorem hint_rev {it l : Addr} {i : Int} {Q : Bool → Shared → Prop} (hit : s.heap.IsRevIter it l i) (h : Q false s) : wpAny (model prog w) A (Builtin.List.listLengthHint (.ref it)) Q E s := by
  unfold Builtin.List.listLengthHint
  refine wpAny_bind (wpAny_specialOf hit.typeIs lri_no_len ?_)
  show wpAny _ A (specialOf (Value.ref it) (Str.ofString "__length_hint__") >>= _) _ _ _
  refine wpAny_bind (wpAny_specialOf hit.typeIs lri_hint ?_)
  generalize hid : ("list_reverseiterator.__length_hint__" : String) = id0
  wp_delta
  rw [show splitId id0 = some ("list_reverseiterator", "__length_hint__") from by subst hid; decide +kernel]
  subst hid
  refine wpAny_bind (wpAny_isInstance (T := "list_reverseiterator") (b := true) hit.typeIs (by rw [isSubtype_type]; kernel_rfl) ?_)
  refine wpAny_ite_split (fun hab => absurd hab (by decide)) (fun _ => ?_)
  refine wpAny_ite_split (fun _ => ?_) (fun hab => absurd (by decide +kernel) hab)
  refine wpAny_ite_split (fun hab => absurd hab (by decide +kernel)) (fun _ => ?_)
  exact wpAny_pure h

theorem extend_rev {R : Result → Shared → Prop} (hh : A.handled = none) {it l : Addr} {items : Array Value} (hit : s.heap.IsRevIter it l ((items.size : Int) - 1)) (hl : s.heap.IsList l items) (hne : l ≠ it) (S : Addr) (res : Value) (c₀ : Nat)
    (h1 : S ≠ it) (h2 : S ≠ l) (hS : s.heap.get? S = some { cls := .type "list", data := .seq #[] c₀ })
    (hR : ∀ h' tk acc' c', (∀ b o, b ≠ S → b ≠ it → s.heap.get? b = some o → h'.get? b = some o) → h'.get? S = some { cls := .type "list", dict := none, data := .seq acc' c', slots := #[] } →
      acc'.toList = items.toList.reverse → R (.ok (.ret res)) { s with heap := h', toks := tk }) (hn : items.size ≤ sizeLine) :
    wpAny (model prog w) A.in1 (Builtin.List.listExtendWith (.ref S) (.ref it) res)
      (fun fin s' => match fin with | .done f => R (.ok f) s' | .again c' => c'.quiet = true ∧ codeAny (model prog w) A c' R s') (fun e s' => R (.error e) s') s := by
  have W := (Walks.listRev (prog := prog) (w := w) (A := A.in1) hh it l hne items).toS
  unfold Builtin.List.listExtendWith
  refine wpAny_bind (wpAny_typeOf hit.typeIs ?_)
  have g1 : Builtin.List.listSameRef (.ref S) (.ref it) = false := by simp [Builtin.List.listSameRef, h1]
  have g2 : (Value.type "list_reverseiterator" == Value.type "list") = false := by decide
  have g3 : (Value.type "list_reverseiterator" == Value.type "tuple") = false := by decide
  simp only [g1, g2, g3, Bool.or_false, Bool.false_eq_true, if_false]
  refine wpAny_bind (wpAny_pyIter_revIter hit ?_)
  refine wpAny_bind (wpAny_holding (hint_rev hit ?_))
  refine wpAny_ite_split (fun hab => absurd hab (by decide +kernel)) (fun _ => ?_)
  have e0 : (items.size : Int) - 1 - ((0 : Nat) : Int) = (items.size : Int) - 1 := by omega
  refine wpAny_pure ⟨plainId_quiet F.plain_extend_loop _, codeAny_extend_loopS W hn S (by simp [h1, h2]) res items.size 0 _ #[] c₀ rfl (Nat.zero_le _) ⟨Nat.zero_le _, by rw [e0]; exact hit, hl⟩ hS (ItemsOf.nil _) fun s' acc' c' hm hS' hacc => ?_⟩
  rw [Moved.eq_with hm]
  refine hR s'.heap s'.toks acc' c' (fun b o hb hb2 e => hm.heap b o (by simp [hb, hb2]) e) hS' ?_
  · apply List.ext_getElem?
    intro i
    have hsz := hacc.1
    by_cases hi : i < items.size
    · have e1 : acc'[i]? = some (acc'[i]'(by omega)) := Array.getElem?_eq_getElem (by omega)
      have e2 := hacc.2 i _ e1
      rw [List.getElem?_reverse (by simpa using hi), Array.getElem?_toList, Array.getElem?_toList, e1, ← e2]
      simp
    · rw [List.getElem?_eq_none (by simp; omega), List.getElem?_eq_none (by simp; omega)]

end
end RV

section
variable {X : Cx}
theorem arg1 {e : Expr} {pos : Pos} {s : Shared} {Q : List Value → Shared → Prop} {E : Value → Shared → Prop} (h : wpAny (model X.prog X.w) X.A (eval e X.env) (fun u s1 => Q [u] s1) E s) (hs : starEach [e] X.env = (false, eval e X.env) :: starEach [] X.env) :
    wpAny (model X.prog X.w) X.A (spliced (backTo pos (starEach [e] X.env))) Q E s := by
  rw [hs]
  show wpAny _ _ (spliced ((false, eval e X.env) :: backTo pos (starEach [] X.env))) _ _ s
  exact Calls.spliced_cons (thn h fun u s1 q => Calls.spliced_nil q)
theorem rising_pw : ∀ (x : List Nat) (ls : List (List Nat)), risingS (tx x) (ls.map tx) = true → (∀ y ∈ ls, ¬ y < x) ∧ ls.Pairwise (fun a b => ¬ b < a)
  | x, [], _ => ⟨fun _ h => (by cases h), .nil⟩
  | x, y :: ls, h => by
    have h' : (!ltCps (tx y).cps.toList (tx x).cps.toList && risingS (tx y) (ls.map tx)) = true := h
    rw [Bool.and_eq_true, tx_cps, tx_cps, ltCps_eq] at h'
    obtain ⟨a, b⟩ := rising_pw y ls h'.2
    have h1 : ¬ y < x := by simpa using h'.1
    refine ⟨fun z hz => ?_, List.pairwise_cons.mpr ⟨a, b⟩⟩
    rcases List.mem_cons.mp hz with rfl | hz
    · exact h1
    · exact Wd.lele h1 (a z hz)
theorem sorted_pw : ∀ (ls : List (List Nat)), sortedS (ls.map tx) = true → ls.Pairwise (fun a b => ¬ b < a)
  | [], _ => .nil
  | x :: ls, h => List.pairwise_cons.mpr (rising_pw x ls h)
theorem strs_back : ∀ {us : List Value} {ss : List Str}, StrsAre us ss → Vals ((ss.map fun x => x.cps.toList).map T) us
  | _, _, .nil => .nil
  | _, _, .cons x t h => .cons ⟨t, by show Value.str x t = Value.str (tx x.cps.toList) t; rw [tx_eta]⟩ (strs_back h)
theorem op_ne_LT (hu : X.A.units < cLine) : OpR X (compareOp .NotEq) (fun x y H Q => ∃ (p b : Addr) (ls ms : List (List Nat)), x = .ref p ∧ y = .ref b ∧ SqL X.K H p (ls.map T) ∧ SqL X.K H b (ms.map T) ∧ Q (.bl (!decide (ls = ms))) H) := by
  intro pins s σ H x y v u Q I rx ry h
  obtain ⟨p, b, ls, ms, rfl, rfl, h1, h2, q⟩ := h
  cases rx
  cases ry
  obtain ⟨its, r, pl, _⟩ := I.list h1
  obtain ⟨its2, r2, pl2, _⟩ := I.list h2
  have l1 := r.length
  have l2 := r2.length
  rw [List.length_map] at l1 l2
  by_cases hl : ls.length = ms.length
  · refine SeqAt.RcNeAt.lists (e := fun j => decide (ls[j]? = ms[j]?)) pl.isList pl2.isList (by rw [List.size_toArray, List.size_toArray]; omega) hu (fun j g1 g2 => eqAt_T r r2 (by simp) (by simp)) _ _ _ _ ?_
    rw [List.size_toArray, ← l1, all_range_eq hl]
    exact ⟨.bl _, H, I, rfl, q⟩
  · refine SeqAt.RcNeAt.lists_lengths pl.isList pl2.isList (by rw [List.size_toArray, List.size_toArray, bne_iff_ne]; omega) hu _ _ _ _ ?_
    have e : decide (ls = ms) = false := decide_eq_false fun z => hl (by rw [z])
    rw [e] at q
    exact ⟨.bl _, H, I, rfl, q⟩
end
end L2

set_option Elab.async false
set_option linter.all false
set_option maxRecDepth 100000
set_option maxHeartbeats 4000000

namespace L2
open PySem PySem.Spec PyProof.Rows

noncomputable def nubTo (ls : List (List Nat)) : Nat → List (List Nat)
  | 0 => []
  | i + 1 => if ls.getD i [] ∈ nubTo ls i then nubTo ls i else nubTo ls i ++ [ls.getD i []]
noncomputable def uniq (ls : List (List Nat)) : List (List Nat) := nubTo ls ls.length
namespace SE
section
variable {prog : Program} {w : World} {A : Around} {R : Result → Shared → Prop} {J : Addr} {fp wr : List Addr} {G : Array GenState → Array GenState → Prop} {n : Nat} {P : Nat → Value → Prop} {St : Nat → Shared → Prop}
variable {E : Value → Shared → Prop} {s : Shared}
end
end SE

section
variable {X : Cx}
end
end L2

set_option Elab.async false
set_option linter.all false
set_option maxRecDepth 100000
set_option maxHeartbeats 4000000

namespace L2
open PySem PySem.Spec PyProof.Rows
section
variable {X : Cx}
namespace LM
theorem rmul (a : Int) (t : Tok) (l : Addr) (its : Array Value) (n : Nat) (dd : Option Addr) (sl : Array (Option Value)) :
    Meets (Builtin.«int.__rmul__» ⟨[.int a t, .ref l], []⟩) (fun _ R s => s.heap.get? l = some { cls := .type "list", dict := dd, data := .seq its n, slots := sl } ∧ R (.ok (.ret Value.notImplemented)) s) :=
  .of_wp fun prog w A R s z => by
    obtain ⟨hp, g, d, tk, os⟩ := s
    obtain ⟨hl, z⟩ := z
    wp_walk
    exact ⟨_, rfl, z⟩
theorem mul (l : Addr) (its : Array Value) (n : Nat) (dd : Option Addr) (sl : Array (Option Value)) (x : Int) (u : Tok) (c0 : ¬(!Builtin.List.listFitsIndex x) = true) (c1 : ¬its.size * x.toNat > (2 ^ 63 - 1) / 8) (c2 : ¬Builtin.List.listTooLong (its.size * x.toNat) = true) :
    Meets (Builtin.«list.__mul__» ⟨[.ref l, .int x u], []⟩) (fun _ R s => s.heap.get? l = some { cls := .type "list", dict := dd, data := .seq its n, slots := sl } ∧
      R (.ok (.ret (Value.ref s.heap.objs.size))) { s with heap := s.heap.push { cls := Value.type "list", data := Data.seq (List.foldl (fun x1 x2 => x1 ++ x2) #[] (List.replicate (if its.isEmpty = true then 0 else x.toNat) its)) } }) :=
  .of_wp fun prog w A R s z => by
    obtain ⟨hp, g, d, tk, os⟩ := s
    obtain ⟨hl, z⟩ := z
    have hsz := AutoListH.joined_fits c2
    wp_walk using wpAny_loadPart' hl
    refine wpAny_ite_false (decide_eq_false (Nat.not_lt.mpr hsz)) ?_
    wp_walk
    exact ⟨_, rfl, z⟩
end LM
theorem op_repI : OpR X (binaryOp .Mult) (fun x y H Q => ∃ (l : Addr) (k : Int) (xs : List V), x = .ref l ∧ y = .int k ∧ SqL X.K H l xs ∧ (-(2 ^ 63) ≤ k ∧ k < 2 ^ 63 ∧ xs.length * k.toNat ≤ sizeLine) ∧ ∀ p, H p = none → Q (.ref p) (upd H p (.lst (List.replicate k.toNat xs).flatten))) := by
  intro pins s σ H x y v u Q I rx ry h
  obtain ⟨l, k, xs, rfl, rfl, hH, ⟨h1, h2, hz⟩, q⟩ := h
  cases rx
  obtain ⟨t, rfl⟩ := ry
  obtain ⟨its, r, ⟨⟨cls, dd, data, sl⟩, n, e, hc, hdd, hd⟩, z⟩ := I.list hH
  simp only at hc hd
  subst hc hd
  have hl := r.length
  have hlen : its.toArray.size * k.toNat ≤ sizeLine := by rw [List.size_toArray, ← hl]; exact hz
  have hcap : ¬ its.toArray.size * k.toNat > (2 ^ 63 - 1) / 8 := by
    have : (sizeLine : Nat) ≤ (2 ^ 63 - 1) / 8 := by decide
    omega
  have hfit : ¬ (!Builtin.List.listFitsIndex k) = true := by
    rw [fitsIndex_both h1 h2]
    exact Bool.false_ne_true
  have hlong : ¬ Builtin.List.listTooLong (its.toArray.size * k.toNat) = true := by
    rw [notLongL hlen]
    exact Bool.false_ne_true
  have hnew : List.foldl (fun x1 x2 => x1 ++ x2) #[] (List.replicate (if its.toArray.isEmpty = true then 0 else k.toNat) its.toArray) = (List.replicate k.toNat its).flatten.toArray := by
    have f0 : ∀ m : Nat, List.foldl (fun x1 x2 => x1 ++ x2) #[] (List.replicate m its.toArray) = (List.replicate m its).flatten.toArray := fun m => by
      have := foldl_rep its m []
      rw [List.nil_append] at this
      exact this
    rw [f0]
    cases its with
    | nil => simp
    | cons a r' => rw [if_neg (by simp)]
  refine wpAny_binaryOp_repeat_ref (T := "list") (U := "int") (by decide) ⟨_, e, rfl⟩ (fun s' => typeIs_int s' k t) noFill_list_mul F.fills_int_mul F.slot_int_rmul repeat_list F.slot_int_index.lookup
    (call_meets F.slot_int_rmul (typeIs_int s k t) F.entry_int_rmul (F.args_int_rmul_2 _ _) (LM.rmul k t l its.toArray n dd sl)
      ⟨e, rfl, ⟨_, e, rfl⟩, call_meets F.slot_list_mul ⟨_, e, rfl⟩ F.entry_list_mul (F.args_list_mul_2 _ _) (LM.mul l its.toArray n dd sl k t hfit hcap hlong) ⟨e, ?_⟩⟩)
  rw [hnew]
  exact ⟨.ref _, _, I.lnew (t' := s.toks) (r.rep k.toNat) (by rw [len_rep, Nat.mul_comm]; exact hz), rfl, q _ I.fresh⟩
theorem op_repL : OpR X (binaryOp .Mult) (fun x y H Q => ∃ (l : Addr) (k : Nat) (xs : List V), x = .ref l ∧ y = .int k ∧ SqL X.K H l xs ∧ (k ≤ sizeLine ∧ xs.length * k ≤ sizeLine) ∧ ∀ p, H p = none → Q (.ref p) (upd H p (.lst (List.replicate k xs).flatten))) := by
  intro pins s σ H x y v u Q I rx ry h
  obtain ⟨l, k, xs, e1, e2, hH, ⟨hk, hz⟩, q⟩ := h
  have hs : sizeLine = 16777216 := sizeLine_eq
  refine op_repI pins s σ H x y v u Q I rx ry ⟨l, (k : Int), xs, e1, e2, hH, ⟨by omega, by omega, ?_⟩, ?_⟩
  · rw [Int.toNat_natCast]
    exact hz
  · rw [Int.toNat_natCast]
    exact q
end
end L2

set_option Elab.async false
set_option linter.all false
set_option maxRecDepth 100000
set_option maxHeartbeats 4000000

namespace L2
open PySem PySem.Spec PyProof.Rows

noncomputable def Itx (l : List Nat) : It := ⟨fun i _ => i < l.length, fun i H x H' => H' = H ∧ ∃ c, l[i]? = some c ∧ x = T [c], fun i _ => l.length ≤ i⟩
theorem turn_text {P : Program} {w : World} {K : PySem.W.Frag} {tg : Expr} {it : Addr} {ty : String} {l : List Nat} {t : Tok} (hty : ty = "str_ascii_iterator" ∨ ty = "str_iterator")
    (W : ∀ A : Around, A.handled = none → Walks P w A it [it] [it] (tx l).cps.size (SignAt (tx l)) (fun i h => h.IsStrIter it ty (tx l) t i)) : Turn P w K tg (Itx l) [it] it (fun i h => h.IsStrIter it ty (tx l) t i) where
  mem := by simp
  obj := fun i h st b hb => by
    have e : b = it := by simpa using hb
    subst e
    obtain ⟨o, e, c, d⟩ := st
    exact ⟨o, e, fun v z => by rw [d] at z; cases z⟩
  keep := fun i h h' st k => by
    obtain ⟨o, e, r⟩ := st
    exact ⟨o, k it (by simp) o e, r⟩
  item := by
    intro X hP hw hK hc i pins s σ H E I hf st hg
    subst hP hw hK
    obtain ⟨f0, f1, f2, f3, f4, f5⟩ := hf it (by simp)
    refine (W X.A (I.ok.hd hc)).item i s _ _ (by have : i < l.length := hg; simpa [tx] using this) st fun v h' tk hv st' kk => ?_
    obtain ⟨c, u, hcu, rfl⟩ := hv
    have I1 : Inv X pins σ H { s with heap := h', toks := tk } := I.turned (fun b o hb e => kk b o (by simpa using hb) e) f0 f1 f3 f4 f5
    obtain ⟨o, e, cl, d⟩ := id st'
    refine ⟨_, rfl, go_of (s := { s with heap := h', toks := tk }) (n := ty) e cl d (by rcases hty with rfl | rfl <;> decide) ⟨T [c], H, I1, ⟨u, rfl⟩, ⟨rfl, c, ?_, rfl⟩, st', fun b hb => (hf b hb).1⟩⟩
    simpa [tx] using hcu
  done := by
    intro X hP hw hK hc i pins s σ H E I hf st hg
    subst hP hw hK
    obtain ⟨f0, f1, f2, f3, f4, f5⟩ := hf it (by simp)
    have hn : l.length ≤ i := hg
    obtain ⟨o, e, cl, d⟩ := id st
    rcases hty with rfl | rfl
    · exact wpAny_pyNext_ascii_end (I.ok.hd hc) st (by simpa [tx] using hn) fun h' eb => ⟨rfl, I.turned (t' := s.toks) (fun b o hb e => eb b o hb e) f0 f1 f3 f4 f5⟩
    · exact wpAny_pyNext_wide_end (I.ok.hd hc) st (by simpa [tx] using hn) fun h' eb => ⟨rfl, I.turned (t' := s.toks) (fun b o hb e => eb b o hb e) f0 f1 f3 f4 f5⟩
  self := fun A i s Q E st h => by
    rcases hty with rfl | rfl
    · exact wpAny_pyIter_striter_ascii st h
    · exact wpAny_pyIter_striter_wide st h
noncomputable def iStr (tl : TE) : TI := fun σ H R => tl σ H fun x H1 => ∃ l, x = T l ∧ R (Itx l) H1
section
variable {X : Cx} {tg : Expr}
theorem pi_str {e : Expr} {tl : TE} (hl : PE X e tl) : PI X tg e (iStr tl) := by
  intro pins s σ H R I h
  refine thn (hl pins s σ H _ I h) fun v s1 ⟨x, H1, I1, r1, q1⟩ => ?_
  obtain ⟨l, rfl, q⟩ := q1
  obtain ⟨t, rfl⟩ := r1
  have fin : ∀ (ty : String) (o : Obj), (ty = "str_ascii_iterator" ∨ ty = "str_iterator") → (∀ A : Around, A.handled = none → Walks X.prog X.w A s1.heap.objs.size [s1.heap.objs.size] [s1.heap.objs.size] (tx l).cps.size (SignAt (tx l)) (fun i h => h.IsStrIter s1.heap.objs.size ty (tx l) t i)) →
      (s1.heap.push o).IsStrIter s1.heap.objs.size ty (tx l) t 0 → PIE X pins σ tg R (.ref s1.heap.objs.size) { s1 with heap := s1.heap.push o } := fun ty o hty W st => by
    refine ⟨s1.heap.objs.size, [s1.heap.objs.size], _, _, H1, rfl, I1.kept (t' := s1.toks) fun b o e => Heap.get?_push_of_some _ e, turn_text hty W, st, fun b hb => ?_, q⟩
    have e : b = s1.heap.objs.size := by simpa using hb
    subst e
    exact I1.fpOk (Nat.le_refl _) (I1.hok.fresh (Nat.le_refl _))
  cases ha : (tx l).cps.all (· < 128)
  · exact wpAny_pyIter_wide ha (fin "str_iterator" _ (.inr rfl) (fun A hA => Walks.strWide hA _ (tx l) t) ⟨_, Heap.get?_push_size _ rfl, rfl, rfl⟩)
  · exact wpAny_pyIter_ascii ha (fin "str_ascii_iterator" _ (.inl rfl) (fun A hA => Walks.strAscii hA _ (tx l) t) ⟨_, Heap.get?_push_size _ rfl, rfl, rfl⟩)
end
theorem for_text {l : List Nat} {g : TG} {tb : TS} {D : Ends} {σ : St} {H : Hp} (Pv : Nat → St → Hp → Prop) (h0 : Pv 0 σ H)
    (hs : ∀ i c σ H, l[i]? = some c → Pv i σ H → g (T [c]) σ H fun σ2 H2 => tb { D with nx := Pv (i + 1), ct := Pv (i + 1), bk := D.nx } σ2 H2) (hd : ∀ σ H, Pv l.length σ H → D.nx σ H) :
    ∃ W : Nat → Nat → St → Hp → Prop, (∃ m, W 0 m σ H) ∧ ∀ i m σ H, W i m σ H →
      ((Itx l).stop i H ∧ D.nx σ H) ∨ ((Itx l).go i H ∧ ∃ N : St → Hp → Prop, (∀ σ' H', N σ' H' → ∃ m', m' < m ∧ W (i + 1) m' σ' H') ∧ ∀ x H', (Itx l).yld i H x H' → g x σ H' fun σ2 H2 => tb { D with nx := N, ct := N, bk := D.nx } σ2 H2) := by
  refine ⟨fun i m σ H => m = l.length - i ∧ i ≤ l.length ∧ Pv i σ H, ⟨l.length, by simp, Nat.zero_le _, h0⟩, ?_⟩
  rintro i m σ H ⟨rfl, hi, p⟩
  by_cases hlt : i < l.length
  · refine .inr ⟨hlt, Pv (i + 1), fun σ' H' p' => ⟨l.length - (i + 1), by omega, rfl, hlt, p'⟩, fun x H' y => ?_⟩
    obtain ⟨rfl, c, hc, rfl⟩ := y
    exact hs i c σ _ hc p
  · obtain rfl : i = l.length := by omega
    exact .inl ⟨Nat.le_refl _, hd σ H p⟩

section
variable {X : Cx}
theorem op_notin_sT : OpR X (compareOp .NotIn) (fun x y H Q => ∃ c, x = T [c] ∧ ∃ l, y = T l ∧ Q (.bl (!decide (c ∈ l))) H) := by
  intro pins s σ H x y v u Q I rx ry h
  obtain ⟨c, e1, l, e2, q⟩ := h
  exact op_notin_str pins s σ H x y v u Q I rx ry ⟨tx [c], tx l, e1, e2, by rw [show tx [c] = ⟨#[c]⟩ from rfl, StrLaws.found_one, tx_cps]; exact q⟩
theorem mt_index6 : MtR X "str.index" (fun x xs H Q => x = T [97, 98, 99, 100, 101, 102] ∧ ∃ c : Nat, xs = [T [c]] ∧ (97 ≤ c ∧ c ≤ 102) ∧ Q (.int ((c - 97 : Nat) : Int)) H) := by
  intro pins s σ H x xs v us Q I rx rs h
  obtain ⟨rfl, c, rfl, hc, q⟩ := h
  obtain ⟨t, rfl⟩ := rx
  obtain ⟨u, rfl, ru⟩ := vals1 rs
  obtain ⟨t', rfl⟩ := ru
  have key : ∀ d : Nat, d < 6 → Builtin.Str.occurrences (tx [97, 98, 99, 100, 101, 102]) (tx [97 + d]) 0 (tx [97, 98, 99, 100, 101, 102]).length 1 = [d] := by decide +kernel
  have e := key (c - 97) (by omega)
  rw [show 97 + (c - 97) = c by omega] at e
  exact SC.index e ⟨.int ((c - 97 : Nat) : Int), H, I.tok _, ⟨_, rfl⟩, q⟩

namespace RV
variable {prog : Program} {w : World} {A : Around} {E : Value → Shared → Prop} {s : Shared}
theorem collect_rev {Q : List Value → Shared → Prop} (hh : A.handled = none) {it l : Addr} {items : Array Value} (hit : s.heap.IsRevIter it l ((items.size : Int) - 1)) (hl : s.heap.IsList l items) (hne : l ≠ it)
    (hQ : ∀ h' tk, (∀ b o, b ≠ it → s.heap.get? b = some o → h'.get? b = some o) → Q items.toList.reverse { s with heap := h', toks := tk }) (hn : items.size ≤ sizeLine) :
    wpAny (model prog w) A (collect (.ref it)) Q E s := by
  obtain ⟨oi, hoi, ri⟩ := id hit
  obtain ⟨ol, hol, rl⟩ := id hl
  unfold collect
  refine wpAny_bind (wpAny_runValue (codeAny_builtin F.entry_proto_collect ?_))
  rw [Around.under_plainId F.plain_proto_collect]
  refine wpAny_bind (m := newList []) (wpAny_newObj_type (wpAny_pure ⟨plainId_quiet F.plain_list_iadd _, codeAny_builtin F.entry_list_iadd ?_⟩))
  rw [Around.under_plainId F.plain_list_iadd]
  have hS : (s.heap.push { cls := .type "list", data := .seq #[] }).get? s.heap.objs.size = some { cls := .type "list", data := .seq #[] } := Heap.get?_push_size _ rfl
  have go : ∀ R : Result → Shared → Prop, (∀ h' tk acc c, (∀ b o, b ≠ it → s.heap.get? b = some o → h'.get? b = some o) → h'.get? s.heap.objs.size = some { cls := .type "list", dict := none, data := .seq acc c, slots := #[] } → acc.toList = items.toList.reverse →
      R (.ok (.ret (.ref s.heap.objs.size))) { s with heap := h', toks := tk }) → wpAny (model prog w) A.in1 (Builtin.List.listExtendWith (.ref s.heap.objs.size) (.ref it) (.ref s.heap.objs.size))
        (fun fin s' => match fin with | .done f => R (.ok f) s' | .again c' => c'.quiet = true ∧ codeAny (model prog w) A c' R s') (fun e s' => R (.error e) s') { s with heap := s.heap.push { cls := .type "list", data := .seq #[] } } := fun R hR =>
    extend_rev (A := A) (s := { s with heap := s.heap.push { cls := .type "list", data := .seq #[] } }) hh ⟨oi, Heap.get?_push_of_some _ hoi, ri⟩ ⟨ol, Heap.get?_push_of_some _ hol, rl⟩ hne s.heap.objs.size (.ref s.heap.objs.size) 0
      (Ne.symm (Nat.ne_of_lt (Heap.lt_size hoi))) (Ne.symm (Nat.ne_of_lt (Heap.lt_size hol))) hS (fun h' tk acc' c' hk hS' hacc => hR h' tk acc' c' (fun b o hb e => hk b o (Nat.ne_of_lt (Heap.lt_size e)) hb (Heap.get?_push_of_some _ e)) hS' hacc) hn
  refine go (fun r s' => match r with
    | .ok (.ret v) => wpAny (model prog w) A (match v with
      | .ref a => do
        match (← load a).data with
        | .seq xs _ => pure xs.toList
        | _ => unsupported "internal:collect"
      | _ => unsupported "internal:collect") Q E s'
    | .ok _ => False
    | .error e => E e s') fun h' tk acc c hk hS' hacc => ?_
  refine wpAny_bind (m := load s.heap.objs.size) (wpAny_load hS' (wpAny_pure ?_))
  rw [hacc]
  exact hQ h' tk hk
theorem join_rev {Q : Value → Shared → Prop} (hh : A.handled = none) {it l : Addr} {items : Array Value} {x : Str} {t : Tok} {ys : List Str} (hit : s.heap.IsRevIter it l ((items.size : Int) - 1)) (hl : s.heap.IsList l items) (hne : l ≠ it) (hy : StrsAre items.toList.reverse ys)
    (hok : (ys.map (·.length)).sum + ys.length * x.length ≤ 16777216)
    (hQ : ∀ h' tk t', (∀ b o, b ≠ it → s.heap.get? b = some o → h'.get? b = some o) → Q (.str (Txt.join x ys) t') { s with heap := h', toks := tk }) (hn : items.size ≤ sizeLine) :
    wpAny (model prog w) A (call (.builtin "str.join") [.str x t, .ref it]) Q E s := by
  refine wpAny_call (codeAny_call_builtin F.slot_str_join.plain F.entry_str_join (F.slot_str_join.check _ _ _ _ _ _ _ _ (typeIs_str _ _ _) (F.args_str_join_2 _ _) ?_))
  rw [join_tree_other]
  refine wpAny_bind (wpAny_typeOf hit.typeIs ?_)
  rw [if_neg (by decide)]
  refine wpAny_bind (wpAny_tryCatch (wpAny_pyIter_revIter hit (wpAny_bind (collect_rev (A := A.in1) hh hit hl hne (fun h' tk hk => ?_) hn))))
  obtain ⟨lt, hv, ht⟩ := strsAre_values hy
  rw [hv]
  have hok' := joinOk_of hok
  unfold JoinOk at hok'
  rw [Bool.not_eq_true', ← ht] at hok'
  have g : Gives (joinTail x (strValues lt)) (joinMade x lt) := by
    have g0 := gives_joinTail x lt hok'
    cases lt with
    | nil => exact g0
    | cons p r => cases r with
      | nil => exact g0
      | cons q r' => exact g0
  refine g prog w A (wants Q E) { s with heap := h', toks := tk } (post_join lt ⟨joinFit_length hok', fun t' k => ?_⟩)
  rw [ht]
  exact hQ h' k t' hk
end RV
noncomputable def tJR (K : PySem.W.Frag) (t : TE) : TE := fun σ H Q => t σ H fun x H1 => ∃ (p : Addr) (ls : List (List Nat)), x = .ref p ∧ SqL K H1 p (ls.map T) ∧ ls.flatten.length ≤ sizeLine ∧ Q (T ls.reverse.flatten) H1
theorem pe_joinrev {e : Expr} {t : TE} {j} {cp apos cpos p2 pos2 : Pos} (hc : X.calm = true) (g2 : Gl X "reversed") (m2 : X.mg "reversed" = none) (he : PE X e t) {x0 : Str} (hx : x0 = tx [])
    (hbase : attributeBase (.Constant (.str x0) j cp) "join" X.env (eval (.Constant (.str x0) j cp) X.env) = eval (.Constant (.str x0) j cp) X.env := by rfl)
    (hline : (apos.endLine == cpos.line) = true := by rfl) (s1 : starEach [e] X.env = (false, eval e X.env) :: starEach [] X.env := by rfl)
    (hb2 : bootBuiltins "reversed" = some (.type "reversed") := by decide +kernel) :
    PE X (.Call (.Attribute (.Constant (.str x0) j cp) "join" apos) [.Call (.Name "reversed" p2) [e] [] pos2] [] cpos) (tJR X.K t) := by
  intro pins s σ H Q I h
  subst hx
  refine wpAny_Call_method_late hbase rfl hline rfl (Calls.Constant_str ?_)
  refine ⟨"str", "str.join", PySem.F.plainAttrs_str, PySem.F.slot_str_join, PySem.F.type_str_join, typeIs_str _ _ _, fun a z => (by cases z), ?_⟩
  refine Calls.callWith_builtin rfl (Calls.evalArgs_plain ?_)
  show wpAny _ _ (spliced ((false, eval (.Call (.Name "reversed" p2) [e] [] pos2) X.env) :: backTo cpos (starEach [] X.env))) _ _ _
  refine Calls.spliced_cons (thn (Q := fun u s1 => wpAny (model X.prog X.w) X.A (call (.builtin "str.join") [.str (tx []) s.toks, u]) (EP X pins σ Q) X.xe s1) ?_ fun u s1 z => Calls.spliced_nil z)
  have I0 : Inv X pins σ H { s with toks := s.toks + 1 } := I.tok _
  refine wpAny_Call_Name_kw (ld_blt I0 g2 m2 hb2 ?_ (by decide) (by decide))
  refine PyProof.Rows.callWith_type1 (arg1 (thn (he pins _ σ H _ I0 h) fun u s' ⟨v, H1, I1, r1, q1⟩ => ?_) s1) s1 rfl
  obtain ⟨p, ls, rfl, hq, hz2, q⟩ := q1
  cases r1
  obtain ⟨its, r, pl, hz⟩ := I1.list hq
  have hl := pl.isList
  refine call_reversed_list hl ?_
  have hlt : p < s'.heap.objs.size := by obtain ⟨o, ho, _⟩ := hl; exact Heap.lt_size ho
  have hl2 : (s'.heap.push (revObj p ((its.toArray.size : Int) - 1))).IsList p its.toArray := by
    obtain ⟨o, ho, rr⟩ := hl
    exact ⟨o, Heap.get?_push_of_some _ ho, rr⟩
  have hrv : Vals (ls.reverse.map T) its.toArray.toList.reverse := by
    rw [List.map_reverse]
    simpa using r.reverse
  have hs : sizeLine = 16777216 := sizeLine_eq
  have hfl : (ls.reverse.flatten).length = ls.flatten.length := ((List.reverse_perm ls).flatten).length_eq
  refine RV.join_rev (I1.ok.hd hc) (it := s'.heap.objs.size) (l := p) (items := its.toArray) (ys := ls.reverse.map tx) ⟨_, Heap.get?_push_size _ rfl, rfl, rfl⟩ hl2 (Nat.ne_of_lt hlt) (strsAre_T hrv) (by rw [sum_len_tx, tx_len, List.length_nil, Nat.mul_zero]; omega) (fun h' tk t' hk => ?_) (by rw [List.size_toArray, ← r.length]; exact hz)
  refine ⟨T ls.reverse.flatten, H1, I1.kept (t' := tk) fun b u eb => hk b u (Nat.ne_of_lt (Heap.lt_size eb)) (Heap.get?_push_of_some _ eb), ⟨t', by rw [join_tx]⟩, q⟩
end
end L2

set_option Elab.async false
set_option linter.all false
set_option maxRecDepth 100000
set_option maxHeartbeats 4000000

namespace L2
open PySem PySem.Spec PyProof.Rows

section
variable {P : Program} {w : World} {K : PySem.W.Frag} {mg : Str → Option Value} {base : Heap}
theorem Fun.okN {x qual : Str} {st : Stmt} {f : Addr} {fd : FuncData} {N ps : List Str} {k : Nat} {sp : Sp} (F : Fun K x qual st f fd) (S : FnScope N ps (defScope st)) (len : ∀ vs H Q E, sp vs H Q E → vs.length = ps.length)
    (hbody : ∀ (cdv : Value) (A : Around) (outer : List Env) (s : Shared) (H : Hp) (vs : List V) (Q : VK) (E : XK), Room k (A.deeper (envOfC qual (defScope st) s.heap.objs.size f cdv)) → sp vs H Q E →
      ∃ t, PSs (cxOf (CX1 P w) P w K mg base N qual (defScope st) f cdv A outer s H E).nox (defBody st) t ∧ t { nx := fun _ H' => Q .non H', rt := Q } (start N vs) H) : FnOk P w K mg base (CX1 P w) (k + 1) f fd ps sp := by
  obtain ⟨oc, od, kV, doc, pm, an, cdv, ct, osl, rfl, lk, hcd⟩ := F.ex
  refine fn_of lk hcd S len fun A outer s H vs Q E hr hsp => ?_
  obtain ⟨t, h, q⟩ := hbody cdv A outer s H vs Q E hr hsp
  exact ⟨t, h.nox, q⟩
end

namespace EX
open PySem.W PySem.Calls PySem.Builtin PySem.Builtin.ObjectAttr PySem.Builtin.Getset_descriptor
variable {prog : Program} {w : World} {A : Around} {E : Value → Shared → Prop} {s : Shared} {K : PySem.W.Frag} {a C : Addr}
end EX
section
variable {X : Cx}
theorem vals_refs : ∀ {cs : List Addr} {us : List Value}, Vals (cs.map V.ref) us → us = cs.map Value.ref
  | [], _, r => by cases r; rfl
  | c :: cs, us, r => by
    rw [List.map_cons] at r
    cases r with
    | cons r1 r2 =>
      cases r1
      rw [vals_refs r2]
      rfl
end
end L2

set_option Elab.async false
set_option linter.all false
set_option maxRecDepth 100000
set_option maxHeartbeats 4000000

namespace L2
open PySem PySem.Spec PyProof.Rows
section
variable {X : Cx} {es : List Expr} {te : TE} {t : TA}
theorem pa_cC {c : Const} {j : Nat} {p : Pos} (ha : PE X (.Constant c j p) te) (hr : PA X es t) : PA X (.Constant c j p :: es) (tCons te t) := pa_cons ha hr rfl
theorem pa_cN {x : Str} {p : Pos} (ha : PE X (.Name x p) te) (hr : PA X es t) : PA X (.Name x p :: es) (tCons te t) := pa_cons ha hr rfl
theorem pa_cT {as : List Expr} {k} {p : Pos} (ha : PE X (.Tuple as k p) te) (hr : PA X es t) : PA X (.Tuple as k p :: es) (tCons te t) := pa_cons ha hr rfl
noncomputable def cPairs : List ((Int × Nat × Pos) × (Int × Nat × Pos) × Nat × Pos) → List Expr
  | [] => []
  | ((i, j, p), (i', j', p'), k, q) :: r => .Tuple [.Constant (.int i) j p, .Constant (.int i') j' p'] k q :: cPairs r
noncomputable def tPairs : List (Int × Int) → TA
  | [] => fun _ H Q => Q [] H
  | (a, b) :: r => fun σ H Q => ∀ t, H t = none → tPairs r σ (upd H t (.tup [.int a, .int b])) fun vs H1 => Q (.ref t :: vs) H1
theorem pa_pairs : ∀ l : List ((Int × Nat × Pos) × (Int × Nat × Pos) × Nat × Pos), PA X (cPairs l) (tPairs (l.map fun x => (x.1.1, x.2.1.1)))
  | [] => pa_nil
  | ((i, j, p), (i', j', p'), k, q) :: r => fun pos pins s σ H Q I h => by
    have h0 : PE X (.Tuple [.Constant (.int i) j p, .Constant (.int i') j' p'] k q) (tTup (tCons (tC (.int i)) (tCons (tC (.int i')) tNil))) := pe_tup (pa_cC pe_int (pa_cC pe_int pa_nil))
    refine pa_cT (X := X) h0 (pa_pairs r) pos pins s σ H Q I ⟨?_, fun t ht => h t ht⟩
    have hs : sizeLine = 16777216 := sizeLine_eq
    show 2 ≤ sizeLine
    omega
theorem pairs_use : ∀ (l : List (Int × Int)) {σ : St} {H : Hp} {Q : List V → Hp → Prop},
    (∀ vs H1, vs.length = l.length → Same H H1 → (∀ (j : Nat) (p : Int × Int), l[j]? = some p → ∃ t, vs[j]? = some (.ref t) ∧ H1 t = some (.tup [.int p.1, .int p.2])) → Q vs H1) → tPairs l σ H Q
  | [], _, H, _, h => h [] H rfl (Same.refl _) fun j p e => by cases e
  | (a, b) :: r, σ, H, Q, h => fun t ht => by
    refine pairs_use r fun vs H1 hl hs hv => h (.ref t :: vs) H1 (by rw [List.length_cons, hl, List.length_cons]) (fun c o e => hs c o (by rw [upd_ne (ne_of_none e ht)]; exact e)) fun j p e => ?_
    cases j with
    | zero =>
      have e' : (a, b) = p := by simpa using e
      subst e'
      exact ⟨t, rfl, hs t _ upd_same⟩
    | succ j =>
      obtain ⟨t', h1, h2⟩ := hv j p (by simpa using e)
      exact ⟨t', by simpa using h1, h2⟩
end
end L2

set_option Elab.async false
set_option linter.all false
set_option maxRecDepth 100000
set_option maxHeartbeats 4000000

namespace L2
open PySem PySem.Spec PyProof.Rows
section
variable {X : Cx} {tg : Expr}
end
end L2

set_option Elab.async false
set_option linter.all false
set_option maxRecDepth 100000
namespace L2
open PySem
section
variable {X : Cx} {N' : List Str} {scope : Scope} {x : Str} {px : Pos} {elt iter cd : Expr} {pos : Pos} {te : TE} {tc : TT} {wi : TI}

theorem pe_compf (S : CompSc X.N N' X.env.scope scope x) (hc : X.calm = true) (hi : PI X (.Name x px) iter wi) (ht : ∀ cl C s H fp, PT (cxComp X N' scope cl C s H fp) cd tc) (he : ∀ cl C s H fp, PE (cxComp X N' scope cl C s H fp) elt te)
    (hs : ∀ x, foldedSetIterable iter X.env x = pure x := by intro _; rfl) : PE X (.ListComp elt [⟨.Name x px, iter, [cd], 0⟩] scope pos) (tCompF wi tc te) :=
  pe_compx (at' := fun σ Q => compAtF tc te σ Q) S hc hi (fun cl C s H fp => ptl_one (ht cl C s H fp)) he (fun _ _ _ _ h => h) hs
end

section
variable {X : Cx}
end
theorem take_filter {α : Type} (p : α → Bool) (l : List α) (i : Nat) (v : α) (h : l[i]? = some v) : (l.take (i + 1)).filter p = (l.take i).filter p ++ (if p v then [v] else []) := by
  rw [List.take_add_one, h, List.filter_append]
  cases hp : p v <;> simp [hp]
theorem filter_take_len {α : Type} (p : α → Bool) (l : List α) (i : Nat) : ((l.take i).filter p).length ≤ i := by
  have h1 := List.length_filter_le p (l.take i)
  rw [List.length_take] at h1
  omega
theorem cutL_take (w : List Nat) (k : Nat) : cutL w none (some (k : Int)) = w.take k := by
  unfold cutL
  rw [HT.sIx_nat, HT.sIx_none, List.drop_zero, Nat.sub_zero]
  by_cases h : k ≤ w.length
  · rw [Nat.min_eq_left h]
  · rw [Nat.min_eq_right (by omega), List.take_length, List.take_of_length_le (by omega)]
end L2

set_option autoImplicit false
set_option linter.all false
set_option maxRecDepth 100000
namespace SR
open PySem PyProof.Rows
noncomputable def LtR (prog : Program) (w : World) (A : Around) (E : Value → Shared → Prop) (s : Shared) (κ : KeyKind) (kd : SortKind) : Prop :=
  ∀ (st : SortSt) (x y : Keyed) (a b : κ.α) (Q : Option Bool → SortSt → Prop), kindOf st = kd → κ.keyOf x.1 = some a → κ.keyOf y.1 = some b → Q (some (κ.blt a b)) st → wpS (model prog w) A E s (lt' x y) Q st
theorem ltR_of {prog : Program} {w : World} {A : Around} {E : Value → Shared → Prop} {s : Shared} {κ : KeyKind} {kd : SortKind}
    (h : ∀ (E : Value → Shared → Prop) (x y : Value) (a b : κ.α) (Q : Bool → Shared → Prop), κ.keyOf x = some a → κ.keyOf y = some b → Q (κ.blt a b) s → wpAny (model prog w) A (keyLt' kd x y) Q E s) : LtR prog w A E s κ kd := by
  intro st x y a b Q hk ha hb hq
  rw [lt'_eq]; refine wpS_bind (wpS_get ?_); rw [hk]
  exact wpS_bind (wpS_lift (wpAny_attempt (h _ x.1 y.1 a b _ ha hb ⟨rfl, wpS_pure hq⟩)))
theorem ltR_one {prog : Program} {w : World} {A : Around} {E : Value → Shared → Prop} {s : Shared} {κ : KeyKind} (hO : κ.OneLt) : LtR prog w A E s κ oneType' :=
  ltR_of fun E x y a b Q ha hb hq => by rw [keyLt'_oneType]; exact hO prog w A E s x y a b ha hb hq
set_option genInjectivity false in
structure SB (kd : SortKind) (z : Array Keyed) (st : SortSt) : Prop where
  prm : (arrOf st).Perm z
  knd : kindOf st = kd
  ffl : failedOf st = none
theorem SB.sz {kd : SortKind} {z : Array Keyed} {st : SortSt} (h : SB kd z st) : (arrOf st).size = z.size := h.prm.size_eq
theorem SB.put {kd : SortKind} {z : Array Keyed} {st : SortSt} (h : SB kd z st) {xs : Array Keyed} (hp : xs.Perm (arrOf st)) : SB kd z (setArr st xs) := ⟨hp.trans h.prm, h.knd, h.ffl⟩
noncomputable def Up (κ : KeyKind) (xs : Array Keyed) (l r : Nat) : Prop := ∀ i j, l ≤ i → i ≤ j → j < r → κ.kle (KK κ xs i) (KK κ xs j)
noncomputable def Dn (κ : KeyKind) (xs : Array Keyed) (l r : Nat) : Prop := ∀ i j, l ≤ i → i ≤ j → j < r → κ.kle (KK κ xs j) (KK κ xs i)
set_option genInjectivity false in
structure Kp (lo : Nat) (st st' : SortSt) : Prop where
  low : ∀ k, k < lo → (arrOf st')[k]? = (arrOf st)[k]?
  pen : pendingOf st' = pendingOf st
theorem Kp.rfl' {lo : Nat} {st : SortSt} : Kp lo st st := ⟨fun _ _ => rfl, rfl⟩
theorem Kp.tr {lo : Nat} {a b c : SortSt} (h : Kp lo a b) (h' : Kp lo b c) : Kp lo a c := ⟨fun k hk => (h'.low k hk).trans (h.low k hk), h'.pen.trans h.pen⟩
theorem kp_mirror {lo i j : Nat} {st : SortSt} (hj : j ≤ (arrOf st).size) (hi : lo ≤ i) : Kp lo st (setArr st (mirror (arrOf st) i j ((j - i) / 2))) := ⟨fun k hk => by
  show (mirror (arrOf st) i j ((j - i) / 2))[k]? = _
  rw [getElem?_mirror_all hj, if_neg (by omega)], rfl⟩
section
variable {prog : Program} {w : World} {A : Around} {E : Value → Shared → Prop} {s : Shared} {z : Array Keyed} {κ : KeyKind} {kd : SortKind}
theorem SB.key {st : SortSt} (h : SB kd z st) (hz : KeysOf κ z) {i : Nat} (hi : i < z.size) : ∃ x p a, (arrOf st)[i]? = some (x, p) ∧ κ.keyOf x = some a ∧ KK κ (arrOf st) i = a := by
  have hi' : i < (arrOf st).size := by rw [h.sz]; exact hi
  have hm : (arrOf st)[i] ∈ z.toList := (Array.perm_iff_toList_perm.mp h.prm).mem_iff.mp (by simp)
  obtain ⟨a, ha⟩ := hz _ hm
  have e : (arrOf st)[i]? = some (arrOf st)[i] := getElem?_pos _ i hi'
  exact ⟨(arrOf st)[i].1, (arrOf st)[i].2, a, by rw [e], ha, by unfold KK; rw [e]; simp [ha]⟩
theorem w_lt {st : SortSt} {i j : Nat} {Q : Option Bool → SortSt → Prop} (hO : LtR prog w A E s κ kd) (hB : SB kd z st) (hz : KeysOf κ z) (hi : i < z.size) (hj : j < z.size)
    (h : Q (some (κ.blt (KK κ (arrOf st) i) (KK κ (arrOf st) j))) st) : wpS (model prog w) A E s (ltAt' i j) Q st := by
  obtain ⟨x, p, a, e1, ha, ka⟩ := hB.key hz hi
  obtain ⟨y, q, b, e2, hb, kb⟩ := hB.key hz hj
  rw [ka, kb] at h
  rw [ltAt'_eq]; refine wpS_bind (wpS_get ?_); dsimp only
  rw [elem'_eq, elem'_eq, e1, e2]; refine wpS_bind (wpS_pure (wpS_bind (wpS_pure ?_)))
  exact hO st (x, p) (y, q) a b Q hB.knd ha hb h
noncomputable def upL (lo a m : Nat) : StateT SortSt Sem AscSt :=
  forIn [a:m] ((none, a) : AscSt) fun _ c => do
    let o ← ltAt' (lo + c.snd) (lo + c.snd - 1)
    match o with
    | some t => if t = true then pure (ForInStep.done (none, c.snd)) else pure (ForInStep.yield (none, c.snd + 1))
    | _ => pure (ForInStep.done (some none, c.snd))
noncomputable def endL (lo n m : Nat) : StateT SortSt Sem (Option Nat) := do
  reverseSlice' lo (lo + n)
  let c ← upL lo n m
  match c.fst with
  | some r => pure r
  | none => pure (some c.snd)
noncomputable def dnL (lo n m : Nat) : StateT SortSt Sem DescSt :=
  forIn [n:m] ((none, n, 0) : DescSt) fun _ c => do
    let o ← ltAt' (lo + c.snd.fst) (lo + c.snd.fst - 1)
    match o with
    | some t =>
      if t = true then
        if c.snd.snd > 0 then do
          reverseSlice' (lo + c.snd.fst - (c.snd.snd + 1)) (lo + c.snd.fst)
          pure (ForInStep.yield (none, c.snd.fst + 1, 0))
        else pure (ForInStep.yield (none, c.snd.fst + 1, 0))
      else do
        let o ← ltAt' (lo + c.snd.fst - 1) (lo + c.snd.fst)
        match o with
        | some t => if t = true then pure (ForInStep.done (none, c.snd.fst, c.snd.snd)) else pure (ForInStep.yield (none, c.snd.fst + 1, c.snd.snd + 1))
        | _ => pure (ForInStep.done (some none, c.snd.fst, c.snd.snd))
    | _ => pure (ForInStep.done (some none, c.snd.fst, c.snd.snd))
noncomputable def dnP (lo n m : Nat) : StateT SortSt Sem (Option Nat) := do
  liftM (rule "list.sort.descending-run")
  let c ← dnL lo (n + 1) m
  match c.fst with
  | some r => pure r
  | none =>
    if c.snd.snd > 0 then do
      reverseSlice' (lo + c.snd.fst - (c.snd.snd + 1)) (lo + c.snd.fst)
      endL lo c.snd.fst m
    else endL lo c.snd.fst m
theorem bnd {α β : Type} {x y : StateT SortSt Sem α} {f g : α → StateT SortSt Sem β} (h : x = y) (h' : ∀ a, f a = g a) : (x >>= f) = (y >>= g) := by
  rw [h, show f = g from funext h']
theorem run_eq (lo m : Nat) : countRun' lo m = (do
    let c ← upL lo 1 m
    match c.fst with
    | some r => pure r
    | none =>
      if (c.snd == m) = true then pure (some c.snd)
      else if c.snd > 1 then do
        let o ← ltAt' lo (lo + c.snd - 1)
        match o with
        | some t => if t = true then pure (some c.snd) else do
            reverseSlice' lo (lo + c.snd)
            dnP lo c.snd m
        | _ => pure none
      else dnP lo c.snd m) := by
  rw [countRun'_eq]
  unfold dnP endL dnL upL
  refine bnd rfl fun c => ?_
  obtain ⟨r, n⟩ := c
  cases r with
  | some r => rfl
  | none =>
    dsimp only
    split
    · rfl
    · split
      · refine bnd rfl fun x => ?_
        cases x with
        | none => rfl
        | some t =>
          dsimp only
          split
          · rfl
          · refine bnd rfl fun _r => ?_
            refine bnd rfl fun _u => ?_
            refine bnd rfl fun s2 => ?_
            obtain ⟨r2, n2, q2⟩ := s2
            cases r2 with
            | some r2 => rfl
            | none =>
              dsimp only
              split
              · refine bnd rfl fun _v => ?_
                (refine bnd rfl fun _w => ?_; refine bnd rfl fun s3 => ?_; obtain ⟨r3, n3⟩ := s3; cases r3 <;> rfl)
              · (refine bnd rfl fun _w => ?_; refine bnd rfl fun s3 => ?_; obtain ⟨r3, n3⟩ := s3; cases r3 <;> rfl)
      · refine bnd rfl fun _u => ?_
        refine bnd rfl fun s2 => ?_
        obtain ⟨r2, n2, q2⟩ := s2
        cases r2 with
        | some r2 => rfl
        | none =>
          dsimp only
          split
          · refine bnd rfl fun _v => ?_
            (refine bnd rfl fun _w => ?_; refine bnd rfl fun s3 => ?_; obtain ⟨r3, n3⟩ := s3; cases r3 <;> rfl)
          · (refine bnd rfl fun _w => ?_; refine bnd rfl fun s3 => ?_; obtain ⟨r3, n3⟩ := s3; cases r3 <;> rfl)
theorem up_one {xs : Array Keyed} {l : Nat} : Up κ xs l (l + 1) := fun i j h1 h2 h3 => by
  obtain rfl : i = j := by omega
  exact KeyOrd.kle_refl _
theorem up_snoc {xs : Array Keyed} {l r : Nat} (hr : l < r) (h : Up κ xs l r) (hl : κ.kle (KK κ xs (r - 1)) (KK κ xs r)) : Up κ xs l (r + 1) := fun i j h1 h2 h3 => by
  by_cases hj : j < r
  · exact h i j h1 h2 hj
  · obtain rfl : j = r := by omega
    by_cases hi : i = j
    · subst hi; exact KeyOrd.kle_refl _
    · exact KeyOrd.kle_trans (h i (j - 1) h1 (by omega) (by omega)) hl
theorem dn_snoc {xs : Array Keyed} {l r : Nat} (hr : l < r) (h : Dn κ xs l r) (hl : κ.kle (KK κ xs r) (KK κ xs (r - 1))) : Dn κ xs l (r + 1) := fun i j h1 h2 h3 => by
  by_cases hj : j < r
  · exact h i j h1 h2 hj
  · obtain rfl : j = r := by omega
    by_cases hi : i = j
    · subst hi; exact KeyOrd.kle_refl _
    · exact KeyOrd.kle_trans hl (h i (j - 1) h1 (by omega) (by omega))
theorem w_up {st : SortSt} {lo a m : Nat} {Q : AscSt → SortSt → Prop} (hO : LtR prog w A E s κ kd) (hz : KeysOf κ z) (hm : lo + m ≤ z.size) (ha : 1 ≤ a) (ham : a ≤ m) (hB : SB kd z st) (hs : Up κ (arrOf st) lo (lo + a))
    (h : ∀ n, a ≤ n → n ≤ m → Up κ (arrOf st) lo (lo + n) → (n = m ∨ κ.klt (KK κ (arrOf st) (lo + n)) (KK κ (arrOf st) (lo + n - 1))) → Q (none, n) st) : wpS (model prog w) A E s (upL lo a m) Q st := by
  unfold upL
  refine wpS_forRange (I := fun x c st' => st' = st ∧ c = (none, x) ∧ Up κ (arrOf st) lo (lo + x)) ?sp ?fi ⟨rfl, rfl, hs⟩
  case fi =>
    rintro c st' ⟨rfl, rfl, hu⟩
    rw [show max a m = m by omega] at hu ⊢
    exact h m ham (Nat.le_refl _) hu (.inl rfl)
  case sp =>
    rintro x c st' hax hxm ⟨rfl, rfl, hu⟩
    dsimp only
    refine wpS_bind (w_lt hO hB hz (by omega) (by omega) ?_)
    cases hq : κ.blt (KK κ (arrOf st') (lo + x)) (KK κ (arrOf st') (lo + x - 1)) with
    | true =>
      simp only [if_true]
      exact wpS_pure (h x hax (by omega) hu (.inr hq))
    | false =>
      simp only [Bool.false_eq_true, if_false]
      exact wpS_pure ⟨rfl, rfl, up_snoc (r := lo + x) (by omega) hu hq⟩
theorem w_end {st : SortSt} {lo n m : Nat} {Q : Option Nat → SortSt → Prop} (hO : LtR prog w A E s κ kd) (hz : KeysOf κ z) (hm : lo + m ≤ z.size) (h1 : 1 ≤ n) (hn : n ≤ m) (hB : SB kd z st) (hs : Dn κ (arrOf st) lo (lo + n))
    (h : ∀ k st', SB kd z st' → Kp lo st st' → 1 ≤ k → k ≤ m → Up κ (arrOf st') lo (lo + k) → Q (some k) st') : wpS (model prog w) A E s (endL lo n m) Q st := by
  unfold endL
  have hsz : lo + n ≤ (arrOf st).size := by rw [hB.sz]; omega
  refine wpS_bind (wpS_reverse ?_)
  have hB' : SB kd z (setArr st (mirror (arrOf st) lo (lo + n) ((lo + n - lo) / 2))) := hB.put (mirror_perm _ _ _ _)
  refine wpS_bind (w_up hO hz hm h1 hn hB' ?_ fun k hk1 hk2 hu _ => wpS_pure (h k _ hB' (kp_mirror hsz (Nat.le_refl _)) (by omega) hk2 hu))
  intro i j hi hij hj
  show κ.kle (KK κ (mirror (arrOf st) lo (lo + n) ((lo + n - lo) / 2)) i) (KK κ (mirror (arrOf st) lo (lo + n) ((lo + n - lo) / 2)) j)
  rw [KK_mirror hsz, KK_mirror hsz, if_pos ⟨by omega, by omega⟩, if_pos ⟨by omega, by omega⟩]
  exact hs _ _ (by omega) (by omega) (by omega)
theorem w_dn {st : SortSt} {lo n m : Nat} {Q : DescSt → SortSt → Prop} (hO : LtR prog w A E s κ kd) (hz : KeysOf κ z) (hm : lo + m ≤ z.size) (h1 : 1 ≤ n) (hn : n ≤ m) (hB : SB kd z st) (hs : Dn κ (arrOf st) lo (lo + n))
    (h : ∀ k e st', SB kd z st' → Kp lo st st' → n ≤ k → k ≤ m → Dn κ (arrOf st') lo (lo + k) → e + 1 ≤ k → (∀ i, lo + k - (e + 1) ≤ i → i < lo + k → KK κ (arrOf st') i = KK κ (arrOf st') (lo + k - 1)) → Q (none, k, e) st') :
    wpS (model prog w) A E s (dnL lo n m) Q st := by
  unfold dnL
  refine wpS_forRange (I := fun x c st' => ∃ e, c = (none, x, e) ∧ SB kd z st' ∧ Kp lo st st' ∧ Dn κ (arrOf st') lo (lo + x) ∧ e + 1 ≤ x ∧ (∀ i, lo + x - (e + 1) ≤ i → i < lo + x → KK κ (arrOf st') i = KK κ (arrOf st') (lo + x - 1))) ?sp ?fi
    ⟨0, rfl, hB, Kp.rfl', hs, by omega, fun i g1 g2 => by rw [show i = lo + n - 1 by omega]⟩
  case fi =>
    rintro c st' ⟨e, rfl, hB', hk', hd, he, hq⟩
    rw [show max n m = m by omega] at hd he hq ⊢
    exact h m e st' hB' hk' hn (Nat.le_refl _) hd he hq
  case sp =>
    rintro x c st' hax hxm ⟨e, rfl, hB', hk', hd, he, hq⟩
    dsimp only
    have hsz : lo + x ≤ (arrOf st').size := by rw [hB'.sz]; omega
    refine wpS_bind (w_lt hO hB' hz (by omega) (by omega) ?_)
    cases hl : κ.blt (KK κ (arrOf st') (lo + x)) (KK κ (arrOf st') (lo + x - 1)) with
    | true =>
      simp only [if_true]
      have hstep : ∀ xs : Array Keyed, (∀ k, KK κ xs k = KK κ (arrOf st') k) → Dn κ xs lo (lo + (x + 1)) := fun xs hk => by
        have h2 := dn_snoc (r := lo + x) (by omega) hd (KeyOrd.kle_of_klt hl)
        intro i j g1 g2 g3
        rw [hk, hk]
        exact h2 i j g1 g2 (by omega)
      by_cases he0 : e > 0
      · rw [if_pos he0]
        exact wpS_bind (wpS_reverse (wpS_pure ⟨0, rfl, hB'.put (mirror_perm _ _ _ _), hk'.tr (kp_mirror hsz (by omega)), hstep _ (KK_mirror_equal hsz hq), by omega, fun i g1 g2 => by rw [show i = lo + (x + 1) - 1 by omega]⟩))
      · rw [if_neg he0]
        exact wpS_pure ⟨0, rfl, hB', hk', hstep _ (fun _ => rfl), by omega, fun i g1 g2 => by rw [show i = lo + (x + 1) - 1 by omega]⟩
    | false =>
      simp only [Bool.false_eq_true, if_false]
      refine wpS_bind (w_lt hO hB' hz (by omega) (by omega) ?_)
      cases hg : κ.blt (KK κ (arrOf st') (lo + x - 1)) (KK κ (arrOf st') (lo + x)) with
      | true =>
        simp only [if_true]
        exact wpS_pure (h x e st' hB' hk' hax (by omega) hd he hq)
      | false =>
        simp only [Bool.false_eq_true, if_false]
        have hx : KK κ (arrOf st') (lo + x) = KK κ (arrOf st') (lo + x - 1) := KeyOrd.kle_antisymm hg hl
        refine wpS_pure ⟨e + 1, rfl, hB', hk', dn_snoc (r := lo + x) (by omega) hd hg, by omega, fun i g1 g2 => ?_⟩
        rw [show lo + (x + 1) - 1 = lo + x by omega]
        by_cases hi : i = lo + x
        · rw [hi]
        · rw [hx]; exact hq i (by omega) (by omega)
theorem w_dnP {st : SortSt} {lo n m : Nat} {Q : Option Nat → SortSt → Prop} (hO : LtR prog w A E s κ kd) (hz : KeysOf κ z) (hm : lo + m ≤ z.size) (hn : n + 1 ≤ m) (hB : SB kd z st) (hs : Dn κ (arrOf st) lo (lo + (n + 1)))
    (h : ∀ k st', SB kd z st' → Kp lo st st' → 1 ≤ k → k ≤ m → Up κ (arrOf st') lo (lo + k) → Q (some k) st') : wpS (model prog w) A E s (dnP lo n m) Q st := by
  unfold dnP
  refine wpS_bind (wpS_lift (wpAny_rule ⟨rfl, ?_⟩))
  refine wpS_bind (w_dn hO hz hm (by omega) hn hB hs fun k e st' hB' hk' hk1 hk2 hd he hq => ?_)
  dsimp only
  have hsz : lo + k ≤ (arrOf st').size := by rw [hB'.sz]; omega
  by_cases he0 : e > 0
  · rw [if_pos he0]
    refine wpS_bind (wpS_reverse (w_end hO hz hm (by omega) hk2 (hB'.put (mirror_perm _ _ _ _)) ?_ fun j st2 b1 b2 b3 b4 b5 => h j st2 b1 ((hk'.tr (kp_mirror hsz (by omega))).tr b2) b3 b4 b5))
    intro i j hi hij hj
    show κ.kle (KK κ (mirror (arrOf st') _ _ _) j) (KK κ (mirror (arrOf st') _ _ _) i)
    rw [KK_mirror_equal hsz hq, KK_mirror_equal hsz hq]
    exact hd i j hi hij hj
  · rw [if_neg he0]
    exact w_end hO hz hm (by omega) hk2 hB' hd fun j st2 b1 b2 b3 b4 b5 => h j st2 b1 (hk'.tr b2) b3 b4 b5
theorem w_run {st : SortSt} {lo m : Nat} {Q : Option Nat → SortSt → Prop} (hO : LtR prog w A E s κ kd) (hz : KeysOf κ z) (hm : lo + m ≤ z.size) (h1 : 1 ≤ m) (hB : SB kd z st)
    (h : ∀ k st', SB kd z st' → Kp lo st st' → 1 ≤ k → k ≤ m → Up κ (arrOf st') lo (lo + k) → Q (some k) st') : wpS (model prog w) A E s (countRun' lo m) Q st := by
  rw [run_eq]
  refine wpS_bind (w_up hO hz hm (Nat.le_refl 1) h1 hB up_one fun n hn1 hn2 hu hor => ?_)
  dsimp only
  by_cases hnm : n = m
  · rw [if_pos (by simpa using hnm)]
    exact wpS_pure (h n st hB Kp.rfl' hn1 hn2 hu)
  · rw [if_neg (by simpa using hnm)]
    have hlt := hor.resolve_left hnm
    by_cases hgt : n > 1
    · rw [if_pos hgt]
      refine wpS_bind (w_lt hO hB hz (by omega) (by omega) ?_)
      cases hr : κ.blt (KK κ (arrOf st) lo) (KK κ (arrOf st) (lo + n - 1)) with
      | true =>
        simp only [if_true]
        exact wpS_pure (h n st hB Kp.rfl' hn1 hn2 hu)
      | false =>
        simp only [Bool.false_eq_true, if_false]
        have hsz : lo + n ≤ (arrOf st).size := by rw [hB.sz]; omega
        have hall : ∀ k, lo ≤ k → k < lo + n → KK κ (arrOf st) k = KK κ (arrOf st) (lo + n - 1) := fun k k1 k2 =>
          KeyOrd.kle_antisymm (hu k (lo + n - 1) k1 (by omega) (by omega)) (KeyOrd.kle_trans hr (hu lo k (Nat.le_refl _) k1 k2))
        refine wpS_bind (wpS_reverse (w_dnP hO hz hm (by omega) (hB.put (mirror_perm _ _ _ _)) ?_ fun j st2 b1 b2 b3 b4 b5 => h j st2 b1 ((kp_mirror hsz (Nat.le_refl _)).tr b2) b3 b4 b5))
        have hd : Dn κ (arrOf st) lo (lo + n) := fun i j g1 g2 g3 => by rw [hall i (by omega) (by omega), hall j (by omega) (by omega)]; exact KeyOrd.kle_refl _
        have hd2 := dn_snoc (by omega) hd (KeyOrd.kle_of_klt hlt)
        intro i j g1 g2 g3
        show κ.kle (KK κ (mirror (arrOf st) _ _ _) j) (KK κ (mirror (arrOf st) _ _ _) i)
        rw [KK_mirror_equal hsz hall, KK_mirror_equal hsz hall]
        exact hd2 i j g1 g2 (by omega)
    · rw [if_neg hgt]
      obtain rfl : n = 1 := by omega
      refine w_dnP hO hz hm (by omega) hB ?_ h
      refine dn_snoc (by omega) (fun i j g1 g2 g3 => ?_) (KeyOrd.kle_of_klt hlt)
      obtain rfl : i = j := by omega
      exact KeyOrd.kle_refl _
theorem w_ins {st : SortSt} {lo n ok : Nat} {Q : Bool → SortSt → Prop} (hO : LtR prog w A E s κ kd) (hz : KeysOf κ z) (hn : lo + n ≤ z.size) (h1 : 1 ≤ ok) (hok : ok ≤ n) (hB : SB kd z st) (hs : Up κ (arrOf st) lo (lo + ok))
    (h : ∀ st', SB kd z st' → Kp lo st st' → Up κ (arrOf st') lo (lo + n) → Q true st') : wpS (model prog w) A E s (binarySort' lo n ok) Q st := by
  rw [binarySort'_eq]
  refine wpS_bind (wpS_mono (wpS_forRange (I := fun k c st' => c = (none, ()) ∧ SB kd z st' ∧ Kp lo st st' ∧ Up κ (arrOf st') lo (lo + k)) (Q := fun c st' => c = (none, ()) ∧ SB kd z st' ∧ Kp lo st st' ∧ Up κ (arrOf st') lo (lo + n)) ?sp ?fi ?ini) ?po)
  case po =>
    rintro c st' ⟨rfl, hB', hk', hu⟩
    exact wpS_pure (h st' hB' hk' hu)
  case ini =>
    rw [Nat.max_eq_left h1]
    exact ⟨rfl, hB, Kp.rfl', hs⟩
  case fi =>
    rintro c st' ⟨hc, hB', hk', hu⟩
    rw [Nat.max_eq_left h1, Nat.max_eq_right hok] at hu
    exact ⟨hc, hB', hk', hu⟩
  case sp =>
    rintro k c st' hak hkn ⟨rfl, hB', hk', hu⟩
    have hk : lo + k < z.size := by omega
    refine wpS_bind (wpS_mono (wpS_forRange (I := fun x c st2 => st2 = st' ∧ ∃ l r, c = (none, l, r) ∧ l ≤ r ∧ r ≤ k ∧ r - l ≤ k - x ∧ (∀ i, i < l → κ.kle (KK κ (arrOf st') (lo + i)) (KK κ (arrOf st') (lo + k))) ∧ (∀ i, r ≤ i → i < k → κ.klt (KK κ (arrOf st') (lo + k)) (KK κ (arrOf st') (lo + i))))
      (Q := fun c st2 => st2 = st' ∧ ∃ l r, c = (none, l, r) ∧ l ≤ k ∧ (∀ i, i < l → κ.kle (KK κ (arrOf st') (lo + i)) (KK κ (arrOf st') (lo + k))) ∧ (∀ i, l ≤ i → i < k → κ.klt (KK κ (arrOf st') (lo + k)) (KK κ (arrOf st') (lo + i)))) ?isp ?ifi ?iini) ?ipo)
    case iini => exact ⟨rfl, 0, k, rfl, Nat.zero_le _, Nat.le_refl _, by omega, fun i g => absurd g (Nat.not_lt_zero i), fun i g1 g2 => absurd g2 (Nat.not_lt.mpr g1)⟩
    case ifi =>
      rintro c st2 ⟨rfl, l, r, rfl, hlr, hrk, hx, hlo, hhi⟩
      obtain rfl : l = r := by omega
      exact ⟨rfl, l, l, rfl, hrk, hlo, hhi⟩
    case isp =>
      rintro x c st2 _ hxk ⟨rfl, l, r, rfl, hlr, hrk, hx, hlo, hhi⟩
      dsimp only
      by_cases hge : l ≥ r
      · rw [if_pos hge]
        obtain rfl : l = r := by omega
        exact wpS_pure ⟨rfl, l, l, rfl, hrk, hlo, hhi⟩
      · rw [if_neg hge]
        refine wpS_bind (w_lt hO hB' hz hk (by omega) ?_)
        cases hl : κ.blt (KK κ (arrOf st2) (lo + k)) (KK κ (arrOf st2) (lo + (l + r) / 2)) with
        | true =>
          simp only [if_true]
          exact wpS_pure ⟨rfl, l, (l + r) / 2, rfl, by omega, by omega, by omega, hlo, fun i g1 g2 => KeyOrd.klt_of_klt_of_kle hl (hu _ _ (by omega) (by omega) (by omega))⟩
        | false =>
          simp only [Bool.false_eq_true, if_false]
          exact wpS_pure ⟨rfl, (l + r) / 2 + 1, r, rfl, by omega, by omega, by omega, fun i g => KeyOrd.kle_trans (hu (lo + i) (lo + (l + r) / 2) (by omega) (by omega) (by omega)) hl, hhi⟩
    case ipo =>
      rintro c st2 ⟨rfl, l, r, rfl, hlk, hlo, hhi⟩
      show wpS _ _ _ _ (do moveDown' (lo + k) (lo + l); pure (ForInStep.yield (none, ()))) _ _
      rw [moveDown'_eq]
      have hks : lo + k < (arrOf st2).size := by rw [hB'.sz]; exact hk
      refine wpS_bind (wpS_modify (wpS_pure ⟨rfl, hB'.put (bubble_perm _ _ _), hk'.tr ⟨fun i hi => ?_, rfl⟩, ?_⟩))
      · show (bubble (arrOf st2) (lo + k) (lo + k - (lo + l)))[i]? = _
        rw [getElem?_bubble hks _ (by omega), if_neg (by omega), if_neg (by omega)]
      intro i j g1 g2 g3
      show κ.kle (KK κ (bubble (arrOf st2) (lo + k) (lo + k - (lo + l))) i) (KK κ (bubble (arrOf st2) (lo + k) (lo + k - (lo + l))) j)
      rw [KK_bubble hks (by omega), KK_bubble hks (by omega), Nat.sub_sub_self (Nat.add_le_add_left hlk lo)]
      have hlo' : ∀ i, lo ≤ i → i < lo + l → κ.kle (KK κ (arrOf st2) i) (KK κ (arrOf st2) (lo + k)) := fun i g1 g2 => by
        have := hlo (i - lo) (by omega)
        rwa [Nat.add_sub_cancel' g1] at this
      have hhi' : ∀ i, lo + l ≤ i → i < lo + k → κ.klt (KK κ (arrOf st2) (lo + k)) (KK κ (arrOf st2) i) := fun i g1 g2 => by
        have := hhi (i - lo) (by omega) (by omega)
        rwa [Nat.add_sub_cancel' (Nat.le_trans (Nat.le_add_right lo l) g1)] at this
      repeat' split
      all_goals first
        | (exfalso; omega)
        | exact KeyOrd.kle_refl _
        | exact hlo' _ (by omega) (by omega)
        | exact KeyOrd.kle_of_klt (hhi' _ (by omega) (by omega))
        | exact hu _ _ (by omega) (by omega) (by omega)
end
end SR

set_option autoImplicit false
set_option linter.all false
set_option maxRecDepth 100000
namespace SR
open PySem PyProof.Rows
noncomputable def gal' : Bool → Keyed → Array Keyed → Nat → Nat → Nat → StateT SortSt Sem (Option Nat) := sortPriv% PySem.Builtin.gallop
noncomputable def bq (left : Bool) (key : Keyed) (arr : Array Keyed) (base : Nat) (i : Nat) : StateT SortSt Sem (Option Bool) := do
  let x ← elem' arr (base + i)
  if left then lt' x key else return (← lt' key x).map (!·)
theorem gal'_eq (left : Bool) (key : Keyed) (arr : Array Keyed) (base n hint : Nat) : gal' left key arr base n hint = (do
  let mut la := 0
  let mut po := 1
  let mut l := 0
  let mut h := 0
  let some r0 ← bq left key arr base hint | return none
  if r0 then
    let mx := n - hint
    for _ in [0:n] do
      if po ≥ mx then break
      let some mo ← bq left key arr base (hint + po) | return none
      if !mo then break
      la := po
      po := 2 * po + 1
    l := hint + la + 1
    h := hint + min po mx
  else
    let mx := hint + 1
    for _ in [0:n] do
      if po ≥ mx then break
      let some mo ← bq left key arr base (hint - po) | return none
      if mo then break
      la := po
      po := 2 * po + 1
    l := hint + 1 - min po mx
    h := hint - la
  for _ in [0:n] do
    if l ≥ h then break
    let m := l + (h - l) / 2
    let some mo ← bq left key arr base m | return none
    if mo then l := m + 1 else h := m
  return some h) := rfl
section
variable {prog : Program} {w : World} {A : Around} {E : Value → Shared → Prop} {s : Shared} {z : Array Keyed} {κ : KeyKind} {kd : SortKind}
theorem w_eq {α : Type} {m m' : StateT SortSt Sem α} {Q : α → SortSt → Prop} {st : SortSt} (e : m = m') (h : wpS (model prog w) A E s m' Q st) : wpS (model prog w) A E s m Q st := e ▸ h
theorem w_lt2 {st : SortSt} {x y : Keyed} {a b : κ.α} {Q : Option Bool → SortSt → Prop} (hO : LtR prog w A E s κ kd) (hk : kindOf st = kd) (ha : κ.keyOf x.1 = some a) (hb : κ.keyOf y.1 = some b) (h : Q (some (κ.blt a b)) st) :
    wpS (model prog w) A E s (lt' x y) Q st := hO st x y a b Q hk ha hb h
theorem w_bq {st : SortSt} {left : Bool} {key x : Keyed} {arr : Array Keyed} {base i : Nat} {a b : κ.α} {Q : Option Bool → SortSt → Prop} (hO : LtR prog w A E s κ kd) (hk : kindOf st = kd) (hx : arr[base + i]? = some x) (ha : κ.keyOf x.1 = some a) (hb : κ.keyOf key.1 = some b)
    (h : Q (some (if left = true then κ.blt a b else !κ.blt b a)) st) : wpS (model prog w) A E s (bq left key arr base i) Q st := by
  unfold bq
  rw [elem'_eq, hx]
  refine wpS_bind (wpS_pure ?_)
  cases left with
  | true => exact w_lt2 hO hk ha hb (by simpa using h)
  | false =>
    simp only [Bool.false_eq_true, if_false] at h ⊢
    exact wpS_bind (w_lt2 hO hk hb ha (wpS_pure h))
noncomputable def srch (left : Bool) (key : Keyed) (arr : Array Keyed) (base n l h : Nat) : StateT SortSt Sem (Option Nat) := do
  let c ← forIn [0:n] ((none, l, h) : Option (Option Nat) × Nat × Nat) fun _ c =>
    if c.snd.fst ≥ c.snd.snd then pure (ForInStep.done (none, c.snd.fst, c.snd.snd))
    else do
      let o ← bq left key arr base (c.snd.fst + (c.snd.snd - c.snd.fst) / 2)
      match o with
      | some mo => if mo = true then pure (ForInStep.yield (none, c.snd.fst + (c.snd.snd - c.snd.fst) / 2 + 1, c.snd.snd)) else pure (ForInStep.yield (none, c.snd.fst, c.snd.fst + (c.snd.snd - c.snd.fst) / 2))
      | _ => pure (ForInStep.done (some none, c.snd.fst, c.snd.snd))
  match c.fst with
  | some r => pure r
  | none => pure (some c.snd.snd)
theorem w_srch {st : SortSt} {left : Bool} {key : Keyed} {arr : Array Keyed} {base n l h : Nat} {b : Nat → Bool} {Q : Option Nat → SortSt → Prop}
    (hb : ∀ i (R : Option Bool → SortSt → Prop), i < n → R (some (b i)) st → wpS (model prog w) A E s (bq left key arr base i) R st)
    (hm : ∀ i j, i ≤ j → j < n → b j = true → b i = true) (hlh : l ≤ h) (hn : h ≤ n) (h1 : ∀ i, i < l → b i = true) (h2 : ∀ i, h ≤ i → i < n → b i = false)
    (hq : ∀ k, k ≤ n → (∀ i, i < k → b i = true) → (∀ i, k ≤ i → i < n → b i = false) → Q (some k) st) : wpS (model prog w) A E s (srch left key arr base n l h) Q st := by
  unfold srch
  refine wpS_bind (wpS_mono (wpS_forRange (I := fun x c st2 => st2 = st ∧ ∃ l h, c = (none, l, h) ∧ l ≤ h ∧ h ≤ n ∧ h - l ≤ n - x ∧ (∀ i, i < l → b i = true) ∧ ∀ i, h ≤ i → i < n → b i = false)
    (Q := fun c st2 => st2 = st ∧ ∃ k, c.1 = none ∧ c.2.2 = k ∧ k ≤ n ∧ (∀ i, i < k → b i = true) ∧ ∀ i, k ≤ i → i < n → b i = false) ?sp ?fi ⟨rfl, l, h, rfl, hlh, hn, by omega, h1, h2⟩) ?po)
  case po =>
    rintro ⟨o, x, y⟩ st2 ⟨rfl, k, e1, rfl, g1, g2, g3⟩
    dsimp only at e1 g1 g2 g3 ⊢
    subst e1
    exact wpS_pure (hq y g1 g2 g3)
  case fi =>
    rintro c st2 ⟨rfl, l, h, rfl, g1, g2, g3, g4, g5⟩
    obtain rfl : l = h := by omega
    exact ⟨rfl, l, rfl, rfl, g2, g4, g5⟩
  case sp =>
    rintro x c st2 _ hx ⟨rfl, l, h, rfl, g1, g2, g3, g4, g5⟩
    dsimp only
    by_cases hge : l ≥ h
    · rw [if_pos hge]
      obtain rfl : l = h := by omega
      exact wpS_pure ⟨rfl, l, rfl, rfl, g2, g4, g5⟩
    · rw [if_neg hge]
      refine wpS_bind (hb (l + (h - l) / 2) _ (by omega) ?_)
      dsimp only
      cases hq2 : b (l + (h - l) / 2) with
      | true =>
        simp only [if_true]
        exact wpS_pure ⟨rfl, l + (h - l) / 2 + 1, h, rfl, by omega, by omega, by omega, fun i hi => hm i (l + (h - l) / 2) (by omega) (by omega) hq2, g5⟩
      | false =>
        simp only [Bool.false_eq_true, if_false]
        refine wpS_pure ⟨rfl, l, l + (h - l) / 2, rfl, by omega, by omega, by omega, g4, fun i hi hi2 => ?_⟩
        cases hbi : b i with
        | false => rfl
        | true => rw [hm _ i hi hi2 hbi] at hq2; cases hq2
theorem w_gal {st : SortSt} {left : Bool} {key : Keyed} {arr : Array Keyed} {base n hint : Nat} {b : Nat → Bool} {Q : Option Nat → SortSt → Prop} (hh : hint < n)
    (hb : ∀ i (R : Option Bool → SortSt → Prop), i < n → R (some (b i)) st → wpS (model prog w) A E s (bq left key arr base i) R st)
    (hm : ∀ i j, i ≤ j → j < n → b j = true → b i = true)
    (h : ∀ k, k ≤ n → (∀ i, i < k → b i = true) → (∀ i, k ≤ i → i < n → b i = false) → Q (some k) st) : wpS (model prog w) A E s (gal' left key arr base n hint) Q st := by
  rw [gal'_eq]
  dsimp only
  refine wpS_bind (hb hint _ hh ?_)
  dsimp only
  cases h0 : b hint with
  | true =>
    rw [if_pos rfl]
    refine wpS_bind (wpS_mono (wpS_forRange (I := fun x c st2 => st2 = st ∧ ∃ la po, c = (none, la, po) ∧ la < po ∧ x + 1 ≤ po ∧ hint + la < n ∧ b (hint + la) = true)
      (Q := fun c st2 => st2 = st ∧ ∃ la po, c = (none, la, po) ∧ la < po ∧ hint + la < n ∧ b (hint + la) = true ∧ (n - hint ≤ po ∨ (hint + po < n ∧ b (hint + po) = false))) ?sp ?fi ⟨rfl, 0, 1, rfl, by omega, by omega, hh, h0⟩) ?po)
    case fi =>
      rintro c st2 ⟨rfl, la, po, rfl, g1, g2, g3, g4⟩
      exact ⟨rfl, la, po, rfl, g1, g3, g4, .inl (by omega)⟩
    case sp =>
      rintro x c st2 _ hx ⟨rfl, la, po, rfl, g1, g2, g3, g4⟩
      dsimp only
      by_cases hge : po ≥ n - hint
      · rw [if_pos hge]
        exact wpS_pure ⟨rfl, la, po, rfl, g1, g3, g4, .inl hge⟩
      · rw [if_neg hge]
        refine wpS_bind (hb (hint + po) _ (by omega) ?_)
        dsimp only
        cases hq2 : b (hint + po) with
        | true =>
          simp only [Bool.not_true, Bool.false_eq_true, if_false]
          exact wpS_pure ⟨rfl, po, 2 * po + 1, rfl, by omega, by omega, by omega, hq2⟩
        | false =>
          simp only [Bool.not_false, if_true]
          exact wpS_pure ⟨rfl, la, po, rfl, g1, g3, g4, .inr ⟨by omega, hq2⟩⟩
    case po =>
      rintro c st2 ⟨rfl, la, po, rfl, g1, g3, g4, g5⟩
      dsimp only
      refine w_eq (m' := srch left key arr base n (hint + la + 1) (hint + min po (n - hint))) (bnd rfl fun c => by obtain ⟨r, x, y⟩ := c; cases r <;> rfl) ?_
      refine w_srch hb hm (by omega) (by omega) (fun i hi => hm i (hint + la) (by omega) g3 g4) (fun i hi hi2 => ?_) h
      rcases g5 with g5 | ⟨g5, g6⟩
      · omega
      · cases hbi : b i with
        | false => rfl
        | true => rw [hm (hint + po) i (by omega) hi2 hbi] at g6; cases g6
  | false =>
    rw [if_neg Bool.false_ne_true]
    refine wpS_bind (wpS_mono (wpS_forRange (I := fun x c st2 => st2 = st ∧ ∃ la po, c = (none, la, po) ∧ la < po ∧ x + 1 ≤ po ∧ la ≤ hint ∧ b (hint - la) = false)
      (Q := fun c st2 => st2 = st ∧ ∃ la po, c = (none, la, po) ∧ la < po ∧ la ≤ hint ∧ b (hint - la) = false ∧ (hint + 1 ≤ po ∨ (po ≤ hint ∧ b (hint - po) = true))) ?sp ?fi ⟨rfl, 0, 1, rfl, by omega, by omega, by omega, h0⟩) ?po)
    case fi =>
      rintro c st2 ⟨rfl, la, po, rfl, g1, g2, g3, g4⟩
      exact ⟨rfl, la, po, rfl, g1, g3, g4, .inl (by omega)⟩
    case sp =>
      rintro x c st2 _ hx ⟨rfl, la, po, rfl, g1, g2, g3, g4⟩
      dsimp only
      by_cases hge : po ≥ hint + 1
      · rw [if_pos hge]
        exact wpS_pure ⟨rfl, la, po, rfl, g1, g3, g4, .inl hge⟩
      · rw [if_neg hge]
        refine wpS_bind (hb (hint - po) _ (by omega) ?_)
        dsimp only
        cases hq2 : b (hint - po) with
        | true =>
          simp only [if_true]
          exact wpS_pure ⟨rfl, la, po, rfl, g1, g3, g4, .inr ⟨by omega, hq2⟩⟩
        | false =>
          simp only [Bool.false_eq_true, if_false]
          exact wpS_pure ⟨rfl, po, 2 * po + 1, rfl, by omega, by omega, by omega, hq2⟩
    case po =>
      rintro c st2 ⟨rfl, la, po, rfl, g1, g3, g4, g5⟩
      dsimp only
      refine w_eq (m' := srch left key arr base n (hint + 1 - min po (hint + 1)) (hint - la)) (bnd rfl fun c => by obtain ⟨r, x, y⟩ := c; cases r <;> rfl) ?_
      refine w_srch hb hm (by omega) (by omega) (fun i hi => ?_) (fun i hi hi2 => ?_) h
      · rcases g5 with g5 | ⟨g5, g6⟩
        · omega
        · exact hm i (hint - po) (by omega) (by omega) g6
      · cases hbi : b i with
        | false => rfl
        | true => rw [hm (hint - la) i (by omega) hi2 hbi] at g4; cases g4
end
end SR

set_option autoImplicit false
set_option linter.all false
set_option maxRecDepth 100000
namespace SR
open PySem PyProof.Rows
set_option genInjectivity false in
structure MI (R : Keyed → Keyed → Prop) (Z o ra rb : List Keyed) : Prop where
  so : o.Pairwise R
  be : ∀ x ∈ o, ∀ y, y ∈ ra ∨ y ∈ rb → R x y
  pm : (o ++ (ra ++ rb)).Perm Z
  sa : ra.Pairwise R
  sb : rb.Pairwise R
theorem MI.sw {R : Keyed → Keyed → Prop} {Z o ra rb : List Keyed} (h : MI R Z o ra rb) : MI R Z o rb ra :=
  ⟨h.so, fun x hx y hy => h.be x hx y hy.symm, ((List.perm_append_comm (l₁ := rb) (l₂ := ra)).append_left o).trans h.pm, h.sb, h.sa⟩
theorem MI.blk {R : Keyed → Keyed → Prop} {Z o u ra rb : List Keyed} (h : MI R Z o (u ++ ra) rb) (hu : ∀ x ∈ u, ∀ y ∈ rb, R x y) : MI R Z (o ++ u) ra rb := by
  obtain ⟨s1, s2, s3⟩ := List.pairwise_append.mp h.sa
  refine ⟨List.pairwise_append.mpr ⟨h.so, s1, fun x hx y hy => h.be x hx y (.inl (List.mem_append_left _ hy))⟩, fun x hx y hy => ?_, ?_, s2, h.sb⟩
  · rcases List.mem_append.mp hx with g | g
    · exact h.be x g y (hy.imp_left (List.mem_append_right _))
    · rcases hy with hy | hy
      · exact s3 x g y hy
      · exact hu x g y hy
  · have := h.pm
    rw [List.append_assoc] at this ⊢
    exact this
noncomputable def Fi (R : Keyed → Keyed → Prop) (Z : List Keyed) (r : Array Keyed) : Prop := r.toList.Perm Z ∧ r.toList.Pairwise R
theorem MI.fin {R : Keyed → Keyed → Prop} {Z o ra : List Keyed} (h : MI R Z o ra []) : (o ++ ra).Perm Z ∧ (o ++ ra).Pairwise R := by
  refine ⟨?_, List.pairwise_append.mpr ⟨h.so, h.sa, fun x hx y hy => h.be x hx y (.inl hy)⟩⟩
  have := h.pm
  rw [List.append_nil] at this
  exact this
theorem ext_from (a : Array Keyed) (i : Nat) : (a.extract i a.size).toList = a.toList.drop i := by
  rw [Array.toList_extract, List.extract_eq_take_drop]
  exact List.take_of_length_le (by rw [List.length_drop, Array.length_toList]; exact Nat.le_refl _)
theorem ext_mid (a : Array Keyed) (i k : Nat) : (a.extract i (i + k)).toList = (a.toList.drop i).take k := by
  rw [Array.toList_extract, List.extract_eq_take_drop, Nat.add_sub_cancel_left]
theorem drop_cons {a : Array Keyed} {i : Nat} (h : i < a.size) : a.toList.drop i = a[i] :: a.toList.drop (i + 1) := by
  rw [List.drop_eq_getElem_cons (by rw [Array.length_toList]; exact h), Array.getElem_toList]
theorem split_at (a : Array Keyed) (i k : Nat) : a.toList.drop i = (a.toList.drop i).take k ++ a.toList.drop (i + k) := by
  rw [← List.drop_drop, List.take_append_drop]
theorem MI.pushA {R : Keyed → Keyed → Prop} {Z : List Keyed} {o a : Array Keyed} {i : Nat} {rb : List Keyed} (h : MI R Z o.toList (a.toList.drop i) rb) (hi : i < a.size) (hu : ∀ y ∈ rb, R a[i] y) : MI R Z (o.push a[i]).toList (a.toList.drop (i + 1)) rb := by
  rw [drop_cons hi, ← List.singleton_append] at h
  have := h.blk fun x hx y hy => by rw [List.mem_singleton.mp hx]; exact hu y hy
  rw [Array.toList_push]
  exact this
theorem MI.blkA {R : Keyed → Keyed → Prop} {Z : List Keyed} {o a : Array Keyed} {i k : Nat} {rb : List Keyed} (h : MI R Z o.toList (a.toList.drop i) rb) (hu : ∀ x ∈ (a.toList.drop i).take k, ∀ y ∈ rb, R x y) : MI R Z (o ++ a.extract i (i + k)).toList (a.toList.drop (i + k)) rb := by
  rw [split_at a i k] at h
  rw [Array.toList_append, ext_mid]
  exact h.blk hu
theorem MI.doneA {R : Keyed → Keyed → Prop} {Z : List Keyed} {o a b : Array Keyed} {i j : Nat} (h : MI R Z o.toList (a.toList.drop i) (b.toList.drop j)) (hj : b.size ≤ j) : Fi R Z (o ++ a.extract i a.size ++ b.extract j b.size) := by
  unfold Fi
  rw [List.drop_eq_nil_of_le (as := b.toList) (by rw [Array.length_toList]; exact hj)] at h
  rw [Array.toList_append, Array.toList_append, ext_from, ext_from, List.drop_eq_nil_of_le (as := b.toList) (by rw [Array.length_toList]; exact hj), List.append_nil]
  exact h.fin
theorem MI.doneB {R : Keyed → Keyed → Prop} {Z : List Keyed} {o a b : Array Keyed} {i j : Nat} (h : MI R Z o.toList (a.toList.drop i) (b.toList.drop j)) (hi : a.size ≤ i) : Fi R Z (o ++ a.extract i a.size ++ b.extract j b.size) := by
  unfold Fi
  rw [List.drop_eq_nil_of_le (as := a.toList) (by rw [Array.length_toList]; exact hi)] at h
  rw [Array.toList_append, Array.toList_append, ext_from, ext_from, List.drop_eq_nil_of_le (as := a.toList) (by rw [Array.length_toList]; exact hi), List.append_nil]
  exact h.sw.fin
theorem MI.lastA {R : Keyed → Keyed → Prop} {Z : List Keyed} {o a b : Array Keyed} {i j : Nat} (h : MI R Z o.toList (a.toList.drop i) (b.toList.drop j)) (hi : i + 1 = a.size) (hl : ∀ y ∈ b.toList, ∀ x, a.toList.getLast? = some x → R y x) : Fi R Z (o ++ b.extract j b.size ++ a.extract i a.size) := by
  unfold Fi
  have e : a.toList.drop i = [a[i]'(by omega)] := by
    rw [drop_cons (by omega), List.drop_eq_nil_of_le (by rw [Array.length_toList]; omega)]
  have el : a.toList.getLast? = some (a[i]'(by omega)) := by
    rw [List.getLast?_eq_getElem?, Array.length_toList, show a.size - 1 = i by omega, Array.getElem?_toList, getElem?_pos a i (by omega)]
  rw [Array.toList_append, Array.toList_append, ext_from, ext_from]
  have h2 : MI R Z (o.toList ++ b.toList.drop j) (a.toList.drop i) [] := by
    have h3 := h.sw
    rw [show b.toList.drop j = b.toList.drop j ++ [] from (List.append_nil _).symm] at h3
    refine (h3.blk fun x hx y hy => ?_).sw
    rw [e, List.mem_singleton] at hy
    rw [hy]
    exact hl x (List.mem_of_mem_drop hx) _ el
  exact h2.fin
noncomputable def setG (g : Nat) : StateT SortSt Sem Unit := modify fun s => SortSt.mk' (kindOf s) (arrOf s) (pendingOf s) g (failedOf s)
noncomputable def mLo' : Array Keyed → Array Keyed → StateT SortSt Sem (Array Keyed) := sortPriv% PySem.Builtin.mergeLo
theorem ex4 {α β γ δ ε : Type} {P : ε → Prop} {f : α → β → γ → δ → ε} {A : Prop} {R L : α → β → γ → δ → Prop} (h : ∀ a b c d, A → R a b c d → L a b c d → P (f a b c d)) : ∀ e, (A ∧ ∃ a b c d, e = f a b c d ∧ R a b c d ∧ L a b c d) → P e := by
  rintro e ⟨x, a, b, c, d, rfl, r, l⟩
  exact h a b c d x r l
theorem ex5 {α β γ δ ζ ε : Type} {P : ε → Prop} {f : α → β → γ → δ → ζ → ε} {A : Prop} {R L : α → β → γ → δ → ζ → Prop} (h : ∀ a b c d z, A → R a b c d z → L a b c d z → P (f a b c d z)) : ∀ e, (A ∧ ∃ a b c d z, e = f a b c d z ∧ R a b c d z ∧ L a b c d z) → P e := by
  rintro e ⟨x, a, b, c, d, z, rfl, r, l⟩
  exact h a b c d z x r l
theorem ex6 {α β γ δ ζ η ε : Type} {P : ε → Prop} {f : α → β → γ → δ → ζ → η → ε} {A : Prop} {R L : α → β → γ → δ → ζ → η → Prop} (h : ∀ a b c d z y, A → R a b c d z y → L a b c d z y → P (f a b c d z y)) : ∀ e, (A ∧ ∃ a b c d z y, e = f a b c d z y ∧ R a b c d z y ∧ L a b c d z y) → P e := by
  rintro e ⟨x, a, b, c, d, z, y, rfl, r, l⟩
  exact h a b c d z y x r l
theorem or6 {α β γ δ ρ : Type} {P : Option α × β × γ × δ × ρ → Prop} {A : Prop} {F : α → Prop} (G L : β → γ → δ → Prop) (h1 : ∀ r b c d e, A → F r → P (some r, b, c, d, e)) (h2 : ∀ b c d e, A → G b c d → L b c d → P (none, b, c, d, e)) :
    ∀ x, (A ∧ ((∃ r, x.1 = some r ∧ F r) ∨ (x.1 = none ∧ G x.2.1 x.2.2.1 x.2.2.2.1 ∧ L x.2.1 x.2.2.1 x.2.2.2.1))) → P x := by
  rintro ⟨o, b, c, d, e⟩ ⟨x, ⟨r, e1, f⟩ | ⟨e1, g, l⟩⟩
  · obtain rfl : o = some r := e1
    exact h1 r b c d e x f
  · obtain rfl : o = none := e1
    exact h2 b c d e x g l
noncomputable def mLoT (a b o : Array Keyed) (i j : Nat) : StateT SortSt Sem (Array Keyed) := do
  let tot := a.size + b.size
  let dn (o : Array Keyed) (i j : Nat) := o ++ a.extract i a.size ++ b.extract j b.size
  let la (o : Array Keyed) (i j : Nat) := o ++ b.extract j b.size ++ a.extract i a.size
  let mut o := o
  let mut i := i
  let mut j := j
  let mut g := gallopOf (← get)
  for _ in [0:tot] do
    let mut p := 0
    let mut q := 0
    for _ in [0:tot] do
      let some t ← lt' (← elem' b j) (← elem' a i) | return dn o i j
      if t then
        o := o.push (← elem' b j); j := j + 1; q := q + 1; p := 0
        if j == b.size then return dn o i j
        if q ≥ g then break
      else
        o := o.push (← elem' a i); i := i + 1; p := p + 1; q := 0
        if i + 1 == a.size then return la o i j
        if p ≥ g then break
    rule "list.sort.gallop"
    g := g + 1
    for _ in [0:tot] do
      if g > 1 then g := g - 1
      setG g
      let some k ← gal' false (← elem' b j) a i (a.size - i) 0 | return dn o i j
      p := k
      if k > 0 then
        o := o ++ a.extract i (i + k); i := i + k
        if i + 1 == a.size then return la o i j
        if i == a.size then return dn o i j
      o := o.push (← elem' b j); j := j + 1
      if j == b.size then return dn o i j
      let some k ← gal' true (← elem' a i) b j (b.size - j) 0 | return dn o i j
      q := k
      if k > 0 then
        o := o ++ b.extract j (j + k); j := j + k
        if j == b.size then return dn o i j
      o := o.push (← elem' a i); i := i + 1
      if i + 1 == a.size then return la o i j
      if p < 7 && q < 7 then break
    g := g + 1
    setG g
  unsupported "internal:list.sort.merge-bound"
theorem mLo'_eq (a b : Array Keyed) : mLo' a b = (do
  rule "list.sort.merge-lo"
  let x ← elem' b 0
  if 1 == b.size then return #[x] ++ a.extract 0 a.size ++ b.extract 1 b.size
  if 0 + 1 == a.size then return #[x] ++ b.extract 1 b.size ++ a.extract 0 a.size
  mLoT a b #[x] 0 1) := rfl
noncomputable def kf (κ : KeyKind) (p : Keyed) : κ.α := (κ.keyOf p.1).getD κ.dflt
noncomputable def Le (κ : KeyKind) (x y : Keyed) : Prop := κ.kle (kf κ x) (kf κ y)
noncomputable def Hk (κ : KeyKind) (x : Keyed) : Prop := ∃ c, κ.keyOf x.1 = some c
set_option genInjectivity false in
structure Ev (st st' : SortSt) : Prop where
  knd : kindOf st' = kindOf st
  arr : arrOf st' = arrOf st
  pen : pendingOf st' = pendingOf st
  ffl : failedOf st' = failedOf st
theorem Ev.r {st : SortSt} : Ev st st := ⟨rfl, rfl, rfl, rfl⟩
theorem Ev.t {a b c : SortSt} (h : Ev a b) (h' : Ev b c) : Ev a c := ⟨h'.knd.trans h.knd, h'.arr.trans h.arr, h'.pen.trans h.pen, h'.ffl.trans h.ffl⟩
section
variable {prog : Program} {w : World} {A : Around} {E : Value → Shared → Prop} {s : Shared} {z : Array Keyed} {κ : KeyKind} {kd : SortKind}
theorem w_el {st : SortSt} {a : Array Keyed} {i : Nat} {Q : Keyed → SortSt → Prop} (hi : i < a.size) (h : Q a[i] st) : wpS (model prog w) A E s (elem' a i) Q st := by
  rw [elem'_eq, getElem?_pos a i hi]
  exact wpS_pure h
theorem w_setG {st : SortSt} {g : Nat} {Q : Unit → SortSt → Prop} (h : ∀ st', Ev st st' → Q () st') : wpS (model prog w) A E s (setG g) Q st := by
  unfold setG
  exact wpS_modify (h _ ⟨rfl, rfl, rfl, rfl⟩)
theorem kf_some {x : Keyed} {c : κ.α} (h : κ.keyOf x.1 = some c) : kf κ x = c := by unfold kf; rw [h]; rfl
theorem w_lt3 {st : SortSt} {x y : Keyed} {Q : Option Bool → SortSt → Prop} (hO : LtR prog w A E s κ kd) (hk : kindOf st = kd) (hx : Hk κ x) (hy : Hk κ y) (h : Q (some (κ.blt (kf κ x) (kf κ y))) st) : wpS (model prog w) A E s (lt' x y) Q st := by
  obtain ⟨c, hc⟩ := hx
  obtain ⟨d, hd⟩ := hy
  rw [kf_some hc, kf_some hd] at h
  exact w_lt2 hO hk hc hd h
theorem w_galR {st : SortSt} {key : Keyed} {a : Array Keyed} {i n hint : Nat} {Q : Option Nat → SortSt → Prop} (hO : LtR prog w A E s κ kd) (hk : kindOf st = kd) (hin : i + n ≤ a.size) (hh : hint < n) (hka : ∀ x ∈ a.toList, Hk κ x) (hkk : Hk κ key) (hs : ((a.toList.drop i).take n).Pairwise (Le κ))
    (h : ∀ k, k ≤ n → (∀ x ∈ (a.toList.drop i).take k, Le κ x key) → (∀ x ∈ (a.toList.drop (i + k)).take (n - k), Le κ key x) → Q (some k) st) : wpS (model prog w) A E s (gal' false key a i n hint) Q st := by
  have get : ∀ t, t < n → ((a.toList.drop i).take n)[t]? = a[i + t]? := fun t ht => by
    rw [List.getElem?_take_of_lt ht, List.getElem?_drop, Array.getElem?_toList]
  have hsz : ∀ t, t < n → i + t < a.size := fun t ht => by omega
  have hmem : ∀ t (ht : t < n), Hk κ (a[i + t]'(hsz t ht)) := fun t ht => hka _ (by simp)
  have hpw : ∀ p q (hq : q < n) (hpq : p ≤ q), Le κ (a[i + p]'(hsz p (by omega))) (a[i + q]'(hsz q hq)) := fun p q hq hpq => by
    rcases Nat.lt_or_eq_of_le hpq with g | g
    · rw [List.pairwise_iff_getElem] at hs
      have hl : ((a.toList.drop i).take n).length = n := by rw [List.length_take, List.length_drop, Array.length_toList]; omega
      have := hs p q (by omega) (by omega) g
      simpa using this
    · subst g; exact KeyOrd.kle_refl _
  refine w_gal (b := fun t => if ht : t < n then !κ.blt (kf κ key) (kf κ (a[i + t]'(hsz t ht))) else false) hh (fun t R ht hR => ?_) (fun p q hpq hq hb => ?_) (fun k hkn h1 h2 => h k hkn (fun x hx => ?_) (fun x hx => ?_))
  · obtain ⟨c, hc⟩ := hmem t ht
    obtain ⟨d, hd⟩ := hkk
    refine w_bq hO hk (getElem?_pos a (i + t) (hsz t ht)) hc hd ?_
    simp only [Bool.false_eq_true, if_false]
    rw [dif_pos ht, kf_some hc, kf_some hd] at hR
    exact hR
  · rw [dif_pos hq] at hb
    rw [dif_pos (by omega)]
    have h3 : κ.kle (kf κ (a[i + q]'(hsz q hq))) (kf κ key) := by simpa [KeyOrd.kle] using hb
    have h4 := KeyOrd.kle_trans (hpw p q hq hpq) h3
    simpa [KeyOrd.kle] using h4
  · obtain ⟨t, ht⟩ := List.mem_iff_getElem?.mp hx
    have htk : t < k := by
      have := (List.getElem?_eq_some_iff.mp ht).1
      rw [List.length_take] at this; omega
    rw [List.getElem?_take_of_lt htk, List.getElem?_drop, Array.getElem?_toList, getElem?_pos a (i + t) (hsz t (by omega))] at ht
    have h3 := h1 t htk
    rw [dif_pos (by omega)] at h3
    rw [← Option.some.inj ht]
    show κ.kle _ _
    simpa [KeyOrd.kle] using h3
  · obtain ⟨t, ht⟩ := List.mem_iff_getElem?.mp hx
    have htk : t < n - k := by
      have := (List.getElem?_eq_some_iff.mp ht).1
      rw [List.length_take] at this; omega
    rw [List.getElem?_take_of_lt htk, List.getElem?_drop, Array.getElem?_toList, show i + k + t = i + (k + t) by omega, getElem?_pos a (i + (k + t)) (hsz (k + t) (by omega))] at ht
    have h3 := h2 (k + t) (by omega) (by omega)
    rw [dif_pos (by omega)] at h3
    rw [← Option.some.inj ht]
    exact KeyOrd.kle_of_klt (by simpa [KeyOrd.klt] using h3)
theorem w_galL {st : SortSt} {key : Keyed} {a : Array Keyed} {i n hint : Nat} {Q : Option Nat → SortSt → Prop} (hO : LtR prog w A E s κ kd) (hk : kindOf st = kd) (hin : i + n ≤ a.size) (hh : hint < n) (hka : ∀ x ∈ a.toList, Hk κ x) (hkk : Hk κ key) (hs : ((a.toList.drop i).take n).Pairwise (Le κ))
    (h : ∀ k, k ≤ n → (∀ x ∈ (a.toList.drop i).take k, Le κ x key) → (∀ x ∈ (a.toList.drop (i + k)).take (n - k), Le κ key x) → Q (some k) st) : wpS (model prog w) A E s (gal' true key a i n hint) Q st := by
  have hsz : ∀ t, t < n → i + t < a.size := fun t ht => by omega
  have hmem : ∀ t (ht : t < n), Hk κ (a[i + t]'(hsz t ht)) := fun t ht => hka _ (by simp)
  have hpw : ∀ p q (hq : q < n) (hpq : p ≤ q), Le κ (a[i + p]'(hsz p (by omega))) (a[i + q]'(hsz q hq)) := fun p q hq hpq => by
    rcases Nat.lt_or_eq_of_le hpq with g | g
    · rw [List.pairwise_iff_getElem] at hs
      have hl : ((a.toList.drop i).take n).length = n := by rw [List.length_take, List.length_drop, Array.length_toList]; omega
      have := hs p q (by omega) (by omega) g
      simpa using this
    · subst g; exact KeyOrd.kle_refl _
  refine w_gal (b := fun t => if ht : t < n then κ.blt (kf κ (a[i + t]'(hsz t ht))) (kf κ key) else false) hh (fun t R ht hR => ?_) (fun p q hpq hq hb => ?_) (fun k hkn h1 h2 => h k hkn (fun x hx => ?_) (fun x hx => ?_))
  · obtain ⟨c, hc⟩ := hmem t ht
    obtain ⟨d, hd⟩ := hkk
    refine w_bq hO hk (getElem?_pos a (i + t) (hsz t ht)) hc hd ?_
    simp only [if_true]
    rw [dif_pos ht, kf_some hc, kf_some hd] at hR
    exact hR
  · rw [dif_pos hq] at hb
    rw [dif_pos (by omega)]
    exact KeyOrd.klt_of_kle_of_klt (hpw p q hq hpq) hb
  · obtain ⟨t, ht⟩ := List.mem_iff_getElem?.mp hx
    have htk : t < k := by
      have := (List.getElem?_eq_some_iff.mp ht).1
      rw [List.length_take] at this; omega
    rw [List.getElem?_take_of_lt htk, List.getElem?_drop, Array.getElem?_toList, getElem?_pos a (i + t) (hsz t (by omega))] at ht
    have h3 := h1 t htk
    rw [dif_pos (by omega)] at h3
    rw [← Option.some.inj ht]
    exact KeyOrd.kle_of_klt h3
  · obtain ⟨t, ht⟩ := List.mem_iff_getElem?.mp hx
    have htk : t < n - k := by
      have := (List.getElem?_eq_some_iff.mp ht).1
      rw [List.length_take] at this; omega
    rw [List.getElem?_take_of_lt htk, List.getElem?_drop, Array.getElem?_toList, show i + k + t = i + (k + t) by omega, getElem?_pos a (i + (k + t)) (hsz (k + t) (by omega))] at ht
    have h3 := h2 (k + t) (by omega) (by omega)
    rw [dif_pos (by omega)] at h3
    rw [← Option.some.inj ht]
    exact h3
end
end SR

set_option autoImplicit false
set_option linter.all false
set_option maxRecDepth 100000
namespace SR
open PySem PyProof.Rows
section
variable {prog : Program} {w : World} {A : Around} {E : Value → Shared → Prop} {s : Shared} {κ : KeyKind} {kd : SortKind}
theorem Le.tr {x y t : Keyed} (h : Le κ x y) (h' : Le κ y t) : Le κ x t := KeyOrd.kle_trans h h'
theorem head_le {l : List Keyed} {x : Keyed} (h : (x :: l).Pairwise (Le κ)) : ∀ y ∈ x :: l, Le κ x y := fun y hy => by
  rcases List.mem_cons.mp hy with g | g
  · rw [g]; exact KeyOrd.kle_refl _
  · exact (List.pairwise_cons.mp h).1 y g
theorem le_drop {a : Array Keyed} {i : Nat} (hi : i < a.size) (h : (a.toList.drop i).Pairwise (Le κ)) : ∀ y ∈ a.toList.drop i, Le κ a[i] y := by
  rw [drop_cons hi] at h ⊢
  exact head_le h
set_option genInjectivity false in
structure GL (κ : KeyKind) (a b o : Array Keyed) (i j : Nat) : Prop where
  mi : MI (Le κ) (a.toList ++ b.toList) o.toList (a.toList.drop i) (b.toList.drop j)
  hi : i + 1 < a.size
  hj : j < b.size
noncomputable abbrev LoSt := Option (Array Keyed) × Array Keyed × Nat × Nat × Nat × Nat × Nat
noncomputable def lo3 (a b o : Array Keyed) (i j g p q : Nat) : StateT SortSt Sem (ForInStep LoSt) := do
  let x ← elem' a i
  if (i + 1 + 1 == a.size) = true then pure (ForInStep.done (some (o.push x ++ b.extract j b.size ++ a.extract (i + 1) a.size), o.push x, i + 1, j, g, p, q))
  else if (decide (p < 7) && decide (q < 7)) = true then pure (ForInStep.done (none, o.push x, i + 1, j, g, p, q)) else pure (ForInStep.yield (none, o.push x, i + 1, j, g, p, q))
noncomputable def lo2 (a b o : Array Keyed) (i j g p q : Nat) : StateT SortSt Sem (ForInStep LoSt) := do
  let x ← elem' b j
  if (j + 1 == b.size) = true then pure (ForInStep.done (some (o.push x ++ a.extract i a.size ++ b.extract (j + 1) b.size), o.push x, i, j + 1, g, p, q))
  else do
    let u ← elem' a i
    let z ← gal' true u b (j + 1) (b.size - (j + 1)) 0
    match z with
    | some k =>
      if k > 0 then
        if (j + 1 + k == b.size) = true then pure (ForInStep.done (some (o.push x ++ b.extract (j + 1) (j + 1 + k) ++ a.extract i a.size ++ b.extract (j + 1 + k) b.size), o.push x ++ b.extract (j + 1) (j + 1 + k), i, j + 1 + k, g, p, k))
        else lo3 a b (o.push x ++ b.extract (j + 1) (j + 1 + k)) i (j + 1 + k) g p k
      else lo3 a b (o.push x) i (j + 1) g p k
    | _ => pure (ForInStep.done (some (o.push x ++ a.extract i a.size ++ b.extract (j + 1) b.size), o.push x, i, j + 1, g, p, q))
noncomputable abbrev LoR (κ : KeyKind) (a b : Array Keyed) (st : SortSt) (m : Nat) : ForInStep LoSt → SortSt → Prop := fun r st' => match r with
  | .yield c => Ev st st' ∧ ∃ o i j g p q, c = (none, o, i, j, g, p, q) ∧ GL κ a b o i j ∧ m ≤ i + j
  | .done c => Ev st st' ∧ ((∃ r, c.1 = some r ∧ Fi (Le κ) (a.toList ++ b.toList) r) ∨ (c.1 = none ∧ GL κ a b c.2.1 c.2.2.1 c.2.2.2.1 ∧ m ≤ c.2.2.1 + c.2.2.2.1))
theorem w_lo3 {st st4 : SortSt} {a b o7 : Array Keyed} {i j g p q m : Nat} (he5 : Ev st st4) (hi : i + 1 < a.size) (hj : j < b.size) (hl : ∀ y ∈ b.toList, ∀ x, a.toList.getLast? = some x → Le κ y x) (m3 : MI (Le κ) (a.toList ++ b.toList) o7.toList (a.toList.drop i) (b.toList.drop j)) (e2' : ∀ x ∈ b.toList.drop j, Le κ (a[i]'(by omega)) x) (hm : m ≤ i + 1 + j) :
    wpS (model prog w) A E s (lo3 a b o7 i j g p q) (LoR κ a b st m) st4 := by
  unfold lo3
  refine wpS_bind (w_el (by omega) ?_)
  have m4 := m3.pushA (by omega) fun y hy => e2' y hy
  by_cases ha4 : i + 1 + 1 = a.size
  · rw [if_pos (by simpa using ha4)]
    exact wpS_pure ⟨he5, .inl ⟨_, rfl, m4.lastA ha4 hl⟩⟩
  rw [if_neg (by simpa using ha4)]
  split
  · exact wpS_pure ⟨he5, .inr ⟨rfl, ⟨m4, by dsimp only; omega, hj⟩, hm⟩⟩
  · exact wpS_pure ⟨he5, _, _, _, _, _, _, rfl, ⟨m4, by omega, hj⟩, hm⟩
theorem w_lo2 {st st4 : SortSt} {a b o5 : Array Keyed} {i j g p q m : Nat} (hO : LtR prog w A E s κ kd) (hk : kindOf st4 = kd) (hka : ∀ x ∈ a.toList, Hk κ x) (hkb : ∀ x ∈ b.toList, Hk κ x) (hl : ∀ y ∈ b.toList, ∀ x, a.toList.getLast? = some x → Le κ y x)
    (he5 : Ev st st4) (hi : i + 1 < a.size) (hj : j < b.size) (m1 : MI (Le κ) (a.toList ++ b.toList) o5.toList (a.toList.drop i) (b.toList.drop j)) (k2' : ∀ x ∈ a.toList.drop i, Le κ b[j] x) (hm : m ≤ i + j) :
    wpS (model prog w) A E s (lo2 a b o5 i j g p q) (LoR κ a b st m) st4 := by
  unfold lo2
  refine wpS_bind (w_el hj ?_)
  have m2 := (m1.sw.pushA hj fun y hy => k2' y hy).sw
  by_cases hb2 : j + 1 = b.size
  · rw [if_pos (by simpa using hb2)]
    exact wpS_pure ⟨he5, .inl ⟨_, rfl, m2.doneA (by omega)⟩⟩
  rw [if_neg (by simpa using hb2)]
  generalize o5.push b[j] = o6 at m2 ⊢
  refine wpS_bind (w_el (by omega) ?_)
  refine wpS_bind (w_galL hO hk (show j + 1 + (b.size - (j + 1)) ≤ b.size by omega) (by omega) hkb (hka _ (by simp)) (m2.sb.sublist (List.take_sublist _ _)) fun e hen e1 e2 => ?_)
  dsimp only
  have e2' : ∀ x ∈ b.toList.drop (j + 1 + e), Le κ (a[i]'(by omega)) x := fun x hx => e2 x (by rw [List.take_of_length_le (by rw [List.length_drop, Array.length_toList]; omega)]; exact hx)
  have m3 := (m2.sw.blkA (k := e) fun x hx y hy => Le.tr (e1 x hx) (le_drop (by omega) m2.sa y hy)).sw
  by_cases hep : e > 0
  · rw [if_pos hep]
    by_cases hb3 : j + 1 + e = b.size
    · rw [if_pos (by simpa using hb3)]
      exact wpS_pure ⟨he5, .inl ⟨_, rfl, m3.doneA (by omega)⟩⟩
    rw [if_neg (by simpa using hb3)]
    exact w_lo3 he5 hi (by omega) hl m3 e2' (by omega)
  · rw [if_neg hep]
    obtain rfl : e = 0 := by omega
    exact w_lo3 he5 hi (by omega) hl m2 e2' (by omega)
theorem w_mLo {st : SortSt} {a b : Array Keyed} {Q : Array Keyed → SortSt → Prop} (hO : LtR prog w A E s κ kd) (hk : kindOf st = kd) (ha : 0 < a.size) (hb : 0 < b.size) (hka : ∀ x ∈ a.toList, Hk κ x) (hkb : ∀ x ∈ b.toList, Hk κ x)
    (sa : a.toList.Pairwise (Le κ)) (sb : b.toList.Pairwise (Le κ)) (h0 : ∀ y ∈ a.toList, Le κ b[0] y) (hl : ∀ y ∈ b.toList, ∀ x, a.toList.getLast? = some x → Le κ y x)
    (h : ∀ r st', Ev st st' → Fi (Le κ) (a.toList ++ b.toList) r → Q r st') : wpS (model prog w) A E s (mLo' a b) Q st := by
  rw [mLo'_eq]
  refine wpS_bind (wpS_lift (wpAny_rule ⟨rfl, ?_⟩))
  refine wpS_bind (w_el hb ?_)
  have m0 : MI (Le κ) (a.toList ++ b.toList) #[b[0]].toList (a.toList.drop 0) (b.toList.drop 1) := by
    have m : MI (Le κ) (a.toList ++ b.toList) (#[] : Array Keyed).toList (b.toList.drop 0) (a.toList.drop 0) := (⟨List.Pairwise.nil, fun x hx => (nomatch hx), List.Perm.refl _, by simpa using sa, by simpa using sb⟩ : MI (Le κ) (a.toList ++ b.toList) [] (a.toList.drop 0) (b.toList.drop 0)).sw
    exact (m.pushA hb (fun y hy => h0 y (List.mem_of_mem_drop hy))).sw
  have mema : ∀ {i : Nat} (g : i < a.size), Hk κ a[i] := fun g => hka _ (by simp)
  have memb : ∀ {i : Nat} (g : i < b.size), Hk κ b[i] := fun g => hkb _ (by simp)
  by_cases hb1 : 1 = b.size
  · rw [if_pos (by simpa using hb1)]
    exact wpS_pure (h _ st Ev.r (m0.doneA (by omega)))
  rw [if_neg (by simpa using hb1)]
  by_cases ha1 : 0 + 1 = a.size
  · rw [if_pos (by simpa using ha1)]
    exact wpS_pure (h _ st Ev.r (m0.lastA ha1 hl))
  rw [if_neg (by simpa using ha1)]
  unfold mLoT
  dsimp only
  refine wpS_bind (wpS_get ?_)
  refine wpS_bind (wpS_mono (wpS_forRange (I := fun x c st' => Ev st st' ∧ ∃ o i j g, c = (none, o, i, j, g) ∧ GL κ a b o i j ∧ x ≤ i + j)
    (Q := fun c st' => Ev st st' ∧ ∃ r, c.1 = some r ∧ Fi (Le κ) (a.toList ++ b.toList) r) ?sp ?fi ⟨Ev.r, _, 0, 1, _, rfl, ⟨m0, by omega, by omega⟩, by omega⟩) ?po)
  case po =>
    rintro ⟨o, rest⟩ st' ⟨he, r, e1, hf⟩
    dsimp only at e1 ⊢
    subst e1
    exact wpS_pure (h r st' he hf)
  case fi =>
    rintro c st' ⟨he, o, i, j, g, rfl, hg, hx⟩
    have := hg.hi
    have := hg.hj
    omega
  case sp =>
    intro x c st1 _ hx
    revert c
    refine ex4 fun o0 i0 j0 g0 he1 hg0 hxx => ?_
    dsimp only
    refine wpS_bind (wpS_mono (wpS_forRange (I := fun x c st' => Ev st st' ∧ ∃ o i j p q, c = (none, o, i, j, p, q) ∧ GL κ a b o i j ∧ i0 + j0 + x ≤ i + j)
      (Q := fun c st' => Ev st st' ∧ ((∃ r, c.1 = some r ∧ Fi (Le κ) (a.toList ++ b.toList) r) ∨ (c.1 = none ∧ GL κ a b c.2.1 c.2.2.1 c.2.2.2.1 ∧ i0 + j0 + 1 ≤ c.2.2.1 + c.2.2.2.1))) ?sp1 ?fi1 ⟨he1, o0, i0, j0, 0, 0, rfl, hg0, by omega⟩) ?po1)
    case fi1 =>
      rintro c st' ⟨he, o, i, j, p, q, rfl, hg, hx2⟩
      exact ⟨he, .inr ⟨rfl, hg, by dsimp only; omega⟩⟩
    case sp1 =>
      intro x1 c st2 _ hx1
      revert c
      refine ex5 fun o i j p q he2 hg hx2 => ?_
      have hi := hg.hi
      have hj := hg.hj
      dsimp only
      refine wpS_bind (w_el hj (wpS_bind (w_el (by omega) ?_)))
      refine wpS_bind (w_lt3 hO (he2.knd.trans hk) (memb hj) (mema (by omega)) ?_)
      dsimp only
      cases ht : κ.blt (kf κ b[j]) (kf κ (a[i]'(by omega))) with
      | true =>
        rw [if_pos rfl]
        refine wpS_bind (w_el hj ?_)
        have m1 := (hg.mi.sw.pushA hj fun y hy => Le.tr (KeyOrd.kle_of_klt ht) (le_drop (by omega) hg.mi.sa y hy)).sw
        by_cases hb2 : j + 1 = b.size
        · rw [if_pos (by simpa using hb2)]
          exact wpS_pure ⟨he2, .inl ⟨_, rfl, m1.doneA (by omega)⟩⟩
        · rw [if_neg (by simpa using hb2)]
          have g1 : GL κ a b (o.push b[j]) i (j + 1) := ⟨m1, hi, by omega⟩
          split
          · exact wpS_pure ⟨he2, .inr ⟨rfl, g1, by dsimp only; omega⟩⟩
          · exact wpS_pure ⟨he2, _, _, _, _, _, rfl, g1, by omega⟩
      | false =>
        rw [if_neg Bool.false_ne_true]
        refine wpS_bind (w_el (by omega) ?_)
        have m1 := hg.mi.pushA (by omega) fun y hy => Le.tr (show Le κ _ b[j] from ht) (le_drop hj hg.mi.sb y hy)
        by_cases ha2 : i + 1 + 1 = a.size
        · rw [if_pos (by simpa using ha2)]
          exact wpS_pure ⟨he2, .inl ⟨_, rfl, m1.lastA ha2 hl⟩⟩
        · rw [if_neg (by simpa using ha2)]
          have g1 : GL κ a b (o.push (a[i]'(by omega))) (i + 1) j := ⟨m1, by omega, hj⟩
          split
          · exact wpS_pure ⟨he2, .inr ⟨rfl, g1, by dsimp only; omega⟩⟩
          · exact wpS_pure ⟨he2, _, _, _, _, _, rfl, g1, by omega⟩
    case po1 =>
      intro c st2
      revert c
      refine or6 (fun o i j => GL κ a b o i j) (fun o i j => i0 + j0 + 1 ≤ i + j) (fun r o1 i1 j1 e he2 hf => ?_) (fun o1 i1 j1 e he2 hg1 hx2 => ?_)
      · exact wpS_pure ⟨he2, r, rfl, hf⟩
      · dsimp only
        refine wpS_bind (wpS_lift (wpAny_rule ⟨rfl, ?_⟩))
        refine wpS_bind (wpS_mono (wpS_forRange (I := fun x c st' => Ev st st' ∧ ∃ o i j g p q, c = (none, o, i, j, g, p, q) ∧ GL κ a b o i j ∧ i1 + j1 ≤ i + j)
          (Q := fun c st' => Ev st st' ∧ ((∃ r, c.1 = some r ∧ Fi (Le κ) (a.toList ++ b.toList) r) ∨ (c.1 = none ∧ GL κ a b c.2.1 c.2.2.1 c.2.2.2.1 ∧ i1 + j1 ≤ c.2.2.1 + c.2.2.2.1))) ?sp2 ?fi2 ⟨he2, o1, i1, j1, _, _, _, rfl, hg1, by omega⟩) ?po2)
        case fi2 =>
          rintro c st' ⟨he, o, i, j, g, p, q, rfl, hg, hx2⟩
          exact ⟨he, .inr ⟨rfl, hg, hx2⟩⟩
        case po2 =>
          intro c st3
          revert c
          refine or6 (fun o i j => GL κ a b o i j) (fun o i j => i1 + j1 ≤ i + j) (fun r o2 i2 j2 e he3 hf => ?_) (fun o2 i2 j2 e he3 hg2 hx3 => ?_)
          · exact wpS_pure ⟨he3, r, rfl, hf⟩
          · dsimp only
            exact wpS_bind (w_setG fun st4 he4 => wpS_pure ⟨he3.t he4, o2, i2, j2, _, rfl, hg2, by omega⟩)
        case sp2 =>
          intro x2 c st3 _ hx3
          revert c
          refine ex6 fun o i j g p q he3 hg hxx2 => ?_
          have hi := hg.hi
          have hj := hg.hj
          dsimp only
          refine have key : ∀ g1 : Nat, wpS (model prog w) A E s ((?F : Nat → StateT SortSt Sem ?α) g1) ?QQ st3 := ?key; ?main
          case main =>
            by_cases hgg : g > 1
            · rw [if_pos hgg]; generalize g - 1 = g1; exact key g1
            · rw [if_neg hgg]; generalize g = g1; exact key g1
          case key =>
            intro g1
            refine wpS_bind (w_setG fun st4 he4 => ?_)
            have he5 := he3.t he4
            refine wpS_bind (w_el hj ?_)
            refine wpS_bind (w_galR hO (he5.knd.trans hk) (show i + (a.size - i) ≤ a.size by omega) (by omega) hka (memb hj) (hg.mi.sa.sublist (List.take_sublist _ _)) fun k hkn k1 k2 => ?_)
            dsimp only
            have k2' : ∀ x ∈ a.toList.drop (i + k), Le κ b[j] x := fun x hx => k2 x (by rw [List.take_of_length_le (by rw [List.length_drop, Array.length_toList]; omega)]; exact hx)
            have m1 := hg.mi.blkA (k := k) fun x hx y hy => Le.tr (k1 x hx) (le_drop hj hg.mi.sb y hy)
            by_cases hkp : k > 0
            · rw [if_pos hkp]
              by_cases ha2 : i + k + 1 = a.size
              · rw [if_pos (by simpa using ha2)]
                exact wpS_pure ⟨he5, .inl ⟨_, rfl, m1.lastA ha2 hl⟩⟩
              rw [if_neg (by simpa using ha2)]
              by_cases ha3 : i + k = a.size
              · rw [if_pos (by simpa using ha3)]
                exact wpS_pure ⟨he5, .inl ⟨_, rfl, m1.doneB (by omega)⟩⟩
              rw [if_neg (by simpa using ha3)]
              refine w_eq (m' := lo2 a b (o ++ a.extract i (i + k)) (i + k) j g1 k q) rfl ?_
              exact wpS_mono (w_lo2 (m := i1 + j1) hO (he5.knd.trans hk) hka hkb hl he5 (by omega) hj m1 k2' (by omega)) fun r st' hr => by cases r <;> exact hr
            · rw [if_neg hkp]
              obtain rfl : k = 0 := by omega
              refine w_eq (m' := lo2 a b o i j g1 0 q) rfl ?_
              exact wpS_mono (w_lo2 (m := i1 + j1) hO (he5.knd.trans hk) hka hkb hl he5 hi hj hg.mi k2' (by omega)) fun r st' hr => by cases r <;> exact hr
end
end SR

set_option autoImplicit false
set_option linter.all false
set_option maxRecDepth 100000
namespace SR
open PySem PyProof.Rows
noncomputable def Ge (κ : KeyKind) (x y : Keyed) : Prop := Le κ y x
noncomputable def rt (a : Array Keyed) (n : Nat) : List Keyed := (a.toList.take n).reverse
theorem rt_cons {a : Array Keyed} {n : Nat} (h : n < a.size) : rt a (n + 1) = a[n] :: rt a n := by
  unfold rt
  rw [List.take_add_one, Array.getElem?_toList, getElem?_pos a n h]
  simp
theorem rt_split {a : Array Keyed} {k n : Nat} (h : k ≤ n) : rt a n = ((a.toList.drop k).take (n - k)).reverse ++ rt a k := by
  unfold rt
  rw [← List.reverse_append]
  congr 1
  rw [show n = k + (n - k) by omega, List.take_add, Nat.add_sub_cancel_left]
theorem ext_rev {a : Array Keyed} {k n : Nat} : (a.extract k n).reverse.toList = ((a.toList.drop k).take (n - k)).reverse := by
  rw [Array.toList_reverse, Array.toList_extract, List.extract_eq_take_drop]
theorem MI.pushT {R : Keyed → Keyed → Prop} {Z : List Keyed} {o a : Array Keyed} {n : Nat} {rb : List Keyed} (h : MI R Z o.toList (rt a (n + 1)) rb) (hn : n < a.size) (hu : ∀ y ∈ rb, R a[n] y) : MI R Z (o.push a[n]).toList (rt a n) rb := by
  rw [rt_cons hn, ← List.singleton_append] at h
  have := h.blk fun x hx y hy => by rw [List.mem_singleton.mp hx]; exact hu y hy
  rw [Array.toList_push]
  exact this
theorem MI.blkT {R : Keyed → Keyed → Prop} {Z : List Keyed} {o a : Array Keyed} {k n : Nat} {rb : List Keyed} (h : MI R Z o.toList (rt a n) rb) (hk : k ≤ n) (hu : ∀ x ∈ (a.toList.drop k).take (n - k), ∀ y ∈ rb, R x y) : MI R Z (o ++ (a.extract k n).reverse).toList (rt a k) rb := by
  rw [rt_split hk] at h
  rw [Array.toList_append, ext_rev]
  exact h.blk fun x hx y hy => hu x (List.mem_reverse.mp hx) y hy
theorem fi_rev {κ : KeyKind} {Z : List Keyed} {r : Array Keyed} {l : List Keyed} (e : r.toList.reverse = l) (h : l.Perm Z ∧ l.Pairwise (Ge κ)) : Fi (Le κ) Z r := by
  have e2 : r.toList = l.reverse := by rw [← e, List.reverse_reverse]
  unfold Fi
  rw [e2]
  exact ⟨(List.reverse_perm l).trans h.1, List.pairwise_reverse.mpr h.2⟩
theorem ext_to (a : Array Keyed) (n : Nat) : (a.extract 0 n).toList = a.toList.take n := by
  rw [Array.toList_extract, List.extract_eq_take_drop, List.drop_zero, Nat.sub_zero]
theorem MI.doneT {κ : KeyKind} {Z : List Keyed} {o a b : Array Keyed} {m : Nat} (h : MI (Ge κ) Z o.toList (rt a 0) (rt b m)) : Fi (Le κ) Z (a.extract 0 0 ++ b.extract 0 m ++ o.reverse) := by
  refine fi_rev (l := o.toList ++ rt b m) ?_ ?_
  · rw [Array.toList_append, Array.toList_append, ext_to, ext_to, Array.toList_reverse]
    simp [rt]
  · have h2 : MI (Ge κ) Z o.toList [] (rt b m) := h
    exact h2.sw.fin
theorem MI.doneT2 {κ : KeyKind} {Z : List Keyed} {o a b : Array Keyed} {n : Nat} (h : MI (Ge κ) Z o.toList (rt a n) (rt b 0)) : Fi (Le κ) Z (a.extract 0 n ++ b.extract 0 0 ++ o.reverse) := by
  refine fi_rev (l := o.toList ++ rt a n) ?_ ?_
  · rw [Array.toList_append, Array.toList_append, ext_to, ext_to, Array.toList_reverse]
    simp [rt]
  · have h2 : MI (Ge κ) Z o.toList (rt a n) [] := h
    exact h2.fin
theorem MI.firstT {κ : KeyKind} {Z : List Keyed} {o a b : Array Keyed} {n : Nat} (hb : 0 < b.size) (h : MI (Ge κ) Z o.toList (rt a n) (rt b 1)) (h0 : ∀ y ∈ a.toList, Le κ b[0] y) : Fi (Le κ) Z (b.extract 0 1 ++ a.extract 0 n ++ o.reverse) := by
  refine fi_rev (l := o.toList ++ rt a n ++ rt b 1) ?_ ?_
  · rw [Array.toList_append, Array.toList_append, ext_to, ext_to, Array.toList_reverse]
    simp [rt]
  · have e1 : rt b 1 = [b[0]] := by rw [rt_cons hb]; rfl
    rw [show rt a n = rt a n ++ [] from (List.append_nil _).symm] at h
    have h2 := (h.blk fun x hx y hy => by
      rw [e1, List.mem_singleton] at hy
      rw [hy]
      exact h0 x (List.mem_of_mem_take (List.mem_reverse.mp hx))).sw
    exact h2.fin
noncomputable def mHi' : Array Keyed → Array Keyed → StateT SortSt Sem (Array Keyed) := sortPriv% PySem.Builtin.mergeHi
noncomputable def mHiT (a b o : Array Keyed) (i j : Nat) : StateT SortSt Sem (Array Keyed) := do
  let tot := a.size + b.size
  let dn (o : Array Keyed) (i j : Nat) := a.extract 0 i ++ b.extract 0 j ++ o.reverse
  let fb (o : Array Keyed) (i j : Nat) := b.extract 0 j ++ a.extract 0 i ++ o.reverse
  let mut i := i
  let mut j := j
  let mut o := o
  let mut g := gallopOf (← get)
  for _ in [0:tot] do
    let mut p := 0
    let mut q := 0
    for _ in [0:tot] do
      let some t ← lt' (← elem' b (j - 1)) (← elem' a (i - 1)) | return dn o i j
      if t then
        i := i - 1; o := o.push (← elem' a i); p := p + 1; q := 0
        if i == 0 then return dn o i j
        if p ≥ g then break
      else
        j := j - 1; o := o.push (← elem' b j); q := q + 1; p := 0
        if j == 1 then return fb o i j
        if q ≥ g then break
    rule "list.sort.gallop"
    g := g + 1
    for _ in [0:tot] do
      if g > 1 then g := g - 1
      setG g
      let some y ← gal' false (← elem' b (j - 1)) a 0 i (i - 1) | return dn o i j
      let k := i - y
      p := k
      if k > 0 then
        o := o ++ (a.extract y i).reverse; i := y
        if i == 0 then return dn o i j
      j := j - 1; o := o.push (← elem' b j)
      if j == 1 then return fb o i j
      let some y ← gal' true (← elem' a (i - 1)) b 0 j (j - 1) | return dn o i j
      let k := j - y
      q := k
      if k > 0 then
        o := o ++ (b.extract y j).reverse; j := y
        if j == 1 then return fb o i j
        if j == 0 then return dn o i j
      i := i - 1; o := o.push (← elem' a i)
      if i == 0 then return dn o i j
      if p < 7 && q < 7 then break
    g := g + 1
    setG g
  unsupported "internal:list.sort.merge-bound"
theorem mHi'_eq (a b : Array Keyed) : mHi' a b = (do
  rule "list.sort.merge-hi"
  let x ← elem' a (a.size - 1)
  if a.size - 1 == 0 then return a.extract 0 (a.size - 1) ++ b.extract 0 b.size ++ #[x].reverse
  if b.size == 1 then return b.extract 0 b.size ++ a.extract 0 (a.size - 1) ++ #[x].reverse
  mHiT a b #[x] (a.size - 1) b.size) := rfl
section
variable {prog : Program} {w : World} {A : Around} {E : Value → Shared → Prop} {s : Shared} {κ : KeyKind} {kd : SortKind}
set_option genInjectivity false in
structure GH (κ : KeyKind) (a b o : Array Keyed) (i j : Nat) : Prop where
  mi : MI (Ge κ) (a.toList ++ b.toList) o.toList (rt a i) (rt b j)
  hi : 1 ≤ i ∧ i ≤ a.size
  hj : 2 ≤ j ∧ j ≤ b.size
theorem ge_rt {a : Array Keyed} {i : Nat} (hi : i < a.size) (h : (rt a (i + 1)).Pairwise (Ge κ)) : ∀ y ∈ rt a (i + 1), Ge κ a[i] y := by
  rw [rt_cons hi] at h ⊢
  intro y hy
  rcases List.mem_cons.mp hy with g | g
  · rw [g]; exact KeyOrd.kle_refl _
  · exact (List.pairwise_cons.mp h).1 y g
theorem rt_mem {a : Array Keyed} {k : Nat} {x : Keyed} (h : x ∈ rt a k) : x ∈ (a.toList.drop 0).take k := by
  rw [List.drop_zero]; exact List.mem_reverse.mp h
noncomputable abbrev HiSt := Option (Array Keyed) × Nat × Nat × Array Keyed × Nat × Nat × Nat
noncomputable def hi3 (a b o : Array Keyed) (i j g p q : Nat) : StateT SortSt Sem (ForInStep HiSt) := do
  let x ← elem' a (i - 1)
  if (i - 1 == 0) = true then pure (ForInStep.done (some (a.extract 0 (i - 1) ++ b.extract 0 j ++ (o.push x).reverse), i - 1, j, o.push x, g, p, q))
  else if (decide (p < 7) && decide (q < 7)) = true then pure (ForInStep.done (none, i - 1, j, o.push x, g, p, q)) else pure (ForInStep.yield (none, i - 1, j, o.push x, g, p, q))
noncomputable def hi2 (a b o : Array Keyed) (i j g p q : Nat) : StateT SortSt Sem (ForInStep HiSt) := do
  let x ← elem' b j
  if (j == 1) = true then pure (ForInStep.done (some (b.extract 0 j ++ a.extract 0 i ++ (o.push x).reverse), i, j, o.push x, g, p, q))
  else do
    let u ← elem' a (i - 1)
    let z ← gal' true u b 0 j (j - 1)
    match z with
    | some y =>
      if j - y > 0 then
        if (y == 1) = true then pure (ForInStep.done (some (b.extract 0 y ++ a.extract 0 i ++ (o.push x ++ (b.extract y j).reverse).reverse), i, y, o.push x ++ (b.extract y j).reverse, g, p, j - y))
        else if (y == 0) = true then pure (ForInStep.done (some (a.extract 0 i ++ b.extract 0 y ++ (o.push x ++ (b.extract y j).reverse).reverse), i, y, o.push x ++ (b.extract y j).reverse, g, p, j - y))
        else hi3 a b (o.push x ++ (b.extract y j).reverse) i y g p (j - y)
      else hi3 a b (o.push x) i j g p (j - y)
    | _ => pure (ForInStep.done (some (a.extract 0 i ++ b.extract 0 j ++ (o.push x).reverse), i, j, o.push x, g, p, q))
noncomputable abbrev HiR (κ : KeyKind) (a b : Array Keyed) (st : SortSt) (m : Nat) : ForInStep HiSt → SortSt → Prop := fun r st' => match r with
  | .yield c => Ev st st' ∧ ∃ o i j g p q, c = (none, i, j, o, g, p, q) ∧ GH κ a b o i j ∧ i + j ≤ m
  | .done c => Ev st st' ∧ ((∃ r, c.1 = some r ∧ Fi (Le κ) (a.toList ++ b.toList) r) ∨ (c.1 = none ∧ GH κ a b c.2.2.2.1 c.2.1 c.2.2.1 ∧ c.2.1 + c.2.2.1 ≤ m))
theorem w_hi3 {st st4 : SortSt} {a b o7 : Array Keyed} {y e5 g p q5 m : Nat} (he5 : Ev st st4) (hya : y < a.size) (m3 : MI (Ge κ) (a.toList ++ b.toList) o7.toList (rt a (y + 1)) (rt b e5)) (e1' : ∀ x ∈ rt b e5, Le κ x a[y]) (h2 : 2 ≤ e5 ∧ e5 ≤ b.size) (hm : y + e5 ≤ m) :
    wpS (model prog w) A E s (hi3 a b o7 (y + 1) e5 g p q5) (HiR κ a b st m) st4 := by
  unfold hi3
  simp only [Nat.add_sub_cancel]
  refine wpS_bind (w_el hya ?_)
  have m4 := m3.pushT hya fun u hu => e1' u hu
  by_cases ha4 : y = 0
  · rw [if_pos (by simpa using ha4)]
    subst ha4
    exact wpS_pure ⟨he5, .inl ⟨_, rfl, m4.doneT⟩⟩
  rw [if_neg (by simpa using ha4)]
  split
  · exact wpS_pure ⟨he5, .inr ⟨rfl, ⟨m4, by dsimp only; omega, h2⟩, hm⟩⟩
  · exact wpS_pure ⟨he5, _, _, _, _, _, _, rfl, ⟨m4, by omega, h2⟩, hm⟩
theorem w_hi2 {st st4 : SortSt} {a b o5 : Array Keyed} {y j g p q m : Nat} (hO : LtR prog w A E s κ kd) (hk : kindOf st4 = kd) (hb : 0 < b.size) (hka : ∀ x ∈ a.toList, Hk κ x) (hkb : ∀ x ∈ b.toList, Hk κ x) (sb : b.toList.Pairwise (Le κ)) (h0 : ∀ y ∈ a.toList, Le κ b[0] y)
    (he5 : Ev st st4) (hya : y < a.size) (hj : 1 ≤ j ∧ j < b.size) (m1 : MI (Ge κ) (a.toList ++ b.toList) o5.toList (rt a (y + 1)) (rt b (j + 1))) (k1' : ∀ x ∈ rt a (y + 1), Le κ x b[j]) (hm : y + j ≤ m) :
    wpS (model prog w) A E s (hi2 a b o5 (y + 1) j g p q) (HiR κ a b st m) st4 := by
  unfold hi2
  refine wpS_bind (w_el hj.2 ?_)
  have m2 := (m1.sw.pushT hj.2 fun u hu => k1' u hu).sw
  by_cases hb2 : j = 1
  · rw [if_pos (by simpa using hb2)]
    subst hb2
    exact wpS_pure ⟨he5, .inl ⟨_, rfl, m2.firstT hb h0⟩⟩
  rw [if_neg (by simpa using hb2)]
  generalize o5.push b[j] = o6 at m2 ⊢
  simp only [Nat.add_sub_cancel]
  refine wpS_bind (w_el hya ?_)
  refine wpS_bind (w_galL hO hk (show 0 + j ≤ b.size by omega) (by omega) hkb (hka _ (by simp)) (by rw [List.drop_zero]; exact sb.sublist (List.take_sublist _ _)) fun e hen e1 e2 => ?_)
  dsimp only
  rw [Nat.zero_add] at e2
  have m3 := (m2.sw.blkT hen fun x hx u hu => Le.tr (ge_rt hya m2.sa u hu) (e2 x hx)).sw
  have e1' : ∀ x ∈ rt b e, Le κ x a[y] := fun x hx => e1 x (rt_mem hx)
  by_cases hep : j - e > 0
  · rw [if_pos hep]
    by_cases hb3 : e = 1
    · rw [if_pos (by simpa using hb3)]
      subst hb3
      exact wpS_pure ⟨he5, .inl ⟨_, rfl, m3.firstT hb h0⟩⟩
    rw [if_neg (by simpa using hb3)]
    by_cases hb4 : e = 0
    · rw [if_pos (by simpa using hb4)]
      subst hb4
      exact wpS_pure ⟨he5, .inl ⟨_, rfl, m3.doneT2⟩⟩
    rw [if_neg (by simpa using hb4)]
    exact w_hi3 he5 hya m3 e1' (by omega) (by omega)
  · rw [if_neg hep]
    obtain rfl : e = j := by omega
    exact w_hi3 he5 hya m2 e1' (by omega) hm
theorem w_mHi {st : SortSt} {a b : Array Keyed} {Q : Array Keyed → SortSt → Prop} (hO : LtR prog w A E s κ kd) (hk : kindOf st = kd) (ha : 0 < a.size) (hb : 0 < b.size) (hka : ∀ x ∈ a.toList, Hk κ x) (hkb : ∀ x ∈ b.toList, Hk κ x)
    (sa : a.toList.Pairwise (Le κ)) (sb : b.toList.Pairwise (Le κ)) (h0 : ∀ y ∈ a.toList, Le κ b[0] y) (hl : ∀ y ∈ b.toList, ∀ x, a.toList.getLast? = some x → Le κ y x)
    (h : ∀ r st', Ev st st' → Fi (Le κ) (a.toList ++ b.toList) r → Q r st') : wpS (model prog w) A E s (mHi' a b) Q st := by
  rw [mHi'_eq]
  refine wpS_bind (wpS_lift (wpAny_rule ⟨rfl, ?_⟩))
  refine wpS_bind (w_el (by omega) ?_)
  have pr : ∀ (l : Array Keyed), l.toList.Pairwise (Le κ) → (rt l l.size).Pairwise (Ge κ) := fun l hl => by
    unfold rt
    rw [List.take_of_length_le (by rw [Array.length_toList]; exact Nat.le_refl _)]
    exact List.pairwise_reverse.mpr hl
  have m0 : MI (Ge κ) (a.toList ++ b.toList) #[a[a.size - 1]'(by omega)].toList (rt a (a.size - 1)) (rt b b.size) := by
    have m : MI (Ge κ) (a.toList ++ b.toList) (#[] : Array Keyed).toList (rt a (a.size - 1 + 1)) (rt b b.size) := by
      refine ⟨List.Pairwise.nil, fun x hx => (nomatch hx), ?_, by rw [show a.size - 1 + 1 = a.size by omega]; exact pr a sa, pr b sb⟩
      rw [show a.size - 1 + 1 = a.size by omega]
      show (rt a a.size ++ rt b b.size).Perm _
      unfold rt
      rw [List.take_of_length_le (by rw [Array.length_toList]; exact Nat.le_refl _), List.take_of_length_le (by rw [Array.length_toList]; exact Nat.le_refl _)]
      exact (List.reverse_perm _).append (List.reverse_perm _)
    refine m.pushT (by omega) fun y hy => ?_
    refine hl y (List.mem_of_mem_take (List.mem_reverse.mp hy)) _ ?_
    rw [List.getLast?_eq_getElem?, Array.length_toList, Array.getElem?_toList, getElem?_pos a (a.size - 1) (by omega)]
  generalize #[a[a.size - 1]'(by omega)] = o0 at m0 ⊢
  have mema : ∀ {i : Nat} (g : i < a.size), Hk κ a[i] := fun g => hka _ (by simp)
  have memb : ∀ {i : Nat} (g : i < b.size), Hk κ b[i] := fun g => hkb _ (by simp)
  by_cases ha1 : a.size - 1 = 0
  · rw [if_pos (by simpa using ha1)]
    refine wpS_pure (h _ st Ev.r ?_)
    rw [ha1] at m0 ⊢
    exact m0.doneT
  rw [if_neg (by simpa using ha1)]
  by_cases hb1 : b.size = 1
  · rw [if_pos (by simpa using hb1)]
    refine wpS_pure (h _ st Ev.r ?_)
    rw [hb1] at m0 ⊢
    exact m0.firstT hb h0
  rw [if_neg (by simpa using hb1)]
  unfold mHiT
  dsimp only
  refine wpS_bind (wpS_get ?_)
  refine wpS_bind (wpS_mono (wpS_forRange (I := fun x c st' => Ev st st' ∧ ∃ o i j g, c = (none, i, j, o, g) ∧ GH κ a b o i j ∧ i + j + x ≤ a.size + b.size)
    (Q := fun c st' => Ev st st' ∧ ∃ r, c.1 = some r ∧ Fi (Le κ) (a.toList ++ b.toList) r) ?sp ?fi ⟨Ev.r, _, _, _, _, rfl, ⟨m0, by omega, by omega⟩, by omega⟩) ?po)
  case po =>
    rintro ⟨o, rest⟩ st' ⟨he, r, e1, hf⟩
    dsimp only at e1 ⊢
    subst e1
    exact wpS_pure (h r st' he hf)
  case fi =>
    rintro c st' ⟨he, o, i, j, g, rfl, hg, hx⟩
    have := hg.hi
    have := hg.hj
    omega
  case sp =>
    intro x c st1 _ hx
    revert c
    refine ex4 fun o0 i0 j0 g0 he1 hg0 hxx => ?_
    dsimp only
    refine wpS_bind (wpS_mono (wpS_forRange (I := fun x c st' => Ev st st' ∧ ∃ o i j p q, c = (none, i, j, o, p, q) ∧ GH κ a b o i j ∧ i + j + x ≤ i0 + j0)
      (Q := fun c st' => Ev st st' ∧ ((∃ r, c.1 = some r ∧ Fi (Le κ) (a.toList ++ b.toList) r) ∨ (c.1 = none ∧ GH κ a b c.2.2.2.1 c.2.1 c.2.2.1 ∧ c.2.1 + c.2.2.1 + 1 ≤ i0 + j0))) ?sp1 ?fi1 ⟨he1, o0, i0, j0, 0, 0, rfl, hg0, by omega⟩) ?po1)
    case fi1 =>
      rintro c st' ⟨he, o, i, j, p, q, rfl, hg, hx2⟩
      exact ⟨he, .inr ⟨rfl, hg, by dsimp only; omega⟩⟩
    case sp1 =>
      intro x1 c st2 _ hx1
      revert c
      refine ex5 fun o i j p q he2 hg hx2 => ?_
      obtain ⟨i, rfl⟩ : ∃ i', i = i' + 1 := ⟨i - 1, by have := hg.hi; omega⟩
      obtain ⟨j, rfl⟩ : ∃ j', j = j' + 1 := ⟨j - 1, by have := hg.hj; omega⟩
      have hi := hg.hi
      have hj := hg.hj
      dsimp only
      simp only [Nat.add_sub_cancel]
      refine wpS_bind (w_el (by omega) (wpS_bind (w_el (by omega) ?_)))
      refine wpS_bind (w_lt3 hO (he2.knd.trans hk) (memb (by omega)) (mema (by omega)) ?_)
      dsimp only
      cases ht : κ.blt (kf κ (b[j]'(by omega))) (kf κ (a[i]'(by omega))) with
      | true =>
        rw [if_pos rfl]
        refine wpS_bind (w_el (by omega) ?_)
        have m1 := hg.mi.pushT (by omega) fun y hy => Le.tr (ge_rt (by omega) hg.mi.sb y hy) (KeyOrd.kle_of_klt ht)
        by_cases ha2 : i = 0
        · rw [if_pos (by simpa using ha2)]
          subst ha2
          exact wpS_pure ⟨he2, .inl ⟨_, rfl, m1.doneT⟩⟩
        · rw [if_neg (by simpa using ha2)]
          have g1 : GH κ a b (o.push (a[i]'(by omega))) i (j + 1) := ⟨m1, by omega, by omega⟩
          split
          · exact wpS_pure ⟨he2, .inr ⟨rfl, g1, by dsimp only; omega⟩⟩
          · exact wpS_pure ⟨he2, _, _, _, _, _, rfl, g1, by omega⟩
      | false =>
        rw [if_neg Bool.false_ne_true]
        refine wpS_bind (w_el (by omega) ?_)
        have m1 := (hg.mi.sw.pushT (by omega) fun y hy => Le.tr (ge_rt (by omega) hg.mi.sa y hy) (show Le κ _ _ from ht)).sw
        by_cases hb2 : j = 1
        · rw [if_pos (by simpa using hb2)]
          subst hb2
          exact wpS_pure ⟨he2, .inl ⟨_, rfl, m1.firstT hb h0⟩⟩
        · rw [if_neg (by simpa using hb2)]
          have g1 : GH κ a b (o.push (b[j]'(by omega))) (i + 1) j := ⟨m1, by omega, by omega⟩
          split
          · exact wpS_pure ⟨he2, .inr ⟨rfl, g1, by dsimp only; omega⟩⟩
          · exact wpS_pure ⟨he2, _, _, _, _, _, rfl, g1, by omega⟩
    case po1 =>
      intro c st2
      revert c
      refine or6 (fun i j o => GH κ a b o i j) (fun i j o => i + j + 1 ≤ i0 + j0) (fun r i1 j1 o1 e he2 hf => ?_) (fun i1 j1 o1 e he2 hg1 hx2 => ?_)
      · exact wpS_pure ⟨he2, r, rfl, hf⟩
      · dsimp only
        refine wpS_bind (wpS_lift (wpAny_rule ⟨rfl, ?_⟩))
        refine wpS_bind (wpS_mono (wpS_forRange (I := fun x c st' => Ev st st' ∧ ∃ o i j g p q, c = (none, i, j, o, g, p, q) ∧ GH κ a b o i j ∧ i + j ≤ i1 + j1)
          (Q := fun c st' => Ev st st' ∧ ((∃ r, c.1 = some r ∧ Fi (Le κ) (a.toList ++ b.toList) r) ∨ (c.1 = none ∧ GH κ a b c.2.2.2.1 c.2.1 c.2.2.1 ∧ c.2.1 + c.2.2.1 ≤ i1 + j1))) ?sp2 ?fi2 ⟨he2, o1, i1, j1, _, _, _, rfl, hg1, by omega⟩) ?po2)
        case fi2 =>
          rintro c st' ⟨he, o, i, j, g, p, q, rfl, hg, hx2⟩
          exact ⟨he, .inr ⟨rfl, hg, hx2⟩⟩
        case po2 =>
          intro c st3
          revert c
          refine or6 (fun i j o => GH κ a b o i j) (fun i j o => i + j ≤ i1 + j1) (fun r i2 j2 o2 e he3 hf => ?_) (fun i2 j2 o2 e he3 hg2 hx3 => ?_)
          · exact wpS_pure ⟨he3, r, rfl, hf⟩
          · dsimp only
            exact wpS_bind (w_setG fun st4 he4 => wpS_pure ⟨he3.t he4, o2, i2, j2, _, rfl, hg2, by omega⟩)
        case sp2 =>
          intro x2 c st3 _ hx3
          revert c
          refine ex6 fun o i j g p q he3 hg hxx2 => ?_
          obtain ⟨j, rfl⟩ : ∃ j', j = j' + 1 := ⟨j - 1, by have := hg.hj; omega⟩
          have hi := hg.hi
          have hj := hg.hj
          dsimp only
          simp only [Nat.add_sub_cancel]
          refine have key : ∀ g1 : Nat, wpS (model prog w) A E s ((?F : Nat → StateT SortSt Sem ?α) g1) ?QQ st3 := ?key; ?main
          case main =>
            by_cases hgg : g > 1
            · rw [if_pos hgg]; generalize g - 1 = g1; exact key g1
            · rw [if_neg hgg]; generalize g = g1; exact key g1
          case key =>
            intro g1
            refine wpS_bind (w_setG fun st4 he4 => ?_)
            have he5 := he3.t he4
            refine wpS_bind (w_el (by omega) ?_)
            refine wpS_bind (w_galR hO (he5.knd.trans hk) (show 0 + i ≤ a.size by omega) (by omega) hka (memb (by omega)) (by rw [List.drop_zero]; exact sa.sublist (List.take_sublist _ _)) fun y hyn k1 k2 => ?_)
            dsimp only
            rw [Nat.zero_add] at k2
            have m1 := hg.mi.blkT hyn fun x hx u hu => Le.tr (ge_rt (by omega) hg.mi.sb u hu) (k2 x hx)
            have k1' : ∀ x ∈ rt a y, Le κ x (b[j]'(by omega)) := fun x hx => k1 x (rt_mem hx)
            by_cases hkp : i - y > 0
            · rw [if_pos hkp]
              by_cases ha2 : y = 0
              · rw [if_pos (by simpa using ha2)]
                subst ha2
                exact wpS_pure ⟨he5, .inl ⟨_, rfl, m1.doneT⟩⟩
              rw [if_neg (by simpa using ha2)]
              obtain ⟨y, rfl⟩ : ∃ y', y = y' + 1 := ⟨y - 1, by omega⟩
              refine w_eq (m' := hi2 a b (o ++ (a.extract (y + 1) i).reverse) (y + 1) j g1 (i - (y + 1)) q) rfl ?_
              exact wpS_mono (w_hi2 (m := i1 + j1) hO (he5.knd.trans hk) hb hka hkb sb h0 he5 (by omega) (by omega) m1 k1' (by omega)) fun r st' hr => by cases r <;> exact hr
            · rw [if_neg hkp]
              obtain rfl : y = i := by omega
              obtain ⟨y, rfl⟩ : ∃ y', y = y' + 1 := ⟨y - 1, by omega⟩
              refine w_eq (m' := hi2 a b o (y + 1) j g1 (y + 1 - (y + 1)) q) rfl ?_
              exact wpS_mono (w_hi2 (m := i1 + j1) hO (he5.knd.trans hk) hb hka hkb sb h0 he5 (by omega) (by omega) hg.mi k1' (by omega)) fun r st' hr => by cases r <;> exact hr
end
end SR

set_option autoImplicit false
set_option linter.all false
set_option maxRecDepth 100000
namespace SR
open PySem PyProof.Rows
theorem fold_get (base : Nat) : ∀ (l : List Keyed) (n : Nat) (a : Array Keyed) (t : Nat), base + n + l.length ≤ a.size →
    ((l.zipIdx n).foldl (fun a (p, j) => a.setIfInBounds (base + j) p) a)[t]? = if base + n ≤ t ∧ t < base + n + l.length then l[t - (base + n)]? else a[t]?
  | [], n, a, t, h => by
    rw [if_neg (by simp only [List.length_nil]; omega)]
    rfl
  | p :: l, n, a, t, h => by
    rw [List.length_cons] at h ⊢
    rw [List.zipIdx_cons, List.foldl_cons]
    have ih := fold_get base l (n + 1) (a.setIfInBounds (base + n) p) t (by rw [Array.size_setIfInBounds]; omega)
    rw [show (List.foldl (fun a x => a.setIfInBounds (base + x.2) x.1) (a.setIfInBounds (base + n) p) (l.zipIdx (n + 1)))[t]? = _ from ih, Array.getElem?_setIfInBounds]
    by_cases h1 : t = base + n
    · subst h1
      rw [if_neg (by omega), if_pos rfl, if_pos (by omega), if_pos (by omega), Nat.sub_self]
      rfl
    · by_cases h2 : base + n ≤ t ∧ t < base + n + (l.length + 1)
      · rw [if_pos (by omega), if_pos h2, show t - (base + n) = t - (base + (n + 1)) + 1 by omega]
        rfl
      · rw [if_neg (by omega), if_neg (by omega), if_neg h2]
theorem fold_list (base : Nat) (l : List Keyed) (a : Array Keyed) (h : base + l.length ≤ a.size) :
    (l.zipIdx.foldl (fun a (p, j) => a.setIfInBounds (base + j) p) a).toList = a.toList.take base ++ (l ++ a.toList.drop (base + l.length)) := by
  apply List.ext_getElem?
  intro t
  have e := fold_get base l 0 a t (by omega)
  rw [Array.getElem?_toList, show (l.zipIdx.foldl (fun a (p, j) => a.setIfInBounds (base + j) p) a)[t]? = _ from e]
  have hl : (a.toList.take base).length = base := by rw [List.length_take, Array.length_toList]; omega
  by_cases h1 : t < base
  · rw [if_neg (by omega), List.getElem?_append_left (by omega), List.getElem?_take_of_lt h1, Array.getElem?_toList]
  · rw [List.getElem?_append_right (by omega), hl]
    by_cases h2 : t < base + l.length
    · rw [if_pos (by omega), List.getElem?_append_left (by omega)]
      rfl
    · rw [if_neg (by omega), List.getElem?_append_right (by omega), List.getElem?_drop, Array.getElem?_toList]
      congr 1
      omega
noncomputable def sg (xs : Array Keyed) (l n : Nat) : List Keyed := (xs.toList.drop l).take n
section
variable {κ : KeyKind} {kd : SortKind}
theorem KK_kf {xs : Array Keyed} {i : Nat} (h : i < xs.size) : KK κ xs i = kf κ xs[i] := by
  unfold KK kf
  rw [getElem?_pos xs i h]
theorem sg_get {xs : Array Keyed} {l n t : Nat} (h : l + n ≤ xs.size) (ht : t < n) : (sg xs l n)[t]? = some (xs[l + t]'(by omega)) := by
  unfold sg
  rw [List.getElem?_take_of_lt ht, List.getElem?_drop, Array.getElem?_toList, getElem?_pos xs (l + t) (by omega)]
theorem sg_len {xs : Array Keyed} {l n : Nat} (h : l + n ≤ xs.size) : (sg xs l n).length = n := by
  unfold sg
  rw [List.length_take, List.length_drop, Array.length_toList]
  omega
theorem up_sg {xs : Array Keyed} {l n : Nat} (h : l + n ≤ xs.size) : Up κ xs l (l + n) ↔ (sg xs l n).Pairwise (Le κ) := by
  rw [List.pairwise_iff_getElem]
  constructor
  · intro hu i j hi hj hij
    rw [sg_len h] at hi hj
    have e1 := sg_get h hi
    have e2 := sg_get h hj
    rw [List.getElem?_eq_getElem (by rw [sg_len h]; omega)] at e1 e2
    rw [Option.some.inj e1, Option.some.inj e2]
    have := hu (l + i) (l + j) (by omega) (by omega) (by omega)
    rw [KK_kf (by omega), KK_kf (by omega)] at this
    exact this
  · intro hp i j h1 h2 h3
    rw [KK_kf (by omega), KK_kf (by omega)]
    rcases Nat.lt_or_eq_of_le h2 with g | g
    · have := hp (i - l) (j - l) (by rw [sg_len h]; omega) (by rw [sg_len h]; omega) (by omega)
      have e1 := sg_get h (t := i - l) (by omega)
      have e2 := sg_get h (t := j - l) (by omega)
      rw [List.getElem?_eq_getElem (by rw [sg_len h]; omega)] at e1 e2
      rw [Option.some.inj e1, Option.some.inj e2] at this
      simp only [show l + (i - l) = i by omega, show l + (j - l) = j by omega] at this
      exact this
    · subst g; exact KeyOrd.kle_refl _
theorem sg_app {xs : Array Keyed} {l m n : Nat} : sg xs l (m + n) = sg xs l m ++ sg xs (l + m) n := by
  unfold sg
  rw [List.take_add, List.drop_drop]
theorem ext_sg {xs : Array Keyed} {l n : Nat} : (xs.extract l (l + n)).toList = sg xs l n := ext_mid xs l n
theorem merged {xs ys : Array Keyed} {sa k nx ny nr : Nat} {M : List Keyed} (hsz : sa + k + nx + ny + nr ≤ xs.size) (hy : ys.toList = xs.toList.take (sa + k) ++ (M ++ xs.toList.drop (sa + k + nx + ny)))
    (hM : M.Perm (sg xs (sa + k) nx ++ sg xs (sa + k + nx) ny)) (hMs : M.Pairwise (Le κ)) (hA : (sg xs sa (k + nx)).Pairwise (Le κ)) (hB : (sg xs (sa + k + nx) (ny + nr)).Pairwise (Le κ))
    (h1 : ∀ x ∈ sg xs sa k, ∀ y ∈ sg xs (sa + k + nx) ny, Le κ x y) (h1b : ∀ x ∈ sg xs sa k, ∀ y ∈ sg xs (sa + k + nx + ny) nr, Le κ x y) (h2 : ∀ x ∈ sg xs (sa + k) nx, ∀ y ∈ sg xs (sa + k + nx + ny) nr, Le κ x y) :
    ys.Perm xs ∧ Up κ ys sa (sa + (k + nx + ny + nr)) ∧ ∀ t, t < sa ∨ sa + k + nx + ny + nr ≤ t → ys[t]? = xs[t]? := by
  have hMl : M.length = nx + ny := by
    rw [hM.length_eq, List.length_append, sg_len (by omega), sg_len (by omega)]
  have ex : xs.toList = xs.toList.take (sa + k) ++ ((sg xs (sa + k) nx ++ sg xs (sa + k + nx) ny) ++ xs.toList.drop (sa + k + nx + ny)) := by
    have e1 : xs.toList.drop (sa + k) = sg xs (sa + k) (nx + ny) ++ xs.toList.drop (sa + k + (nx + ny)) := split_at xs (sa + k) (nx + ny)
    rw [← sg_app, show sa + k + nx + ny = sa + k + (nx + ny) by omega, ← e1, List.take_append_drop]
  have hper : ys.Perm xs := by
    rw [Array.perm_iff_toList_perm, hy]
    conv => rhs; rw [ex]
    exact (hM.append_right _).append_left _
  have hys : ys.size = xs.size := hper.size_eq
  have hlt : (xs.toList.take (sa + k)).length = sa + k := by rw [List.length_take, Array.length_toList]; omega
  have low : ∀ t, t < sa + k → ys[t]? = xs[t]? := fun t ht => by
    rw [← Array.getElem?_toList, hy, List.getElem?_append_left (by omega), List.getElem?_take_of_lt ht, Array.getElem?_toList]
  have high : ∀ t, sa + k + nx + ny ≤ t → ys[t]? = xs[t]? := fun t ht => by
    rw [← Array.getElem?_toList, hy, List.getElem?_append_right (by omega), hlt, List.getElem?_append_right (by omega), hMl, List.getElem?_drop, Array.getElem?_toList]
    congr 1
    omega
  refine ⟨hper, ?_, fun t ht => ?_⟩
  · rw [up_sg (by omega)]
    have e2 : sg ys sa (k + nx + ny + nr) = sg xs sa k ++ (M ++ sg xs (sa + k + nx + ny) nr) := by
      apply List.ext_getElem?
      intro t
      have hk1 : (sg xs sa k).length = k := sg_len (by omega)
      by_cases hT : t < k + nx + ny + nr
      · have eL : (sg ys sa (k + nx + ny + nr))[t]? = ys[sa + t]? := by
          unfold sg
          rw [List.getElem?_take_of_lt hT, List.getElem?_drop, Array.getElem?_toList]
        rw [eL]
        by_cases t1 : t < k
        · rw [low _ (by omega), List.getElem?_append_left (by omega)]
          unfold sg
          rw [List.getElem?_take_of_lt t1, List.getElem?_drop, Array.getElem?_toList]
        · rw [List.getElem?_append_right (by omega), hk1]
          by_cases t2 : t < k + nx + ny
          · rw [List.getElem?_append_left (by omega), ← Array.getElem?_toList, hy, List.getElem?_append_right (by omega), hlt, List.getElem?_append_left (by omega)]
            congr 1
            omega
          · rw [high _ (by omega), List.getElem?_append_right (by omega), hMl]
            unfold sg
            rw [List.getElem?_take_of_lt (by omega), List.getElem?_drop, Array.getElem?_toList]
            congr 1
            omega
      · rw [List.getElem?_eq_none (by rw [sg_len (by omega)]; omega), List.getElem?_eq_none]
        rw [List.length_append, List.length_append, hk1, hMl, sg_len (by omega)]
        omega
    rw [e2]
    rw [sg_app] at hA hB
    obtain ⟨a1, a2, a3⟩ := List.pairwise_append.mp hA
    obtain ⟨b1, b2, b3⟩ := List.pairwise_append.mp hB
    refine List.pairwise_append.mpr ⟨a1, List.pairwise_append.mpr ⟨hMs, b2, fun x hx y hyy => ?_⟩, fun x hx y hyy => ?_⟩
    · rcases List.mem_append.mp (hM.mem_iff.mp hx) with g | g
      · exact h2 x g y hyy
      · exact b3 x g y hyy
    · rcases List.mem_append.mp hyy with g | g
      · rcases List.mem_append.mp (hM.mem_iff.mp g) with g | g
        · exact a3 x hx y g
        · exact h1 x hx y g
      · exact h1b x hx y g
  · rcases ht with g | g
    · exact low t (by omega)
    · exact high t (by omega)
end
end SR

set_option autoImplicit false
set_option linter.all false
set_option maxRecDepth 100000
namespace SR
open PySem PyProof.Rows
theorem mAt_eq (i : Nat) : mergeAt' i = (do
  let s ← get
  let (some (sa, na, pw), some (sb, nb, _)) := ((pendingOf s)[i]?, (pendingOf s)[i + 1]?) | unsupported "internal:list.sort.pending"
  set (setPending s (((pendingOf s).setIfInBounds i (sa, na + nb, pw)).eraseIdxIfInBounds (i + 1)))
  let some k ← gal' false (← elem' (arrOf s) sb) (arrOf s) sa na 0 | return false
  let (sa, na) := (sa + k, na - k)
  if na == 0 then return true
  let some nb ← gal' true (← elem' (arrOf s) (sa + na - 1)) (arrOf s) sb nb (nb - 1) | return false
  if nb == 0 then return true
  let x := (arrOf s).extract sa sb
  let y := (arrOf s).extract sb (sb + nb)
  let m ← if na ≤ nb then mLo' x y else mHi' x y
  modify fun s => setArr s (m.toList.zipIdx.foldl (fun a (p, j) => a.setIfInBounds (sa + j) p) (arrOf s))
  return (failedOf (← get)).isNone) := rfl
section
variable {prog : Program} {w : World} {A : Around} {E : Value → Shared → Prop} {s : Shared} {z : Array Keyed} {κ : KeyKind} {kd : SortKind}
theorem w_set {st st2 : SortSt} {Q : PUnit → SortSt → Prop} (h : Q ⟨⟩ st2) : wpS (model prog w) A E s (set st2 : StateT SortSt Sem PUnit) Q st := by
  unfold wpS; rw [StateT.run_set]; exact wpAny_pure ⟨rfl, h⟩
theorem w_mAt {st : SortSt} {i sa na pw sb nb pv : Nat} {Q : Bool → SortSt → Prop} (hO : LtR prog w A E s κ kd) (hz : KeysOf κ z) (hB : SB kd z st) (e1 : (pendingOf st)[i]? = some (sa, na, pw)) (e2 : (pendingOf st)[i + 1]? = some (sb, nb, pv))
    (hab : sb = sa + na) (hn : sb + nb ≤ z.size) (hna : 1 ≤ na) (hnb : 1 ≤ nb) (ua : Up κ (arrOf st) sa (sa + na)) (ub : Up κ (arrOf st) sb (sb + nb))
    (h : ∀ st', SB kd z st' → pendingOf st' = ((pendingOf st).setIfInBounds i (sa, na + nb, pw)).eraseIdxIfInBounds (i + 1) → Up κ (arrOf st') sa (sa + (na + nb)) → (∀ t, t < sa ∨ sa + (na + nb) ≤ t → (arrOf st')[t]? = (arrOf st)[t]?) → Q true st') :
    wpS (model prog w) A E s (mergeAt' i) Q st := by
  rw [mAt_eq]
  refine wpS_bind (wpS_get ?_)
  rw [e1, e2]
  dsimp only
  have hsz : (arrOf st).size = z.size := hB.sz
  have hK : ∀ x ∈ (arrOf st).toList, Hk κ x := fun x hx => hz x ((Array.perm_iff_toList_perm.mp hB.prm).mem_iff.mp hx)
  have hkn : kindOf st = kd := hB.knd
  have hfl : failedOf st = none := hB.ffl
  generalize hP : ((pendingOf st).setIfInBounds i (sa, na + nb, pw)).eraseIdxIfInBounds (i + 1) = P at h ⊢
  refine wpS_bind (w_set ?_)
  subst hab
  have pa := (up_sg (κ := κ) (xs := arrOf st) (l := sa) (n := na) (by omega)).mp ua
  have pb := (up_sg (κ := κ) (xs := arrOf st) (l := sa + na) (n := nb) (by omega)).mp ub
  have hSB : ∀ ys : Array Keyed, ys.Perm (arrOf st) → ∀ st2 : SortSt, kindOf st2 = kd → failedOf st2 = none → arrOf st2 = ys → SB kd z st2 := fun ys hp st2 g1 g2 g3 => ⟨by rw [g3]; exact hp.trans hB.prm, g1, g2⟩
  have hplain : (∀ x ∈ sg (arrOf st) sa na, ∀ y ∈ sg (arrOf st) (sa + na) nb, Le κ x y) → Q true (setPending st P) := fun hle => by
    refine h _ (hSB _ (Array.Perm.refl _) _ hkn hfl rfl) rfl ?_ (fun t _ => rfl)
    show Up κ (arrOf st) sa (sa + (na + nb))
    rw [up_sg (by omega), sg_app]
    exact List.pairwise_append.mpr ⟨pa, pb, hle⟩
  generalize hX : arrOf st = xs at hsz hK pa pb hSB hplain h ⊢
  have hbf : ∀ y ∈ sg xs (sa + na) nb, Le κ (xs[sa + na]'(by omega)) y := fun y hy => by
    have e := sg_app (xs := xs) (l := sa + na) (m := 1) (n := nb - 1)
    rw [Nat.add_sub_cancel' hnb] at e
    rw [e] at pb hy
    have e3 : sg xs (sa + na) 1 = [xs[sa + na]'(by omega)] := by
      unfold sg
      rw [drop_cons (by omega)]
      rfl
    rw [e3, List.singleton_append] at pb hy
    exact head_le pb y hy
  have hal : ∀ y ∈ sg xs sa na, Le κ y (xs[sa + na - 1]'(by omega)) := fun y hy => by
    have e := sg_app (xs := xs) (l := sa) (m := na - 1) (n := 1)
    rw [Nat.sub_add_cancel hna] at e
    rw [e] at pa hy
    have e3 : sg xs (sa + (na - 1)) 1 = [xs[sa + na - 1]'(by omega)] := by
      unfold sg
      rw [drop_cons (by omega)]
      simp only [(Nat.add_sub_assoc hna sa).symm]
      rfl
    rw [e3] at pa hy
    rcases List.mem_append.mp hy with g | g
    · exact (List.pairwise_append.mp pa).2.2 y g _ (List.mem_singleton.mpr rfl)
    · rw [List.mem_singleton.mp g]; exact KeyOrd.kle_refl _
  refine wpS_bind (w_el (by omega) ?_)
  refine wpS_bind (w_galR hO hkn (show sa + na ≤ xs.size by omega) (by omega) hK (hK _ (by simp)) pa fun k hkn2 k1 k2 => ?_)
  dsimp only
  by_cases hk0 : na - k = 0
  · rw [if_pos (by simpa using hk0)]
    obtain rfl : k = na := by omega
    exact wpS_pure (hplain fun x hx y hy => Le.tr (k1 x hx) (hbf y hy))
  rw [if_neg (by simpa using hk0)]
  have q1 : k + (na - k) = na := Nat.add_sub_cancel' hkn2
  have q2 : sa + k + (na - k) = sa + na := by rw [Nat.add_assoc, q1]
  have hix : sa + k + (na - k) - 1 = sa + na - 1 := by rw [q2]
  rw [hix]
  refine wpS_bind (w_el (by omega) ?_)
  refine wpS_bind (w_galL hO hkn (show sa + na + nb ≤ xs.size by omega) (by omega) hK (hK _ (by simp)) pb fun e hen f1 f2 => ?_)
  dsimp only
  by_cases he0 : e = 0
  · rw [if_pos (by simpa using he0)]
    subst he0
    exact wpS_pure (hplain fun x hx y hy => Le.tr (hal x hx) (f2 y hy))
  rw [if_neg (by simpa using he0)]
  have q3 : e + (nb - e) = nb := Nat.add_sub_cancel' hen
  have exX : (xs.extract (sa + k) (sa + na)).toList = sg xs (sa + k) (na - k) := by
    rw [← q2]; exact ext_sg
  have exY : (xs.extract (sa + na) (sa + na + e)).toList = sg xs (sa + na) e := ext_sg
  have sX : (xs.extract (sa + k) (sa + na)).size = na - k := by rw [Array.size_extract]; omega
  have sY : (xs.extract (sa + na) (sa + na + e)).size = e := by rw [Array.size_extract]; omega
  have hYsub : ∀ y ∈ sg xs (sa + na) e, y ∈ sg xs (sa + na) nb := fun y hy => by
    have e4 := sg_app (xs := xs) (l := sa + na) (m := e) (n := nb - e)
    rw [q3] at e4
    rw [e4]
    exact List.mem_append_left _ hy
  have hXsub : ∀ x ∈ sg xs (sa + k) (na - k), x ∈ sg xs sa na := fun y hy => by
    have e4 := sg_app (xs := xs) (l := sa) (m := k) (n := na - k)
    rw [q1] at e4
    rw [e4]
    exact List.mem_append_right _ hy
  have hA1 : ∀ x ∈ sg xs sa k, x ∈ sg xs sa na := fun y hy => by
    have e4 := sg_app (xs := xs) (l := sa) (m := k) (n := na - k)
    rw [q1] at e4
    rw [e4]
    exact List.mem_append_left _ hy
  have kX : ∀ x ∈ (xs.extract (sa + k) (sa + na)).toList, Hk κ x := fun x hx => by
    rw [exX] at hx
    exact hK x (List.mem_of_mem_drop (List.mem_of_mem_take hx))
  have kY : ∀ x ∈ (xs.extract (sa + na) (sa + na + e)).toList, Hk κ x := fun x hx => by
    rw [exY] at hx
    exact hK x (List.mem_of_mem_drop (List.mem_of_mem_take hx))
  have pX : (xs.extract (sa + k) (sa + na)).toList.Pairwise (Le κ) := by
    rw [exX]
    have e4 := sg_app (xs := xs) (l := sa) (m := k) (n := na - k)
    rw [q1] at e4
    rw [e4] at pa
    exact (List.pairwise_append.mp pa).2.1
  have pY : (xs.extract (sa + na) (sa + na + e)).toList.Pairwise (Le κ) := by
    rw [exY]
    have e4 := sg_app (xs := xs) (l := sa + na) (m := e) (n := nb - e)
    rw [q3] at e4
    rw [e4] at pb
    exact (List.pairwise_append.mp pb).1
  have h00 : ∀ y ∈ (xs.extract (sa + k) (sa + na)).toList, Le κ ((xs.extract (sa + na) (sa + na + e))[0]'(by omega)) y := fun y hy => by
    rw [exX] at hy
    rw [Array.getElem_extract]
    exact k2 y hy
  have hll : ∀ y ∈ (xs.extract (sa + na) (sa + na + e)).toList, ∀ x, (xs.extract (sa + k) (sa + na)).toList.getLast? = some x → Le κ y x := fun y hy x hx => by
    rw [exY] at hy
    rw [List.getLast?_eq_getElem?, Array.length_toList, sX, Array.getElem?_toList, getElem?_pos _ _ (by omega), Array.getElem_extract] at hx
    simp only [show sa + k + (na - k - 1) = sa + na - 1 by omega] at hx
    rw [← Option.some.inj hx]
    exact f1 y hy
  have fin : ∀ (r : Array Keyed) (st2 : SortSt), Ev (setPending st P) st2 → Fi (Le κ) ((xs.extract (sa + k) (sa + na)).toList ++ (xs.extract (sa + na) (sa + na + e)).toList) r →
      Q true (setArr st2 (List.foldl (fun a x => a.setIfInBounds (sa + k + x.snd) x.fst) (arrOf st2) r.toList.zipIdx)) := fun r st2 hev hfi => by
    rw [exX, exY] at hfi
    have harr : arrOf st2 = xs := hev.arr.trans hX
    have hrl : r.toList.length = na - k + e := by
      rw [hfi.1.length_eq, List.length_append, sg_len (by omega), sg_len (by omega)]
    have e5 := fold_list (sa + k) r.toList (arrOf st2) (by rw [harr, hrl]; omega)
    rw [harr, hrl] at e5
    have hm := merged (κ := κ) (xs := xs) (ys := List.foldl (fun a x => a.setIfInBounds (sa + k + x.snd) x.fst) (arrOf st2) r.toList.zipIdx) (sa := sa) (k := k) (nx := na - k) (ny := e) (nr := nb - e) (M := r.toList) (by omega)
      (by rw [harr, Nat.add_assoc (sa + k)]; exact e5)
      (by rw [q2]; exact hfi.1) hfi.2 (by rw [q1]; exact pa) (by rw [q2, q3]; exact pb)
      (by rw [q2]; exact fun x hx y hy => Le.tr (k1 x hx) (hbf y (hYsub y hy)))
      (by rw [q2]; exact fun x hx y hy => Le.tr (hal x (hA1 x hx)) (f2 y hy))
      (by rw [q2]; exact fun x hx y hy => Le.tr (hal x (hXsub x hx)) (f2 y hy))
    obtain ⟨m1, m2, m3⟩ := hm
    rw [q1, Nat.add_assoc, q3] at m2
    refine h _ (hSB _ m1 _ (hev.knd.trans hkn) (hev.ffl.trans hfl) rfl) hev.pen m2 fun t ht => m3 t (by omega)
  by_cases hcmp : na - k ≤ e
  · rw [if_pos hcmp]
    refine wpS_bind (w_mLo hO hkn (by omega) (by omega) kX kY pX pY h00 hll fun r st2 hev hfi => ?_)
    refine wpS_bind (wpS_modify (wpS_bind (wpS_get ?_)))
    have hf2 : failedOf st2 = none := hev.ffl.trans hfl
    rw [hf2]
    exact wpS_pure (fin r st2 hev hfi)
  · rw [if_neg hcmp]
    refine wpS_bind (w_mHi hO hkn (by omega) (by omega) kX kY pX pY h00 hll fun r st2 hev hfi => ?_)
    refine wpS_bind (wpS_modify (wpS_bind (wpS_get ?_)))
    have hf2 : failedOf st2 = none := hev.ffl.trans hfl
    rw [hf2]
    exact wpS_pure (fin r st2 hev hfi)
end
end SR

set_option autoImplicit false
set_option linter.all false
set_option maxRecDepth 100000
namespace SR
open PySem PyProof.Rows
noncomputable def Stk (κ : KeyKind) (xs : Array Keyed) : Nat → List (Nat × Nat × Nat) → Nat → Prop
  | s, [], e => s = e
  | s, t :: r, e => t.1 = s ∧ 1 ≤ t.2.1 ∧ Up κ xs s (s + t.2.1) ∧ Stk κ xs (s + t.2.1) r e
section
variable {κ : KeyKind} {kd : SortKind}
theorem Stk.le {xs : Array Keyed} : ∀ {l : List (Nat × Nat × Nat)} {s e : Nat}, Stk κ xs s l e → s + l.length ≤ e
  | [], s, e, h => by have : s = e := h; rw [this]; exact Nat.le_refl _
  | t :: r, s, e, h => by
    have := Stk.le h.2.2.2
    have := h.2.1
    rw [List.length_cons]
    omega
theorem up_keep {xs ys : Array Keyed} {l r : Nat} (h : Up κ xs l r) (he : ∀ k, l ≤ k → k < r → ys[k]? = xs[k]?) : Up κ ys l r := fun i j h1 h2 h3 => by
  rw [KK_congr (he i h1 (by omega)), KK_congr (he j (by omega) h3)]
  exact h i j h1 h2 h3
theorem Stk.keep {xs ys : Array Keyed} : ∀ {l : List (Nat × Nat × Nat)} {s e : Nat}, Stk κ xs s l e → (∀ k, s ≤ k → k < e → ys[k]? = xs[k]?) → Stk κ ys s l e
  | [], s, e, h, _ => h
  | t :: r, s, e, h, he => by
    have h2 := Stk.le h.2.2.2
    have h3 := h.2.1
    exact ⟨h.1, h.2.1, up_keep h.2.2.1 fun k k1 k2 => he k k1 (by omega), h.2.2.2.keep fun k k1 k2 => he k (by omega) k2⟩
theorem Stk.snoc {xs : Array Keyed} {n p : Nat} (hn : 1 ≤ n) : ∀ {l : List (Nat × Nat × Nat)} {s e : Nat}, Stk κ xs s l e → Up κ xs e (e + n) → Stk κ xs s (l ++ [(e, n, p)]) (e + n)
  | [], s, e, h, hu => by
    have : s = e := h
    subst this
    exact ⟨rfl, hn, hu, rfl⟩
  | t :: r, s, e, h, hu => ⟨h.1, h.2.1, h.2.2.1, h.2.2.2.snoc hn hu⟩
theorem Stk.like {xs : Array Keyed} : ∀ {l l' : List (Nat × Nat × Nat)} {s e : Nat}, Stk κ xs s l e → l'.map (fun t => (t.1, t.2.1)) = l.map (fun t => (t.1, t.2.1)) → Stk κ xs s l' e
  | [], [], s, e, h, _ => h
  | [], _ :: _, s, e, h, he => by simp at he
  | _ :: _, [], s, e, h, he => by simp at he
  | t :: r, t' :: r', s, e, h, he => by
    rw [List.map_cons, List.map_cons] at he
    obtain ⟨e1, e2⟩ := List.cons.inj he
    have e3 : t'.1 = t.1 := (Prod.mk.inj e1).1
    have e4 : t'.2.1 = t.2.1 := (Prod.mk.inj e1).2
    refine ⟨e3.trans h.1, by rw [e4]; exact h.2.1, by rw [e4]; exact h.2.2.1, ?_⟩
    rw [e4]
    exact h.2.2.2.like e2
theorem Stk.two {xs : Array Keyed} {a b : Nat × Nat × Nat} {v : List (Nat × Nat × Nat)} : ∀ {u : List (Nat × Nat × Nat)} {s e : Nat}, Stk κ xs s (u ++ a :: b :: v) e → s ≤ a.1 ∧ b.1 = a.1 + a.2.1 ∧ b.1 + b.2.1 ≤ e ∧ 1 ≤ a.2.1 ∧ 1 ≤ b.2.1 ∧ Up κ xs a.1 (a.1 + a.2.1) ∧ Up κ xs b.1 (b.1 + b.2.1)
  | [], s, e, h => by
    obtain ⟨rfl, h1, h2, h3, h4, h5, h6⟩ := h
    have := Stk.le h6
    rw [← h3] at h5
    exact ⟨Nat.le_refl _, h3, by omega, h1, h4, h2, h5⟩
  | t :: u, s, e, h => by
    have h2 := Stk.two (u := u) h.2.2.2
    have := h.2.1
    exact ⟨by omega, h2.2⟩
theorem Stk.join {xs ys : Array Keyed} {a b : Nat × Nat × Nat} {p : Nat} {v : List (Nat × Nat × Nat)} : ∀ {u : List (Nat × Nat × Nat)} {s e : Nat}, Stk κ xs s (u ++ a :: b :: v) e → Up κ ys a.1 (a.1 + (a.2.1 + b.2.1)) → (∀ t, t < a.1 ∨ a.1 + (a.2.1 + b.2.1) ≤ t → ys[t]? = xs[t]?) →
    Stk κ ys s (u ++ (a.1, a.2.1 + b.2.1, p) :: v) e
  | [], s, e, h, hu, hk => by
    obtain ⟨rfl, h1, h2, h3, h4, h5, h6⟩ := h
    refine ⟨rfl, by dsimp only; omega, hu, ?_⟩
    dsimp only
    rw [show a.1 + (a.2.1 + b.2.1) = a.1 + a.2.1 + b.2.1 by omega]
    exact h6.keep fun k k1 k2 => hk k (.inr (by omega))
  | t :: u, s, e, h, hu, hk => by
    have h2 := Stk.two (u := u) h.2.2.2
    exact ⟨h.1, h.2.1, up_keep h.2.2.1 fun k k1 k2 => hk k (.inl (by omega)), Stk.join (u := u) h.2.2.2 hu hk⟩
end
section
variable {prog : Program} {w : World} {A : Around} {E : Value → Shared → Prop} {s : Shared} {z : Array Keyed} {κ : KeyKind} {kd : SortKind}
theorem w_join {st : SortSt} {i lo : Nat} {Q : Bool → SortSt → Prop} (hO : LtR prog w A E s κ kd) (hz : KeysOf κ z) (hB : SB kd z st) (hlo : lo ≤ z.size) (hS : Stk κ (arrOf st) 0 (pendingOf st).toList lo) (hi : i + 1 < (pendingOf st).size)
    (h : ∀ st', SB kd z st' → Stk κ (arrOf st') 0 (pendingOf st').toList lo → (pendingOf st').size + 1 = (pendingOf st).size → (∀ t, lo ≤ t → (arrOf st')[t]? = (arrOf st)[t]?) → Q true st') : wpS (model prog w) A E s (mergeAt' i) Q st := by
  have hsp : (pendingOf st).toList = (pendingOf st).toList.take i ++ (pendingOf st)[i] :: (pendingOf st)[i + 1] :: (pendingOf st).toList.drop (i + 2) := by
    conv => lhs; rw [← List.take_append_drop i (pendingOf st).toList]
    congr 1
    rw [List.drop_eq_getElem_cons (by rw [Array.length_toList]; omega), List.drop_eq_getElem_cons (by rw [Array.length_toList]; omega)]
    simp
  have hS2 := hS
  rw [hsp] at hS2
  obtain ⟨_, g2, g3, g4, g5, g6, g7⟩ := hS2.two
  refine w_mAt (κ := κ) (i := i) (sa := (pendingOf st)[i].1) (na := (pendingOf st)[i].2.1) (pw := (pendingOf st)[i].2.2) (sb := (pendingOf st)[i + 1].1) (nb := (pendingOf st)[i + 1].2.1) (pv := (pendingOf st)[i + 1].2.2) hO hz hB (getElem?_pos _ i (by omega)) (getElem?_pos _ (i + 1) hi) g2 (by omega) g4 g5 g6 g7 fun st' b1 b2 b3 b4 => ?_
  have hj := hS2.join (p := (pendingOf st)[i].2.2) b3 b4
  have hl : (pendingOf st').toList = (pendingOf st).toList.take i ++ ((pendingOf st)[i].1, (pendingOf st)[i].2.1 + (pendingOf st)[i + 1].2.1, (pendingOf st)[i].2.2) :: (pendingOf st).toList.drop (i + 2) := by
    rw [b2, Array.eraseIdxIfInBounds_eq, dif_pos (by rw [Array.size_setIfInBounds]; omega), Array.toList_eraseIdx, Array.toList_setIfInBounds]
    apply List.ext_getElem?
    intro t
    have hlt : ((pendingOf st).toList.take i).length = i := by rw [List.length_take, Array.length_toList]; omega
    rw [List.getElem?_eraseIdx]
    by_cases t1 : t < i
    · rw [if_pos (by omega), List.getElem?_append_left (by omega), List.getElem?_take_of_lt t1, List.getElem?_set_ne (by omega)]
    · rw [List.getElem?_append_right (by omega), hlt]
      by_cases t2 : t = i
      · subst t2
        rw [if_pos (by omega), Nat.sub_self, List.getElem?_set_self (by rw [Array.length_toList]; omega)]
        rfl
      · rw [if_neg (by omega), show t - i = t - i - 1 + 1 by omega, List.getElem?_cons_succ, List.getElem?_drop, List.getElem?_set_ne (by omega)]
        congr 1
        omega
  refine h st' b1 (by rw [hl]; exact hj) ?_ fun t ht => b4 t (.inr (by omega))
  have := congrArg List.length hl
  rw [Array.length_toList, List.length_append, List.length_cons, List.length_take, List.length_drop, Array.length_toList] at this
  omega
theorem two_back (b : Bool) (n : Nat) (hn : 1 < n) : (if b = true then n - 2 - 1 else n - 2) + 1 < n := by
  cases b
  · rw [if_neg Bool.false_ne_true]; omega
  · rw [if_pos rfl]; omega
theorem mod_like (p : Array (Nat × Nat × Nat)) (i v : Nat) : ((p.modify i fun x => (x.1, x.2.1, v)).toList).map (fun t => (t.1, t.2.1)) = p.toList.map (fun t => (t.1, t.2.1)) := by
  apply List.ext_getElem?
  intro t
  rw [List.getElem?_map, List.getElem?_map, Array.getElem?_toList, Array.getElem?_toList, Array.getElem?_modify]
  split
  · cases p[t]? <;> rfl
  · rfl
theorem w_sort {st : SortSt} {Q : Unit → SortSt → Prop} (hO : LtR prog w A E s κ kd) (hz : KeysOf κ z) (hB : SB kd z st) (hp : pendingOf st = #[]) (h2 : 2 ≤ z.size)
    (h : ∀ st', SB kd z st' → Up κ (arrOf st') 0 z.size → Q () st') : wpS (model prog w) A E s sortRuns' Q st := by
  rw [sortRuns'_eq]
  refine wpS_bind (wpS_get ?_)
  dsimp only
  simp only [hB.sz]
  generalize minRun' z.size z.size 0 = mr
  refine wpS_bind (wpS_mono (wpS_forRange
    (I := fun x c st' => ∃ lo, c = (none, lo) ∧ SB kd z st' ∧ x ≤ lo ∧ lo ≤ z.size ∧ Stk κ (arrOf st') 0 (pendingOf st').toList lo)
    (Q := fun c st' => c = (none, z.size) ∧ SB kd z st' ∧ Stk κ (arrOf st') 0 (pendingOf st').toList z.size) ?sp ?fi ⟨0, rfl, hB, by omega, by omega, by rw [hp]; rfl⟩) ?po)
  case fi =>
    rintro c st' ⟨lo, rfl, hB', g1, g2, g3⟩
    obtain rfl : lo = z.size := by omega
    exact ⟨rfl, hB', g3⟩
  case sp =>
    rintro x c st1 _ hx ⟨lo, rfl, hB1, g1, g2, g3⟩
    dsimp only
    by_cases hge : lo ≥ z.size
    · rw [if_pos hge]
      obtain rfl : lo = z.size := by omega
      exact wpS_pure ⟨rfl, hB1, g3⟩
    rw [if_neg hge]
    refine wpS_bind (w_run hO hz (by omega) (by omega) hB1 fun m st2 hB2 hk2 hm1 hm2 hu2 => ?_)
    dsimp only
    by_cases hlt : m < mr
    case' pos =>
      rw [if_pos hlt]
      refine wpS_bind (wpS_lift (wpAny_rule ⟨rfl, ?_⟩))
      refine wpS_bind (w_ins hO hz (by omega) hm1 (by omega) hB2 hu2 fun st3 hB3 hk3 hu3 => ?_)
      simp only [Bool.not_true, Bool.false_eq_true, if_false]
      have hn1 : 1 ≤ min (z.size - lo) mr := by omega
      have hn2 : lo + min (z.size - lo) mr ≤ z.size := by omega
      have hk4 := hk2.tr hk3
      generalize min (z.size - lo) mr = n at hn1 hn2 hu3 ⊢
    case' neg =>
      rw [if_neg hlt]
      have hB3 := hB2
      have hk4 := hk2
      have hu3 := hu2
      have hn1 := hm1
      have hn2 : lo + m ≤ z.size := by omega
      obtain ⟨st3, e3⟩ : ∃ st3, st3 = st2 := ⟨_, rfl⟩
      rw [← e3] at hB3 hk4 hu3 ⊢
      generalize m = n at hn1 hn2 hu3 ⊢
    all_goals
      have hS3 : Stk κ (arrOf st3) 0 (pendingOf st3).toList lo := by
        rw [hk4.pen]
        exact g3.keep fun k _ k2 => hk4.low k k2
      refine wpS_bind (wpS_get ?_)
      cases hbk : (pendingOf st3).back? with
      | none =>
        dsimp only
        refine wpS_bind (wpS_modify (wpS_pure ⟨lo + n, rfl, ⟨hB3.prm, hB3.knd, hB3.ffl⟩, by omega, hn2, ?_⟩))
        show Stk κ (arrOf st3) 0 ((pendingOf st3).push (lo, n, 0)).toList (lo + n)
        rw [Array.toList_push]
        exact hS3.snoc hn1 hu3
      | some t =>
        obtain ⟨s1, n1, p1⟩ := t
        dsimp only
        refine wpS_bind (wpS_mono (wpS_forRange (I := fun _ c st' => c = (none, ()) ∧ SB kd z st' ∧ Stk κ (arrOf st') 0 (pendingOf st').toList lo ∧ Up κ (arrOf st') lo (lo + n))
          (Q := fun c st' => c = (none, ()) ∧ SB kd z st' ∧ Stk κ (arrOf st') 0 (pendingOf st').toList lo ∧ Up κ (arrOf st') lo (lo + n)) ?isp (fun _ _ hh => hh) ⟨rfl, hB3, hS3, hu3⟩) ?ipo)
        case isp =>
          rintro x1 c st4 _ _ ⟨rfl, hB4, hS4, hu4⟩
          refine wpS_bind (wpS_get ?_)
          by_cases hs1 : (pendingOf st4).size > 1
          · rw [if_pos hs1, getElem?_pos (pendingOf st4) ((pendingOf st4).size - 2) (by omega)]
            generalize (pendingOf st4)[(pendingOf st4).size - 2]'(by omega) = t
            obtain ⟨t1, t2, ol⟩ := t
            dsimp only
            split
            · exact wpS_pure ⟨rfl, hB4, hS4, hu4⟩
            · refine wpS_bind (w_join hO hz hB4 g2 hS4 (by omega) fun st5 b1 b2 b3 b4 => ?_)
              simp only [Bool.not_true, Bool.false_eq_true, if_false]
              exact wpS_pure ⟨rfl, b1, b2, up_keep hu4 fun k k1 _ => b4 k k1⟩
          · rw [if_neg hs1]
            exact wpS_pure ⟨rfl, hB4, hS4, hu4⟩
        case ipo =>
          rintro c st4 ⟨rfl, hB4, hS4, hu4⟩
          dsimp only
          refine wpS_bind (wpS_modify (wpS_bind (wpS_modify (wpS_pure ⟨lo + n, rfl, ⟨hB4.prm, hB4.knd, hB4.ffl⟩, by omega, hn2, ?_⟩))))
          show Stk κ (arrOf st4) 0 (((pendingOf st4).modify _ _).push (lo, n, 0)).toList (lo + n)
          rw [Array.toList_push]
          exact (hS4.like (mod_like _ _ _)).snoc hn1 hu4
  case po =>
    rintro c st1 ⟨rfl, hB1, hS1⟩
    dsimp only
    have hl1 := Stk.le hS1
    rw [Array.length_toList] at hl1
    refine wpS_bind (wpS_mono (wpS_forRange (I := fun x c st' => c = (none, ()) ∧ SB kd z st' ∧ Stk κ (arrOf st') 0 (pendingOf st').toList z.size ∧ (pendingOf st').size ≤ max 1 (z.size - x))
      (Q := fun c st' => c = (none, ()) ∧ SB kd z st' ∧ Stk κ (arrOf st') 0 (pendingOf st').toList z.size ∧ (pendingOf st').size ≤ 1) ?fsp ?ffi ⟨rfl, hB1, hS1, by omega⟩) ?fpo)
    case ffi =>
      rintro c st2 ⟨rfl, hB2, hS2, hl2⟩
      exact ⟨rfl, hB2, hS2, by omega⟩
    case fsp =>
      rintro x c st2 _ hx ⟨rfl, hB2, hS2, hl2⟩
      refine wpS_bind (wpS_get ?_)
      by_cases hs1 : (pendingOf st2).size ≤ 1
      · rw [if_pos hs1]
        exact wpS_pure ⟨rfl, hB2, hS2, hs1⟩
      rw [if_neg hs1]
      refine wpS_bind (w_join hO hz hB2 (Nat.le_refl _) hS2 ?_ fun st5 b1 b2 b3 b4 => ?_)
      · exact two_back _ _ (by omega)
      · simp only [Bool.not_true, Bool.false_eq_true, if_false]
        exact wpS_pure ⟨rfl, b1, b2, by omega⟩
    case fpo =>
      rintro c st2 ⟨rfl, hB2, hS2, hl2⟩
      dsimp only
      refine wpS_pure (h st2 hB2 ?_)
      rw [← Array.length_toList] at hl2
      cases hq : (pendingOf st2).toList with
      | nil =>
        rw [hq] at hS2
        have : 0 = z.size := hS2
        omega
      | cons t r =>
        rw [hq] at hS2 hl2
        rw [List.length_cons] at hl2
        obtain rfl : r = [] := List.length_eq_zero_iff.mp (by omega)
        obtain ⟨_, _, hu, he⟩ := hS2
        have e5 : 0 + t.2.1 = z.size := he
        rw [e5] at hu
        exact hu
end
end SR

set_option autoImplicit false
set_option linter.all false
set_option maxRecDepth 100000
set_option maxHeartbeats 200000
namespace SR
open PySem PyProof.Rows PySem.Spec
section
variable {prog : Program} {w : World} {A : Around} {E : Value → Shared → Prop} {s : Shared}
theorem two_of {α : Type} : ∀ {l : List α}, 2 ≤ l.length → ∃ a b r, l = a :: b :: r
  | [], h => by simp at h
  | [_], h => by simp at h
  | a :: b :: r, _ => ⟨a, b, r, rfl⟩
theorem sort_big {κ : KeyKind} {kd : SortKind} {l : Addr} {vs : List Value} {n : Nat} {P : Fin → Shared → Prop} (ob : s.heap.get? l = some (seqObj "list" vs.toArray n)) (hks : KeysOf κ (pairsOf vs))
    (hO : ∀ A E (s' : Shared), (∀ a o, a ≠ l → s.heap.get? a = some o → s'.heap.get? a = some o) → LtR prog w A E s' κ kd)
    (hkk : ∀ A E (s' : Shared) (Q : SortKind → Shared → Prop), 2 ≤ vs.length → (∀ a o, a ≠ l → s.heap.get? a = some o → s'.heap.get? a = some o) → Q kd s' → wpAny (model prog w) A (keyKind' vs.toArray) Q E s') (hmx : vs.length ≤ sizeLine)
    (h : ∀ st' : SortSt, (arrOf st').Perm (pairsOf vs) → SortedToK κ (arrOf st') (pairsOf vs).size → P (.done (.ret .none)) { s with heap := sortedHeap s.heap l vs ((arrOf st').map (·.2)) }) :
    wpAny (model prog w) A (Builtin.«list.sort» ⟨[.ref l], []⟩) P E s := by
  rw [list_sort_plain]
  have hlt : l < s.heap.objs.size := Heap.lt_size ob
  have hsz : vs.toArray.size = vs.length := by simp
  refine wpAny_bind (listItems_at ob rfl (wpAny_bind (listUpdate_at ob rfl ?_ (hsz := by rw [hsz]; exact hmx))))
  obtain ⟨ep, ob1⟩ : ∃ ep, (s.heap.update l (Obj.mapSeq fun _ => #[])).get? l = some (seqObj "list" #[] ep) := ⟨_, get?_update_seq ob (fun _ => #[])⟩
  refine wpAny_bind (seqEpoch_at ob1 rfl (wpAny_bind (wpAny_newTuple (wpAny_bind (wpAny_newList (wpAny_holding ?_))))))
  have ob2 : (((s.heap.update l (Obj.mapSeq fun _ => #[])).push (seqObj "tuple" vs.toArray 0)).push (seqObj "list" #[] 0)).get? l = some (seqObj "list" #[] ep) :=
    Heap.get?_push_of_some _ (Heap.get?_push_of_some _ ob1)
  show wpAny (model prog w) A _ P E { s with heap := ((s.heap.update l (Obj.mapSeq fun _ => #[])).push (seqObj "tuple" vs.toArray 0)).push (seqObj "list" #[] 0) }
  dsimp only
  by_cases hnb : vs.toArray.size < 2
  · rw [if_pos hnb, if_pos hnb]
    refine wpAny_bind (wpAny_pure ?_); rw [StateT.run_pure]; refine wpAny_bind (wpAny_pure ?_); dsimp only
    refine wpAny_bind (seqEpoch_at ob2 rfl (wpAny_bind (listUpdate_at ob2 rfl ?_ (hsz2 := ?_))))
    · simp only [bne_self_eq_false, Bool.false_eq_true, if_false]
      refine wpAny_pure (h (SortSt.mk' general' (vs.toArray.zip vs.toArray) #[] 7 none) (Array.Perm.refl _) fun i j hij hj => ?_)
      obtain rfl : i = j := by rw [pairsOf_size] at hj; omega
      exact KeyOrd.kle_refl _
    · rw [Array.size_map]; show (pairsOf vs).size ≤ _; rw [pairsOf_size]; rw [sizeLine_eq]; omega
  rw [if_neg hnb, if_neg hnb]
  have hag : ∀ a o, a ≠ l → s.heap.get? a = some o → (((s.heap.update l (Obj.mapSeq fun _ => #[])).push (seqObj "tuple" vs.toArray 0)).push (seqObj "list" #[] 0)).get? a = some o := fun a o na ha =>
    Heap.get?_push_of_some _ (Heap.get?_push_of_some _ (by rw [Heap.get?_update_ne _ _ _ _ na]; exact ha))
  refine wpAny_bind (hkk _ _ _ _ (by omega) hag (wpAny_bind (wpAny_mono (w_sort (κ := κ) (hO _ _ _ hag) (z := pairsOf vs) (st := SortSt.mk' kd (vs.toArray.zip vs.toArray) #[] 7 none)
    (Q := fun _ st' => SB kd (pairsOf vs) st' ∧ Up κ (arrOf st') 0 (pairsOf vs).size) hks ⟨Array.Perm.refl _, rfl, rfl⟩ rfl (by rw [pairsOf_size]; omega) fun st' a1 a2 => ⟨a1, a2⟩) ?_ fun _ _ e => e)))
  rintro ⟨⟨⟩, st'⟩ s' ⟨rfl, hB, hu⟩
  dsimp only
  have hpm := hB.prm
  refine wpAny_bind (seqEpoch_at ob2 rfl (wpAny_bind (listUpdate_at ob2 rfl ?_ (hsz2 := ?_))))
  · rw [hB.ffl]
    simp only [bne_self_eq_false, Bool.false_eq_true, if_false]
    exact wpAny_pure (h st' hpm fun i j hij hj => hu i j (Nat.zero_le _) hij hj)
  · refine Nat.le_trans (Nat.le_of_eq ((Array.size_map ..).trans (hpm.size_eq.trans (pairsOf_size _)))) ?_
    rw [sizeLine_eq] at hmx ⊢
    omega
theorem sorted_any {κ : KeyKind} {kd : SortKind} {l : Addr} {vs : List Value} {Q : Value → Shared → Prop} (hl : s.heap.IsList l vs.toArray) (hks : KeysOf κ (pairsOf vs))
    (hO : ∀ A E (s' : Shared), (∀ a o, s.heap.get? a = some o → s'.heap.get? a = some o) → LtR prog w A E s' κ kd)
    (hkk : ∀ A E (s' : Shared) (Q : SortKind → Shared → Prop), 2 ≤ vs.length → (∀ a o, s.heap.get? a = some o → s'.heap.get? a = some o) → Q kd s' → wpAny (model prog w) A (keyKind' vs.toArray) Q E s') (hmx : vs.length ≤ sizeLine)
    (h : ∀ st' : SortSt, (arrOf st').Perm (pairsOf vs) → SortedToK κ (arrOf st') (pairsOf vs).size → Q (.ref (s.heap.objs.size + 1)) { s with heap := sortedAll s.heap vs ((arrOf st').map (·.2)) }) :
    wpAny (model prog w) A (call (.builtin "sorted") [.ref l]) Q E s := by
  refine Calls.call_function_entry kind_sorted plain_sorted entry_sorted (args_sorted1 _) ?_
  unfold Builtin.«sorted»
  refine wpAny_bind (m := checkCount "sorted" 1 1 _) (wpAny_pure (wpAny_bind (collect_list hl (wpAny_bind (wpAny_newList ?_)) (hsz := by simpa using hmx))))
  have e1 : ((s.heap.push (seqObj "list" #[] 0)).update s.heap.objs.size (Obj.mapSeq (· ++ vs.toArray))).objs.size = s.heap.objs.size + 1 := by
    rw [Heap.size_update, size_push']
  have e2 : (((s.heap.push (seqObj "list" #[] 0)).update s.heap.objs.size (Obj.mapSeq (· ++ vs.toArray))).push (seqObj "list" vs.toArray 0)).get? (s.heap.objs.size + 1) = some (seqObj "list" vs.toArray 0) := by
    conv => lhs; rw [← e1]
    exact Heap.get?_push_size _ rfl
  have e3 : ∀ a o, s.heap.get? a = some o → a ≠ s.heap.objs.size + 1 ∧ (((s.heap.push (seqObj "list" #[] 0)).update s.heap.objs.size (Obj.mapSeq (· ++ vs.toArray))).push (seqObj "list" vs.toArray 0)).get? a = some o := fun a o ha =>
    have hlt : a < s.heap.objs.size := Heap.lt_size ha
    ⟨Nat.ne_of_lt (Nat.lt_succ_of_lt hlt), Heap.get?_push_of_some _ (by rw [Heap.get?_update_ne _ _ _ _ (Nat.ne_of_lt hlt)]; exact Heap.get?_push_of_some _ ha)⟩
  show wpAny _ _ _ _ _ { s with heap := ((s.heap.push (seqObj "list" #[] 0)).update s.heap.objs.size (Obj.mapSeq (· ++ vs.toArray))).push (seqObj "list" vs.toArray 0) }
  rw [e1]
  refine wpAny_bind (wpAny_holding (wpAny_call_entry slot_list_sort ⟨_, e2, rfl⟩ entry_list_sort (sort_big e2 hks (fun A E s' hs => hO A E s' fun a o ha => hs a o (e3 a o ha).1 (e3 a o ha).2) (fun A E s' Q h2 hs => hkk A E s' Q h2 fun a o ha => hs a o (e3 a o ha).1 (e3 a o ha).2) hmx fun st' a1 a2 => ⟨_, rfl, wpAny_pure ⟨_, rfl, ?_⟩⟩) (args_list_sort _)))
  exact h st' a1 a2
theorem kind_strs {vs : List Value} {ss : List Str} (hS : StrsAre vs ss) (h2 : 2 ≤ vs.length) : keyKind' vs.toArray = pure oneType' := by
  obtain ⟨v1, v2, r, e⟩ := two_of h2
  rw [e] at hS ⊢
  exact keyKind_strs hS
theorem sorted_big {l : Addr} {vs : List Value} {ss : List Str} {Q : Value → Shared → Prop} (hl : s.heap.IsList l vs.toArray) (hS : StrsAre vs ss) (hmx : vs.length ≤ sizeLine)
    (h : ∀ (out : Array Value) (ss' : List Str), StrsAre out.toList ss' → ss'.Perm ss → sortedS ss' = true → Q (.ref (s.heap.objs.size + 1)) { s with heap := sortedAll s.heap vs out }) :
    wpAny (model prog w) A (call (.builtin "sorted") [.ref l]) Q E s := by
  refine sorted_any hl hS.keysOf (fun _ _ _ _ => ltR_one strKind_oneLt) (fun _ _ _ _ h2 _ q => ?_) hmx fun st' a1 a2 => ?_
  · rw [kind_strs hS h2]; exact wpAny_pure q
  · obtain ⟨ss', h1, h2, h3⟩ := sorted_out_str hS a1 a2
    exact h _ ss' h1 h2 h3
end
end SR

set_option Elab.async false
set_option linter.all false
set_option maxRecDepth 100000
namespace L2
open PySem PyProof.Rows PySem.Spec
section
variable {X : Cx}
theorem call_sortedA : CallR X (.builtin "sorted") (fun xs H Q => ∃ (p : Addr) (ls : List (List Nat)), xs = [.ref p] ∧ SqL X.K H p (ls.map T) ∧ ∀ (ms : List (List Nat)) (D : Addr), H D = none → ms.Perm ls → ms.Pairwise (fun a b => ¬ b < a) → Q (.ref D) (upd H D (.lst (ms.map T)))) := by
  intro pins s σ H xs us Q I r h
  obtain ⟨p, ls, rfl, hq, q⟩ := h
  obtain ⟨u, rfl, ru⟩ := vals1 r
  cases ru
  obtain ⟨its, rv, pl, hz⟩ := I.list hq
  have hlen := rv.length
  rw [List.length_map] at hlen hz
  have key : ∀ (out : Array Value) (ss' : List Str), StrsAre out.toList ss' → ss'.Perm (ls.map tx) → sortedS ss' = true → EP X pins σ Q (.ref (s.heap.objs.size + 1)) { s with heap := sortedAll s.heap its out } := fun out ss' a1 a2 a3 => by
    obtain ⟨e, he⟩ := sortedAll_at s.heap its out
    have em : (ss'.map fun x => x.cps.toList).map tx = ss' := by
      rw [List.map_map]
      conv => rhs; rw [← List.map_id ss']
      exact List.map_congr_left fun x _ => tx_eta x
    have hp : (ss'.map fun x => x.cps.toList).Perm ls := by
      have y := a2.map fun x => x.cps.toList
      rw [List.map_map, show (fun x => x.cps.toList) ∘ tx = id from funext tx_cps, List.map_id] at y
      exact y
    refine ⟨.ref _, _, I.laid (t' := s.toks) (fun _ _ => sortedAll_old) (Nat.le_succ _) (o := .lst ((ss'.map fun x => x.cps.toList).map T)) ⟨?_, out.toList, e, strs_back a1, by simpa using he⟩, rfl, q _ _ (I.hok.fresh (Nat.le_succ _)) hp (sorted_pw _ (by rw [em]; exact a3))⟩
    rw [List.length_map, hp.length_eq]
    exact hz
  exact SR.sorted_big pl.isList (strsAre_T rv) (by rw [← hlen]; exact hz) key
end
end L2

set_option Elab.async false
set_option linter.all false
set_option maxRecDepth 100000
namespace SR
open PySem PyProof.Rows PySem.Spec
section
variable {prog : Program} {w : World} {A : Around} {E : Value → Shared → Prop} {s : Shared}
end
end SR
namespace L2
open PySem PyProof.Rows PySem.Spec
section
variable {X : Cx}
end
end L2

set_option Elab.async false
set_option linter.all false
set_option maxRecDepth 100000
namespace L2
open PySem PyProof.Rows PySem.Spec
section
variable {X : Cx}
theorem call_sumX (hc : X.calm = true) : CallR X (.builtin "sum") (fun xs H Q => ∃ (p : Addr) (ns : List Int), xs = [.ref p] ∧ SqL X.K H p (ns.map V.int) ∧ Q (.int ns.sum) H) := by
  intro pins s σ H xs us Q I r h
  obtain ⟨p, ns, rfl, hq, q⟩ := h
  obtain ⟨u, rfl, ru⟩ := vals1 r
  cases ru
  obtain ⟨its, rv, pl, _⟩ := I.list hq
  have hia := intsAre_of rv
  have hnum := hia.numsOf
  obtain ⟨ys, hx⟩ := hia.allInts.items
  have hl := pl.isList
  rw [hx] at hl
  have e : preSum (numAt ys) ys.size = ns.sum := by
    rw [preSum_eq, List.take_of_length_le (by simp)]
    rw [← hnum, show its = its.toArray.toList from by simp, hx, nums_intItems]
  exact sum_intListG (I.ok.hd hc) hl fun h' tk t' hk => ⟨.int ns.sum, H, I.kept hk, ⟨t', by rw [e]⟩, q⟩
end
end L2

namespace L2
open PySem PyProof.Rows PySem.Spec
section
variable {X : Cx}
theorem pe_bmK (K : PySem.W.Frag) (hK : X.K = K) {o e : Expr} {es : List Expr} {to : TE} {t : TA} {name : Str} {apos cpos : Pos} {T id : String} {r : V → List V → Hp → VK → Prop}
    (pa : PlainAttrs T) (slot : Slot T name id) (hty : typeOf (.builtin id) = pure (.type "method_descriptor")) (hm : MtR X id r) (ho : PE X o to) (ha : PA X (e :: es) t)
    (b1 : attributeBase o name X.env (eval o X.env) = eval o X.env := by rfl)
    (b2 : ((backTo cpos (starEach (e :: es) X.env)).all (fun x => !x.1) && (backToKw cpos (keywordEach [] X.env)).all (fun x => x.1.isSome) && decide ((e :: es).length + ([] : List Keyword).length + (if ([] : List Keyword).isEmpty then 0 else 1) < 30)) = true := by rfl)
    (b3 : (apos.endLine == cpos.line) = true := by rfl) (b4 : starEach (e :: es) X.env = (false, eval e X.env) :: starEach es X.env := by rfl) (b5 : (backTo cpos (starEach es X.env)).any (·.1) = false := by rfl) :
    PE X (.Call (.Attribute o name apos) (e :: es) [] cpos) (tBM K T r to t) := by
  subst hK
  exact pe_bm pa slot hty hm ho ha b1 b2 b3 b4 b5
end
end L2

set_option Elab.async false
set_option linter.all false
set_option maxRecDepth 100000
set_option Elab.async false
set_option linter.all false
set_option maxRecDepth 100000
namespace L2
open PySem PySem.Spec PyProof.Rows

end L2

namespace L2
open PySem PySem.Spec PyProof.Rows

section
variable (P : Program) (w : World)
end

section
variable {P : Program} {w : World} {H H' : Hp} {h h' : Heap} {a : Addr} {o : HO}
end

section
variable {P : Program} {w : World} {H : Hp} {h h' : Heap} {x e : Addr} {o' : HO}
end

section
variable {fs fs' ex ex' : List Addr} {H H1 H2 : Hp} {h h1 h2 h' : Heap} {a x e : Addr} {o : HO}
end

end L2

namespace L2
open PySem PySem.Spec PyProof.Rows

section
variable {X : Cx} {pins : List (Addr × Obj)} {σ : List (Option V)} {H H' : Hp} {s : Shared} {h' : Heap}

end

end L2

namespace L2
open PySem PySem.Spec PyProof.Rows
section
variable {X : Cx}

variable {a b : Expr} {ta tb : TE} {pos : Pos}
variable {tA tB' : TT} {rest : List Expr}
end
end L2

namespace L2
open PySem PySem.Spec PyProof.Rows

section
variable {X : Cx} {pins : List (Addr × Obj)} {σ : St} {H : Hp} {s : Shared} {a : Addr} {xs ys : List V}
end

section
variable {X : Cx} {pins : List (Addr × Obj)} {σ : St} {H : Hp} {s : Shared} {E : Value → Shared → Prop}
end

section
variable {X : Cx} {st : Stmt} {rest : List Stmt} {t u : TS} {e : Expr} {te : TE} {pos : Pos}
end

section
variable {X : Cx} {pos : Pos}
end

section
variable {X : Cx} {pos : Pos}
end

end L2

namespace L2
open PySem PySem.Spec PyProof.Rows
section
variable {X : Cx} {tg : Expr}
end

end L2

namespace L2
open PySem PySem.Spec PyProof.Rows

section
variable {X : Cx} {a b c : Expr} {ta tb tc : TE} {pos : Pos}

end

section
variable {X : Cx} {a b c : Expr} {ta tb tc : TE} {pos : Pos}
end
end L2

namespace L2
open PySem PySem.Spec PyProof.Rows

section
variable {prog : Program} {w : World} {A : Around} {E : Value → Shared → Prop} {s : Shared} {K : PySem.W.Frag} {x dx C f : Addr} {mA : Str → Option Value} {name : Str} {v : Value}

end

section
variable {P : Program} {w : World} {H H' : Hp} {h h' : Heap} {a C dx : Addr} {fs fs' : List (Str × V)}
end

section
variable {X : Cx} {pins : List (Addr × Obj)} {σ : St} {H : Hp} {s : Shared} {a C dx : Addr} {fs : List (Str × V)} {f : Str} {v : V} {A : Around} {E : Value → Shared → Prop}

end

section
variable {X : Cx} {o e value : Expr} {f : Str} {pos pos' tpos : Pos} {ta tv : TE}
end

section
variable {X : Cx} {pins : List (Addr × Obj)} {σ : St} {H : Hp} {s : Shared} {A : Around} {E : Value → Shared → Prop} {Q : Value → Shared → Prop} {c : Value} {b : Bool}
end
end L2

namespace L2
open PySem PySem.Spec PyProof.Rows

section
variable {X : Cx} {e : Expr} {es : List Expr} {te : TE} {t : TA} {pos : Pos}
end

section
variable {X : Cx} {pins : List (Addr × Obj)} {σ : St} {H : Hp} {s s' : Shared}
end

section
variable {X : Cx} {CX : CXT} {k : Nat} {f C : Addr} {fd : FuncData} {ps : List Str} {sp : Sp} {dvs : List V} {ds : List Value} {E : XK} {x m : Str} {p pos apos : Pos} {e o : Expr} {es : List Expr} {ta : TE} {t : TA}

end

section
variable {X : Cx} {CX : CXT} {k : Nat} {f C : Addr} {fd : FuncData} {ps ks : List Str} {sp : Sp} {E : XK} {x m : Str} {p pos apos kpos : Pos} {e o : Expr} {es : List Expr} {kws : List Keyword} {te ta : TE} {t tk : TA} {nm : Option Str}
variable {g : List Value → List Value → List Value} {gV : List V → List V → List V}
end

end L2

namespace L2
open PySem PySem.Spec PyProof.Rows
section
variable {X : Cx} {x : Str} {p pos : Pos} {e : Expr} {es : List Expr} {t : TA} {id T : String} {r : List V → Hp → VK → Prop}

end
end L2

namespace L2
open PySem PySem.Spec PyProof.Rows

section
variable {κ : Type} [DecidableEq κ]
noncomputable def valV (kvs : List (κ × V)) (k : κ) : Option V := (kvs.find? fun kv => decide (kv.1 = k)).map (·.2)
noncomputable def putK (kvs : List (κ × V)) (k : κ) (v : V) : List (κ × V) :=
  if (kvs.any fun kv => decide (kv.1 = k)) = true then kvs.map (fun kv => if kv.1 = k then (kv.1, v) else kv) else kvs ++ [(k, v)]
theorem valV_pos {p : κ × V} {r : List (κ × V)} {k : κ} (e : p.1 = k) : valV (p :: r) k = some p.2 := by simp [valV, List.find?_cons, e]
theorem valV_neg {p : κ × V} {r : List (κ × V)} {k : κ} (e : ¬ p.1 = k) : valV (p :: r) k = valV r k := by simp [valV, List.find?_cons, e]
theorem valV_any (k : κ) : ∀ kvs : List (κ × V), (kvs.any fun kv => decide (kv.1 = k)) = (valV kvs k).isSome
  | [] => rfl
  | p :: r => by
    rw [List.any_cons]
    by_cases e : p.1 = k
    · simp only [valV_pos e, decide_eq_true e, Bool.true_or, Option.isSome_some]
    · rw [valV_neg e, decide_eq_false e, Bool.false_or]; exact valV_any k r
theorem length_putK (kvs : List (κ × V)) (k : κ) (v : V) : (putK kvs k v).length ≤ kvs.length + 1 := by
  unfold putK
  split
  · rw [List.length_map]; omega
  · rw [List.length_append, List.length_cons, List.length_nil]; omega
theorem RelO.isSome_eq {o : Option V} {u : Option Value} (r : RelO o u) : o.isSome = u.isSome := by
  cases o with
  | none => cases u with
    | none => rfl
    | some _ => exact (show False from r).elim
  | some _ => cases u with
    | none => exact (show False from r).elim
    | some _ => rfl
theorem KV.val {kvs : List (κ × V)} {vs : List (κ × Value)} (r : KV kvs vs) (k : κ) : RelO (valV kvs k) (valueAt vs k) := by
  unfold KV at r
  induction r with
  | nil => exact True.intro
  | @cons p q ps qs h t ih =>
    obtain ⟨h1, h2⟩ := h
    by_cases e : p.1 = k
    · have e' : q.1 = k := h1.symm.trans e
      have b : valueAt (q :: qs) k = some q.2 := by simp [valueAt, List.find?_cons, e']
      rw [valV_pos e, b]; exact h2
    · have e' : ¬ q.1 = k := fun z => e (h1.trans z)
      have b : valueAt (q :: qs) k = valueAt qs k := by simp [valueAt, List.find?_cons, e']
      rw [valV_neg e, b]; exact ih
theorem KV.any {kvs : List (κ × V)} {vs : List (κ × Value)} (r : KV kvs vs) (k : κ) : (kvs.any fun kv => decide (kv.1 = k)) = vs.any fun kv => decide (kv.1 = k) := by
  unfold KV at r
  induction r with
  | nil => rfl
  | cons h t ih => rw [List.any_cons, List.any_cons, ih, h.1]
theorem KV.repl {kvs : List (κ × V)} {vs : List (κ × Value)} (r : KV kvs vs) (k : κ) {y : V} {u : Value} (ry : RelV y u) :
    KV (kvs.map fun kv => if kv.1 = k then (kv.1, y) else kv) (vs.map fun kv => if kv.1 = k then (kv.1, u) else kv) := by
  unfold KV at r ⊢
  induction r with
  | nil => exact .nil
  | @cons p q ps qs h t ih =>
    rw [List.map_cons, List.map_cons]
    refine .cons ?_ ih
    obtain ⟨h1, h2⟩ := h
    by_cases e : p.1 = k
    · rw [if_pos e, if_pos (h1.symm.trans e)]; exact ⟨h1, ry⟩
    · rw [if_neg e, if_neg (fun z => e (h1.trans z))]; exact ⟨h1, h2⟩
theorem KV.put {kvs : List (κ × V)} {vs : List (κ × Value)} (r : KV kvs vs) (k : κ) {y : V} {u : Value} (ry : RelV y u) : KV (putK kvs k y) (stored vs k u) := by
  unfold putK stored
  rw [r.any k]
  by_cases e : (vs.any fun kv => decide (kv.1 = k)) = true
  · rw [if_pos e, if_pos e]; exact r.repl k ry
  · rw [if_neg e, if_neg e]; exact Paired.snoc r ⟨rfl, ry⟩
theorem KV.length {kvs : List (κ × V)} {vs : List (κ × Value)} (r : KV kvs vs) : kvs.length = vs.length := Paired.length r
end


theorem kV_is {P : Program} {w : World} {k : Key} {u : Value} (r : RelV (kV k) u) : (mixKind P w).is k u = true := by
  cases k with
  | inl i => obtain ⟨t, e⟩ := (show ∃ t, u = Value.int i t from r); subst e; exact mixKind_int P w i t
  | inr x => obtain ⟨t, e⟩ := (show ∃ t, u = Value.str x t from r); subst e; exact mixKind_str P w x t
theorem items_are {P : Program} {w : World} : ∀ {ks : List Key} {us : List Value}, Vals (ks.map kV) us → ItemsAre (mixKind P w) ks us
  | [], _, r => by rw [List.map_nil] at r; cases r; exact .nil
  | k :: ks, _, r => by
    rw [List.map_cons] at r
    cases r with
    | cons h t => exact .cons (kV_is h) (items_are t)

noncomputable abbrev KT (H : Hp) : List (List Key × V) → List (List Key × Addr × Value) → Prop := Paired fun p q => p.1 = q.1 ∧ H q.2.1 = some (.tup (p.1.map kV)) ∧ RelV p.2 q.2.2
theorem KT.val {H : Hp} {kvs : List (List Key × V)} {xs : List (List Key × Addr × Value)} (r : KT H kvs xs) (k : List Key) : RelO (valV kvs k) ((atKey xs k).map (·.2)) := by
  induction r with
  | nil => exact True.intro
  | @cons p q ps qs h t ih =>
    obtain ⟨h1, _, h2⟩ := h
    by_cases e : p.1 = k
    · have e' : q.1 = k := h1.symm.trans e
      have b : atKey (q :: qs) k = some q.2 := by simp [atKey, List.find?_cons, e']
      rw [valV_pos e, b]; exact h2
    · have e' : ¬ q.1 = k := fun z => e (h1.trans z)
      have b : atKey (q :: qs) k = atKey qs k := by simp [atKey, List.find?_cons, e']
      rw [valV_neg e, b]; exact ih
theorem KT.repl {H : Hp} {kvs : List (List Key × V)} {xs : List (List Key × Addr × Value)} (r : KT H kvs xs) (k : List Key) {y : V} {u : Value} (ry : RelV y u) :
    KT H (kvs.map fun kv => if kv.1 = k then (kv.1, y) else kv) (xs.map (putAt k u)) := by
  induction r with
  | nil => exact .nil
  | @cons p q ps qs h t ih =>
    rw [List.map_cons, List.map_cons]
    refine .cons ?_ ih
    obtain ⟨h1, h2, h3⟩ := h
    unfold putAt
    by_cases e : p.1 = k
    · rw [if_pos e, if_pos (h1.symm.trans e)]; exact ⟨h1, h2, ry⟩
    · rw [if_neg e, if_neg (fun z => e (h1.trans z))]; exact ⟨h1, h2, h3⟩
theorem KT.put {H : Hp} {kvs : List (List Key × V)} {xs : List (List Key × Addr × Value)} (r : KT H kvs xs) (k : List Key) {b : Addr} {y : V} {u : Value} (hb : H b = some (.tup (k.map kV))) (ry : RelV y u) :
    KT H (putK kvs k y) (storedH xs k b u) := by
  have e : (kvs.any fun kv => decide (kv.1 = k)) = (atKey xs k).isSome := by
    rw [valV_any, (r.val k).isSome_eq, Option.isSome_map]
  unfold putK storedH
  rw [e]
  by_cases q : (atKey xs k).isSome = true
  · rw [if_pos q, if_pos q]; exact r.repl k ry
  · rw [if_neg q, if_neg q]; exact Paired.snoc r ⟨rfl, hb, ry⟩
theorem KT.keeps {H H' : Hp} {kvs : List (List Key × V)} {xs : List (List Key × Addr × Value)} (r : KT H kvs xs) (ht : ∀ b ys, H b = some (.tup ys) → H' b = some (.tup ys)) : KT H' kvs xs :=
  Paired.mapP r fun _ _ z => ⟨z.1, ht _ _ z.2.1, z.2.2⟩

section
variable {P : Program} {w : World} {H : Hp} {h : Heap} {a : Addr}
theorem rd_of {u : HO} (ok : HOk P w H h) (e : Rd H a u) : ObjOk P w H h a u := e.ok ok
theorem dk_rd {kvs : List (Key × V)} (ok : HOk P w H h) (e : Rd H a (.dK kvs)) : kvs.length ≤ sizeLine ∧ (a == sysModules) = false ∧ ∃ vs, KV kvs vs ∧ h.DictOf (mixKind P w) a vs :=
  show ObjOk P w H h a (.dK kvs) from rd_of ok e
theorem dk_of {kvs : List (Key × V)} (ok : HOk P w H h) (e : H a = some (.dK kvs)) : kvs.length ≤ sizeLine ∧ (a == sysModules) = false ∧ ∃ vs, KV kvs vs ∧ h.DictOf (mixKind P w) a vs := dk_rd ok (.inl e)
theorem key_of {ks : List Key} (ok : HOk P w H h) (e : H a = some (.tup (ks.map kV))) : (tupleKind (mixKind P w)).is h ks a := by
  obtain ⟨_, its, r, o, h1, h2, n, h3⟩ := (show ObjOk P w H h a (.tup (ks.map kV)) from ok a _ e)
  exact ⟨o, its.toArray, n, h1, h2, h3, by simpa using items_are r⟩
theorem dt_rd {kvs : List (List Key × V)} (ok : HOk P w H h) (e : Rd H a (.dT kvs)) : kvs.length ≤ sizeLine ∧ (a == sysModules) = false ∧
    ∃ xs, KT H kvs xs ∧ h.DictOfH (tupleKind (mixKind P w)) a xs := by
  obtain ⟨z, y, xs, r, o, es, ep, h1, h2, h3, h4, h5⟩ := (show ObjOk P w H h a (.dT kvs) from rd_of ok e)
  refine ⟨z, y, xs, r, o, es, ep, h1, h2, h3, h4, fun x hx => ?_, h5⟩
  have all : ∀ {l : List (List Key × V)} {m : List (List Key × Addr × Value)}, KT H l m → ∀ x ∈ m, (tupleKind (mixKind P w)).is h x.1 x.2.1 := by
    intro l m q
    induction q with
    | nil => intro x hx; exact nomatch hx
    | @cons p q ps qs hq t ih =>
      intro x hx
      rcases List.mem_cons.mp hx with e | hx
      · subst e
        exact key_of ok (by rw [← hq.1]; exact hq.2.1)
      · exact ih x hx
  exact all r x hx
theorem dt_of {kvs : List (List Key × V)} (ok : HOk P w H h) (e : H a = some (.dT kvs)) : kvs.length ≤ sizeLine ∧ (a == sysModules) = false ∧
    ∃ xs, KT H kvs xs ∧ h.DictOfH (tupleKind (mixKind P w)) a xs := dt_rd ok (.inl e)
end

noncomputable def DGet (H : Hp) (a : Addr) (y : V) (r : Option V) : Prop :=
  (∃ kvs k, Rd H a (.dK kvs) ∧ y = kV k ∧ r = valV kvs k) ∨ ∃ kvs k b, Rd H a (.dT kvs) ∧ y = .ref b ∧ H b = some (.tup (k.map kV)) ∧ r = valV kvs k
noncomputable def DPut (H : Hp) (a : Addr) (y v : V) (H' : Hp) : Prop :=
  (∃ kvs k, H a = some (.dK kvs) ∧ y = kV k ∧ kvs.length < sizeLine ∧ H' = upd H a (.dK (putK kvs k v))) ∨
  ∃ kvs k b, H a = some (.dT kvs) ∧ y = .ref b ∧ H b = some (.tup (k.map kV)) ∧ kvs.length < sizeLine ∧ H' = upd H a (.dT (putK kvs k v))
theorem DGet.k {H : Hp} {a : Addr} {kvs : List (Key × V)} {k : Key} (e : H a = some (.dK kvs)) : DGet H a (kV k) (valV kvs k) := .inl ⟨kvs, k, .inl e, rfl, rfl⟩
theorem DPut.k {H : Hp} {a : Addr} {kvs : List (Key × V)} {k : Key} {v : V} (e : H a = some (.dK kvs)) (hl : kvs.length < sizeLine) : DPut H a (kV k) v (upd H a (.dK (putK kvs k v))) := .inl ⟨kvs, k, e, rfl, hl, rfl⟩
section
variable {X : Cx} {pins : List (Addr × Obj)} {σ : St} {H : Hp} {s : Shared} {a : Addr} {y v : V} {u r : Value} {o : Option V} {A : Around} {E : Value → Shared → Prop}

theorem Inv.big (I : Inv X pins σ H s) : sysModules < s.heap.objs.size := by
  have h : mainGlobals < s.heap.objs.size := (I.mod.glob.keeps I.bk).lt
  exact Nat.lt_trans (by decide) h

theorem d_getItem {Q : Value → Shared → Prop} (hu : A.units + 1 < cLine) (I : Inv X pins σ H s) (g : DGet H a y (some v)) (ry : RelV y u) (h : ∀ w' s', Inv X pins σ H s' → RelV v w' → Q w' s') :
    wpAny (model X.prog X.w) A (getItem (.ref a) u) Q E s := by
  rcases g with ⟨kvs, k, e, ey, l⟩ | ⟨kvs, k, b, e, ey, eb, l⟩
  · subst ey
    obtain ⟨z, hd, vs, rel, dd⟩ := dk_rd I.hok e
    obtain ⟨w', hw, rw'⟩ := RelO.some_of (v := v) (o := valueAt vs k) (by rw [l]; exact rel.val k)
    exact wpAny_getItem_of (kV_is ry) dd.mapOf hw (h w' _ (I.tok _) rw')
  · subst ey
    cases (show u = Value.ref b from ry)
    obtain ⟨z, hd, xs, rel, dd⟩ := dt_rd I.hok e
    obtain ⟨w', hw, rw'⟩ := RelO.some_of (v := v) (o := (atKey xs k).map (·.2)) (by rw [l]; exact rel.val k)
    obtain ⟨p, hp, hp2⟩ := Option.map_eq_some_iff.mp hw
    refine wpAny_getItem_heap (tupleKind_room_in1 hu) (key_of I.hok eb) dd hp ?_
    rw [hp2]
    exact h w' _ (I.tok _) rw'
theorem d_notIn {Q : Value → Shared → Prop} (hu : A.units + 1 < cLine) (I : Inv X pins σ H s) (g : DGet H a y o) (ry : RelV y u) (h : ∀ s', Inv X pins σ H s' → Q (.bool (!o.isSome)) s') :
    wpAny (model X.prog X.w) A (compareOp .NotIn u (.ref a)) Q E s := by
  rcases g with ⟨kvs, k, e, ey, l⟩ | ⟨kvs, k, b, e, ey, eb, l⟩
  · subst ey
    obtain ⟨z, hd, vs, rel, dd⟩ := dk_rd I.hok e
    refine wpAny_notIn_of (kV_is ry) hd dd.mapOf ?_
    rw [← (rel.val k).isSome_eq, ← l]
    exact h _ (I.tok _)
  · subst ey
    cases (show u = Value.ref b from ry)
    obtain ⟨z, hd, xs, rel, dd⟩ := dt_rd I.hok e
    refine wpAny_notIn_heap (tupleKind_room_in1 hu) (key_of I.hok eb) hd dd ?_
    have q := (rel.val k).isSome_eq
    rw [Option.isSome_map] at q
    rw [← q, ← l]
    exact h _ (I.tok _)
theorem d_write {h' : Heap} {t' : Nat} {ob : HO} (I : Inv X pins σ H s) (mu : Mut (H a)) (hs : Heap.SameBut a s.heap h') (he : ∃ q, h'.get? a = some q) (new : ObjOk X.prog X.w (upd H a ob) h' a ob) :
    Inv X pins σ (upd H a ob) { s with heap := h', toks := t' } :=
  I.write (x := a) (e := a) mu (.inl rfl) (fun b q hb z => (hs.2 b hb).trans z) he new
theorem dk_new {P : Program} {w : World} {H' : Hp} {h' : Heap} {kvs : List (Key × V)} {vs : List (Key × Value)} (z : kvs.length ≤ sizeLine) (hd : (a == sysModules) = false) (rel : KV kvs vs) (dd : h'.DictOf (mixKind P w) a vs) :
    ObjOk P w H' h' a (.dK kvs) := ⟨z, hd, vs, rel, dd⟩
theorem d_setItem {H' : Hp} {Q : Unit → Shared → Prop} (hu : A.units + 1 < cLine) (I : Inv X pins σ H s) (g : DPut H a y v H') (ry : RelV y u) (rv : RelV v r) (h : ∀ s', Inv X pins σ H' s' → Q () s') :
    wpAny (model X.prog X.w) A (setItem (.ref a) u r) Q E s := by
  rcases g with ⟨kvs, k, e, ey, l, eH⟩ | ⟨kvs, k, b, e, ey, eb, l, eH⟩
  · subst ey eH
    obtain ⟨z, hd, vs, rel, dd⟩ := dk_of I.hok e
    have hz : vs.length ≤ sizeLine := by rw [← rel.length]; exact z
    have hl : (putK kvs k v).length ≤ sizeLine := by have := length_putK kvs k v; omega
    refine wpAny_setItem_pairs (hsz := hz) (kV_is ry) dd fun h' dd' hs => h _ ?_
    have he : ∃ q, h'.get? a = some q := let ⟨q, _, _, hq, _⟩ := dd'; ⟨q, hq⟩
    exact d_write I (by rw [e]; exact True.intro) hs he (dk_new hl hd (rel.put k rv) dd')
  · subst ey eH
    cases (show u = Value.ref b from ry)
    obtain ⟨z, hd, xs, rel, dd⟩ := dt_of I.hok e
    have hz : xs.length ≤ sizeLine := by rw [← Paired.length rel]; exact z
    have hl : (putK kvs k v).length ≤ sizeLine := by have := length_putK kvs k v; omega
    refine wpAny_setItem_heap (hsz := hz) (tupleKind_room_in1 hu) (key_of I.hok eb) dd fun h' dd' hs => h _ ?_
    obtain ⟨q, es, ep, hq, h2, h3, h4, _, h5⟩ := dd'
    refine d_write I (by rw [e]; exact True.intro) hs ⟨q, hq⟩ ⟨hl, hd, _, (rel.put k eb rv).keeps fun c ys ec => ?_, q, es, ep, hq, h2, h3, h4, h5⟩
    rw [upd_ne (ne_of ec e (fun z => nomatch z))]
    exact ec
end

section
variable {X : Cx} {pins : List (Addr × Obj)} {σ : St} {H : Hp} {s : Shared} {a : Addr} {kvs : List (Key × V)} {k : Key} {u : Value} {A : Around} {E : Value → Shared → Prop}
end


noncomputable def NoSl (i : Expr) : Prop := ∀ ov iv, subscripted i false ov iv = operate [ov, iv] (getItem ov iv)
theorem subD_of {prog : Program} {w : World} {A : Around} {E : Value → Shared → Prop} {s : Shared} {env : Env} {value slice : Expr} {pos : Pos} {T id : String} {Q : Value → Shared → Prop}
    (hl : typeLookup (.type T) "__getitem__" = pure (some (.builtin id))) (hs : NoSl slice)
    (h : wpAny (model prog w) A (eval value env) (fun o s₁ => wpAny (model prog w) A (eval slice env) (fun i s₂ => s₂.TypeIs o T ∧ wpAny (model prog w) A (getItem o i) Q E s₂) E s₁) E s) :
    wpAny (model prog w) A (eval (.Subscript value slice pos) env) Q E s := by
  refine Subscript_ (wpAny_mono h (fun o s₁ h₁ => wpAny_mono h₁ (fun i s₂ h₂ => ?_) fun _ _ x => x) fun _ _ x => x)
  obtain ⟨hT, h₂⟩ := h₂
  unfold subscriptTail
  refine wpAny_bind ?_
  rw [getitemInPython_of_ne hT.not_modules]
  refine wpAny_bind (wpAny_specialOf hT hl ?_)
  have fin : wpAny (model prog w) A (subscripted slice false o i) (fun r s₃ => wpAny (model prog w) A (letTemporaryGo value o r >>= fun _ => pure r) Q E s₃) E s₂ := by
    rw [hs o i]
    exact wpAny_operating (wpAny_mono h₂ (fun r s₃ h₃ => wpAny_bind (wpAny_letTemporaryGo (wpAny_pure h₃))) fun _ _ x => x)
  first
    | exact wpAny_pure (wpAny_bind fin)
    | exact wpAny_bind (wpAny_pure (wpAny_bind fin))
    | exact wpAny_bind fin

theorem dict_typeIs {X : Cx} {pins : List (Addr × Obj)} {σ : St} {H : Hp} {s : Shared} {a : Addr} {y : V} {o : Option V} (I : Inv X pins σ H s) (g : DGet H a y o) : s.TypeIs (.ref a) "dict" := by
  rcases g with ⟨kvs, k, e, _, _⟩ | ⟨kvs, k, b, e, _, _, _⟩
  · obtain ⟨_, _, vs, _, dd⟩ := dk_rd I.hok e
    exact dd.typeIs
  · obtain ⟨_, _, xs, _, dd⟩ := dt_rd I.hok e
    exact dd.typeIs
noncomputable def tDGet (td ty : TE) : TE := fun σ H Q => td σ H fun x H1 => ty σ H1 fun y H2 => ∃ a v, x = .ref a ∧ DGet H2 a y (some v) ∧ Q v H2
noncomputable def tDNotIn (ty td : TE) : TE := fun σ H Q => ty σ H fun y H1 => td σ H1 fun x H2 => ∃ a o, x = .ref a ∧ DGet H2 a y o ∧ Q (.bl (!o.isSome)) H2
noncomputable def sDPut (td ty tv : TE) : TS := fun D σ H => tv σ H fun v H1 => td σ H1 fun x H2 => ty σ H2 fun y H3 => ∃ a H4, x = .ref a ∧ DPut H3 a y v H4 ∧ D.nx σ H4
section
variable {X : Cx} {o i e value : Expr} {pos pos' tpos : Pos} {td ty tv : TE}
theorem pe_dget (hu : X.A.units + 1 < cLine) (ho : PE X o td) (hi : PE X i ty) (hs : NoSl i) : PE X (.Subscript o i pos) (tDGet td ty) := by
  intro pins s σ H Q I h
  refine subD_of PySem.F.slot_dict_getitem.lookup hs (thn (ho pins s σ H _ I h) fun u s1 ⟨x, H1, I1, rx, q1⟩ => thn (hi pins s1 σ H1 _ I1 q1) fun iv s2 ⟨y, H2, I2, ry, a, v, ex, g, q2⟩ => ?_)
  subst ex
  obtain rfl : u = Value.ref a := rx
  exact ⟨dict_typeIs I2 g, d_getItem hu I2 g ry fun w' s3 I3 rw' => ⟨v, H2, I3, rw', q2⟩⟩
theorem pc_dnotin (hu : X.A.units + 1 < cLine) (hi : PE X i ty) (ho : PE X o td) : PC X .NotIn i o (tDNotIn ty td) := by
  intro pins s σ H Q I h
  refine thn (hi pins s σ H _ I h) fun iv s1 ⟨y, H1, I1, ry, q1⟩ => thn (ho pins s1 σ H1 _ I1 q1) fun u s2 ⟨x, H2, I2, rx, a, ov, ex, g, q2⟩ => ?_
  subst ex
  obtain rfl : u = Value.ref a := rx
  exact d_notIn hu I2 g ry fun s3 I3 => ⟨.bl (!ov.isSome), H2, I3, rfl, q2⟩
theorem ps_dput (hu : X.A.units + 1 < cLine) (ho : PE X o td) (hi : PE X i ty) (hv : PE X value tv) (hs : swapsWith value (some (.Subscript o i pos')) pos.line X.env = pure false) :
    PS X (.Assign [.Subscript o i pos'] value pos) (sDPut td ty tv) := by
  intro pins s σ H D I h
  refine wpAny_Assign_Subscript (thn (hv pins s σ H _ I h) fun r s1 ⟨v, H1, I1, rv, q1⟩ => thn (ho pins s1 σ H1 _ I1 q1) fun u s2 ⟨x, H2, I2, rx, q2⟩ => thn (hi pins s2 σ H2 _ I2 q2) fun iv s3 ⟨y, H3, I3, ry, a, H4, ex, g, q3⟩ => ?_) hs
  subst ex
  obtain rfl : u = Value.ref a := rx
  exact d_setItem hu I3 g ry rv fun s4 I4 => ⟨σ, H4, I4, q3⟩
end


theorem dk_empty {P : Program} {w : World} {H : Hp} (h : Heap) (hb : sysModules < h.objs.size) : ObjOk P w H (h.push { cls := .type "dict", data := .dict #[] }) h.objs.size (.dK []) :=
  ⟨Nat.zero_le _, beq_eq_false_iff_ne.mpr (Ne.symm (Nat.ne_of_lt hb)), [], .nil, Heap.DictOf.new h⟩
noncomputable def tDNewK : TE := fun _ H Q => ∀ p, H p = none → Q (.ref p) (upd H p (.dK []))
section
variable {X : Cx} {pos : Pos}
theorem pe_dnewK : PE X (.Dict [] [] pos) tDNewK := fun pins s σ H Q I h =>
  wpAny_Dict_empty ⟨.ref s.heap.objs.size, _, I.laid (a := s.heap.objs.size) (o := .dK []) (t' := s.toks) (fun _ _ q => Heap.get?_push_of_some _ q) (Nat.le_refl _) (dk_empty s.heap I.big), rfl, h _ (I.hok.fresh (Nat.le_refl _))⟩
end

section
variable {X : Cx} {pins : List (Addr × Obj)} {σ : St} {H : Hp} {s : Shared} {a : Addr} {y d : V} {u r : Value} {o : Option V} {A : Around} {E : Value → Shared → Prop}
end

section
variable {X : Cx} {o e f : Expr} {apos cpos : Pos} {td ty tx : TE}
end

section
variable {X : Cx} {pins : List (Addr × Obj)} {σ : St} {H : Hp} {s : Shared} {a : Addr} {kvs : List (Key × V)} {A : Around} {E : Value → Shared → Prop}
end


section
variable {X : Cx} {pins : List (Addr × Obj)} {σ : St} {H : Hp} {s : Shared} {a : Addr} {y : V} {u : Value} {A : Around} {E : Value → Shared → Prop}
end
end L2

namespace Att
open PySem PySem.W PySem.Calls PyProof.Rows

section
variable {prog : Program} {w : World} {A : Around} {E : Value → Shared → Prop} {s : Shared} {K : Frag}

end
end Att

namespace L2
open PySem PySem.Spec PyProof.Rows

end L2

namespace L2
open PySem PySem.Spec PyProof.Rows

end L2

namespace L2
open PySem PySem.Spec PyProof.Rows

section
variable {P : Program} {w : World} {K : PySem.W.Frag} {mg : Str → Option Value} {base : Heap}
end
section
variable {X : Cx}
end

section
variable {κ : Type} [DecidableEq κ]
end
end L2


set_option Elab.async false
set_option linter.all false
set_option maxRecDepth 100000
set_option maxHeartbeats 400000
namespace L2
open PySem PySem.Spec PyProof.Rows
namespace RT
theorem slot_next : Slot "reversed" "__next__" "reversed.__next__" :=
  .of (owner := "reversed") (n := "__next__") (by rw [typeLookup_type, builtinLookup_eq_fast]; kernel_rfl) (by decide +kernel) (by decide +kernel) (by decide +kernel) (by first | exact .inl (by decide +kernel) | exact .inr (by decide +kernel)) (by rw [isSubtype_type]; kernel_rfl)
theorem entry_next : entryFor table "reversed.__next__" = some Builtin.«reversed.__next__» := entryFor_of_tree (by kernel_rfl)
theorem args_next (a : Value) : argsOk "reversed.__next__" ⟨[a], []⟩ := by unfold argsOk; kernel_rfl
theorem slot_iter : Slot "reversed" "__iter__" "reversed.__iter__" :=
  .of (owner := "reversed") (n := "__iter__") (by rw [typeLookup_type, builtinLookup_eq_fast]; kernel_rfl) (by decide +kernel) (by decide +kernel) (by decide +kernel) (by first | exact .inl (by decide +kernel) | exact .inr (by decide +kernel)) (by rw [isSubtype_type]; kernel_rfl)
theorem args_iter (a : Value) : argsOk "reversed.__iter__" ⟨[a], []⟩ := by unfold argsOk; kernel_rfl
theorem entry_iter : entryFor table "reversed.__iter__" = some Builtin.«dict_keyiterator.__iter__» :=
  entryFor_alias (id' := "dict_keyiterator.__iter__") (by kernel_rfl) (by first | rfl | decide +kernel | (unfold String.splitOn; simp +decide [String.splitOnAux])) (by decide +kernel) (by kernel_rfl)
theorem slot_hint : Slot "reversed" "__length_hint__" "reversed.__length_hint__" :=
  .of (owner := "reversed") (n := "__length_hint__") (by rw [typeLookup_type, builtinLookup_eq_fast]; kernel_rfl) (by decide +kernel) (by decide +kernel) (by decide +kernel) (by first | exact .inl (by decide +kernel) | exact .inr (by decide +kernel)) (by rw [isSubtype_type]; kernel_rfl)
theorem entry_hint : entryFor table "reversed.__length_hint__" = some Builtin.«reversed.__length_hint__» := entryFor_of_tree (by kernel_rfl)
theorem args_hint (a : Value) : argsOk "reversed.__length_hint__" ⟨[a], []⟩ := by unfold argsOk; kernel_rfl
theorem no_len : typeLookup (.type "reversed") "__len__" = pure none := by rw [typeLookup_type, builtinLookup_eq_fast]; kernel_rfl
theorem the_hint : typeLookup (.type "reversed") "__length_hint__" = pure (some (.builtin "reversed.__length_hint__")) := by rw [typeLookup_type, builtinLookup_eq_fast]; kernel_rfl
theorem str_norev : typeLookup (.type "str") "__reversed__" = pure none := by rw [typeLookup_type, builtinLookup_eq_fast]; kernel_rfl
noncomputable def obj (x : Str) (t : Tok) (i : Int) : Obj := { cls := .type "reversed", data := .fields #[.str x t, rawInt i] }
noncomputable def Is (h : Heap) (a : Addr) (x : Str) (t : Tok) (i : Int) : Prop := ∃ o, h.get? a = some o ∧ o.cls = .type "reversed" ∧ o.data = .fields #[.str x t, rawInt i]
section
variable {prog : Program} {w : World} {A : Around} {E : Value → Shared → Prop} {s : Shared}
theorem Is.ty {a : Addr} {x : Str} {t : Tok} {i : Int} (h : Is s.heap a x t i) : s.TypeIs (.ref a) "reversed" := let ⟨o, ho, hc, _⟩ := h; ⟨o, ho, hc⟩
theorem Is.at {h h' : Heap} {a : Addr} {x : Str} {t : Tok} {i : Int} (y : Is h a x t i) (e : ∀ o, h.get? a = some o → h'.get? a = some o) : Is h' a x t i := let ⟨o, ho, r⟩ := y; ⟨o, e _ ho, r⟩
theorem made {x : Str} {t : Tok} {Q : Value → Shared → Prop} (hz : x.length ≤ sizeLine) (h : ∀ tk, Q (.ref s.heap.objs.size) { s with heap := s.heap.push (obj x t ((x.length : Int) - 1)), toks := tk }) :
    codeAny (model prog w) A (.call (.builtin "reversed.__new__") ⟨[.type "reversed", .str x t], []⟩) (wants Q E) s := by
  refine codeAny_of_tree ?_
  show wpAny _ A.in1 (do checkBuiltinCall "reversed.__new__" ⟨[.type "reversed", .str x t], []⟩; again (.builtin "reversed.__new__" ⟨[.type "reversed", .str x t], []⟩)) _ _ s
  refine wpAny_bind (wpAny_of_eq (F.newCall_reversed_1 _) (wpAny_pure ⟨plainId_quiet F.plain_reversed_new _, codeAny_builtin F.entry_reversed_new ?_⟩))
  rw [Around.under_plainId F.plain_reversed_new _]
  unfold Builtin.«reversed.__new__»
  refine wpAny_bind (wpAny_of_eq (newClass_reversed _) ?_)
  try dsimp only
  refine wpAny_bind (wpAny_of_eq (a := ()) (by first | rfl | kernel_rfl) (wpAny_bind (wpAny_of_eq (a := ()) (by first | rfl | kernel_rfl) ?_)))
  try dsimp only
  refine wpAny_bind (wpAny_specialOf (typeIs_str s x t) str_norev ?_)
  try dsimp only
  refine wpAny_bind ?_
  wp_delta
  refine wpAny_bind (wpAny_isInstance (T := "str") (b := false) (typeIs_str s x t) (by rw [isSubtype_type]; kernel_rfl) ?_)
  simp only [Bool.false_eq_true, if_false]
  refine wpAny_bind (wpAny_specialOf (typeIs_str s x t) slot_str_getitem.lookup ?_)
  dsimp only
  rw [if_pos (by decide +kernel)]
  refine wpAny_pure ?_
  simp only [Bool.not_true, Bool.false_eq_true, if_false]
  have hn := line63
  refine wpAny_bind (len_str (by omega) (wpAny_bind (wpAny_of_eq (a := some ((x.length : Nat) : Int)) rfl ?_)))
  dsimp only
  refine wpAny_bind (m := Builtin.SmallTypes.newRecord (Value.type "reversed") [Value.str x t, rawInt ((x.length : Int) - 1)]) ?_
  show wpAny _ _ (newObj (Value.type "reversed") (.fields [Value.str x t, rawInt ((x.length : Int) - 1)].toArray)) _ _ _
  exact wpAny_newObj_type (wpAny_pure (h _)) (by size_fits)
theorem slot_init : Slot "reversed" "__init__" "object.__init__" :=
  .of (owner := "object") (n := "__init__") (by rw [typeLookup_type, builtinLookup_eq_fast]; kernel_rfl) (by decide +kernel) (by decide +kernel) (by decide +kernel) (by first | exact .inl (by decide +kernel) | exact .inr (by decide +kernel)) (by rw [isSubtype_type]; kernel_rfl)
theorem called : TypeCalled "reversed" "reversed.__new__" "object.__init__" :=
  ⟨by decide +kernel, by decide +kernel, ⟨_, _, F.mro_reversed⟩, F.made_reversed, by decide +kernel, F.sub_reversed_self, slot_init⟩
theorem call_rev {x : Str} {t : Tok} {Q : Value → Shared → Prop} (hz : x.length ≤ sizeLine) (h : ∀ tk, Q (.ref s.heap.objs.size) { s with heap := s.heap.push (obj x t ((x.length : Int) - 1)), toks := tk }) :
    wpAny (model prog w) A (call (.type "reversed") [.str x t]) Q E s := by
  refine callType_codes (Q₁ := fun o s₁ => s₁.TypeIs o "reversed" ∧ Q o s₁) called (F.typeCall_reversed_1 _) F.entry_object_init (made hz fun tk => ⟨⟨_, Heap.get?_push_size _ rfl, rfl⟩, h tk⟩) ?_
  rintro o s₁ h₁
  exact ⟨h₁.1, F.args_object_init_2 o _, object_init_meets called.init.lookup called.made (by decide) prog w A.in1 _ s₁ ⟨h₁.1, rfl, h₁.2⟩⟩
theorem next_item {a : Addr} {x : Str} {t : Tok} {i c : Nat} {Q : Option Value → Shared → Prop} (hz : x.length ≤ sizeLine) (hi : Is s.heap a x t (i : Int)) (hc : x.cps[i]? = some c)
    (hQ : ∀ h' tk t', Is h' a x t ((i : Int) - 1) → Heap.SameBut a s.heap h' → Q (some (.str ⟨#[c]⟩ t')) { s with heap := h', toks := tk }) : wpAny (model prog w) A (pyNext (.ref a)) Q E s := by
  obtain ⟨o, ho, hcl, hd⟩ := id hi
  have hlt : i < x.length := by
    rcases Nat.lt_or_ge i x.cps.size with z | z
    · exact z
    · rw [Array.getElem?_eq_none z] at hc; exact absurd hc (by simp)
  have hs : sizeLine = 16777216 := sizeLine_eq
  unfold pyNext
  refine wpAny_bind (wpAny_attempt (wpAny_callSpecial?_slot (name := Str.ofString "__next__") hi.ty slot_next (wpAny_call_entry slot_next hi.ty entry_next ?_ (args_next _))))
  unfold Builtin.«reversed.__next__»
  refine wpAny_bind (wpAny_of_eq (a := (Value.ref a, [])) rfl ?_)
  try dsimp only
  refine wpAny_bind (wpAny_field ho hd (x := .str x t) rfl (wpAny_bind (wpAny_field ho hd (x := rawInt (i : Int)) rfl ?_)))
  show wpAny _ _ (if (i : Int) < 0 then _ else _) _ _ s
  rw [if_neg (by omega)]
  refine wpAny_bind (wpAny_specialOf (typeIs_str s x t) slot_str_getitem.lookup ?_)
  rw [if_neg (by decide)]
  refine wpAny_bind (wpAny_mkInt (wpAny_bind (wpAny_attempt (getItem_str (c := c) ?_ ?_ ?_))))
  · have e1 : decide ((i : Int) < -(2 ^ 63 : Int)) = false := decide_eq_false (by omega)
    have e2 : decide ((i : Int) ≥ 2 ^ 63) = false := decide_eq_false (by omega)
    rw [e1, e2]; rfl
  · rw [show seqIndex? (i : Int) x.length = some i from by
      unfold seqIndex?
      simp only [show ¬ ((i : Int) < 0) from by omega, if_false]
      first | (rw [if_pos (by constructor <;> omega)]; simp) | (simp; omega)]
    exact hc
  dsimp only
  refine wpAny_bind (wpAny_field ho hd (x := rawInt (i : Int)) rfl ?_)
  show wpAny _ _ (setField (.ref a) 1 (rawInt ((i : Int) - 1)) >>= _) _ _ _
  refine wpAny_bind (wpAny_setField ho hd (by simp) ?_)
  refine wpAny_pure ⟨_, rfl, wpAny_pure (hQ _ _ _ ?_ (Heap.SameBut.update ..))⟩
  exact ⟨_, Heap.get?_update_self _ ho (Obj.isFreed_of_fields (Obj.data_mapFields hd _)), (Obj.cls_mapFields ..).trans hcl, by rw [Obj.data_mapFields hd]; simp⟩
theorem next_end {a : Addr} {x : Str} {t : Tok} {Q : Option Value → Shared → Prop} (hh : A.handled = none) (hi : Is s.heap a x t (-1)) (hQ : ∀ h', Heap.ExtBut a s.heap h' → Q none { s with heap := h' }) :
    wpAny (model prog w) A (pyNext (.ref a)) Q E s := by
  obtain ⟨o, ho, hcl, hd⟩ := id hi
  unfold pyNext
  refine wpAny_bind (wpAny_attempt (wpAny_callSpecial?_slot (name := Str.ofString "__next__") hi.ty slot_next (wpAny_call_entry slot_next hi.ty entry_next ?_ (args_next _))))
  unfold Builtin.«reversed.__next__»
  refine wpAny_bind (wpAny_of_eq (a := (Value.ref a, [])) rfl ?_)
  try dsimp only
  refine wpAny_bind (wpAny_field ho hd (x := .str x t) rfl (wpAny_bind (wpAny_field ho hd (x := rawInt (-1)) rfl ?_)))
  show wpAny _ _ (if (-1 : Int) < 0 then _ else _) _ _ s
  rw [if_pos (by decide)]
  refine wpAny_bind (wpAny_rule ?_)
  refine wpAny_bind (m := ((do setField (.ref a) 1 (rawInt (-1)); setField (.ref a) 0 .none) : Sem Unit)) (wpAny_bind (wpAny_setField ho hd (by simp) ?_))
  have h2 := Heap.get?_update_self (Obj.mapFields (·.setIfInBounds 1 (rawInt (-1)))) ho (Obj.isFreed_of_fields (Obj.data_mapFields hd _))
  refine wpAny_setField h2 (Obj.data_mapFields hd _) (by simp) ?_
  refine wpAny_bind ?_
  show wpAny _ _ (newExc (.type "StopIteration") [] >>= _) _ _ _
  refine wpAny_bind ?_
  simp only [newExc, newTuple]
  refine wpAny_bind (wpAny_newObj_type ?_ (by size_fits))
  refine wpAny_bind (m := firstArgMember _ _) (wpAny_of_eq (a := Value.none) (by first | rfl | (simp only [firstArgMember]; rfl)) ?_)
  refine wpAny_newObj_type ?_ (by size_fits)
  simp only [raiseNew]
  refine wpAny_bind (wpAny_handled ?_)
  first | rw [show A.in1.handled = none from hh] | rw [hh]
  refine wpAny_bind (wpAny_pure (wpAny_throw ?_))
  refine wpAny_bind (wpAny_isInstance (T := "StopIteration") (b := true) ⟨_, Heap.get?_push_size _ rfl, rfl⟩ isSubtype_stop ?_)
  refine wpAny_pure (hQ _ fun b ob hb eb => ?_)
  refine Heap.get?_push_of_some _ (Heap.get?_push_of_some _ ?_)
  exact (Heap.get?_update_other _ _ (Ne.symm hb)).trans ((Heap.get?_update_other _ _ (Ne.symm hb)).trans eb)
theorem iter_self {a : Addr} {x : Str} {t : Tok} {i : Int} {Q : Value → Shared → Prop} (hi : Is s.heap a x t i) (h : Q (.ref a) s) : wpAny (model prog w) A (pyIter (.ref a)) Q E s := by
  refine wpAny_pyIter_slot hi.ty slot_iter (wpAny_call_entry slot_iter hi.ty entry_iter ?_ (args_iter _))
  show wpAny _ _ (ret (.ref a)) _ _ s
  exact wpAny_pure ⟨_, rfl, "reversed", _, hi.ty, slot_next.lookup, h⟩
end
theorem walk {prog : Program} {w : World} {A : Around} (hh : A.handled = none) (I : Addr) (x : Str) (t : Tok) (hz : x.length ≤ sizeLine) :
    Walks prog w A I [I] [I] x.length (fun i v => ∃ c t', x.cps[x.length - 1 - i]? = some c ∧ v = .str ⟨#[c]⟩ t') (fun i h => i ≤ x.length ∧ Is h I x t ((x.length : Int) - 1 - (i : Int))) where
  sub := fun b hb => by simp at hb; simp [hb]
  frame := fun _ _ _ y hk => ⟨y.1, y.2.at fun o e => hk I (by simp) o e⟩
  item := fun i s Q E hi y hQ => by
    have e : (x.length : Int) - 1 - (i : Int) = ((x.length - 1 - i : Nat) : Int) := by omega
    have hit := y.2
    rw [e] at hit
    have hlt : x.length - 1 - i < x.cps.size := by show x.length - 1 - i < x.length; omega
    have hx : x.cps[x.length - 1 - i]? = some (x.cps[x.length - 1 - i]'hlt) := Array.getElem?_eq_getElem hlt
    refine next_item hz hit hx fun h' tk t' hit' hs' => ?_
    have e2 : ((x.length - 1 - i : Nat) : Int) - 1 = (x.length : Int) - 1 - ((i + 1 : Nat) : Int) := by omega
    rw [e2] at hit'
    exact hQ _ h' tk ⟨_, t', hx, rfl⟩ ⟨hi, hit'⟩ fun b o hb eo => hs'.extBut b o (fun h => hb (by simp [h])) eo
  done := fun s Q E y hQ => by
    have e : (x.length : Int) - 1 - (x.length : Int) = -1 := by omega
    have hit := y.2
    rw [e] at hit
    exact next_end hh hit fun h' he' => hQ h' s.toks fun b o hb eo => he' b o (fun h => hb (by simp [h])) eo
  self := fun _ _ _ _ y hQ => iter_self y.2 hQ
section
variable {prog : Program} {w : World} {A : Around} {E : Value → Shared → Prop} {s : Shared}
theorem hint {it : Addr} {x : Str} {t : Tok} {Q : Bool → Shared → Prop} (hz : x.length ≤ sizeLine) (hit : Is s.heap it x t ((x.length : Int) - 1)) (h : ∀ b tk, Q b { s with toks := tk }) : wpAny (model prog w) A (Builtin.List.listLengthHint (.ref it)) Q E s := by
  unfold Builtin.List.listLengthHint
  refine wpAny_bind (wpAny_specialOf hit.ty no_len ?_)
  show wpAny _ A (specialOf (Value.ref it) (Str.ofString "__length_hint__") >>= _) _ _ _
  refine wpAny_bind (wpAny_specialOf hit.ty the_hint ?_)
  generalize hid : ("reversed.__length_hint__" : String) = id0
  wp_delta
  rw [show splitId id0 = some ("reversed", "__length_hint__") from by subst hid; decide +kernel]
  subst hid
  refine wpAny_bind (wpAny_isInstance (T := "reversed") (b := true) hit.ty (by rw [isSubtype_type]; kernel_rfl) ?_)
  refine wpAny_ite_split (fun hab => absurd hab (by decide)) (fun _ => ?_)
  refine wpAny_ite_split (fun hab => absurd hab (by decide +kernel)) (fun _ => ?_)
  refine wpAny_bind (wpAny_rule ?_)
  refine wpAny_bind (wpAny_of_eq (slot_hint.bind _) ?_)
  dsimp only
  refine wpAny_bind (wpAny_attempt (wpAny_call_entry slot_hint hit.ty entry_hint ?_ (args_hint _)))
  unfold Builtin.«reversed.__length_hint__»
  refine wpAny_bind (wpAny_of_eq (a := Value.ref it) rfl ?_)
  obtain ⟨o, ho, hcl, hd⟩ := id hit
  refine wpAny_bind (wpAny_field ho hd (x := .str x t) rfl ?_)
  rw [if_neg (show ¬ ((Value.str x t == Value.none) = true) from Bool.false_ne_true)]
  have hs : sizeLine = 16777216 := sizeLine_eq
  refine wpAny_bind (len_str (by omega) (wpAny_bind (wpAny_of_eq (a := some ((x.length : Nat) : Int)) rfl ?_)))
  dsimp only
  refine wpAny_bind (wpAny_field ho hd (x := rawInt ((x.length : Int) - 1)) rfl ?_)
  show wpAny _ _ (if ((x.length : Nat) : Int) < (x.length : Int) - 1 + 1 then _ else _) _ _ _
  rw [if_neg (by omega)]
  refine wpAny_bind (wpAny_mkInt (wpAny_pure ⟨_, rfl, ?_⟩))
  show wpAny _ _ (asInt? (.int ((x.length : Int) - 1 + 1) _) >>= _) _ _ _
  refine wpAny_bind (wpAny_of_eq (a := some ((x.length : Int) - 1 + 1)) rfl ?_)
  have e1 : (!Builtin.List.listFitsIndex ((x.length : Int) - 1 + 1)) = false := by
    unfold Builtin.List.listFitsIndex
    have a1 : decide (-(2 ^ 63 : Int) ≤ (x.length : Int) - 1 + 1) = true := decide_eq_true (by omega)
    have a2 : decide ((x.length : Int) - 1 + 1 < 2 ^ 63) = true := decide_eq_true (by omega)
    rw [a1, a2]; rfl
  have e2 : Builtin.List.listTooLong ((x.length : Int) - 1 + 1).toNat = false := by
    unfold Builtin.List.listTooLong
    exact decide_eq_false (by omega)
  dsimp only
  rw [e1, e2, if_neg Bool.false_ne_true, if_neg (by omega), if_neg Bool.false_ne_true]
  exact wpAny_pure (h _ _)
theorem strs_of : ∀ {vs : List Value} {ss : List Str}, vs.length = ss.length → (∀ (i : Nat) (v : Value), vs[i]? = some v → ∃ (y : Str) (t' : Tok), ss[i]? = some y ∧ v = Value.str y t') → StrsAre vs ss
  | [], [], _, _ => .nil
  | [], _ :: _, e, _ => by simp at e
  | _ :: _, [], e, _ => by simp at e
  | v :: vs, y :: ss, e, h => by
    obtain ⟨y', t', e1, rfl⟩ := h 0 v rfl
    cases e1
    exact .cons _ _ (strs_of (by simpa using e) fun i u hu => h (i + 1) u (by simpa using hu))
theorem strs_rev {x : Str} {acc : Array Value} (h : ItemsOf (fun i v => ∃ c t', x.cps[x.length - 1 - i]? = some c ∧ v = Value.str { cps := #[c] } t') acc x.length) : StrsAre acc.toList (x.cps.toList.reverse.map fun c => ⟨#[c]⟩) := by
  have hx : x.cps.toList.length = x.length := by simp [Str.length]
  refine strs_of (by simp [h.1, Str.length]) fun i v hv => ?_
  have hi : i < x.length := by
    rw [← h.1]
    rcases Nat.lt_or_ge i acc.size with z | z
    · exact z
    · rw [List.getElem?_eq_none (by simpa using z)] at hv
      cases hv
  obtain ⟨c, t', e1, e2⟩ := h.2 i v (by simpa using hv)
  refine ⟨⟨#[c]⟩, t', ?_, e2⟩
  rw [List.getElem?_map, List.getElem?_reverse (by omega), hx, Array.getElem?_toList, e1]
  rfl
theorem extend_rev {R : Result → Shared → Prop} (hh : A.handled = none) {it : Addr} {x : Str} {t : Tok} (hz : x.length ≤ sizeLine) (hit : Is s.heap it x t ((x.length : Int) - 1)) (S : Addr) (res : Value)
    (h1 : S ≠ it) (hS : s.heap.get? S = some { cls := .type "list", data := .seq #[] })
    (hR : ∀ h' tk acc' c', (∀ b o, b ≠ S → b ≠ it → s.heap.get? b = some o → h'.get? b = some o) → h'.get? S = some { cls := .type "list", dict := none, data := .seq acc' c', slots := #[] } →
      StrsAre acc'.toList (x.cps.toList.reverse.map fun c => ⟨#[c]⟩) → R (.ok (.ret res)) { s with heap := h', toks := tk }) :
    wpAny (model prog w) A.in1 (Builtin.List.listExtendWith (.ref S) (.ref it) res)
      (fun fin s' => match fin with | .done f => R (.ok f) s' | .again c' => c'.quiet = true ∧ codeAny (model prog w) A c' R s') (fun e s' => R (.error e) s') s := by
  have W := (walk (prog := prog) (w := w) (A := A.in1) hh it x t hz).toS
  unfold Builtin.List.listExtendWith
  refine wpAny_bind (wpAny_typeOf hit.ty ?_)
  have g1 : Builtin.List.listSameRef (.ref S) (.ref it) = false := by simp [Builtin.List.listSameRef, h1]
  have g2 : (Value.type "reversed" == Value.type "list") = false := by decide
  have g3 : (Value.type "reversed" == Value.type "tuple") = false := by decide
  simp only [g1, g2, g3, Bool.or_false, Bool.false_eq_true, if_false]
  refine wpAny_bind (iter_self hit ?_)
  refine wpAny_bind (wpAny_holding (hint hz hit fun b tk0 => ?_))
  have last : ∀ (h0 : Heap) (c0 : Nat) (tk1 : Tok), (∀ b o, b ≠ S → s.heap.get? b = some o → h0.get? b = some o) → h0.get? S = some { cls := .type "list", data := .seq #[] c0 } →
      wpAny (model prog w) A.in1 (again (.builtin "list.extend.loop" ⟨[.ref S, .ref it, res], []⟩))
        (fun fin s' => match fin with | .done f => R (.ok f) s' | .again c' => c'.quiet = true ∧ codeAny (model prog w) A c' R s') (fun e s' => R (.error e) s') { s with heap := h0, toks := tk1 } := fun h0 c0 tk1 hk0 hS0 => by
    have e0 : (x.length : Int) - 1 - ((0 : Nat) : Int) = (x.length : Int) - 1 := by omega
    refine wpAny_pure ⟨plainId_quiet F.plain_extend_loop _, codeAny_extend_loopS W hz S (by simp [h1]) res x.length 0 _ #[] c0 rfl (Nat.zero_le _) ⟨Nat.zero_le _, by rw [e0]; exact hit.at fun o e => hk0 _ _ (Ne.symm h1) e⟩ hS0 (ItemsOf.nil _) fun s' acc' c' hm hS' hacc => ?_⟩
    rw [Moved.eq_with hm]
    refine hR s'.heap s'.toks acc' c' (fun b o hb hb2 e => hm.heap b o (by simp [hb, hb2]) (hk0 b o hb e)) hS' ?_
    exact strs_rev hacc
  refine wpAny_ite_split (fun _ => ?_) (fun _ => last s.heap 0 tk0 (fun _ _ _ e => e) hS)
  refine wpAny_bind (wpAny_rule ?_)
  refine wpAny_bind (m := ((do updateSeq S (fun z => z.push .none); updateSeq S (fun z => z.pop)) : Sem Unit)) (wpAny_bind (wpAny_updateSeq hS rfl ?_))
  have k1 := Heap.get?_update_self (Obj.mapSeq (fun z => z.push .none)) hS rfl
  refine wpAny_updateSeq k1 rfl ?_
  have k2 := Heap.get?_update_self (Obj.mapSeq (fun z => z.pop)) k1 rfl
  exact last _ _ tk0 (fun b o hb e => (Heap.get?_update_other _ _ (Ne.symm hb)).trans ((Heap.get?_update_other _ _ (Ne.symm hb)).trans e)) k2
theorem collect_rev {Q : List Value → Shared → Prop} (hh : A.handled = none) {it : Addr} {x : Str} {t : Tok} (hz : x.length ≤ sizeLine) (hit : Is s.heap it x t ((x.length : Int) - 1))
    (hQ : ∀ h' tk vs, (∀ b o, b ≠ it → s.heap.get? b = some o → h'.get? b = some o) → StrsAre vs (x.cps.toList.reverse.map fun c => ⟨#[c]⟩) → Q vs { s with heap := h', toks := tk }) :
    wpAny (model prog w) A (collect (.ref it)) Q E s := by
  obtain ⟨oi, hoi, ri⟩ := id hit
  unfold collect
  refine wpAny_bind (wpAny_runValue (codeAny_builtin F.entry_proto_collect ?_))
  rw [Around.under_plainId F.plain_proto_collect]
  refine wpAny_bind (m := newList []) (wpAny_newObj_type (wpAny_pure ⟨plainId_quiet F.plain_list_iadd _, codeAny_builtin F.entry_list_iadd ?_⟩))
  rw [Around.under_plainId F.plain_list_iadd]
  have hS : (s.heap.push { cls := .type "list", data := .seq #[] }).get? s.heap.objs.size = some { cls := .type "list", data := .seq #[] } := Heap.get?_push_size _ rfl
  have go : ∀ R : Result → Shared → Prop, (∀ h' tk acc c, (∀ b o, b ≠ it → s.heap.get? b = some o → h'.get? b = some o) → h'.get? s.heap.objs.size = some { cls := .type "list", dict := none, data := .seq acc c, slots := #[] } →
      StrsAre acc.toList (x.cps.toList.reverse.map fun c => ⟨#[c]⟩) → R (.ok (.ret (.ref s.heap.objs.size))) { s with heap := h', toks := tk }) →
      wpAny (model prog w) A.in1 (Builtin.List.listExtendWith (.ref s.heap.objs.size) (.ref it) (.ref s.heap.objs.size))
        (fun fin s' => match fin with | .done f => R (.ok f) s' | .again c' => c'.quiet = true ∧ codeAny (model prog w) A c' R s') (fun e s' => R (.error e) s') { s with heap := s.heap.push { cls := .type "list", data := .seq #[] } } := fun R hR =>
    extend_rev (A := A) (s := { s with heap := s.heap.push { cls := .type "list", data := .seq #[] } }) hh hz ⟨oi, Heap.get?_push_of_some _ hoi, ri⟩ s.heap.objs.size (.ref s.heap.objs.size)
      (Ne.symm (Nat.ne_of_lt (Heap.lt_size hoi))) hS (fun h' tk acc' c' hk hS' hacc => hR h' tk acc' c' (fun b o hb e => hk b o (Nat.ne_of_lt (Heap.lt_size e)) hb (Heap.get?_push_of_some _ e)) hS' hacc)
  refine go (fun r s' => match r with
    | .ok (.ret v) => wpAny (model prog w) A (match v with
      | .ref a => do
        match (← load a).data with
        | .seq xs _ => pure xs.toList
        | _ => unsupported "internal:collect"
      | _ => unsupported "internal:collect") Q E s'
    | .ok _ => False
    | .error e => E e s') fun h' tk acc c hk hS' hacc => ?_
  refine wpAny_bind (m := load s.heap.objs.size) (wpAny_load hS' (wpAny_pure ?_))
  exact hQ h' tk acc.toList hk hacc
theorem join_rev {Q : Value → Shared → Prop} (hh : A.handled = none) {it : Addr} {x y : Str} {t t0 : Tok} (hz : x.length ≤ sizeLine) (hit : Is s.heap it x t ((x.length : Int) - 1))
    (hok : ((x.cps.toList.reverse.map fun c => (⟨#[c]⟩ : Str)).map (·.length)).sum + (x.cps.toList.reverse.map fun c => (⟨#[c]⟩ : Str)).length * y.length ≤ 16777216)
    (hQ : ∀ h' tk t', (∀ b o, b ≠ it → s.heap.get? b = some o → h'.get? b = some o) → Q (.str (Txt.join y (x.cps.toList.reverse.map fun c => ⟨#[c]⟩)) t') { s with heap := h', toks := tk }) :
    wpAny (model prog w) A (call (.builtin "str.join") [.str y t0, .ref it]) Q E s := by
  refine wpAny_call (codeAny_call_builtin F.slot_str_join.plain F.entry_str_join (F.slot_str_join.check _ _ _ _ _ _ _ _ (typeIs_str _ _ _) (F.args_str_join_2 _ _) ?_))
  rw [join_tree_other]
  refine wpAny_bind (wpAny_typeOf hit.ty ?_)
  rw [if_neg (by decide)]
  refine wpAny_bind (wpAny_tryCatch (iter_self hit (wpAny_bind (collect_rev (A := A.in1) hh hz hit (fun h' tk vs hk hy => ?_)))))
  obtain ⟨lt, hv, ht⟩ := strsAre_values hy
  rw [hv]
  have hok' := joinOk_of hok
  unfold JoinOk at hok'
  rw [Bool.not_eq_true', ← ht] at hok'
  have g : Gives (joinTail y (strValues lt)) (joinMade y lt) := by
    have g0 := gives_joinTail y lt hok'
    cases lt with
    | nil => exact g0
    | cons p r => cases r with
      | nil => exact g0
      | cons q r' => exact g0
  refine g prog w A (wants Q E) { s with heap := h', toks := tk } (post_join lt ⟨joinFit_length hok', fun t' k => ?_⟩)
  rw [ht]
  exact hQ h' k t' hk
end
end RT
section
variable {X : Cx}
noncomputable def tJT (t : TE) : TE := fun σ H Q => t σ H fun x H1 => ∃ a : List Nat, x = T a ∧ a.length ≤ sizeLine ∧ Q (T a.reverse) H1
theorem letters_flat : ∀ a : List Nat, (a.map fun c => [c]).flatten = a
  | [] => rfl
  | c :: a => by rw [List.map_cons, List.flatten_cons, letters_flat a]; rfl
theorem letters_sum : ∀ a : List Nat, ((a.map fun c => (⟨#[c]⟩ : Str)).map (·.length)).sum = a.length
  | [] => rfl
  | c :: a => by
    rw [List.map_cons, List.map_cons, List.sum_cons, letters_sum a, List.length_cons]
    show 1 + a.length = _
    omega
theorem pe_joinrevT {e : Expr} {t : TE} {j} {cp apos cpos p2 pos2 : Pos} (hc : X.calm = true) (g2 : Gl X "reversed") (m2 : X.mg "reversed" = none) (he : PE X e t) {x0 : Str} (hx : x0 = tx [])
    (b1 : attributeBase (.Constant (.str x0) j cp) "join" X.env (eval (.Constant (.str x0) j cp) X.env) = eval (.Constant (.str x0) j cp) X.env := by rfl)
    (b2 : (apos.endLine == cpos.line) = true := by rfl) (s1 : starEach [e] X.env = (false, eval e X.env) :: starEach [] X.env := by rfl)
    (hb2 : bootBuiltins "reversed" = some (.type "reversed") := by decide +kernel) :
    PE X (.Call (.Attribute (.Constant (.str x0) j cp) "join" apos) [.Call (.Name "reversed" p2) [e] [] pos2] [] cpos) (tJT t) := by
  intro pins s σ H Q I h
  subst hx
  refine wpAny_Call_method_late b1 rfl b2 rfl (Calls.Constant_str ?_)
  refine ⟨"str", "str.join", PySem.F.plainAttrs_str, PySem.F.slot_str_join, PySem.F.type_str_join, typeIs_str _ _ _, fun a z => (by cases z), ?_⟩
  refine Calls.callWith_builtin rfl (Calls.evalArgs_plain ?_)
  show wpAny _ _ (spliced ((false, eval (.Call (.Name "reversed" p2) [e] [] pos2) X.env) :: backTo cpos (starEach [] X.env))) _ _ _
  refine Calls.spliced_cons (thn (Q := fun u s1 => wpAny (model X.prog X.w) X.A (call (.builtin "str.join") [.str (tx []) s.toks, u]) (EP X pins σ Q) X.xe s1) ?_ fun u s1 z => Calls.spliced_nil z)
  have I0 : Inv X pins σ H { s with toks := s.toks + 1 } := I.tok _
  refine wpAny_Call_Name_kw (ld_blt I0 g2 m2 hb2 ?_ (by decide) (by decide))
  refine PyProof.Rows.callWith_type1 (arg1 (thn (he pins _ σ H _ I0 h) fun u s' ⟨v, H1, I1, r1, q1⟩ => ?_) s1) s1 rfl
  obtain ⟨a, rfl, hz, q⟩ := q1
  obtain ⟨tu, rfl⟩ := r1
  have hs : sizeLine = 16777216 := sizeLine_eq
  have hz2 : (tx a).length ≤ sizeLine := by rw [tx_len]; exact hz
  refine RT.call_rev hz2 fun tk => ?_
  have ea : (tx a).cps.toList.reverse = a.reverse := by simp [tx]
  refine RT.join_rev (I1.ok.hd hc) (it := s'.heap.objs.size) (x := tx a) hz2 ⟨_, Heap.get?_push_size _ rfl, rfl, rfl⟩ (by rw [ea, letters_sum, tx_len, List.length_nil, Nat.mul_zero, List.length_reverse]; omega) (fun h' tk' t' hk => ?_)
  refine ⟨T a.reverse, H1, I1.kept (t' := tk') fun b u eb => hk b u (Nat.ne_of_lt (Heap.lt_size eb)) (Heap.get?_push_of_some _ eb), ⟨t', ?_⟩, q⟩
  rw [ea]
  have e2 : (a.reverse.map fun c => (⟨#[c]⟩ : Str)) = (a.reverse.map fun c => [c]).map tx := by rw [List.map_map]; rfl
  rw [e2, join_tx, letters_flat]
end
end L2

set_option Elab.async false
set_option linter.all false
set_option maxRecDepth 100000
namespace L2
open PySem PySem.Spec PyProof.Rows
section
variable {X : Cx}
end
end L2
namespace L2
open PySem PySem.Spec PyProof.Rows
set_option genInjectivity false in
structure Cam (P : Program) (w : World) (K : PySem.W.Frag) (mg : Str → Option Value) (base : Heap) (CX : CXT) (x : Str) (C : Addr) (k : Nat) (ps : List Str) (sp : Sp) : Prop where
  ex : ∃ (f : Addr) (fd : FuncData), FnOk P w K mg base CX k f fd ps sp ∧ Mk K C f ∧ mg x = some (.ref C) ∧ Binds K fd ps []
section
variable {X : Cx}
theorem pe_mak {CX : CXT} {x : Str} {C : Addr} {j k : Nat} {ps : List Str} {sp : Sp} {E : XK} {e : Expr} {es : List Expr} {t : TA} {p pos : Pos} (c : Cam X.prog X.w X.K X.mg X.base CX x C j ps sp) (hr : Room k X.A) (hx : Passes CX X E) (ha : PA X (e :: es) t)
    (hjk : j + 1 ≤ k := by decide) (hg : Gl X x := by rfl) (b1 : (x == ("__debug__" : Str)) = false := by decide) (b2 : starEach (e :: es) X.env = (false, eval e X.env) :: starEach es X.env := by rfl) (b3 : (backTo pos (starEach es X.env)).any (·.1) = false := by rfl) :
    PE X (.Call (.Name x p) (e :: es) [] pos) (tMake C sp [] E t) := by
  obtain ⟨f, fd, F, M, hm, hb⟩ := c.ex
  exact pe_make M F (hr.mono hjk) hg hm hb .nil hx ha b1 b2 b3
end
end L2

set_option Elab.async false
set_option linter.all false
set_option maxRecDepth 100000
set_option maxHeartbeats 4000000
namespace L2
open PySem PySem.Spec PyProof.Rows
section
variable {X : Cx}
noncomputable def XPs (X : Cx) (pins : List (Addr × Obj)) (σ : St) (R : Value → Hp → Prop) (e : Value) (s' : Shared) : Prop :=
  ∃ a cls H s1 H', e = .ref a ∧ Inv X pins σ H s1 ∧ Fly X.prog X.w X.stack H s1 a cls H' s' ∧ R cls H'
noncomputable abbrev TEx := St → Hp → VK → (Value → Hp → Prop) → Prop
noncomputable def PEx (X : Cx) (e : Expr) (t : TEx) : Prop :=
  ∀ (pins : List (Addr × Obj)) (s : Shared) (σ : St) (H : Hp) (Q : VK) (R : Value → Hp → Prop), Inv X pins σ H s → t σ H Q R → wpAny (model X.prog X.w) X.A (eval e X.env) (EP X pins σ Q) (XPs X pins σ R) s
noncomputable def txCal (sp : Sp) (t : TA) : TEx := fun σ H Q R => t σ H fun vs H1 => sp vs H1 Q fun cls _ H2 => R cls H2
theorem pex_cal {x : Str} {j k : Nat} {ps : List Str} {sp : Sp} {e : Expr} {es : List Expr} {t : TA} {p pos : Pos} (c : Cal X.prog X.w X.K X.mg X.base (CX1 X.prog X.w) x j ps sp) (hr : Room k X.A) (ha : PA X.nox (e :: es) t)
    (hjk : j ≤ k := by decide) (hg : Gl X x := by rfl) (b1 : (x == ("__debug__" : Str)) = false := by decide) (b2 : starEach (e :: es) X.env = (false, eval e X.env) :: starEach es X.env := by rfl) (b3 : (backTo pos (starEach es X.env)).any (·.1) = false := by rfl) :
    PEx X (.Call (.Name x p) (e :: es) [] pos) (txCal sp t) := by
  intro pins s σ H Q R I q
  obtain ⟨f, fd, F, hm, hk, hb⟩ := c.ex
  refine wpAny_Call_Name_kw (ld_glob I hg hm ?_ b1)
  refine PySem.W.callWith_K (h₀ := X.base) I.ok.mod.kin hk (wpAny_mono (ha pos pins s σ H _ (I.wish _) q) (fun us s1 z => ?_) fun _ _ z => False.elim z) b2 b3
  obtain ⟨vs, H1, I0, r, q1⟩ := z
  have I1 : Inv X pins σ H1 s1 := I0.unwish
  refine ⟨I1.kIn, ?_⟩
  have hl : us.length = ps.length := by rw [← r.length]; exact F.len _ _ _ _ q1
  have hbt := hb s1 us I1.kIn (by rw [List.append_nil]; exact hl)
  rw [List.append_nil] at hbt
  refine wpAny_call (codeAny_mono (F.run X.A X.stack s1 H1 ⟨us, []⟩ us vs _ _ (hr.mono hjk) I1.env0 hbt r q1) fun r' s' hq => ?_)
  cases r' with
  | error x' =>
    obtain ⟨a, cls, H', rfl, Y, q2⟩ := hq
    exact ⟨a, cls, H1, s1, H', rfl, I1, Y, q2⟩
  | ok fl =>
    cases fl with
    | ret u => exact I1.after hq
    | next => exact False.elim hq
    | brk => exact False.elim hq
    | cont => exact False.elim hq
noncomputable def tySet (i : Nat) (t : TEx) : TTy := fun D R σ H => t σ H (fun v H1 => D.nx (σ.set i (some v)) H1) fun cls H1 => R σ cls H1
theorem py_set {i : Nat} {x : Str} {e : Expr} {t : TEx} {pos pos' : Pos} (hN : X.N.Nodup) (hi : X.N[i]? = some x) (hx : Loc X.env.scope x) (he : PEx X e t) (hs : swapsWith e (some (.Name x pos')) pos.line X.env = pure false := by rfl) (hf : X.fn x = true ∨ X.env.scope.names.lookup x = some .local := by first | exact .inl rfl | exact .inr rfl | assumption) :
    PTy X [.Assign [.Name x pos'] e pos] (tySet i t) := by
  intro pins s σ H D R I q
  refine wpAny_execs_cons (wpAny_Assign_Name (wpAny_mono (he pins s σ H _ _ I q) (fun v s1 ⟨y, H1, I1, r1, q1⟩ => ?_) fun e' s1 z => ?_) hs)
  · exact store_ok I1 hN hi hx r1 (fun s2 I2 => wpAny_execs_nil ⟨_, H1, I2, q1⟩) hf
  · obtain ⟨a, cls, H1, s2, H', rfl, I2, Y, q2⟩ := z
    exact ⟨a, cls, σ, H1, s2, H', rfl, I2, Y, q2⟩

end
namespace SE
section
variable {prog : Program} {w : World} {A : Around} {E : Value → Shared → Prop} {s : Shared}
end
end SE
section
variable {X : Cx}
theorem signs_vals {a : List Nat} {acc : Array Value} (h : ItemsOf (SignAt (tx a)) acc a.length) : Vals ((a.map fun c => [c]).map T) acc.toList := by
  have key : ∀ (l : List Nat) (us : List Value), us.length = l.length → (∀ (j : Nat) (v : Value), us[j]? = some v → ∃ (c : Nat) (u : Tok), l[j]? = some c ∧ v = Value.str (tx [c]) u) → Vals ((l.map fun c => [c]).map T) us := by
    intro l
    induction l with
    | nil =>
      intro us hl _
      obtain rfl : us = [] := List.length_eq_zero_iff.mp hl
      exact .nil
    | cons c l ih =>
      intro us hl hv
      cases us with
      | nil => cases hl
      | cons u us =>
        obtain ⟨c', u', h1, rfl⟩ := hv 0 u rfl
        rw [List.getElem?_cons_zero] at h1
        cases h1
        exact .cons ⟨_, rfl⟩ (ih us (by simpa using hl) fun j v e => hv (j + 1) v (by rw [List.getElem?_cons_succ]; exact e))
  refine key a acc.toList (by rw [Array.length_toList]; exact h.1) fun j v e => ?_
  obtain ⟨c, u, h1, h2⟩ := h.2 j v (by rw [← Array.getElem?_toList]; exact e)
  refine ⟨c, u, ?_, h2⟩
  rw [← Array.getElem?_toList] at h1
  exact h1
theorem call_listT (hc : X.calm = true) : CallR X (.type "list") (fun xs H Q => ∃ a : List Nat, xs = [T a] ∧ a.length ≤ sizeLine ∧ ∀ D, H D = none → Q (.ref D) (upd H D (.lst ((a.map fun c => [c]).map T)))) := by
  intro pins s σ H xs us Q I r h
  obtain ⟨a, rfl, hz, q⟩ := h
  obtain ⟨u, rfl, ru⟩ := vals1 r
  obtain ⟨t, rfl⟩ := ru
  refine call_list_str (I.ok.hd hc) (tx a) t (fun h' tk acc c' kp e hacc => ?_) (by show a.length ≤ sizeLine; exact hz)
  have hv := signs_vals hacc
  refine ⟨.ref s.heap.objs.size, _, I.laid (t' := tk) kp (Nat.le_refl _) (o := .lst ((a.map fun c => [c]).map T)) ⟨by rw [List.length_map, List.length_map]; exact hz, acc.toList, c', hv, by simpa using e⟩, rfl, q _ (I.hok.fresh (Nat.le_refl _))⟩

end
end L2

set_option Elab.async false
set_option linter.all false
set_option maxRecDepth 100000
set_option maxHeartbeats 4000000
namespace L2
open PySem PyProof.Rows PySem.Spec
theorem on1 {α : Type} {C : List α → Prop} {us : List α} (h : us.length = 1) (k : ∀ a, C [a]) : C us := match us, h with | [a], _ => k a
theorem on2 {α : Type} {C : List α → Prop} {us : List α} (h : us.length = 2) (k : ∀ a b, C [a, b]) : C us := match us, h with | [a, b], _ => k a b
theorem on3 {α : Type} {C : List α → Prop} {us : List α} (h : us.length = 3) (k : ∀ a b c, C [a, b, c]) : C us := match us, h with | [a, b, c], _ => k a b c
theorem on4 {α : Type} {C : List α → Prop} {us : List α} (h : us.length = 4) (k : ∀ a b c d, C [a, b, c, d]) : C us := match us, h with | [a, b, c, d], _ => k a b c d
theorem on5 {α : Type} {C : List α → Prop} {us : List α} (h : us.length = 5) (k : ∀ a b c d e, C [a, b, c, d, e]) : C us := match us, h with | [a, b, c, d, e], _ => k a b c d e
section
variable {X : Cx}
theorem op_ne_IIT (hu : X.A.units < cLine) : OpR X (compareOp .NotEq) (fun x y H Q => ∃ (p b : Addr) (i j : Int) (t : List Nat), x = .ref p ∧ y = .ref b ∧ SqT X.K H p [.int i, .int j, T t] ∧ SqT X.K H b [.int i, .int j, T t] ∧ Q (.bl false) H) := by
  intro pins s σ H x y v u Q I rx ry h
  obtain ⟨p, b, i, j, t, rfl, rfl, h1, h2, q⟩ := h
  cases rx
  cases ry
  obtain ⟨its, r, pl, _⟩ := I.tuple h1
  obtain ⟨its2, r2, pl2, _⟩ := I.tuple h2
  have l1 := r.length
  have l2 := r2.length
  refine SeqAt.RcNeAt.tuples (e := fun _ => true) pl pl2 hu (fun m g1 g2 => ?_) _ _ _ _ ?_
  · have hm : m < 3 := by rw [List.size_toArray] at g1; simp at l1; omega
    have key : ∀ (z : V), [V.int i, V.int j, T t][m]? = some z → eqV z z = true ∧ flatV z = true → SeqAt.EqAt X.A.in1 s its.toArray[m] its2.toArray[m] true := fun z hz hf => by
      obtain ⟨u', e1, q1⟩ := r.get hz
      obtain ⟨w', e2, q2⟩ := r2.get hz
      have e := eqAt_V (A := X.A.in1) (s := s) q1 q2 hf.2 hf.2
      rw [hf.1] at e
      have a1 : its.toArray[m] = u' := by rw [List.getElem_toArray]; exact (List.getElem?_eq_some_iff.mp e1).2
      have a2 : its2.toArray[m] = w' := by rw [List.getElem_toArray]; exact (List.getElem?_eq_some_iff.mp e2).2
      rw [a1, a2]
      exact e
    rcases (show m = 0 ∨ m = 1 ∨ m = 2 by omega) with rfl | rfl | rfl
    · exact key (.int i) rfl ⟨by show (i == i) = true; simp, rfl⟩
    · exact key (.int j) rfl ⟨by show (j == j) = true; simp, rfl⟩
    · exact key (T t) rfl ⟨by show (tx t == tx t) = true; rw [beq_iff_eq], rfl⟩
  · rw [show ((List.range (min its.toArray.size its2.toArray.size)).all (fun _ => true) && its.toArray.size == its2.toArray.size) = true by rw [show its.toArray.size = its2.toArray.size by rw [List.size_toArray, List.size_toArray]; omega]; simp]
    exact ⟨.bl false, H, I, rfl, q⟩
end
end L2

set_option Elab.async false
set_option linter.all false
set_option maxRecDepth 100000
namespace L2
open PySem PyProof.Rows PySem.Spec
section
variable {X : Cx}
theorem sz_all {its its2 : List Value} (h : its.length = its2.length) : ((List.range (min its.toArray.size its2.toArray.size)).all (fun _ => true) && its.toArray.size == its2.toArray.size) = true := by
  rw [show its.toArray.size = its2.toArray.size by rw [List.size_toArray, List.size_toArray]; omega]; simp
end
end L2
namespace L2
open PySem PyProof.Rows PySem.Spec
section
variable {X : Cx}
end
end L2

set_option Elab.async false
set_option linter.all false
set_option maxRecDepth 100000
namespace L2
open PySem PyProof.Rows PySem.Spec
section
variable {X : Cx}
end
end L2

set_option Elab.async false
set_option linter.all false
set_option maxRecDepth 100000
namespace ST
open PySem PySem.SetTable

noncomputable def it (M : Nat) : Nat → Nat → Nat
  | 0, i => i
  | s + 1, i => it M s ((i * 5 + 1) % M)
noncomputable def orbit (M : Nat) : Nat → Nat → List Nat
  | 0, _ => []
  | s + 1, i => i :: orbit M s ((i * 5 + 1) % M)
noncomputable def full (M : Nat) : Bool := it M M 0 == 0 && (List.range M).all fun j => (orbit M M 0).contains j
noncomputable def lp (mask : Nat) : Nat → Nat → Nat → Nat × Nat
  | 0, i, p => (i, p)
  | s + 1, i, p => lp mask s (leap mask i p).1 (leap mask i p).2
noncomputable def vals (N : Nat) (f : Nat → Option Nat) : List Nat := (List.range N).filterMap f
noncomputable def Good (mask : Nat) (owner : Array (Option Nat)) (k : Nat) : Prop := owner.size = mask + 1 ∧ (vals (mask + 1) fun j => owner.getD j none).Perm (List.range k)
end ST

set_option Elab.async false
set_option linter.all false
set_option maxRecDepth 100000
set_option maxHeartbeats 4000000
namespace SS
open PySem PyProof.Rows
noncomputable def byT (w : World) : Bool := w.params.followText "set-order"
noncomputable def keyV : Value → Str
  | .str x _ => x
  | _ => Str.empty
noncomputable def El (w : World) (e : Int × Value) : Prop := e.1 = hashStr w (keyV e.2) ∧ ∃ t, e.2 = .str (keyV e.2) t
noncomputable def Els (w : World) (es : List (Int × Value)) (ms : List Str) : Prop := (∀ e ∈ es, El w e) ∧ (es.map fun e => keyV e.2).Perm ms
noncomputable def Is (w : World) (h : Heap) (a : Addr) (ms : List Str) : Prop :=
  ∃ o es ep t, h.get? a = some o ∧ o.ExactSet ∧ o.data = .set es ep t ∧ Els w es.toList ms ∧ ms.Nodup ∧ es.size < scanBound ∧ t.fits es.size = true ∧ (byT w = true ∨ t.led = true) ∧ (es.size = 0 ∨ t.plain = false)
section
variable {prog : Program} {w : World} {A : Around} {E : Value → Shared → Prop} {s : Shared}
end
end SS

set_option Elab.async false
set_option linter.all false
set_option maxRecDepth 100000
set_option maxHeartbeats 4000000
namespace SS
open PySem PyProof.Rows

section
variable {prog : Program} {w : World} {A : Around} {E : Value → Shared → Prop} {s : Shared}
end
end SS

set_option Elab.async false
set_option linter.all false
set_option maxRecDepth 100000
set_option maxHeartbeats 4000000
namespace SS
open PySem PyProof.Rows
section
variable {prog : Program} {w : World} {A : Around} {E : Value → Shared → Prop} {s : Shared}
end
end SS

set_option Elab.async false
set_option linter.all false
set_option maxRecDepth 100000
set_option maxHeartbeats 4000000
namespace SS
open PySem PyProof.Rows
noncomputable def It (h : Heap) (I a : Addr) (first : Value) (i n ep : Nat) : Prop := ∃ o, h.get? I = some o ∧ o.cls = .type "set_iterator" ∧ o.data = .fields #[first, rawInt (i : Int), .ref a, rawInt (n : Int), rawInt (ep : Int)]
section
variable {prog : Program} {w : World} {A : Around} {E : Value → Shared → Prop} {s : Shared}
end
end SS

set_option Elab.async false
set_option linter.all false
set_option maxRecDepth 100000
set_option maxHeartbeats 4000000
namespace SS
open PySem PyProof.Rows
section
variable {prog : Program} {w : World} {A : Around} {E : Value → Shared → Prop} {s : Shared}
end
end SS

set_option Elab.async false
set_option linter.all false
set_option maxRecDepth 100000
set_option maxHeartbeats 4000000
namespace SS
open PySem PyProof.Rows
section
variable {prog : Program} {w : World} {A : Around} {E : Value → Shared → Prop} {s : Shared}
end
end SS

set_option Elab.async false
set_option linter.all false
set_option maxRecDepth 100000
set_option maxHeartbeats 4000000
namespace SS
open PySem PyProof.Rows
section
variable {prog : Program} {w : World} {A : Around} {E : Value → Shared → Prop} {s : Shared}
end
end SS

set_option Elab.async false
set_option linter.all false
set_option maxRecDepth 100000
set_option maxHeartbeats 4000000
namespace L2
open PySem PySem.Spec PyProof.Rows
namespace SE
section
variable {prog : Program} {w : World} {A : Around} {R : Result → Shared → Prop} {J : Addr} {fp wr : List Addr} {G : Array GenState → Array GenState → Prop} {n : Nat} {P : Nat → Value → Prop} {St : Nat → Shared → Prop}
variable {E : Value → Shared → Prop} {s : Shared}
end
end SE
section
variable {X : Cx}
end
end L2

set_option Elab.async false
set_option linter.all false
set_option maxRecDepth 100000
namespace L2
open PySem PySem.Spec PyProof.Rows
set_option genInjectivity false in
structure Reads (J : It) (H : Hp) (vs : List V) : Prop where
  go : ∀ i H', Same H H' → i < vs.length → J.go i H'
  yl : ∀ i H' y H2, Same H H' → J.yld i H' y H2 → H2 = H' ∧ vs[i]? = some y
  st : ∀ H', Same H H' → J.stop vs.length H'
theorem reads_list {K : PySem.W.Frag} {a : Addr} {H : Hp} {vs : List V} (h : SqL K H a vs) : Reads (Itl K a) H vs :=
  ⟨fun i H' s hi => ⟨vs, vs[i], s.seq h, List.getElem?_eq_getElem hi⟩, fun i H' y H2 s ⟨e1, e2⟩ => ⟨e1, e2 vs (s.seq h)⟩, fun H' s => ⟨vs, s.seq h, Nat.le_refl _⟩⟩
theorem reads_text {l : List Nat} {H : Hp} : Reads (Itx l) H ((l.map fun c => [c]).map T) :=
  ⟨fun i H' _ hi => by (show i < l.length; simpa using hi), fun i H' y H2 _ ⟨e1, c, hc, e2⟩ => ⟨e1, by rw [List.getElem?_map, List.getElem?_map, hc, e2]; rfl⟩, fun H' _ => by show l.length ≤ _; simp⟩
theorem compG {J : It} {vs : List V} {te : TE} {σ : St} {H : Hp} {Q : VK} (f : V → V) (rd : Reads J H vs) (hn : vs.length ≤ sizeLine)
    (he : ∀ x H', x ∈ vs → Same H H' → ∀ N : V → Hp → Prop, (∀ H'', Same H' H'' → N (f x) H'') → te (some x :: σ) H' N)
    (hq : ∀ D H', H D = none → Same H H' → H' D = some (.lst (vs.map f)) → Q (.ref D) H') : compAt te σ Q J H := by
  intro D hD
  refine ⟨fun i m ys H2 => m = vs.length - i ∧ i ≤ vs.length ∧ ys = (vs.take i).map f ∧ Same H H2 ∧ H2 D = some (.lst ys), ⟨vs.length, rfl, Nat.zero_le _, rfl, fun b o e => ?_, upd_same⟩, ?_⟩
  · rw [upd_ne (ne_of_none e hD)]
    exact e
  · rintro i m ys H2 ⟨rfl, hi, rfl, hs, hd⟩
    by_cases hlt : i < vs.length
    · have hx : vs[i]? = some vs[i] := List.getElem?_eq_getElem hlt
      refine .inr ⟨rd.go i H2 hs hlt, by rw [List.length_map, List.length_take]; omega, fun v H' => v = f vs[i] ∧ Same H2 H', fun v H' ⟨ev, hs'⟩ => ⟨hs' D _ hd, vs.length - (i + 1), by omega, rfl, hlt, ?app, fun b o e => ?kp, upd_same⟩, fun y H' hy => ?stp⟩
      case app =>
        rw [ev, List.take_add_one, hx, List.map_append]
        rfl
      case kp =>
        rw [upd_ne (ne_of_none e hD)]
        exact hs' b o (hs b o e)
      case stp =>
        obtain ⟨rfl, e2⟩ := rd.yl i H2 y H' hs hy
        have e4 : y = vs[i] := by rw [hx] at e2; exact (Option.some.inj e2).symm
        subst e4
        exact he _ _ (List.getElem_mem hlt) hs _ fun H'' h'' => ⟨rfl, h''⟩
    · have e : i = vs.length := by omega
      subst e
      rw [List.take_length] at hd
      exact .inl ⟨rd.st H2 hs, hq D H2 hD hs hd⟩
theorem compFG {J : It} {vs : List V} {tc : TT} {te : TE} {σ : St} {H : Hp} {Q : VK} (p : V → Bool) (f : V → V) (rd : Reads J H vs) (hn : vs.length ≤ sizeLine)
    (ht : ∀ x H', x ∈ vs → Same H H' → ∀ N : Bool → Hp → Prop, (∀ H'', Same H' H'' → N (p x) H'') → tc (some x :: σ) H' N)
    (he : ∀ x H', x ∈ vs → p x = true → Same H H' → ∀ N : V → Hp → Prop, (∀ H'', Same H' H'' → N (f x) H'') → te (some x :: σ) H' N)
    (hq : ∀ D H', H D = none → Same H H' → H' D = some (.lst ((vs.filter p).map f)) → Q (.ref D) H') : compAtF tc te σ Q J H := by
  intro D hD
  refine ⟨fun i m ys H2 => m = vs.length - i ∧ i ≤ vs.length ∧ ys = ((vs.take i).filter p).map f ∧ Same H H2 ∧ H2 D = some (.lst ys), ⟨vs.length, rfl, Nat.zero_le _, rfl, fun b o e => ?_, upd_same⟩, ?_⟩
  · rw [upd_ne (ne_of_none e hD)]
    exact e
  · rintro i m ys H2 ⟨rfl, hi, rfl, hs, hd⟩
    by_cases hlt : i < vs.length
    · have hx : vs[i]? = some vs[i] := List.getElem?_eq_getElem hlt
      refine .inr ⟨rd.go i H2 hs hlt, by have := filter_take_len p vs i; rw [List.length_map]; omega, fun v H' => v = f vs[i] ∧ p vs[i] = true ∧ Same H2 H', fun v H' ⟨ev, hp, hs'⟩ => ⟨hs' D _ hd, vs.length - (i + 1), by omega, rfl, hlt, ?app, fun b o e => ?kp, upd_same⟩,
        fun H' => p vs[i] = false ∧ Same H2 H', fun H' ⟨hp, hs'⟩ => ⟨vs.length - (i + 1), by omega, rfl, hlt, ?skp, fun b o e => hs' b o (hs b o e), hs' D _ hd⟩, fun y H' hy => ?stp⟩
      case app =>
        rw [ev, take_filter p vs i _ hx, hp, List.map_append]
        rfl
      case kp =>
        rw [upd_ne (ne_of_none e hD)]
        exact hs' b o (hs b o e)
      case skp =>
        rw [take_filter p vs i _ hx, hp]
        simp
      case stp =>
        obtain ⟨rfl, e2⟩ := rd.yl i H2 y H' hs hy
        have e4 : y = vs[i] := by rw [hx] at e2; exact (Option.some.inj e2).symm
        subst e4
        refine ht _ _ (List.getElem_mem hlt) hs _ fun H'' h'' => ?_
        by_cases hp : p vs[i] = true
        · rw [if_pos hp]
          exact he _ _ (List.getElem_mem hlt) hp (hs.trans h'') _ fun H3 h3 => ⟨rfl, hp, h''.trans h3⟩
        · rw [if_neg hp]
          exact ⟨by simpa using hp, h''⟩
    · have e : i = vs.length := by omega
      subst e
      rw [List.take_length] at hd
      exact .inl ⟨rd.st H2 hs, hq D H2 hD hs hd⟩
noncomputable def unT : V → List Nat
  | .str x => x.cps.toList
  | _ => []
theorem unT_T (l : List Nat) : unT (T l) = l := tx_cps l
section
variable {X : Cx}
end
end L2

set_option Elab.async false
set_option linter.all false
set_option maxRecDepth 100000
set_option maxHeartbeats 4000000
namespace SS
open PySem PyProof.Rows L2
section
variable {prog : Program} {w : World} {A : Around} {E : Value → Shared → Prop} {s : Shared}
end
end SS
namespace L2
open PySem PyProof.Rows
noncomputable def tKs (ls : List (List Nat)) (v : V) : List (Key × V) := ls.map fun t => (Sum.inr (tx t), v)
section
variable {X : Cx}
end
end L2

set_option Elab.async false
set_option linter.all false
set_option maxRecDepth 100000
set_option maxHeartbeats 4000000
namespace L2
open PySem PyProof.Rows PySem.Spec
namespace SE
section
variable {prog : Program} {w : World} {A : Around} {E : Value → Shared → Prop} {s : Shared}
end
end SE
section
variable {X : Cx}
end
end L2

set_option Elab.async false
set_option linter.all false
set_option maxRecDepth 100000
set_option maxHeartbeats 4000000
namespace L2
open PySem PyProof.Rows PySem.Spec
section
variable {X : Cx}
end
end L2

set_option Elab.async false
set_option linter.all false
set_option maxRecDepth 100000
set_option maxHeartbeats 4000000
namespace L2
open PySem PyProof.Rows PySem.Spec
section
variable {X : Cx}
end
end L2

set_option Elab.async false
set_option linter.all false
set_option maxRecDepth 100000
set_option maxHeartbeats 4000000
namespace L2
open PySem PyProof.Rows PySem.Spec
section
variable {X : Cx} {pins : List (Addr × Obj)} {σ : List (Option V)} {H H' : Hp} {s : Shared} {h' : Heap}
theorem Inv.turnedL {t' : Nat} {ch : List Addr} (I : Inv X pins σ H s) (k : ∀ b o, b ∉ ch → s.heap.get? b = some o → h'.get? b = some o) (hf : ∀ b ∈ ch, FpOk X pins H b) : Inv X pins σ H { s with heap := h', toks := t' } := by
  have nit : ∀ b u, H b = some u → b ∉ ch := fun b u e z => by rw [(hf b z).1] at e; cases e
  refine I.step (g' := s.gens) (d' := s.drawn) (ch := ch) (fun b hb => ?_) (fun b o _ _ hc e _ => k b o hc e) (fun b o _ _ hc e _ => ⟨o.slots, k b o hc e⟩) (fun _ _ _ _ n => n)
    (fun b o hc e => ⟨o, k b o hc e⟩) (fun _ _ e => e) (fun _ _ _ e => e) (fun b ps e => ⟨#[], by rw [e]; simp⟩) (fun m hm => ?_) (fun b u e => ?_) I.bare
  · obtain ⟨f0, f1, f2, f3, f4, f5⟩ := hf b hb
    exact ⟨f3, f1, f4, f5⟩
  · obtain ⟨o, es, ep, ho, r⟩ := hm
    exact ⟨o, es, ep, k _ o (fun z => (hf _ z).2.1 rfl) ho, r⟩
  · refine (I.hok b u e).stay (fun c v hc q => k c v ?_ q) (fun _ q => q) fun _ _ q => q
    rcases hc with z | z
    · rw [z]; exact nit b u e
    · exact nit c _ z
end
section
variable {X : Cx}
end
end L2
namespace L2
open PySem PyProof.Rows PySem.Spec
theorem mt_indexTK {X : Cx} (K : PySem.W.Frag) (hK : X.K = K) : MtR X "list.index" (fun x xs H Q => ∃ (p : Addr) (ls : List (List Nat)) (a : List Nat) (j : Nat), x = .ref p ∧ xs = [T a] ∧ SqL K H p (ls.map T) ∧ ls[j]? = some a ∧ (∀ i, i < j → ls[i]? ≠ some a) ∧ Q (.int (j : Nat)) H) := by
  subst hK
  exact mt_index
end L2

set_option Elab.async false
set_option linter.all false
set_option maxRecDepth 100000
set_option maxHeartbeats 4000000
namespace L2
open PySem PyProof.Rows PySem.Spec
section
variable {X : Cx}
end
end L2

set_option Elab.async false
set_option linter.all false
set_option maxRecDepth 100000
namespace L2
open PySem PyProof.Rows PySem.Spec
section
variable {X : Cx}
noncomputable def txFld (K : PySem.W.Frag) (t : TEx) (f : Str) : TEx := fun σ H Q R => t σ H (fun x H1 => ∃ a C dx fs v, x = .ref a ∧ H1 a = some (.ins C dx fs) ∧ Cls K C ∧ NoAttr K C f ∧ fs.lookup f = some v ∧ Q v H1) R
theorem pex_fld {e : Expr} {f : Str} {pos : Pos} {t : TEx} (he : PEx X e t) (hb : attributeBase e f X.env (eval e X.env) = eval e X.env) : PEx X (.Attribute e f pos) (txFld X.K t f) := by
  intro pins s σ H Q R I h
  refine attr_of hb (thn (he pins s σ H _ R I h) fun u s1 ⟨x, H1, I1, rx, a, C, dx, fs, v, ex, ea, c, n, l, q⟩ => ?_)
  subst ex
  obtain rfl : u = Value.ref a := rx
  exact getattr_ok I1 ea c n l fun u' s2 I2 ru => ⟨v, H1, I2, ru, q⟩
theorem txt_at {ls : List (List Nat)} {its its2 : List Value} {A : Around} {s : Shared} (r : Vals (ls.map T) its) (r2 : Vals (ls.map T) its2) (m : Nat) (g1 : m < its.toArray.size) (g2 : m < its2.toArray.size) : SeqAt.EqAt A s its.toArray[m] its2.toArray[m] true := by
  have l1 := r.length
  rw [List.length_map] at l1
  have hm : m < ls.length := by rw [List.size_toArray] at g1; omega
  obtain ⟨u', e1, q1⟩ := r.get (i := m) (x := T ls[m]) (by rw [List.getElem?_map, List.getElem?_eq_getElem hm]; rfl)
  obtain ⟨w', e2, q2⟩ := r2.get (i := m) (x := T ls[m]) (by rw [List.getElem?_map, List.getElem?_eq_getElem hm]; rfl)
  have e := eqAt_V (A := A) (s := s) q1 q2 rfl rfl
  rw [show eqV (T ls[m]) (T ls[m]) = true from by show (tx ls[m] == tx ls[m]) = true; rw [beq_iff_eq]] at e
  have a1 : its.toArray[m] = u' := by rw [List.getElem_toArray]; exact (List.getElem?_eq_some_iff.mp e1).2
  have a2 : its2.toArray[m] = w' := by rw [List.getElem_toArray]; exact (List.getElem?_eq_some_iff.mp e2).2
  rw [a1, a2]
  exact e
theorem eqP_tuples {pins : List (Addr × Obj)} {σ : St} {H : Hp} {s : Shared} {A : Around} {D F : Addr} {ls : List (List Nat)} (I : Inv X pins σ H s) (hu : A.units < cLine) (h1 : SqT X.K H D (ls.map T)) (h2 : SqT X.K H F (ls.map T)) : SeqAt.EqAt A s (.ref D) (.ref F) true := by
  by_cases hne : D = F
  · subst hne
    exact SeqAt.EqAt.same _
  obtain ⟨its, r, pl, _⟩ := I.tuple h1
  obtain ⟨its2, r2, pl2, _⟩ := I.tuple h2
  have z := SeqAt.EqAt.of_refs hne (SeqAt.RcAt.tuples (A := A) (s := s) (e := fun _ => true) pl pl2 hu fun j g1 g2 => txt_at r r2 j g1 g2)
  rw [sz_all (r.length.symm.trans r2.length)] at z
  exact z
noncomputable def PairsT (H : Hp) (p : Addr) (ps : List (List Nat × List Nat)) : Prop := ∃ as : List Addr, H p = some (.lst (as.map V.ref)) ∧ as.length = ps.length ∧ ∀ (i : Nat) (a : Addr) (q : List Nat × List Nat), as[i]? = some a → ps[i]? = some q → H a = some (.tup [T q.1, T q.2])
theorem PairsT.on {H G : Hp} {p : Addr} {ps : List (List Nat × List Nat)} (h : PairsT H p ps) (s : Same H G) : PairsT G p ps := by
  obtain ⟨as, h1, h2, h3⟩ := h
  exact ⟨as, s _ _ h1, h2, fun i a q e1 e2 => s _ _ (h3 i a q e1 e2)⟩
theorem PairsT.len {H : Hp} {p : Addr} {ps : List (List Nat × List Nat)} (h : PairsT H p ps) : ∃ vs : List V, H p = some (.lst vs) ∧ vs.length = ps.length := by
  obtain ⟨as, h1, h2, _⟩ := h
  exact ⟨_, h1, by rw [List.length_map]; exact h2⟩
theorem PairsT.at {H : Hp} {p : Addr} {ps : List (List Nat × List Nat)} (h : PairsT H p ps) : ∃ vs : List V, H p = some (.lst vs) ∧ vs.length = ps.length ∧ ∀ (i : Nat) (v : V), vs[i]? = some v → ∃ (a : Addr) (q : List Nat × List Nat), v = .ref a ∧ ps[i]? = some q ∧ H a = some (.tup [T q.1, T q.2]) := by
  obtain ⟨as, h1, h2, h3⟩ := h
  refine ⟨_, h1, by rw [List.length_map]; exact h2, fun i v hv => ?_⟩
  rw [List.getElem?_map] at hv
  obtain ⟨a, ha, rfl⟩ := Option.map_eq_some_iff.mp hv
  have hi := (List.getElem?_eq_some_iff.mp ha).1
  obtain ⟨q, hq⟩ : ∃ q, ps[i]? = some q := ⟨_, List.getElem?_eq_getElem (by omega)⟩
  exact ⟨a, q, rfl, hq, h3 i a q ha hq⟩
theorem PairsT.more {H G : Hp} {p b : Addr} {ps : List (List Nat × List Nat)} {x y : List Nat} {vs : List V} (h : PairsT H p ps) (hv : H p = some (.lst vs)) (hk : ∀ c o, c ≠ p → H c = some o → G c = some o) (hb : G b = some (.tup [T x, T y])) (hG : G p = some (.lst (vs ++ [.ref b]))) : PairsT G p (ps ++ [(x, y)]) := by
  obtain ⟨as, h1, h2, h3⟩ := h
  obtain rfl : vs = as.map V.ref := by rw [h1] at hv; exact (HO.lst.inj (Option.some.inj hv)).symm
  refine ⟨as ++ [b], by rw [hG, List.map_append]; rfl, by rw [List.length_append, List.length_append, h2]; rfl, fun i a q e1 e2 => ?_⟩
  by_cases c : i < as.length
  · rw [List.getElem?_append_left c] at e1
    rw [List.getElem?_append_left (by omega)] at e2
    have := h3 i a q e1 e2
    exact hk a _ (fun z => by rw [z, h1] at this; cases this) this
  · have hi : i = as.length := by
      have := (List.getElem?_eq_some_iff.mp e1).1
      rw [List.length_append, List.length_singleton] at this
      omega
    subst hi
    rw [List.getElem?_append_right (Nat.le_refl _), Nat.sub_self] at e1
    rw [h2, List.getElem?_append_right (Nat.le_refl _), Nat.sub_self] at e2
    obtain rfl : b = a := Option.some.inj e1
    obtain rfl : (x, y) = q := Option.some.inj e2
    exact hb
theorem op_ne_LPT (hu : X.A.units + 1 < cLine) : OpR X (compareOp .NotEq) (fun x y H Q => ∃ (p b : Addr) (ps : List (List Nat × List Nat)), x = .ref p ∧ y = .ref b ∧ PairsT H p ps ∧ PairsT H b ps ∧ Q (.bl false) H) := by
  intro pins s σ H x y v u Q I rx ry h
  obtain ⟨p, b, ps, rfl, rfl, ⟨as, g1, gl, ga⟩, ⟨bs, g2, gl2, gb⟩, q⟩ := h
  cases rx
  cases ry
  obtain ⟨its, r, pl, _⟩ := I.list (SqL.of g1)
  obtain ⟨its2, r2, pl2, _⟩ := I.list (SqL.of g2)
  obtain rfl := vals_refs r
  obtain rfl := vals_refs r2
  refine SeqAt.RcNeAt.lists (e := fun _ => true) pl.isList pl2.isList (by rw [List.size_toArray, List.size_toArray, List.length_map, List.length_map]; omega) (Nat.lt_of_succ_lt hu) (fun j h1 h2 => ?_) _ _ _ _ ?_
  · rw [List.size_toArray, List.length_map] at h1 h2
    have hj : j < ps.length := by omega
    rw [List.getElem_toArray, List.getElem_toArray, List.getElem_map, List.getElem_map]
    exact eqP_tuples (ls := [(ps[j]).1, (ps[j]).2]) I hu (SqT.of (ga j _ _ (List.getElem?_eq_getElem h1) (List.getElem?_eq_getElem hj))) (SqT.of (gb j _ _ (List.getElem?_eq_getElem h2) (List.getElem?_eq_getElem hj)))
  rw [show (List.range _).all (fun _ => true) = true by simp]
  exact ⟨.bl false, H, I, rfl, q⟩
end
end L2

set_option Elab.async false
set_option linter.all false
set_option maxRecDepth 100000
set_option maxHeartbeats 4000000
namespace L2
open PySem PyProof.Rows PySem.Spec
namespace ZS
section
variable {prog : Program} {w : World} {A : Around} {E : Value → Shared → Prop} {s : Shared}
theorem nx_item {c p o i j l : Addr} {m n : Nat} {xs : Array Value} {x a b : Value} {y : Str} {t : Tok} {ch : Nat} {Q : Value → Shared → Prop} (D : ZipApart c p o i j l l)
    (uz : IsZip s.heap c p o .none) (up : IsPair s.heap p (.ref i) (.ref j)) (uo : IsPair s.heap o a b) (ui : s.heap.IsListIter i l m) (uj : s.heap.IsStrIter j "str_ascii_iterator" y t n) (ul : s.heap.IsList l xs) (ux : xs[m]? = some x) (uy : y.cps[n]? = some ch)
    (q : ∀ g, IsZip g c p o (rawInt s.heap.objs.size) → IsPair g o x (.str ⟨#[ch]⟩ s.toks) → g.IsListIter i l (m + 1) → g.IsStrIter j "str_ascii_iterator" y t (n + 1) → IsPair g s.heap.objs.size x (.str ⟨#[ch]⟩ s.toks) →
      (∀ d v, d ≠ c → d ≠ o → d ≠ i → d ≠ j → s.heap.get? d = some v → g.get? d = some v) → Q (.ref s.heap.objs.size) { s with heap := g, toks := s.toks + 1 }) :
    wpAny (model prog w) A (Builtin.«zip.__next__» ⟨[.ref c], []⟩) (fun f s' => ∃ v, f = .done (.ret v) ∧ Q v s') E s := by
  show wpAny _ _ (field (.ref c) 2 >>= _) _ _ _
  refine wpAny_bind (wpAny_field uz rfl (x := .bool false) rfl ?_)
  show wpAny _ _ (field (.ref c) 3 >>= _) _ _ _
  refine wpAny_bind (wpAny_field uz rfl (x := .ref p) rfl (wpAny_bind (wpAny_seqItems up rfl ?_)))
  show wpAny _ _ (Builtin.SmallTypes.ownedTupleIsFree (.ref c) >>= _) _ _ _
  refine wpAny_bind ?_; unfold Builtin.SmallTypes.ownedTupleIsFree
  refine wpAny_bind (wpAny_field uz rfl (x := .none) rfl (wpAny_pure ?_)); simp only [if_true]
  refine wpAny_bind (wpAny_rule (wpAny_bind (wpAny_field uz rfl (x := .ref o) rfl (wpAny_bind (wpAny_setField_rec uz (by simp) fun g1 z1 k1 => ?_)))))
  replace z1 : IsZip g1 c p o .ellipsis := z1
  refine wpAny_bind ?_; simp only [List.zipIdx_nil, List.zipIdx_cons, List.forIn_nil, List.forIn_cons]
  refine wpAny_bind (wpAny_bind (wpAny_onRaise ?_)); show wpAny _ _ (Builtin.SmallTypes.nextOf (.ref i) >>= _) _ _ _
  refine wpAny_bind (wpAny_nextOf_list_item (ui.extBut k1.extBut D.i1z) (ul.extBut k1.extBut D.l1z) ux fun g2 i2 k2 => wpAny_pure ?_)
  have o2 : IsPair g2 o a b := k2.extBut _ _ D.TOi1 (k1.extBut _ _ D.TOz uo)
  refine wpAny_bind (wpAny_seqItems o2 rfl (wpAny_bind (wpAny_updateSeq_pair o2 fun g3 o3 k3 => ?_)))
  replace o3 : IsPair g3 o x b := o3
  refine wpAny_bind (wpAny_letGo (wpAny_pure ?_)); refine wpAny_bind (wpAny_bind (wpAny_onRaise ?_))
  show wpAny _ _ (Builtin.SmallTypes.nextOf (.ref j) >>= _) _ _ _
  refine wpAny_bind (wpAny_nextOf_ascii_item (((uj.extBut k1.extBut D.i2z).extBut k2.extBut D.i12.symm).extBut k3.extBut D.TOi2.symm) uy fun g4 j4 k4 => wpAny_pure ?_)
  have o4 : IsPair g4 o x b := k4.extBut _ _ D.TOi2 o3
  refine wpAny_bind (wpAny_seqItems (s := { s with heap := g4, toks := s.toks + 1 }) o4 rfl (wpAny_bind (wpAny_updateSeq_pair (s := { s with heap := g4, toks := s.toks + 1 }) o4 fun g5 o5 k5 => ?_)))
  replace o5 : IsPair g5 o x (.str ⟨#[ch]⟩ s.toks) := o5
  refine wpAny_bind (wpAny_letGo (wpAny_pure (wpAny_pure ?_)))
  refine wpAny_bind (wpAny_seqItems (s := { s with heap := g5, toks := s.toks + 1 }) o5 rfl (wpAny_bind (wpAny_newTuple ?_)))
  have sz : g5.objs.size = s.heap.objs.size := by rw [k5.1, k4.1, k3.1, k2.1, k1.1]
  have z5 : IsZip g5 c p o .ellipsis := k5.extBut _ _ D.TOz.symm (k4.extBut _ _ D.i2z.symm (k3.extBut _ _ D.TOz.symm (k2.extBut _ _ D.i1z.symm z1)))
  have kp : ∀ d v, d ≠ c → d ≠ o → d ≠ i → d ≠ j → s.heap.get? d = some v → g5.get? d = some v := fun d v n1 n2 n3 n4 e => k5.extBut _ _ n2 (k4.extBut _ _ n4 (k3.extBut _ _ n2 (k2.extBut _ _ n3 (k1.extBut _ _ n1 e))))
  have i5 : g5.IsListIter i l (m + 1) := ((i2.extBut k3.extBut D.TOi1.symm).extBut k4.extBut D.i12).extBut k5.extBut D.TOi1.symm
  have j5 : g5.IsStrIter j "str_ascii_iterator" y t (n + 1) := j4.extBut k5.extBut D.TOi2.symm
  have lt : c < g5.objs.size := Heap.lt_size z5
  show wpAny _ _ (Builtin.SmallTypes.ownedTupleHandOut (.ref c) (.ref g5.objs.size) >>= _) _ _ _
  refine wpAny_bind ?_; unfold Builtin.SmallTypes.ownedTupleHandOut
  have z6 : IsZip (g5.push { cls := .type "tuple", data := .seq #[x, .str ⟨#[ch]⟩ s.toks] }) c p o .ellipsis := Heap.get?_push_of_some _ z5
  refine wpAny_bind (wpAny_setField_rec z6 (by simp) fun g7 z7 k7 => ?_)
  replace z7 : IsZip g7 c p o (rawInt g5.objs.size) := z7
  refine wpAny_setField_rec (s := { s with heap := g7, toks := s.toks + 1 }) z7 (by simp) fun g8 z8 k8 => ?_
  replace z8 : IsZip g8 c p o (rawInt g5.objs.size) := z8
  have go : ∀ d v, d ≠ c → g5.get? d = some v → g8.get? d = some v := fun d v n1 e => k8.extBut _ _ n1 (k7.extBut _ _ n1 (Heap.get?_push_of_some _ e))
  have t8 : IsPair g8 g5.objs.size x (.str ⟨#[ch]⟩ s.toks) := k8.extBut _ _ (Nat.ne_of_gt lt) (k7.extBut _ _ (Nat.ne_of_gt lt) (Heap.get?_push_size _ rfl))
  rw [sz] at z8 t8
  refine wpAny_pure ⟨_, rfl, ?_⟩
  show Q (.ref g5.objs.size) _
  rw [sz]
  exact q g8 z8 (go _ _ D.TOz o5) (i5.at fun v e => go _ v D.i1z e) (j5.extBut (h' := g8) (b := c) (fun d v n1 e => go d v n1 e) D.i2z) t8 fun d v n1 n2 n3 n4 e => go d v n1 (kp d v n1 n2 n3 n4 e)
theorem nx_end {c p o i j l : Addr} {m n : Nat} {xs : Array Value} {a b : Value} {y : Str} {t : Tok} {Q : Fin → Shared → Prop} (hh : A.handled = none) (D : ZipApart c p o i j l l)
    (uz : IsZip s.heap c p o .none) (up : IsPair s.heap p (.ref i) (.ref j)) (uo : IsPair s.heap o a b) (ui : s.heap.IsListIter i l m) (ul : s.heap.IsList l xs) (ux : xs[m]? = none)
    (q : ∀ g e, (∀ d v, d ≠ c → d ≠ o → d ≠ i → d ≠ j → s.heap.get? d = some v → g.get? d = some v) → (∃ v, g.get? e = some v ∧ v.cls = .type "StopIteration") → E (.ref e) { s with heap := g }) :
    wpAny (model prog w) A (Builtin.«zip.__next__» ⟨[.ref c], []⟩) Q E s := by
  show wpAny _ _ (field (.ref c) 2 >>= _) _ _ _
  refine wpAny_bind (wpAny_field uz rfl (x := .bool false) rfl ?_)
  show wpAny _ _ (field (.ref c) 3 >>= _) _ _ _
  refine wpAny_bind (wpAny_field uz rfl (x := .ref p) rfl (wpAny_bind (wpAny_seqItems up rfl ?_)))
  show wpAny _ _ (Builtin.SmallTypes.ownedTupleIsFree (.ref c) >>= _) _ _ _
  refine wpAny_bind ?_; unfold Builtin.SmallTypes.ownedTupleIsFree
  refine wpAny_bind (wpAny_field uz rfl (x := .none) rfl (wpAny_pure ?_)); simp only [if_true]
  refine wpAny_bind (wpAny_rule (wpAny_bind (wpAny_field uz rfl (x := .ref o) rfl (wpAny_bind (wpAny_setField_rec uz (by simp) fun g1 z1 k1 => ?_)))))
  replace z1 : IsZip g1 c p o .ellipsis := z1
  refine wpAny_bind ?_; simp only [List.zipIdx_nil, List.zipIdx_cons, List.forIn_nil, List.forIn_cons]
  refine wpAny_bind (wpAny_bind (wpAny_onRaise ?_)); show wpAny _ _ (Builtin.SmallTypes.nextOf (.ref i) >>= _) _ _ _
  refine wpAny_bind (wpAny_nextOf_list_end hh (ui.extBut k1.extBut D.i1z) (ul.extBut k1.extBut D.l1z) ux fun g2 e k2 he => ?_)
  obtain ⟨oe, h1, h2⟩ := he
  have z2 : IsZip g2 c p o .ellipsis := k2 _ _ D.i1z.symm z1
  have ne : e ≠ c := fun z => by subst z; rw [z2] at h1; cases h1; simp at h2
  exact wpAny_setField_rec z2 (by simp) fun g3 _ k3 => q g3 e (fun d v n1 _ n3 _ z => k3.extBut _ _ n1 (k2 _ _ n3 (k1.extBut _ _ n1 z))) ⟨oe, k3.extBut _ _ ne h1, h2⟩
theorem py_item {c p o i j l : Addr} {m n : Nat} {xs : Array Value} {x a b : Value} {y : Str} {t : Tok} {ch : Nat} {Q : Option Value → Shared → Prop} (D : ZipApart c p o i j l l)
    (uz : IsZip s.heap c p o .none) (up : IsPair s.heap p (.ref i) (.ref j)) (uo : IsPair s.heap o a b) (ui : s.heap.IsListIter i l m) (uj : s.heap.IsStrIter j "str_ascii_iterator" y t n) (ul : s.heap.IsList l xs) (ux : xs[m]? = some x) (uy : y.cps[n]? = some ch)
    (q : ∀ g, IsZip g c p o (rawInt s.heap.objs.size) → IsPair g o x (.str ⟨#[ch]⟩ s.toks) → g.IsListIter i l (m + 1) → g.IsStrIter j "str_ascii_iterator" y t (n + 1) → IsPair g s.heap.objs.size x (.str ⟨#[ch]⟩ s.toks) →
      (∀ d v, d ≠ c → d ≠ o → d ≠ i → d ≠ j → s.heap.get? d = some v → g.get? d = some v) → Q (some (.ref s.heap.objs.size)) { s with heap := g, toks := s.toks + 1 }) : wpAny (model prog w) A (pyNext (.ref c)) Q E s := by
  have ty : s.TypeIs (.ref c) "zip" := ⟨_, uz, rfl⟩
  unfold pyNext
  exact wpAny_bind (wpAny_attempt (wpAny_callSpecial?_slot (name := Str.ofString "__next__") ty F.slot_zip_next (wpAny_call_entry F.slot_zip_next ty F.entry_zip_next (nx_item D uz up uo ui uj ul ux uy fun g a1 a2 a3 a4 a5 a6 => wpAny_pure (q g a1 a2 a3 a4 a5 a6)) (F.args_zip_next_1 _))))
theorem py_end {c p o i j l : Addr} {m n : Nat} {xs : Array Value} {a b : Value} {y : Str} {t : Tok} {Q : Option Value → Shared → Prop} (hh : A.handled = none) (D : ZipApart c p o i j l l)
    (uz : IsZip s.heap c p o .none) (up : IsPair s.heap p (.ref i) (.ref j)) (uo : IsPair s.heap o a b) (ui : s.heap.IsListIter i l m) (ul : s.heap.IsList l xs) (ux : xs[m]? = none)
    (q : ∀ g, (∀ d v, d ≠ c → d ≠ o → d ≠ i → d ≠ j → s.heap.get? d = some v → g.get? d = some v) → Q none { s with heap := g }) : wpAny (model prog w) A (pyNext (.ref c)) Q E s := by
  have ty : s.TypeIs (.ref c) "zip" := ⟨_, uz, rfl⟩
  unfold pyNext
  refine wpAny_bind (wpAny_attempt (wpAny_callSpecial?_slot (name := Str.ofString "__next__") ty F.slot_zip_next (wpAny_call_entry F.slot_zip_next ty F.entry_zip_next (nx_end (y := y) (t := t) (n := n) hh D uz up uo ui ul ux fun g e kk ho => ?_) (F.args_zip_next_1 _))))
  obtain ⟨v, h1, h2⟩ := ho
  exact wpAny_bind (wpAny_isInstance (T := "StopIteration") (b := true) ⟨v, h1, h2⟩ isSubtype_stop (wpAny_pure (q _ kk)))
noncomputable abbrev P1 (h : Heap) (l : Addr) : Heap := h.push { cls := .type "list_iterator", data := .fields #[.ref l, .int 0 0] }
noncomputable abbrev P2 (h : Heap) (l : Addr) (y : Str) (t : Tok) : Heap := (P1 h l).push { cls := .type "str_ascii_iterator", data := .fields #[.str y t, .int 0 0] }
noncomputable abbrev P3 (h : Heap) (l : Addr) (y : Str) (t : Tok) : Heap := (P2 h l y t).push { cls := .type "tuple", data := .seq #[.ref h.objs.size, .ref (P1 h l).objs.size] }
noncomputable abbrev P4 (h : Heap) (l : Addr) (y : Str) (t : Tok) : Heap := (P3 h l y t).push { cls := .type "tuple", data := .seq #[.none, .none] }
noncomputable abbrev P5 (h : Heap) (l : Addr) (y : Str) (t : Tok) : Heap := (P4 h l y t).push { cls := .type "zip", data := .fields #[.none, .bool false, .bool false, .ref (P2 h l y t).objs.size, .ref (P3 h l y t).objs.size] }
theorem new_ok (l : Addr) (xs : Array Value) (y : Str) (t : Tok) (ha : y.cps.all (· < 128) = true) :
    Meets (Builtin.«zip.__new__» ⟨[.type "zip", .ref l, .str y t], []⟩) (fun _ R s => s.heap.IsList l xs ∧ R (.ok (.ret (.ref (P4 s.heap l y t).objs.size))) { s with heap := P5 s.heap l y t }) :=
  .of_wp fun prog w A R s h => by
    obtain ⟨hp, g, d, tk, os⟩ := s; obtain ⟨ul, h⟩ := h
    have sub := sub_zip
    have u1 : Heap.IsList (Shared.heap ⟨hp, g, d, tk, os⟩) l xs := ul
    wp_walk using wpAny_pyIter_list u1, wpAny_pyIter_ascii ha
    exact ⟨_, rfl, h⟩
theorem call_ok {l : Addr} {xs : Array Value} {y : Str} {t : Tok} {Q : Value → Shared → Prop} (ha : y.cps.all (· < 128) = true) (ul : s.heap.IsList l xs)
    (q : ∀ g, IsZip g (s.heap.objs.size + 4) (s.heap.objs.size + 2) (s.heap.objs.size + 3) .none → IsPair g (s.heap.objs.size + 2) (.ref s.heap.objs.size) (.ref (s.heap.objs.size + 1)) → IsPair g (s.heap.objs.size + 3) .none .none → g.IsListIter s.heap.objs.size l 0 → g.IsStrIter (s.heap.objs.size + 1) "str_ascii_iterator" y t 0 →
      (∀ d v, s.heap.get? d = some v → g.get? d = some v) → Q (.ref (s.heap.objs.size + 4)) { s with heap := g }) : wpAny (model prog w) A (call (.type "zip") [.ref l, .str y t]) Q E s := by
  refine callType_new F.called_zip (by decide) (F.typeCall_zip_2 _ _) (F.newCall_zip_2 _ _) (fun z => F.args_object_init_3 z _ _) F.entry_zip_new (new_ok l xs y t ha) ⟨ul, ?_⟩
  have n1 : (P1 s.heap l).objs.size = s.heap.objs.size + 1 := Heap.size_push ..
  have n2 : (P2 s.heap l y t).objs.size = s.heap.objs.size + 2 := by rw [Heap.size_push, n1]
  have n3 : (P3 s.heap l y t).objs.size = s.heap.objs.size + 3 := by rw [Heap.size_push, n2]
  have n4 : (P4 s.heap l y t).objs.size = s.heap.objs.size + 4 := by rw [Heap.size_push, n3]
  have e5 : (P5 s.heap l y t).get? (P4 s.heap l y t).objs.size = some _ := Heap.get?_push_size _ rfl
  have e4 : (P5 s.heap l y t).get? (P3 s.heap l y t).objs.size = some _ := Heap.get?_push_of_some _ (Heap.get?_push_size _ rfl)
  have e3 : (P5 s.heap l y t).get? (P2 s.heap l y t).objs.size = some _ := Heap.get?_push_of_some _ (Heap.get?_push_of_some _ (Heap.get?_push_size _ rfl))
  have e2 : (P5 s.heap l y t).get? (P1 s.heap l).objs.size = some _ := Heap.get?_push_of_some _ (Heap.get?_push_of_some _ (Heap.get?_push_of_some _ (Heap.get?_push_size _ rfl)))
  have e1 : (P5 s.heap l y t).get? s.heap.objs.size = some _ := Heap.get?_push_of_some _ (Heap.get?_push_of_some _ (Heap.get?_push_of_some _ (Heap.get?_push_of_some _ (Heap.get?_push_size _ rfl))))
  show _ ∧ _
  rw [n2, n3, n4] at e5
  rw [n1, n2] at e3
  rw [n3] at e4
  rw [n1] at e2
  rw [n4]
  exact ⟨⟨_, e5, rfl⟩, q _ e5 e3 e4 ⟨_, e1, rfl, rfl⟩ ⟨_, e2, rfl, rfl⟩ fun d v z => Heap.get?_push_of_some _ (Heap.get?_push_of_some _ (Heap.get?_push_of_some _ (Heap.get?_push_of_some _ (Heap.get?_push_of_some _ z))))⟩
end
end ZS
noncomputable def Itzs (K : PySem.W.Frag) (a : Addr) (l : List Nat) : It :=
  ⟨fun i H => ∃ xs x ch, SqL K H a xs ∧ xs[i]? = some x ∧ l[i]? = some ch,
   fun i H x H' => ∃ (S : Addr) (u : V) (ch : Nat), x = .ref S ∧ H S = none ∧ H' = upd H S (.tup [u, T [ch]]) ∧ (∀ xs, SqL K H a xs → xs[i]? = some u) ∧ l[i]? = some ch,
   fun i H => ∃ xs, SqL K H a xs ∧ xs.length ≤ i⟩
theorem turn_zs {P : Program} {w : World} {K : PySem.W.Frag} {elts : List Expr} {x1} {pos : Pos} {a c p o i1 i2 : Addr} {l : List Nat} {t : Tok} (D : ZipApart c p o i1 i2 a a) :
    Turn P w K (.Tuple elts x1 pos) (Itzs K a l) [c, p, o, i1, i2] c (fun i h => IsZip h c p o .none ∧ IsPair h p (.ref i1) (.ref i2) ∧ (∃ u v, IsPair h o u v) ∧ h.IsListIter i1 a i ∧ h.IsStrIter i2 "str_ascii_iterator" (tx l) t i) where
  mem := by simp
  obj := fun i h st d hd => by
    obtain ⟨h1, h2, ⟨u, v, h3⟩, ⟨o4, e4, c4, d4⟩, ⟨o5, e5, c5, d5⟩⟩ := st
    simp only [List.mem_cons, List.not_mem_nil, or_false] at hd
    rcases hd with rfl | rfl | rfl | rfl | rfl
    · exact ⟨_, h1, fun v z => by cases z⟩
    · exact ⟨_, h2, fun v z => by cases z⟩
    · exact ⟨_, h3, fun v z => by cases z⟩
    · exact ⟨_, e4, fun v z => by rw [d4] at z; cases z⟩
    · exact ⟨_, e5, fun v z => by rw [d5] at z; cases z⟩
  keep := fun i h h' st k => by
    obtain ⟨h1, h2, ⟨u, v, h3⟩, h4, ⟨o5, e5, r5⟩⟩ := st
    exact ⟨k c (by simp) _ h1, k p (by simp) _ h2, ⟨u, v, k o (by simp) _ h3⟩, h4.at fun o e => k i1 (by simp) o e, ⟨o5, k i2 (by simp) o5 e5, r5⟩⟩
  item := by
    intro X hP hw hK hc i pins s σ H E I hf st hg
    subst hP hw hK
    obtain ⟨xs, x, ch, hq1, hx, hch⟩ := hg
    obtain ⟨its, rv, pl, hz⟩ := I.list hq1
    obtain ⟨u, hu, ru⟩ := rv.get hx
    obtain ⟨h1, h2, ⟨c1, c2, h3⟩, h4, h5⟩ := st
    refine ZS.py_item D h1 h2 h3 h4 h5 pl.isList (x := u) (ch := ch) (by simpa using hu) (by simpa [tx] using hch) fun h' z1 z2 z3 z4 z5 z7 => ?_
    refine ⟨_, rfl, wpAny_letOwnedTupleGo_zip (s := { s with heap := h', toks := s.toks + 1 }) z1 fun h'' y1 y2 => ?_⟩
    have hT : H s.heap.objs.size = none := I.hok.fresh (Nat.le_refl _)
    have I1 : Inv X pins σ (upd H s.heap.objs.size (.tup [x, T [ch]])) { s with heap := s.heap.push { cls := .type "tuple", data := .seq #[u, .str ⟨#[ch]⟩ s.toks] }, toks := s.toks } :=
      I.laid (t' := s.toks) (fun b u e => Heap.get?_push_of_some _ e) (Nat.le_refl _) ⟨(by show 2 ≤ sizeLine; rw [sizeLine_eq]; decide), [u, .str ⟨#[ch]⟩ s.toks], .cons ru (.cons ⟨_, rfl⟩ .nil), ⟨_, Heap.get?_push_size _ rfl, rfl, _, rfl⟩⟩
    have nf : ∀ d ∈ [c, p, o, i1, i2], d ≠ s.heap.objs.size := fun d hd e => by
      have lt : ∃ o, s.heap.get? d = some o := by
        obtain ⟨o4, e4, _⟩ := id h4
        obtain ⟨o5, e5, _⟩ := id h5
        simp only [List.mem_cons, List.not_mem_nil, or_false] at hd
        rcases hd with rfl | rfl | rfl | rfl | rfl
        · exact ⟨_, h1⟩
        · exact ⟨_, h2⟩
        · exact ⟨_, h3⟩
        · exact ⟨_, e4⟩
        · exact ⟨_, e5⟩
      obtain ⟨o, ho⟩ := lt
      have := Heap.lt_size ho
      rw [e] at this
      exact Nat.lt_irrefl _ this
    have hf1 : ∀ d ∈ [c, p, o, i1, i2], FpOk X pins (upd H s.heap.objs.size (.tup [x, T [ch]])) d := fun d hd => by
      obtain ⟨f0, f⟩ := hf d hd
      exact ⟨by rw [upd_ne (nf d hd)]; exact f0, f⟩
    have I2 : Inv X pins σ (upd H s.heap.objs.size (.tup [x, T [ch]])) { s with heap := h'', toks := s.toks + 1 } :=
      Inv.turnedL (s := { s with heap := s.heap.push { cls := .type "tuple", data := .seq #[u, .str ⟨#[ch]⟩ s.toks] }, toks := s.toks }) (t' := s.toks + 1) (ch := [c, p, o, i1, i2]) I1 (fun b v hb e => by
        simp only [List.mem_cons, List.not_mem_nil, or_false, not_or] at hb
        obtain ⟨b1, b2, b3, b4, b5⟩ := hb
        refine (y2.2 b b1).trans ?_
        rcases Heap.get?_push_cases e with ⟨rfl, rfl⟩ | e
        · exact z5
        · exact z7 b v b1 b3 b4 b5 e) hf1
    refine ⟨.ref s.heap.objs.size, _, I2, rfl, ⟨s.heap.objs.size, x, ch, rfl, hT, rfl, fun zs hzs => by rw [I.list_inj hzs hq1]; exact hx, hch⟩, ⟨y1, ?_, ⟨u, .str ⟨#[ch]⟩ s.toks, ?_⟩, ?_, ?_⟩, fun d hd => (hf1 d hd).1⟩
    · exact (y2.2 p D.TIz).trans (z7 p _ D.TIz D.TITO D.TIi1 D.TIi2 h2)
    · exact (y2.2 o D.TOz).trans z2
    · exact z3.at fun o e => (y2.2 i1 D.i1z).trans e
    · obtain ⟨o5, e5, r5⟩ := z4
      exact ⟨o5, (y2.2 i2 D.i2z).trans e5, r5⟩
  done := by
    intro X hP hw hK hc i pins s σ H E I hf st hg
    subst hP hw hK
    obtain ⟨xs, hq1, hl⟩ := hg
    obtain ⟨its, rv, pl, hz⟩ := I.list hq1
    obtain ⟨h1, h2, ⟨c1, c2, h3⟩, h4, h5⟩ := st
    have l1 := rv.length
    refine ZS.py_end (y := tx l) (t := t) (n := i) (I.ok.hd hc) D h1 h2 h3 h4 pl.isList (by simp; omega) fun h' kk => ⟨rfl, ?_⟩
    exact I.turnedL (t' := s.toks) (ch := [c, p, o, i1, i2]) (fun b v hb e => by
      simp only [List.mem_cons, List.not_mem_nil, or_false, not_or] at hb
      obtain ⟨b1, b2, b3, b4, b5⟩ := hb
      exact kk b v b1 b3 b4 b5 e) hf
  self := fun _ _ _ _ _ st h => wpAny_pyIter_zip st.1 h
section
variable {X : Cx}
noncomputable def iZipS (K : PySem.W.Frag) (ta : TA) : TI := fun σ H R => ta σ H fun xs H1 => ∃ (a : Addr) (l : List Nat), xs = [.ref a, T l] ∧ (∃ us, SqL K H1 a us) ∧ (∀ c ∈ l, c < 128) ∧ R (Itzs K a l) H1
theorem pi_zipS {a b : Expr} {ta : TA} {p pos pos' : Pos} {elts : List Expr} {x1} (hg : Gl X "zip") (hm : X.mg "zip" = none) (ha : PA X [a, b] ta) (hs : starEach [a, b] X.env = [(false, eval a X.env), (false, eval b X.env)] := by rfl) (hs2 : starEach [b] X.env = [(false, eval b X.env)] := by rfl) :
    PI X (.Tuple elts x1 pos') (.Call (.Name "zip" p) [a, b] [] pos) (iZipS X.K ta) := by
  intro pins s σ H R I h
  refine Call_ (ld_blt I hg hm boot_zip (PyProof.Rows.callWith_type1 (thn (ha pos pins s σ H _ I h) fun us s1 ⟨vs, H1, I1, r1, q1⟩ => ?_) (by rw [hs, hs2]) (by rw [hs2]; rfl)))
  obtain ⟨l1, l, e, ⟨us1, hq1⟩, hlt, q⟩ := q1
  subst e
  obtain ⟨u, w', e', ru, ⟨t, rfl⟩⟩ := vals2 r1
  cases ru
  subst e'
  obtain ⟨its, rv, pl, hz⟩ := I1.list hq1
  obtain ⟨o1, ho1, _⟩ := id pl.isList
  have hall : (tx l).cps.all (· < 128) = true := by
    rw [Array.all_eq_true_iff_forall_mem]
    intro c hc
    exact decide_eq_true (hlt c (by simpa [tx] using hc))
  refine ZS.call_ok hall pl.isList fun h' z1 z2 z3 z4 z5 z7 => ?_
  refine wpAny_pyIter_zip (s := { s1 with heap := h' }) z1 ?_
  have fr : ∀ c, s1.heap.objs.size ≤ c → FpOk X pins H1 c := fun c hc => I1.fpOk hc (I1.hok.fresh hc)
  refine ⟨s1.heap.objs.size + 4, [s1.heap.objs.size + 4, s1.heap.objs.size + 2, s1.heap.objs.size + 3, s1.heap.objs.size, s1.heap.objs.size + 1], _, _, H1, rfl, I1.kept (t' := s1.toks) z7, turn_zs (zipApart_new (Heap.lt_size ho1) (Heap.lt_size ho1)), ⟨z1, z2, ⟨_, _, z3⟩, z4, z5⟩, fun c hc => fr c ?_, q⟩
  simp only [List.mem_cons, List.not_mem_nil, or_false] at hc
  rcases hc with rfl | rfl | rfl | rfl | rfl
  · exact Nat.le_add_right _ _
  · exact Nat.le_add_right _ _
  · exact Nat.le_add_right _ _
  · exact Nat.le_refl _
  · exact Nat.le_add_right _ _
theorem for_zipS {K : PySem.W.Frag} {a : Addr} {xs : List V} {l : List Nat} {g : TG} {tb : TS} {D : Ends} {σ : St} {H : Hp} (Pv : Nat → St → Hp → Prop) (h0 : Pv 0 σ H) (he : xs.length = l.length) (hl : ∀ i σ H, i ≤ xs.length → Pv i σ H → SqL K H a xs)
    (hs : ∀ i x c S σ H, xs[i]? = some x → l[i]? = some c → H S = none → Pv i σ H → g (.ref S) σ (upd H S (.tup [x, T [c]])) fun σ2 H2 => tb { D with nx := Pv (i + 1), ct := Pv (i + 1), bk := D.nx } σ2 H2) (hd : ∀ σ H, Pv xs.length σ H → D.nx σ H) :
    ∃ W : Nat → Nat → St → Hp → Prop, (∃ m, W 0 m σ H) ∧ ∀ i m σ H, W i m σ H →
      ((Itzs K a l).stop i H ∧ D.nx σ H) ∨ ((Itzs K a l).go i H ∧ ∃ N : St → Hp → Prop, (∀ σ' H', N σ' H' → ∃ m', m' < m ∧ W (i + 1) m' σ' H') ∧ ∀ x H', (Itzs K a l).yld i H x H' → g x σ H' fun σ2 H2 => tb { D with nx := N, ct := N, bk := D.nx } σ2 H2) := by
  refine ⟨fun i m σ H => m = xs.length - i ∧ i ≤ xs.length ∧ Pv i σ H, ⟨xs.length, by simp, Nat.zero_le _, h0⟩, ?_⟩
  rintro i m σ H ⟨rfl, hi, p⟩
  have q1 := hl i σ H hi p
  by_cases hlt : i < xs.length
  · refine .inr ⟨⟨xs, xs[i], l[i]'(by omega), q1, by simp [hlt], by rw [List.getElem?_eq_getElem]⟩, Pv (i + 1), fun σ' H' p' => ⟨xs.length - (i + 1), by omega, rfl, hlt, p'⟩, fun x H' y => ?_⟩
    obtain ⟨S, u, c, rfl, hT, rfl, y1, y2⟩ := y
    exact hs i u c S σ _ (y1 xs q1) y2 hT p
  · have e : i = xs.length := by omega
    subst e
    exact .inl ⟨⟨xs, q1, Nat.le_refl _⟩, hd σ H p⟩
end
end L2

set_option Elab.async false
set_option linter.all false
set_option maxRecDepth 100000
set_option maxHeartbeats 4000000
namespace L2
open PySem PyProof.Rows PySem.Spec
section
variable {X : Cx}
theorem mt_insert : MtM X "list.insert" (fun x vs H Q => ∃ (l : Addr) (xs : List V) (i : Nat) (y : V), x = .ref l ∧ vs = [.int (i : Nat), y] ∧ H l = some (.lst xs) ∧ i ≤ xs.length ∧ xs.length ≤ 1000 ∧ Q .non (upd H l (.lst (xs.take i ++ y :: xs.drop i)))) := by
  intro pins s σ H x vs v us Q I rx rv h
  obtain ⟨l, xs, i, y, rfl, rfl, hH, hi, hn, q⟩ := h
  cases rx
  obtain ⟨u, w', rfl, ⟨t, rfl⟩, rw'⟩ := vals2 rv
  obtain ⟨z, its, n, r, hl, e⟩ := I.lstM hH
  have hs : sizeLine = 16777216 := sizeLine_eq
  have hln := r.length
  have hfit : ¬ (!Builtin.List.listFitsIndex ((i : Nat) : Int)) = true := by
    have h1 : (-(2 ^ 63 : Int) ≤ ((i : Nat) : Int)) := Int.le_trans (by decide) (Int.natCast_nonneg i)
    have h2 : ((i : Nat) : Int) < 2 ^ 63 := Int.lt_of_le_of_lt (show ((i : Nat) : Int) ≤ 1000 by omega) (by decide)
    unfold Builtin.List.listFitsIndex
    rw [decide_eq_true h1, decide_eq_true h2]
    decide
  have hsz : its.toArray.size ≤ sizeLine := by rw [List.size_toArray]; omega
  have hk : (if ((i : Nat) : Int) < 0 then (((i : Nat) : Int) + (its.toArray.size : Int)).toNat else min ((i : Nat) : Int).toNat its.toArray.size) = i := by
    rw [if_neg (by omega), Int.toNat_natCast, List.size_toArray]
    exact Nat.min_eq_left (by omega)
  generalize hx : ((i : Nat) : Int) = x at hfit hk ⊢
  have M := PySem.AutoSeq1.list_insert_list_int_val_1 l its.toArray n x t w' hfit hsz
  refine call_meets F.slot_list_insert ⟨_, e, rfl⟩ F.entry_list_insert (F.args_list_insert_3 _ _ _) M ⟨e, ?_⟩
  have hf : (fun xs : Array Value => have k := if x < 0 then (x + (xs.size : Int)).toNat else min x.toNat xs.size; (xs.extract 0 k).push w' ++ xs.extract k) its.toArray = (its.take i ++ w' :: its.drop i).toArray := by
    show (its.toArray.extract 0 (if x < 0 then (x + (its.toArray.size : Int)).toNat else min x.toNat its.toArray.size)).push w' ++ its.toArray.extract (if x < 0 then (x + (its.toArray.size : Int)).toNat else min x.toNat its.toArray.size) = _
    rw [hk]
    apply Array.toList_inj.mp
    rw [Array.toList_append, Array.toList_push, Array.toList_extract, Array.toList_extract]
    simp
    exact List.take_of_length_le (by rw [List.length_drop]; omega)
  have hv : Vals (xs.take i ++ y :: xs.drop i) (its.take i ++ w' :: its.drop i) := ?hv
  refine ⟨.non, _, I.lset (its' := its.take i ++ w' :: its.drop i) hH e hf hv ?_, rfl, q⟩
  · rw [List.length_append, List.length_take, List.length_cons, List.length_drop]
    omega
  case hv => exact (r.take i).append (.cons rw' (r.drop i))
end
end L2

set_option Elab.async false
set_option linter.all false
set_option maxRecDepth 100000
set_option maxHeartbeats 4000000
namespace L2
open PySem PySem.Spec PyProof.Rows
section
variable {X : Cx} {N' : List Str} {scope : Scope} {x y2 : Str} {px py py2 pt : Pos} {elt iter : Expr} {pos : Pos} {te : TE} {wi : TI}
end
end L2
namespace L2
open PySem PySem.Spec PyProof.Rows
end L2

set_option Elab.async false
set_option linter.all false
set_option maxRecDepth 100000
set_option maxHeartbeats 4000000
namespace K50
open PySem L2
seal L2.PSs L2.PS L2.PE L2.PA L2.PT L2.PW L2.PI L2.PG L2.PGs L2.PO L2.PTy L2.PH L2.OpR L2.CallR L2.IxR L2.SlR L2.UnR L2.PSet
noncomputable def top (i : Nat) : Stmt := PySem.Challenge.pw_onceround_k50_whole_rounds_joined.main.body.getD i (.Pass ⟨0, 0, 0, 0⟩)
noncomputable abbrev s_looked_kinds : Stmt := top 12
noncomputable abbrev s_looked_length : Stmt := top 13
noncomputable abbrev s_letters : Stmt := top 14
noncomputable abbrev s_looked : Stmt := top 15
noncomputable abbrev s_number_of : Stmt := top 16
noncomputable abbrev s_word_total : Stmt := top 17
noncomputable abbrev s_spelled : Stmt := top 18
noncomputable abbrev s_all_words : Stmt := top 19
noncomputable abbrev s_row_windows : Stmt := top 20
noncomputable abbrev s_ring_windows : Stmt := top 21
noncomputable abbrev s_windows : Stmt := top 22
noncomputable abbrev s_looked_size : Stmt := top 26
noncomputable abbrev s_looked_told : Stmt := top 27
noncomputable abbrev s_Rule_init : Stmt := inClass (top 28) 0
noncomputable abbrev s_looked_word : Stmt := top 29
noncomputable abbrev s_next_word : Stmt := top 30
noncomputable abbrev s_partners : Stmt := top 31
noncomputable abbrev s_is_fair : Stmt := top 32
noncomputable abbrev s_made_of : Stmt := top 34
noncomputable abbrev s_exchanged : Stmt := top 33
noncomputable abbrev s_looked_fair : Stmt := top 36
noncomputable abbrev s_words_round : Stmt := top 37
noncomputable abbrev s_told_round : Stmt := top 38
noncomputable abbrev s_rounds : Stmt := top 39
noncomputable abbrev s_joined : Stmt := top 40
noncomputable abbrev s__law_power : Stmt := top 42
noncomputable abbrev s__law_stir : Stmt := top 43
noncomputable abbrev s__law_folded : Stmt := top 44
noncomputable abbrev s__law_size : Stmt := top 45
noncomputable abbrev s__law_words : Stmt := top 46
noncomputable abbrev s__law_fair : Stmt := top 47
noncomputable abbrev s__law_behind : Stmt := top 48
noncomputable abbrev s__law_rounds : Stmt := top 49
noncomputable abbrev s__law_same_round : Stmt := top 50
noncomputable abbrev s__law_pairs : Stmt := top 51
noncomputable abbrev s__law_joined : Stmt := top 52
noncomputable abbrev s__law_slips : Stmt := top 53
noncomputable abbrev s__law_made : Stmt := top 54
noncomputable abbrev s__law_slips_right : Stmt := top 55
noncomputable abbrev s_law : Stmt := top 56
theorem sc_looked_kinds : FnScope ["kinds"] ["kinds"] (defScope s_looked_kinds) := ⟨rfl, rfl, rfl, by decide +kernel, rfl, by decide +kernel, by decide +kernel⟩
theorem sc_looked_length : FnScope ["length", "kinds"] ["length", "kinds"] (defScope s_looked_length) := ⟨rfl, rfl, rfl, by decide +kernel, rfl, by decide +kernel, by decide +kernel⟩
theorem sc_letters : FnScope ["kinds"] ["kinds"] (defScope s_letters) := ⟨rfl, rfl, rfl, by decide +kernel, rfl, by decide +kernel, by decide +kernel⟩
theorem sc_looked : FnScope ["word", "kinds", "known", "sign"] ["word", "kinds"] (defScope s_looked) := ⟨rfl, rfl, rfl, by decide +kernel, rfl, by decide +kernel, by decide +kernel⟩
theorem sc_number_of : FnScope ["word", "kinds", "number", "letter"] ["word", "kinds"] (defScope s_number_of) := ⟨rfl, rfl, rfl, by decide +kernel, rfl, by decide +kernel, by decide +kernel⟩
theorem sc_word_total : FnScope ["length", "kinds", "total", "step"] ["length", "kinds"] (defScope s_word_total) := ⟨rfl, rfl, rfl, by decide +kernel, rfl, by decide +kernel, by decide +kernel⟩
theorem sc_spelled : FnScope ["number", "length", "kinds", "backward", "rest", "step"] ["number", "length", "kinds"] (defScope s_spelled) := ⟨rfl, rfl, rfl, by decide +kernel, rfl, by decide +kernel, by decide +kernel⟩
theorem sc_all_words : FnScope ["length", "kinds", "total"] ["length", "kinds"] (defScope s_all_words) := ⟨rfl, rfl, rfl, by decide +kernel, rfl, by decide +kernel, by decide +kernel⟩
noncomputable def csc_all_words_0 : Scope := { kind := PySem.ScopeKind.function, names := [ (PySem.Str.ofString ".0", PySem.NameKind.local), (PySem.Str.ofString "number", PySem.NameKind.local), (PySem.Str.ofString "spelled", PySem.NameKind.globalImplicit), (PySem.Str.ofString "kinds", PySem.NameKind.free), (PySem.Str.ofString "length", PySem.NameKind.free)], isGenerator := false, isCoroutine := false, more := [] : PySem.Scope }
theorem cs_all_words_0 : CompSc ["length", "kinds", "total"] ["number", "length", "kinds", "total"] (defScope s_all_words) csc_all_words_0 "number" := ⟨rfl, by decide +kernel, by decide +kernel, rfl, by decide +kernel, rfl, rfl, by decide +kernel, rfl, by decide +kernel, by decide +kernel⟩
theorem sc_row_windows : FnScope ["text", "length"] ["text", "length"] (defScope s_row_windows) := ⟨rfl, rfl, rfl, by decide +kernel, rfl, by decide +kernel, by decide +kernel⟩
noncomputable def csc_row_windows_0 : Scope := { kind := PySem.ScopeKind.function, names := [ (PySem.Str.ofString ".0", PySem.NameKind.local), (PySem.Str.ofString "place", PySem.NameKind.local), (PySem.Str.ofString "length", PySem.NameKind.free), (PySem.Str.ofString "text", PySem.NameKind.free)], isGenerator := false, isCoroutine := false, more := [] : PySem.Scope }
theorem cs_row_windows_0 : CompSc ["text", "length"] ["place", "text", "length"] (defScope s_row_windows) csc_row_windows_0 "place" := ⟨rfl, by decide +kernel, by decide +kernel, rfl, by decide +kernel, rfl, rfl, by decide +kernel, rfl, by decide +kernel, by decide +kernel⟩
theorem sc_ring_windows : FnScope ["text", "length", "size", "around"] ["text", "length"] (defScope s_ring_windows) := ⟨rfl, rfl, rfl, by decide +kernel, rfl, by decide +kernel, by decide +kernel⟩
noncomputable def csc_ring_windows_0 : Scope := { kind := PySem.ScopeKind.function, names := [ (PySem.Str.ofString ".0", PySem.NameKind.local), (PySem.Str.ofString "place", PySem.NameKind.local), (PySem.Str.ofString "around", PySem.NameKind.free), (PySem.Str.ofString "length", PySem.NameKind.free)], isGenerator := false, isCoroutine := false, more := [] : PySem.Scope }
theorem cs_ring_windows_0 : CompSc ["text", "length", "size", "around"] ["place", "text", "length", "size", "around"] (defScope s_ring_windows) csc_ring_windows_0 "place" := ⟨rfl, by decide +kernel, by decide +kernel, rfl, by decide +kernel, rfl, rfl, by decide +kernel, rfl, by decide +kernel, by decide +kernel⟩
theorem sc_windows : FnScope ["text", "length", "ring"] ["text", "length", "ring"] (defScope s_windows) := ⟨rfl, rfl, rfl, by decide +kernel, rfl, by decide +kernel, by decide +kernel⟩
theorem sc_looked_size : FnScope ["length", "kinds"] ["length", "kinds"] (defScope s_looked_size) := ⟨rfl, rfl, rfl, by decide +kernel, rfl, by decide +kernel, by decide +kernel⟩
theorem sc_looked_told : FnScope ["length", "kinds", "told", "known", "sign"] ["length", "kinds", "told"] (defScope s_looked_told) := ⟨rfl, rfl, rfl, by decide +kernel, rfl, by decide +kernel, by decide +kernel⟩
theorem sc_Rule_init : FnScope ["self", "length", "kinds", "told"] ["self", "length", "kinds", "told"] (defScope s_Rule_init) := ⟨rfl, rfl, rfl, by decide +kernel, rfl, by decide +kernel, by decide +kernel⟩
theorem sc_looked_word : FnScope ["rule", "word"] ["rule", "word"] (defScope s_looked_word) := ⟨rfl, rfl, rfl, by decide +kernel, rfl, by decide +kernel, by decide +kernel⟩
theorem sc_next_word : FnScope ["rule", "word"] ["rule", "word"] (defScope s_next_word) := ⟨rfl, rfl, rfl, by decide +kernel, rfl, by decide +kernel, by decide +kernel⟩
theorem sc_partners : FnScope ["rule", "word"] ["rule", "word"] (defScope s_partners) := ⟨rfl, rfl, rfl, by decide +kernel, rfl, by decide +kernel, by decide +kernel⟩
noncomputable def csc_partners_0 : Scope := { kind := PySem.ScopeKind.function, names := [ (PySem.Str.ofString ".0", PySem.NameKind.local), (PySem.Str.ofString "letter", PySem.NameKind.local), (PySem.Str.ofString "word", PySem.NameKind.free)], isGenerator := false, isCoroutine := false, more := [] : PySem.Scope }
theorem cs_partners_0 : CompSc ["rule", "word"] ["letter", "rule", "word"] (defScope s_partners) csc_partners_0 "letter" := ⟨rfl, by decide +kernel, by decide +kernel, rfl, by decide +kernel, rfl, rfl, by decide +kernel, rfl, by decide +kernel, by decide +kernel⟩
theorem sc_is_fair : FnScope ["rule", "every"] ["rule"] (defScope s_is_fair) := ⟨rfl, rfl, rfl, by decide +kernel, rfl, by decide +kernel, by decide +kernel⟩
noncomputable def csc_is_fair_0 : Scope := { kind := PySem.ScopeKind.function, names := [ (PySem.Str.ofString ".0", PySem.NameKind.local), (PySem.Str.ofString "word", PySem.NameKind.local), (PySem.Str.ofString "next_word", PySem.NameKind.globalImplicit), (PySem.Str.ofString "rule", PySem.NameKind.free)], isGenerator := false, isCoroutine := false, more := [] : PySem.Scope }
theorem cs_is_fair_0 : CompSc ["rule", "every"] ["word", "rule", "every"] (defScope s_is_fair) csc_is_fair_0 "word" := ⟨rfl, by decide +kernel, by decide +kernel, rfl, by decide +kernel, rfl, rfl, by decide +kernel, rfl, by decide +kernel, by decide +kernel⟩
theorem sc_made_of : FnScope ["ring", "length", "kinds", "every", "met", "behind"] ["ring", "length", "kinds"] (defScope s_made_of) := ⟨rfl, rfl, rfl, by decide +kernel, rfl, by decide +kernel, by decide +kernel⟩
noncomputable def csc_made_of_0 : Scope := { kind := PySem.ScopeKind.function, names := [ (PySem.Str.ofString ".0", PySem.NameKind.local), (PySem.Str.ofString "word", PySem.NameKind.local), (PySem.Str.ofString "len", PySem.NameKind.globalImplicit), (PySem.Str.ofString "length", PySem.NameKind.free), (PySem.Str.ofString "met", PySem.NameKind.free), (PySem.Str.ofString "ring", PySem.NameKind.free)], isGenerator := false, isCoroutine := false, more := [] : PySem.Scope }
theorem cs_made_of_0 : CompSc ["ring", "length", "kinds", "every", "met", "behind"] ["word", "ring", "length", "kinds", "every", "met", "behind"] (defScope s_made_of) csc_made_of_0 "word" := ⟨rfl, by decide +kernel, by decide +kernel, rfl, by decide +kernel, rfl, rfl, by decide +kernel, rfl, by decide +kernel, by decide +kernel⟩
theorem sc_exchanged : FnScope ["rule", "one", "two", "told"] ["rule", "one", "two"] (defScope s_exchanged) := ⟨rfl, rfl, rfl, by decide +kernel, rfl, by decide +kernel, by decide +kernel⟩
theorem sc_looked_fair : FnScope ["rule"] ["rule"] (defScope s_looked_fair) := ⟨rfl, rfl, rfl, by decide +kernel, rfl, by decide +kernel, by decide +kernel⟩
theorem sc_words_round : FnScope ["rule", "word", "gone", "at"] ["rule", "word"] (defScope s_words_round) := ⟨rfl, rfl, rfl, by decide +kernel, rfl, by decide +kernel, by decide +kernel⟩
theorem sc_told_round : FnScope ["words"] ["words"] (defScope s_told_round) := ⟨rfl, rfl, rfl, by decide +kernel, rfl, by decide +kernel, by decide +kernel⟩
noncomputable def csc_told_round_0 : Scope := { kind := PySem.ScopeKind.function, names := [(PySem.Str.ofString ".0", PySem.NameKind.local), (PySem.Str.ofString "word", PySem.NameKind.local)], isGenerator := false, isCoroutine := false, more := [] : PySem.Scope }
theorem cs_told_round_0 : CompSc ["words"] ["word", "words"] (defScope s_told_round) csc_told_round_0 "word" := ⟨rfl, by decide +kernel, by decide +kernel, rfl, by decide +kernel, rfl, rfl, by decide +kernel, rfl, by decide +kernel, by decide +kernel⟩
theorem sc_rounds : FnScope ["rule", "found", "met", "word", "gone", "one"] ["rule"] (defScope s_rounds) := ⟨rfl, rfl, rfl, by decide +kernel, rfl, by decide +kernel, by decide +kernel⟩
theorem sc_joined : FnScope ["rule", "now", "pairs", "one", "two"] ["rule"] (defScope s_joined) := ⟨rfl, rfl, rfl, by decide +kernel, rfl, by decide +kernel, by decide +kernel⟩
theorem sc__law_power : FnScope ["base", "many", "made", "k"] ["base", "many"] (defScope s__law_power) := ⟨rfl, rfl, rfl, by decide +kernel, rfl, by decide +kernel, by decide +kernel⟩
theorem sc__law_stir : FnScope ["cell", "k", "m"] ["cell", "k"] (defScope s__law_stir) := ⟨rfl, rfl, rfl, by decide +kernel, rfl, by decide +kernel, by decide +kernel⟩
theorem sc__law_folded : FnScope ["script", "many", "found", "k", "cell"] ["script", "many"] (defScope s__law_folded) := ⟨rfl, rfl, rfl, by decide +kernel, rfl, by decide +kernel, by decide +kernel⟩
theorem sc__law_size : FnScope ["cell", "sizes"] ["cell"] (defScope s__law_size) := ⟨rfl, rfl, rfl, by decide +kernel, rfl, by decide +kernel, by decide +kernel⟩
theorem sc__law_words : FnScope ["length", "kinds", "words", "k", "longer", "word", "letter"] ["length", "kinds"] (defScope s__law_words) := ⟨rfl, rfl, rfl, by decide +kernel, rfl, by decide +kernel, by decide +kernel⟩
theorem sc__law_fair : FnScope ["script", "length", "kinds", "ends", "cells", "told", "digits", "j", "order", "part", "c"] ["script", "length", "kinds"] (defScope s__law_fair) := ⟨rfl, rfl, rfl, by decide +kernel, rfl, by decide +kernel, by decide +kernel⟩
theorem sc__law_behind : FnScope ["words", "told", "behind", "word", "letter"] ["words", "told"] (defScope s__law_behind) := ⟨rfl, rfl, rfl, by decide +kernel, rfl, by decide +kernel, by decide +kernel⟩
theorem sc__law_rounds : FnScope ["words", "behind", "met", "found", "word", "text", "here"] ["words", "behind"] (defScope s__law_rounds) := ⟨rfl, rfl, rfl, by decide +kernel, rfl, by decide +kernel, by decide +kernel⟩
theorem sc__law_same_round : FnScope ["behind", "one", "two", "here"] ["behind", "one", "two"] (defScope s__law_same_round) := ⟨rfl, rfl, rfl, by decide +kernel, rfl, by decide +kernel, by decide +kernel⟩
theorem sc__law_pairs : FnScope ["words", "pairs", "one", "two"] ["words"] (defScope s__law_pairs) := ⟨rfl, rfl, rfl, by decide +kernel, rfl, by decide +kernel, by decide +kernel⟩
theorem sc__law_joined : FnScope ["words", "told", "behind", "due", "one", "two", "kept"] ["words", "told"] (defScope s__law_joined) := ⟨rfl, rfl, rfl, by decide +kernel, rfl, by decide +kernel, by decide +kernel⟩
theorem sc__law_slips : FnScope ["ring", "n", "at", "to", "letter", "rest", "swapped", "some"] ["ring", "n"] (defScope s__law_slips) := ⟨rfl, rfl, rfl, by decide +kernel, rfl, by decide +kernel, by decide +kernel⟩
theorem sc__law_made : FnScope ["text", "length", "kinds", "told"] ["text", "length", "kinds"] (defScope s__law_made) := ⟨rfl, rfl, rfl, by decide +kernel, rfl, by decide +kernel, by decide +kernel⟩
theorem sc__law_slips_right : FnScope ["ring", "words", "length", "kinds", "n", "text", "round_text", "found", "due", "behind", "k"] ["ring", "words", "length", "kinds", "n"] (defScope s__law_slips_right) := ⟨rfl, rfl, rfl, by decide +kernel, rfl, by decide +kernel, by decide +kernel⟩
noncomputable def csc__law_slips_right_0 : Scope := { kind := PySem.ScopeKind.function, names := [ (PySem.Str.ofString ".0", PySem.NameKind.local), (PySem.Str.ofString "k", PySem.NameKind.local), (PySem.Str.ofString "length", PySem.NameKind.free), (PySem.Str.ofString "round_text", PySem.NameKind.free)], isGenerator := false, isCoroutine := false, more := [] : PySem.Scope }
theorem cs__law_slips_right_0 : CompSc ["ring", "words", "length", "kinds", "n", "text", "round_text", "found", "due", "behind", "k"] ["k", "ring", "words", "length", "kinds", "n", "text", "round_text", "found", "due", "behind", ""] (defScope s__law_slips_right) csc__law_slips_right_0 "k" := ⟨rfl, by decide +kernel, by decide +kernel, rfl, by decide +kernel, rfl, rfl, by decide +kernel, rfl, by decide +kernel, by decide +kernel⟩
noncomputable def csc__law_slips_right_1 : Scope := { kind := PySem.ScopeKind.function, names := [ (PySem.Str.ofString ".0", PySem.NameKind.local), (PySem.Str.ofString "word", PySem.NameKind.local), (PySem.Str.ofString "behind", PySem.NameKind.free)], isGenerator := false, isCoroutine := false, more := [] : PySem.Scope }
theorem cs__law_slips_right_1 : CompSc ["ring", "words", "length", "kinds", "n", "text", "round_text", "found", "due", "behind", "k"] ["word", "ring", "words", "length", "kinds", "n", "text", "round_text", "found", "due", "behind", "k"] (defScope s__law_slips_right) csc__law_slips_right_1 "word" := ⟨rfl, by decide +kernel, by decide +kernel, rfl, by decide +kernel, rfl, rfl, by decide +kernel, rfl, by decide +kernel, by decide +kernel⟩
theorem sc_law : FnScope ["script", "n", "length", "kinds", "words", "told", "rule", "many", "behind", "due", "found", "told_rounds", "ring", "round_text", "by", "text", "again"] ["script"] (defScope s_law) := ⟨rfl, rfl, rfl, by decide +kernel, rfl, by decide +kernel, by decide +kernel⟩
noncomputable def csc_law_0 : Scope := { kind := PySem.ScopeKind.function, names := [ (PySem.Str.ofString ".0", PySem.NameKind.local), (PySem.Str.ofString "word", PySem.NameKind.local), (PySem.Str.ofString "behind", PySem.NameKind.free)], isGenerator := false, isCoroutine := false, more := [] : PySem.Scope }
theorem cs_law_0 : CompSc ["script", "n", "length", "kinds", "words", "told", "rule", "many", "behind", "due", "found", "told_rounds", "ring", "round_text", "by", "text", "again"] ["word", "script", "n", "length", "kinds", "words", "told", "rule", "many", "behind", "due", "found", "told_rounds", "ring", "round_text", "by", "text", "again"] (defScope s_law) csc_law_0 "word" := ⟨rfl, by decide +kernel, by decide +kernel, rfl, by decide +kernel, rfl, rfl, by decide +kernel, rfl, by decide +kernel, by decide +kernel⟩
noncomputable def csc_law_1 : Scope := { kind := PySem.ScopeKind.function, names := [ (PySem.Str.ofString ".0", PySem.NameKind.local), (PySem.Str.ofString "k", PySem.NameKind.local), (PySem.Str.ofString "length", PySem.NameKind.free), (PySem.Str.ofString "round_text", PySem.NameKind.free)], isGenerator := false, isCoroutine := false, more := [] : PySem.Scope }
theorem cs_law_1 : CompSc ["script", "n", "length", "kinds", "words", "told", "rule", "many", "behind", "due", "found", "told_rounds", "ring", "round_text", "by", "text", "again"] ["k", "script", "n", "length", "kinds", "words", "told", "rule", "many", "behind", "due", "found", "told_rounds", "ring", "round_text", "by", "text", "again"] (defScope s_law) csc_law_1 "k" := ⟨rfl, by decide +kernel, by decide +kernel, rfl, by decide +kernel, rfl, rfl, by decide +kernel, rfl, by decide +kernel, by decide +kernel⟩
set_option genInjectivity false in
structure Adr where
 BadKinds : Addr
 BadWord : Addr
 TooMany : Addr
 BadRule : Addr
 BadDeed : Addr
 NotOne : Addr
 Rule : Addr
 u_LETTERS : Value
 u_LONGEST : Value
 u_MOST_WORDS : Value
 u_MOST_OF_A_RULE : Value
 u_LONGEST_OF_A_RULE : Value

set_option genInjectivity false in
structure Txt (K : PySem.W.Frag) (mg : Str → Option Value) (ad : Adr) : Prop where
 b_isinstance : mg "isinstance" = none
 b_len : mg "len" = none
 b_list : mg "list" = none
 b_range : mg "range" = none
 b_reversed : mg "reversed" = none
 b_sorted : mg "sorted" = none
 b_sum : mg "sum" = none
 b_tuple : mg "tuple" = none
 b_zip : mg "zip" = none
 m_BadKinds : mg "BadKinds" = some (.ref ad.BadKinds)
 m_BadWord : mg "BadWord" = some (.ref ad.BadWord)
 m_TooMany : mg "TooMany" = some (.ref ad.TooMany)
 m_BadRule : mg "BadRule" = some (.ref ad.BadRule)
 m_BadDeed : mg "BadDeed" = some (.ref ad.BadDeed)
 m_NotOne : mg "NotOne" = some (.ref ad.NotOne)
 m_Rule : mg "Rule" = some (.ref ad.Rule)
 x_BadKinds : Exc K mg "BadKinds" ad.BadKinds
 x_BadWord : Exc K mg "BadWord" ad.BadWord
 x_TooMany : Exc K mg "TooMany" ad.TooMany
 x_BadRule : Exc K mg "BadRule" ad.BadRule
 x_BadDeed : Exc K mg "BadDeed" ad.BadDeed
 x_NotOne : Exc K mg "NotOne" ad.NotOne
 g_LETTERS : mg "LETTERS" = some ad.u_LETTERS
 r_LETTERS : RelV (T [97, 98, 99, 100, 101, 102]) ad.u_LETTERS
 g_LONGEST : mg "LONGEST" = some ad.u_LONGEST
 r_LONGEST : RelV (.int 24) ad.u_LONGEST
 g_MOST_WORDS : mg "MOST_WORDS" = some ad.u_MOST_WORDS
 r_MOST_WORDS : RelV (.int 4096) ad.u_MOST_WORDS
 g_MOST_OF_A_RULE : mg "MOST_OF_A_RULE" = some ad.u_MOST_OF_A_RULE
 r_MOST_OF_A_RULE : RelV (.int 64) ad.u_MOST_OF_A_RULE
 g_LONGEST_OF_A_RULE : mg "LONGEST_OF_A_RULE" = some ad.u_LONGEST_OF_A_RULE
 r_LONGEST_OF_A_RULE : RelV (.int 8) ad.u_LONGEST_OF_A_RULE
 q_NotOne : PySem.W.exmOne K (.ref ad.NotOne) (.ref ad.NotOne) = some true
 cl_Rule : Cls K ad.Rule
 na_Rule_length : NoAttr K ad.Rule "length"
 na_Rule_kinds : NoAttr K ad.Rule "kinds"
 na_Rule_told : NoAttr K ad.Rule "told"
theorem cxK2 {CX : CXT} {P : Program} {w : World} {K : PySem.W.Frag} {mg : Str → Option Value} {base : Heap} {N : List Str} {q : Str} {sc : Scope} {f : Addr} {cdv : Value} {A : Around} {outer : List Env} {s : Shared} {H : Hp} {E : XK} : (cxOf CX P w K mg base N q sc f cdv A outer s H E).nox.K = K := rfl
section
variable {P : Program} {w : World} {K : PySem.W.Frag} {mg : Str → Option Value} {base : Heap} {ad : Adr}

theorem abc6 {m : Nat} (h : m < 6) : ([97, 98, 99, 100, 101, 102] : List Nat)[m]? = some (97 + m) := by
 have key : ∀ m : Nat, m < 6 → ([97, 98, 99, 100, 101, 102] : List Nat)[m]? = some (97 + m) := by decide
 exact key m h
theorem abc_mem {k c : Nat} (hk : k ≤ 6) : c ∈ ([97, 98, 99, 100, 101, 102] : List Nat).take k ↔ 97 ≤ c ∧ c < 97 + k := by
 have key : ∀ k : Nat, k < 7 → ([97, 98, 99, 100, 101, 102] : List Nat).take k = (List.range k).map (97 + ·) := by decide
 rw [key k (Nat.lt_succ_of_le hk), List.mem_map]
 exact ⟨fun ⟨i, h, e⟩ => e ▸ ⟨Nat.le_add_right _ _, Nat.add_lt_add_left (List.mem_range.mp h) _⟩, fun ⟨h1, h2⟩ => ⟨c - 97, List.mem_range.mpr (Nat.sub_lt_left_of_lt_add h1 h2), Nat.add_sub_cancel' h1⟩⟩
theorem ones_rev (g : Nat → Nat) : ∀ l : List Nat, (l.map fun j => [g j]).flatten = l.map g
 | [] => rfl
 | x :: l => by rw [List.map_cons, List.flatten_cons, ones_rev g l, List.map_cons]; rfl

noncomputable def spKindsX (ad : Adr) : Sp := fun vs H Q E => ∃ k : Int, vs = [.int k] ∧ ((1 ≤ k ∧ k ≤ 6) → Q .non H) ∧ (¬ (1 ≤ k ∧ k ≤ 6) → E (.ref ad.BadKinds) none H)
theorem ok_looked_kinds {f : Addr} {fd : FuncData} (F : Fun K "looked_kinds" "looked_kinds" s_looked_kinds f fd) (tt : Txt K mg ad) : FnOk P w K mg base (CX1 P w) 1 f fd ["kinds"] (spKindsX ad) := by
 refine F.okX sc_looked_kinds (fun vs H Q E h => ?_) (fun cdv A outer s H vs Q E hr h => ?_)
 ·obtain ⟨k, rfl, _⟩ := h
  rfl
 ·obtain ⟨k, rfl, q, x⟩ := h
  have hs : sizeLine = 16777216 := sizeLine_eq
  refine ⟨_, (pss_one (ps_if (PW.pt (pw_or (pt_cmpR op_lt (pv 0) pe_int (nomark _)) (pw_or1 (pt_cmpR op_gt (pv 0) (pe_callB call_len_T (by rfl) tt.b_len PySem.boot_len (pa_cons (pe_glob (by rfl) tt.g_LETTERS tt.r_LETTERS) pa_nil)) (nomark _))))) (pss_one (ps_raise (E := fun cls H' => E cls none H') tt.x_BadKinds rfl (fun _ _ _ _ _ _ _ I hx q => raiseX I hx q) (pa_cons (pe_strT [107, 105, 110, 100, 115, 32, 97, 114, 101, 32, 97, 32, 119, 104, 111, 108, 101, 32, 110, 117, 109, 98, 101, 114, 32, 102, 114, 111, 109, 32, 49, 32, 116, 111, 32, 54] (by decide +kernel)) pa_nil))) pss_nil)), ?_⟩
  (try rw [cxK2]); (try rw [cxK1])
  refine ⟨_, rfl, _, _, rfl, rfl, _, rfl, ?_⟩
  refine ite2 (fun h0 => iteT ?_) (fun h0 => ?_)
  ·have h1 : k < 1 := of_decide_eq_true h0
   exact ⟨(by show 1 ≤ sizeLine; omega), x fun z => by omega⟩
  ·have h1 : ¬ k < 1 := fun z => h0 (decide_eq_true z)
   refine ⟨_, rfl, _, rfl, (by show 6 ≤ sizeLine; omega), _, _, rfl, rfl, _, rfl, ?_⟩
   refine ite2 (fun h2 => ?_) (fun h2 => ?_)
   ·have h3 : (6 : Int) < k := of_decide_eq_true h2
    exact ⟨(by show 1 ≤ sizeLine; omega), x fun z => by omega⟩
   ·have h3 : ¬ (6 : Int) < k := fun z => h2 (decide_eq_true z)
    exact q ⟨by omega, by omega⟩

noncomputable def spLenX (ad : Adr) : Sp := fun vs H Q E => ∃ n k : Int, vs = [.int n, .int k] ∧ ((1 ≤ k ∧ k ≤ 6) → (1 ≤ n ∧ n ≤ 24) → Q .non H) ∧ (¬ (1 ≤ k ∧ k ≤ 6) → E (.ref ad.BadKinds) none H) ∧ ((1 ≤ k ∧ k ≤ 6) → ¬ (1 ≤ n ∧ n ≤ 24) → E (.ref ad.BadWord) none H)
theorem ok_looked_length {f : Addr} {fd : FuncData} (F : Fun K "looked_length" "looked_length" s_looked_length f fd) (tt : Txt K mg ad) (C_looked_kinds : Cal P w K mg base (CX1 P w) "looked_kinds" 1 ["kinds"] (spKindsX ad)) :
  FnOk P w K mg base (CX1 P w) 2 f fd ["length", "kinds"] (spLenX ad) := by
 refine F.okX sc_looked_length (fun vs H Q E h => ?_) (fun cdv A outer s H vs Q E hr h => ?_)
 ·obtain ⟨n, k, rfl, _⟩ := h
  rfl
 ·obtain ⟨n, k, rfl, q, x1, x2⟩ := h
  have hs : sizeLine = 16777216 := sizeLine_eq
  refine ⟨_, (pss_cons (ps_expr (pe_cal C_looked_kinds hr passX (pa_cons (pv 1) pa_nil)))
   (pss_one (ps_if (PW.pt (pw_or (pt_cmpR op_lt (pv 0) pe_int (nomark _)) (pw_or1 (pt_cmpR op_gt (pv 0) (pe_glob (by rfl) tt.g_LONGEST tt.r_LONGEST) (nomark _))))) (pss_one (ps_raise (E := fun cls H' => E cls none H') tt.x_BadWord rfl (fun _ _ _ _ _ _ _ I hx q => raiseX I hx q) (pa_cons (pe_strT [97, 32, 119, 111, 114, 100, 32, 104, 97, 115, 32, 49, 32, 116, 111, 32, 50, 52, 32, 108, 101, 116, 116, 101, 114, 115] (by decide +kernel)) pa_nil))) pss_nil))), ?_⟩
  (try rw [cxK2]); (try rw [cxK1])
  refine ⟨_, rfl, k, rfl, fun hk => ?_, x1⟩
  refine ⟨_, rfl, _, _, rfl, rfl, _, rfl, ?_⟩
  refine ite2 (fun h0 => iteT ?_) (fun h0 => ?_)
  ·have h1 : n < 1 := of_decide_eq_true h0
   exact ⟨(by show 1 ≤ sizeLine; omega), x2 hk fun z => by omega⟩
  ·have h1 : ¬ n < 1 := fun z => h0 (decide_eq_true z)
   refine ⟨_, rfl, _, _, rfl, rfl, _, rfl, ?_⟩
   refine ite2 (fun h2 => ?_) (fun h2 => ?_)
   ·have h3 : (24 : Int) < n := of_decide_eq_true h2
    exact ⟨(by show 1 ≤ sizeLine; omega), x2 hk fun z => by omega⟩
   ·have h3 : ¬ (24 : Int) < n := fun z => h2 (decide_eq_true z)
    exact q hk ⟨by omega, by omega⟩

noncomputable def spTotal : Sp := fun vs H Q _ => ∃ n k : Nat, vs = [.int (n : Nat), .int (k : Nat)] ∧ (n ≤ 1000 ∧ k ≤ 1000) ∧ Q (.int ((k ^ n : Nat) : Int)) H

theorem ok_word_total {f : Addr} {fd : FuncData} (F : Fun K "word_total" "word_total" s_word_total f fd) (tt : Txt K mg ad) : FnOk P w K mg base (CX1 P w) 1 f fd ["length", "kinds"] spTotal := by
 refine F.okN sc_word_total (fun vs H Q E h => ?_) (fun cdv A outer s H vs Q E hr h => ?_)
 ·obtain ⟨n, k, rfl, _⟩ := h
  rfl
 ·obtain ⟨n, k, rfl, hn, q⟩ := h
  refine ⟨_, (pss_cons (ps_set (i := 2) sc_word_total.nd rfl (Or.inl rfl) pe_int)
   (pss_cons (ps_for PassesOwn.never rfl (pi_range1 (by rfl) tt.b_range (pa_cons (pv 0) pa_nil)) (pg_name (i := 3) sc_word_total.nd rfl (Or.inl rfl)) (pss_one (ps_set (i := 2) sc_word_total.nd rfl (Or.inl rfl) (pe_op op_mul (pv 2) (pv 1)))))
   (pss_one (ps_ret (pv 2))))), ?_⟩
  (try rw [cxK2]); (try rw [cxK1])
  refine ⟨_, rfl, _, rfl, by omega, by omega, ?_⟩
  rw [Int.toNat_natCast]
  refine for_range (fun i σ H2 => H2 = H ∧ ∃ v, σ = [some (.int (n : Nat)), some (.int (k : Nat)), some (.int ((k ^ i : Nat) : Int)), v]) ⟨rfl, none, rfl⟩ ?_ ?_
  ·rintro i σ H2 hi ⟨rfl, v, rfl⟩
   refine ⟨_, rfl, _, rfl, _, _, rfl, rfl, .inr ⟨by omega, by omega⟩, ?_⟩
   refine ⟨rfl, some (.int (0 + (i : Int))), ?_⟩
   rw [Nat.pow_succ, Int.natCast_mul]
   rfl
  ·rintro σ H2 ⟨rfl, v, rfl⟩
   exact ⟨_, rfl, q⟩

noncomputable def spLettersX (ad : Adr) : Sp := fun vs H Q E => ∃ k : Int, vs = [.int k] ∧ (∀ kn : Nat, k = (kn : Nat) → (1 ≤ kn ∧ kn ≤ 6) → Q (T (([97, 98, 99, 100, 101, 102] : List Nat).take kn)) H) ∧ (¬ (1 ≤ k ∧ k ≤ 6) → E (.ref ad.BadKinds) none H)
theorem ok_letters {f : Addr} {fd : FuncData} (F : Fun K "letters" "letters" s_letters f fd) (tt : Txt K mg ad) (C_looked_kinds : Cal P w K mg base (CX1 P w) "looked_kinds" 1 ["kinds"] (spKindsX ad)) : FnOk P w K mg base (CX1 P w) 2 f fd ["kinds"] (spLettersX ad) := by
 refine F.okX sc_letters (fun vs H Q E h => ?_) (fun cdv A outer s H vs Q E hr h => ?_)
 ·obtain ⟨k, rfl, _⟩ := h
  rfl
 ·obtain ⟨k, rfl, q, x⟩ := h
  have hs : sizeLine = 16777216 := sizeLine_eq
  refine ⟨_, (pss_cons (ps_expr (pe_cal C_looked_kinds hr passX (pa_cons (pv 0) pa_nil)))
   (pss_one (ps_ret (pe_slice sl_T (pe_glob (by rfl) tt.g_LETTERS tt.r_LETTERS) po_none (po_some (pv 0)))))), ?_⟩
  (try rw [cxK2]); (try rw [cxK1])
  refine ⟨_, rfl, k, rfl, fun hk => ?_, x⟩
  obtain ⟨kn, rfl⟩ : ∃ kn : Nat, k = (kn : Nat) := ⟨k.toNat, by omega⟩
  refine ⟨_, rfl, _, rfl, _, rfl, (by show 6 ≤ sizeLine; omega), ?_⟩
  rw [cutL_to (by show kn ≤ 6; omega)]
  exact q kn rfl ⟨by omega, by omega⟩

noncomputable def Good (w : List Nat) (kn : Nat) : Prop := (1 ≤ w.length ∧ w.length ≤ 24) ∧ ∀ c ∈ w, 97 ≤ c ∧ c < 97 + kn
noncomputable def spLookedX (ad : Adr) : Sp := fun vs H Q E => ∃ (w : List Nat) (k : Int), vs = [T w, .int k] ∧ w.length ≤ 100000 ∧ (¬ (1 ≤ k ∧ k ≤ 6) → E (.ref ad.BadKinds) none H) ∧
 ∀ kn : Nat, k = (kn : Nat) → (1 ≤ kn ∧ kn ≤ 6) → (Good w kn → Q .non H) ∧ (¬ Good w kn → E (.ref ad.BadWord) none H)
theorem ok_looked {f : Addr} {fd : FuncData} (F : Fun K "looked" "looked" s_looked f fd) (tt : Txt K mg ad) (C_looked_length : Cal P w K mg base (CX1 P w) "looked_length" 2 ["length", "kinds"] (spLenX ad))
  (C_letters : Cal P w K mg base (CX1 P w) "letters" 2 ["kinds"] (spLettersX ad)) : FnOk P w K mg base (CX1 P w) 3 f fd ["word", "kinds"] (spLookedX ad) := by
 refine F.okX sc_looked (fun vs H Q E h => ?_) (fun cdv A outer s H vs Q E hr h => ?_)
 ·obtain ⟨w, k, rfl, _⟩ := h
  rfl
 ·obtain ⟨w, k, rfl, hw, x1, q⟩ := h
  have hs : sizeLine = 16777216 := sizeLine_eq
  refine ⟨_, (pss_cons (ps_expr (pe_cal C_looked_length hr passX (pa_cons (pe_callB call_len_T (by rfl) tt.b_len PySem.boot_len (pa_cons (pv 0) pa_nil)) (pa_cons (pv 1) pa_nil))))
   (pss_cons (ps_set (i := 2) sc_looked.nd rfl (Or.inl rfl) (pe_cal C_letters hr passX (pa_cons (pv 1) pa_nil)))
   (pss_one (ps_for PassesOwn.leaving rfl (pi_str (pv 0)) (pg_name (i := 3) sc_looked.nd rfl (Or.inl rfl)) (pss_one (ps_if (pt_cmpR op_notin_sT (pv 3) (pv 2) (by with_unfolding_all rfl)) (pss_one (ps_raise (E := fun cls H' => E cls none H') tt.x_BadWord rfl (fun _ _ _ _ _ _ _ I hx q => raiseX I hx q) (pa_cons (pe_strT [97, 32, 119, 111, 114, 100, 32, 104, 97, 115, 32, 108, 101, 116, 116, 101, 114, 115, 32, 111, 102, 32, 105, 116, 115, 32, 107, 105, 110, 100, 115, 32, 97, 108, 111, 110, 101] (by decide +kernel)) pa_nil))) pss_nil)))))), ?_⟩
  (try rw [cxK2]); (try rw [cxK1])
  refine ⟨_, rfl, _, rfl, (by omega), _, rfl, _, k, rfl, fun hk hn => ?_, x1, fun hk hn => ?_⟩
  rotate_left
  ·obtain ⟨kn, rfl⟩ : ∃ kn : Nat, k = (kn : Nat) := ⟨k.toNat, by omega⟩
   exact (q kn rfl ⟨by omega, by omega⟩).2 fun z => hn ⟨by have := z.1; omega, by have := z.1; omega⟩
  obtain ⟨kn, rfl⟩ : ∃ kn : Nat, k = (kn : Nat) := ⟨k.toNat, by omega⟩
  obtain ⟨q1, q2⟩ := q kn rfl ⟨by omega, by omega⟩
  refine ⟨_, rfl, _, rfl, fun kn' ek hk' => ?_, fun z => absurd hk z⟩
  obtain rfl : kn = kn' := by omega
  refine ⟨_, rfl, _, rfl, ?_⟩
  refine for_text (l := w) (fun i σ H2 => H = H2 ∧ (∀ c ∈ w.take i, 97 ≤ c ∧ c < 97 + kn) ∧ ∃ v, σ = [some (T w), some (.int (kn : Nat)), some (T (([97, 98, 99, 100, 101, 102] : List Nat).take kn)), v]) ⟨rfl, fun c hc => (by simp at hc), none, rfl⟩ ?_ ?_
  ·rintro i c σ H2 hi ⟨rfl, hall, v, rfl⟩
   refine ⟨_, rfl, _, rfl, _, rfl, _, rfl, _, rfl, ?_⟩
   refine ite2 (fun h0 => ?_) (fun h0 => ?_)
   ·have h1 : ¬ c ∈ ([97, 98, 99, 100, 101, 102] : List Nat).take kn := fun z => by
     rw [decide_eq_true z] at h0
     cases h0
    refine ⟨(by show 1 ≤ sizeLine; omega), q2 fun z => h1 ?_⟩
    exact (abc_mem (by omega)).mpr (z.2 c (List.mem_of_getElem? hi))
   ·have h1 : c ∈ ([97, 98, 99, 100, 101, 102] : List Nat).take kn := by
     apply Classical.byContradiction
     intro z
     rw [decide_eq_false z] at h0
     exact h0 rfl
    refine ⟨rfl, fun d hd => ?_, _, rfl⟩
    have hil := (List.getElem?_eq_some_iff.mp hi).1
    rw [List.take_add_one, hi] at hd
    rcases List.mem_append.mp hd with z | z
    ·exact hall d z
    ·have : d = c := by simpa using z
     subst this
     exact (abc_mem (by omega)).mp h1
  ·rintro σ H2 ⟨rfl, hall, v, rfl⟩
   rw [List.take_length] at hall
   exact q1 ⟨⟨by omega, by omega⟩, hall⟩

noncomputable def spNumX (ad : Adr) : Sp := fun vs H Q E => ∃ (w : List Nat) (k : Int), vs = [T w, .int k] ∧ w.length ≤ 100000 ∧ (¬ (1 ≤ k ∧ k ≤ 6) → E (.ref ad.BadKinds) none H) ∧
 ∀ kn : Nat, k = (kn : Nat) → (1 ≤ kn ∧ kn ≤ 6) → (Good w kn → Q (.int ((Wd.num kn w : Nat) : Int)) H) ∧ (¬ Good w kn → E (.ref ad.BadWord) none H)
theorem ok_number_of {f : Addr} {fd : FuncData} (F : Fun K "number_of" "number_of" s_number_of f fd) (tt : Txt K mg ad) (C_looked : Cal P w K mg base (CX1 P w) "looked" 3 ["word", "kinds"] (spLookedX ad)) : FnOk P w K mg base (CX1 P w) 4 f fd ["word", "kinds"] (spNumX ad) := by
 refine F.okX sc_number_of (fun vs H Q E h => ?_) (fun cdv A outer s H vs Q E hr h => ?_)
 ·obtain ⟨w, k, rfl, _⟩ := h
  rfl
 ·obtain ⟨w, k, rfl, hw, x1, q⟩ := h
  have hs : sizeLine = 16777216 := sizeLine_eq
  refine ⟨_, (pss_cons (ps_expr (pe_cal C_looked hr passX (pa_cons (pv 0) (pa_cons (pv 1) pa_nil))))
   (pss_cons (ps_set (i := 2) sc_number_of.nd rfl (Or.inl rfl) pe_int)
   (pss_cons (ps_for PassesOwn.leaving rfl (pi_str (pv 0)) (pg_name (i := 3) sc_number_of.nd rfl (Or.inl rfl)) (pss_one (ps_set (i := 2) sc_number_of.nd rfl (Or.inl rfl) (pe_op op_add (pe_op op_mul (pv 2) (pv 1)) (pe_bm PySem.F.plainAttrs_str PySem.F.slot_str_index PySem.F.type_str_index mt_index6 (pe_glob (by rfl) tt.g_LETTERS tt.r_LETTERS) (pa_cons (pv 3) pa_nil))))))
   (pss_one (ps_ret (pv 2)))))), ?_⟩
  (try rw [cxK2]); (try rw [cxK1])
  refine ⟨_, rfl, _, rfl, w, k, rfl, hw, x1, fun kn ek hk => ?_⟩
  subst ek
  obtain ⟨q1, q2⟩ := q kn rfl hk
  refine ⟨fun hg => ?_, q2⟩
  refine ⟨_, rfl, _, rfl, ?_⟩
  refine for_text (l := w) (fun i σ H2 => H = H2 ∧ ∃ v, σ = [some (T w), some (.int (kn : Nat)), some (.int ((Wd.num kn (w.take i) : Nat) : Int)), v]) ⟨rfl, none, rfl⟩ ?_ ?_
  ·rintro i c σ H2 hi ⟨rfl, v, rfl⟩
   have hc := hg.2 c (List.mem_of_getElem? hi)
   refine ⟨_, rfl, _, rfl, _, _, rfl, rfl, .inr ⟨by omega, by omega⟩, rfl, _, rfl, rfl, c, rfl, ⟨by omega, by omega⟩, _, _, rfl, rfl, ?_⟩
   refine ⟨rfl, some (T [c]), ?_⟩
   rw [List.take_add_one, hi]
   show _ = [_, _, some (V.int ((Wd.num kn (w.take i ++ [c]) : Nat) : Int)), _]
   rw [Wd.num_snoc, Int.natCast_add, Int.natCast_mul]
   rfl
  ·rintro σ H2 ⟨rfl, v, rfl⟩
   rw [List.take_length]
   exact ⟨_, rfl, q1 hg⟩

noncomputable def spSpell : Sp := fun vs H Q _ => ∃ N n k : Nat, vs = [.int (N : Nat), .int (n : Nat), .int (k : Nat)] ∧ (n ≤ 1000 ∧ 1 ≤ k ∧ k ≤ 6) ∧ ∀ H', Same H H' → Q (T (Wd.spell k n N)) H'
theorem ok_spelled {f : Addr} {fd : FuncData} (F : Fun K "spelled" "spelled" s_spelled f fd) (tt : Txt K mg ad) : FnOk P w K mg base (CX1 P w) 1 f fd ["number", "length", "kinds"] spSpell := by
 refine F.okN sc_spelled (fun vs H Q E h => ?_) (fun cdv A outer s H vs Q E hr h => ?_)
 ·obtain ⟨N, n, k, rfl, _⟩ := h
  rfl
 ·obtain ⟨N, n, k, rfl, hn, q⟩ := h
  have hs : sizeLine = 16777216 := sizeLine_eq
  refine ⟨_, (pss_cons (ps_set (i := 3) sc_spelled.nd rfl (Or.inl rfl) (pe_lst pa_nil))
   (pss_cons (ps_set (i := 4) sc_spelled.nd rfl (Or.inl rfl) (pv 0))
   (pss_cons (ps_for PassesOwn.never rfl (pi_range1 (by rfl) tt.b_range (pa_cons (pv 1) pa_nil)) (pg_name (i := 5) sc_spelled.nd rfl (Or.inl rfl)) (pss_cons (ps_expr (pe_bm PySem.F.plainAttrs_list PySem.F.slot_list_append PySem.F.type_list_append mt_append (pv 3) (pa_cons (pe_ix ix_T (pe_glob (by rfl) tt.g_LETTERS tt.r_LETTERS) (pe_op op_mod (pv 4) (pv 2)) (fun _ _ => rfl)) pa_nil)))
   (pss_one (ps_set (i := 4) sc_spelled.nd rfl (Or.inl rfl) (pe_op op_fdiv (pv 4) (pv 2))))))
   (pss_one (ps_ret (pe_joinrev rfl (by rfl) tt.b_reversed (pv 3) (by decide +kernel))))))), ?_⟩
  (try rw [cxK2]); (try rw [cxK1])
  refine ⟨(by show 0 ≤ sizeLine; omega), fun D hD => ?_⟩
  refine ⟨_, rfl, ?_⟩
  refine ⟨_, rfl, _, rfl, by omega, by omega, ?_⟩
  rw [Int.toNat_natCast]
  refine for_range (fun i σ H2 => Same H H2 ∧ H2 D = some (.lst (((List.range i).map fun j => [97 + N / k ^ j % k]).map T)) ∧ ∃ v, σ = [some (.int (N : Nat)), some (.int (n : Nat)), some (.int (k : Nat)), some (.ref D), some (.int ((N / k ^ i : Nat) : Int)), v])
   ⟨(fun b o e => by rw [upd_ne (ne_of_none e hD)]; exact e), upd_same, none, by rw [Nat.pow_zero, Nat.div_one]; rfl⟩ ?_ ?_
  ·rintro i σ H2 hi ⟨s2, hd, v, rfl⟩
   have hm := Nat.mod_lt (N / k ^ i) (show 0 < k by omega)
   have hat : atI [97, 98, 99, 100, 101, 102] (((N / k ^ i : Nat) : Int) % ((k : Nat) : Int)) = some (97 + N / k ^ i % k) := by
    rw [← Int.natCast_emod]
    exact atI_nat (abc6 (by omega))
   refine ⟨_, rfl, .inl ⟨rfl, _, SqL.of hd⟩, _, rfl, _, rfl, _, _, rfl, rfl, (by show (0 : Int) < ((k : Nat) : Int); omega), _, rfl, _, rfl, (by show 6 ≤ sizeLine; omega), _, hat, D, _, _, rfl, rfl, hd, (by rw [List.length_map, List.length_map, List.length_range]; omega), ?_⟩
   refine ⟨_, rfl, _, rfl, _, _, rfl, rfl, ⟨by omega, by omega⟩, ?_⟩
   refine ⟨(fun b o e => by rw [upd_ne (ne_of_none e hD)]; exact s2 b o e), ?_, some (.int (0 + (i : Int))), ?_⟩
   ·rw [List.range_succ, List.map_append, List.map_append]
    exact upd_same
   ·rw [Nat.pow_succ, ← Nat.div_div_eq_div_mul, Int.natCast_ediv]
    rfl
  ·rintro σ H2 ⟨s2, hd, v, rfl⟩
   refine ⟨_, rfl, D, _, rfl, SqL.of hd, ?_, ?_⟩
   ·rw [ones_rev, List.length_map, List.length_range]
    omega
   ·rw [← List.map_reverse, ones_rev, List.map_reverse, Wd.spell_rev]
    exact q H2 s2

noncomputable def spAllX (ad : Adr) : Sp := fun vs H Q E => ∃ n k : Int, vs = [.int n, .int k] ∧ (¬ (1 ≤ k ∧ k ≤ 6) → E (.ref ad.BadKinds) none H) ∧ ((1 ≤ k ∧ k ≤ 6) → ¬ (1 ≤ n ∧ n ≤ 24) → E (.ref ad.BadWord) none H) ∧
 ∀ kn nn : Nat, k = (kn : Nat) → n = (nn : Nat) → (1 ≤ kn ∧ kn ≤ 6) → (1 ≤ nn ∧ nn ≤ 24) → (4096 < kn ^ nn → E (.ref ad.TooMany) none H) ∧ (kn ^ nn ≤ 4096 → ∀ D H', H D = none → Same H H' → H' D = some (.lst ((Wd.allW kn nn).map T)) → Q (.ref D) H')
theorem ok_all_words {f : Addr} {fd : FuncData} (F : Fun K "all_words" "all_words" s_all_words f fd) (tt : Txt K mg ad) (C_looked_length : Cal P w K mg base (CX1 P w) "looked_length" 2 ["length", "kinds"] (spLenX ad))
  (C_word_total : Cal P w K mg base (CX1 P w) "word_total" 1 ["length", "kinds"] spTotal) (C_spelled : Cal P w K mg base (CX1 P w) "spelled" 1 ["number", "length", "kinds"] spSpell) : FnOk P w K mg base (CX1 P w) 3 f fd ["length", "kinds"] (spAllX ad) := by
 refine F.okX sc_all_words (fun vs H Q E h => ?_) (fun cdv A outer s H vs Q E hr h => ?_)
 ·obtain ⟨n, k, rfl, _⟩ := h
  rfl
 ·obtain ⟨n, k, rfl, x1, x2, q⟩ := h
  have hs : sizeLine = 16777216 := sizeLine_eq
  refine ⟨_, (pss_cons (ps_expr (pe_cal C_looked_length hr passX (pa_cons (pv 0) (pa_cons (pv 1) pa_nil))))
   (pss_cons (ps_set (i := 2) sc_all_words.nd rfl (Or.inl rfl) (pe_cal C_word_total hr pass1 (pa_cons (pv 0) (pa_cons (pv 1) pa_nil))))
   (pss_cons (ps_if (pt_cmpR op_gt (pv 2) (pe_glob (by rfl) tt.g_MOST_WORDS tt.r_MOST_WORDS) (nomark _)) (pss_one (ps_raise (E := fun cls H' => E cls none H') tt.x_TooMany rfl (fun _ _ _ _ _ _ _ I hx q => raiseX I hx q) (pa_cons (pe_strT [116, 104, 101, 114, 101, 32, 97, 114, 101, 32, 109, 111, 114, 101, 32, 116, 104, 97, 110, 32, 52, 48, 57, 54, 32, 119, 111, 114, 100, 115, 32, 111, 102, 32, 116, 104, 105, 115, 32, 108, 101, 110, 103, 116, 104] (by decide +kernel)) pa_nil))) pss_nil)
   (pss_one (ps_ret (pe_comp cs_all_words_0 rfl (pi_range1 (by rfl) tt.b_range (pa_cons (pv 2) pa_nil)) (fun cl C s' H' fp => (pe_cal C_spelled hr pass1 (pa_cons (pv 0) (pa_cons (pv 1) (pa_cons (pv 2) pa_nil))))))))))), ?_⟩
  (try rw [cxK2]); (try rw [cxK1])
  refine ⟨_, rfl, _, rfl, n, k, rfl, fun hk hn => ?_, x1, x2⟩
  obtain ⟨kn, rfl⟩ : ∃ kn : Nat, k = (kn : Nat) := ⟨k.toNat, by omega⟩
  obtain ⟨nn, rfl⟩ : ∃ nn : Nat, n = (nn : Nat) := ⟨n.toNat, by omega⟩
  obtain ⟨q1, q2⟩ := q kn nn rfl rfl ⟨by omega, by omega⟩ ⟨by omega, by omega⟩
  refine ⟨_, rfl, _, rfl, nn, kn, rfl, ⟨by omega, by omega⟩, ?_⟩
  refine ⟨_, rfl, _, _, rfl, rfl, _, rfl, ?_⟩
  refine ite2 (fun h0 => ?_) (fun h0 => ?_)
  ·have h1 : (4096 : Int) < ((kn ^ nn : Nat) : Int) := of_decide_eq_true h0
   exact ⟨(by show 1 ≤ sizeLine; omega), q1 (by omega)⟩
  ·have h1 : ¬ (4096 : Int) < ((kn ^ nn : Nat) : Int) := fun z => h0 (decide_eq_true z)
   refine ⟨_, rfl, _, rfl, by omega, by omega, ?_⟩
   rw [Int.toNat_natCast]
   refine comp_range (lo := 0) (n := kn ^ nn) (fun i => T (Wd.spell kn nn i)) (by omega) (fun i H4 hi s4 N hN => ?_) fun D H4 hD s4 hd4 => ?_
   ·exact ⟨_, rfl, _, rfl, _, rfl, i, nn, kn, congrArg (fun z => [V.int z, V.int _, V.int _]) (Int.zero_add _), ⟨by omega, by omega, by omega⟩, fun H5 s5 => hN H5 s5⟩
   ·exact q2 (by omega) D H4 hD s4 (by rw [hd4, Wd.allW, List.map_map]; rfl)

theorem same_upd {H : Hp} {D : Addr} {o : HO} (h : H D = none) : Same H (upd H D o) := fun b u e => by rw [upd_ne (ne_of_none e h)]; exact e
theorem namedD {H G : Hp} {D : Addr} {o : HO} (s : Same H (upd G D o)) : ∃ H', H' = upd G D o ∧ Same H H' ∧ H' D = some o := ⟨_, rfl, s, upd_same⟩
theorem inV_T {t : List Nat} : ∀ {ls : List (List Nat)}, inV (T t) (ls.map T) = decide (t ∈ ls)
 | [] => by simp [inV]
 | l :: ls => by
  have ih := @inV_T t ls
  have e : inV (T t) ((l :: ls).map T) = (eqV (T l) (T t) || inV (T t) (ls.map T)) := rfl
  have e2 : eqV (T l) (T t) = decide (t = l) := by
   show (tx l == tx t) = decide (t = l)
   rw [Bool.eq_iff_iff, beq_iff_eq, decide_eq_true_iff]
   exact ⟨fun h => (tx_inj h).symm, fun h => by rw [h]⟩
  rw [e, ih, e2, Bool.eq_iff_iff, Bool.or_eq_true, decide_eq_true_iff, decide_eq_true_iff, decide_eq_true_iff, List.mem_cons]
theorem tx_inj {a b : List Nat} (h : tx a = tx b) : a = b := by
 have := congrArg (fun z : Str => z.cps.toList) h
 simpa [tx] using this

theorem itP {c A B : Prop} [Decidable c] (hc : c) (h : A) : if c then A else B := by rw [if_pos hc]; exact h
theorem itN {c A B : Prop} [Decidable c] (hc : ¬ c) (h : B) : if c then A else B := by rw [if_neg hc]; exact h
theorem val_tKs {t : List Nat} {v : V} : ∀ {ls : List (List Nat)}, valV (tKs ls v) (Sum.inr (tx t)) = if t ∈ ls then some v else none
 | [] => by simp [tKs, valV]
 | l :: ls => by
  have ih := @val_tKs t v ls
  unfold tKs valV at ih ⊢
  rw [List.map_cons, List.find?_cons]
  by_cases e : l = t
  ·subst e
   simp
  ·have e2 : ¬ (Sum.inr (tx l) : Key) = Sum.inr (tx t) := fun z => e (tx_inj (Sum.inr.inj z))
   have e3 : ¬ t = l := fun z => e z.symm
   simp only [e2, decide_false, List.mem_cons, e3, false_or]
   exact ih
theorem put_tKs {t : List Nat} {v : V} {ls : List (List Nat)} : putK (tKs ls v) (Sum.inr (tx t)) v = tKs (Hg.addT ls t) v := by
 have e : ((tKs ls v).any fun kv => decide (kv.1 = Sum.inr (tx t))) = decide (t ∈ ls) := by
  rw [Bool.eq_iff_iff, List.any_eq_true, decide_eq_true_iff]
  constructor
  ·rintro ⟨kv, h1, h2⟩
   obtain ⟨l, hl, rfl⟩ := List.mem_map.mp h1
   have := tx_inj (Sum.inr.inj (of_decide_eq_true h2))
   exact this ▸ hl
  ·exact fun h => ⟨_, List.mem_map_of_mem h, decide_eq_true rfl⟩
 unfold putK Hg.addT
 rw [e]
 by_cases h : t ∈ ls
 ·rw [if_pos (decide_eq_true h), if_pos h]
  conv => rhs; rw [← List.map_id (tKs ls v)]
  refine List.map_congr_left fun kv hkv => ?_
  obtain ⟨l, _, rfl⟩ := List.mem_map.mp hkv
  split
  ·rfl
  ·rfl
 ·rw [if_neg (by rw [decide_eq_false h]; exact Bool.false_ne_true), if_neg h]
  unfold tKs
  rw [List.map_append]
  rfl
theorem tKs_len (ls : List (List Nat)) (v : V) : (tKs ls v).length = ls.length := by unfold tKs; rw [List.length_map]

theorem signs_flat (t : List Nat) : (t.map fun c => [c]).flatten = t := by
 induction t with
 | nil => rfl
 | cons a t ih => rw [List.map_cons, List.flatten_cons, ih]; rfl
theorem set_map {α β : Type} (f : α → β) : ∀ (l : List α) (i : Nat) (a : α), (l.map f).set i (f a) = (l.set i a).map f
 | [], _, _ => rfl
 | _ :: _, 0, _ => rfl
 | _ :: l, i + 1, a => by
  rw [List.map_cons, List.set_cons_succ, set_map f l i a, List.set_cons_succ, List.map_cons]
theorem ixN_nat {n i : Nat} (h : i < n) : ixN n (i : Int) = some i := by
 unfold ixN
 rw [if_pos (by omega), if_pos (by omega), Int.toNat_natCast]
noncomputable def spSizeX (ad : Adr) : Sp := fun vs H Q E => ∃ n k : Int, vs = [.int n, .int k] ∧ (¬ (1 ≤ k ∧ k ≤ 6) → E (.ref ad.BadKinds) none H) ∧ ((1 ≤ k ∧ k ≤ 6) → ¬ (1 ≤ n ∧ n ≤ 8) → E (.ref ad.BadWord) none H) ∧
 ∀ kn nn : Nat, k = (kn : Nat) → n = (nn : Nat) → (1 ≤ kn ∧ kn ≤ 6) → (1 ≤ nn ∧ nn ≤ 8) → (64 < kn ^ nn → E (.ref ad.TooMany) none H) ∧ (kn ^ nn ≤ 64 → Q .non H)
theorem ok_looked_size {f : Addr} {fd : FuncData} (F : Fun K "looked_size" "looked_size" s_looked_size f fd) (tt : Txt K mg ad) (C_looked_kinds : Cal P w K mg base (CX1 P w) "looked_kinds" 1 ["kinds"] (spKindsX ad)) (C_word_total : Cal P w K mg base (CX1 P w) "word_total" 1 ["length", "kinds"] spTotal) :
  FnOk P w K mg base (CX1 P w) 2 f fd ["length", "kinds"] (spSizeX ad) := by
 refine F.okX sc_looked_size (fun vs H Q E h => ?_) (fun cdv A outer s H vs Q E hr h => ?_)
 ·obtain ⟨n, k, rfl, _⟩ := h
  rfl
 ·obtain ⟨n, k, rfl, x1, x2, q⟩ := h
  have hs : sizeLine = 16777216 := sizeLine_eq
  refine ⟨_, (pss_cons (ps_expr (pe_cal C_looked_kinds hr passX (pa_cons (pv 1) pa_nil)))
   (pss_cons (ps_if (PW.pt (pw_or (pt_cmpR op_lt (pv 0) pe_int (nomark _)) (pw_or1 (pt_cmpR op_gt (pv 0) (pe_glob (by rfl) tt.g_LONGEST_OF_A_RULE tt.r_LONGEST_OF_A_RULE) (nomark _))))) (pss_one (ps_raise (E := fun cls H' => E cls none H') tt.x_BadWord rfl (fun _ _ _ _ _ _ _ I hx q => raiseX I hx q) (pa_cons (pe_strT [97, 32, 119, 111, 114, 100, 32, 111, 102, 32, 97, 32, 114, 117, 108, 101, 32, 104, 97, 115, 32, 49, 32, 116, 111, 32, 56, 32, 108, 101, 116, 116, 101, 114, 115] (by decide +kernel)) pa_nil))) pss_nil)
   (pss_one (ps_if (pt_cmpR op_gt (pe_cal C_word_total hr pass1 (pa_cons (pv 0) (pa_cons (pv 1) pa_nil))) (pe_glob (by rfl) tt.g_MOST_OF_A_RULE tt.r_MOST_OF_A_RULE) (nomark _)) (pss_one (ps_raise (E := fun cls H' => E cls none H') tt.x_TooMany rfl (fun _ _ _ _ _ _ _ I hx q => raiseX I hx q) (pa_cons (pe_strT [97, 32, 114, 117, 108, 101, 32, 104, 97, 115, 32, 97, 116, 32, 109, 111, 115, 116, 32, 54, 52, 32, 119, 111, 114, 100, 115] (by decide +kernel)) pa_nil))) pss_nil)))), ?_⟩
  (try rw [cxK2]); (try rw [cxK1])
  refine ⟨_, rfl, k, rfl, fun hk => ?_, x1⟩
  refine ⟨_, rfl, _, _, rfl, rfl, _, rfl, ?_⟩
  refine ite2 (fun h0 => iteT ?_) (fun h0 => ?_)
  ·have h1 : n < 1 := of_decide_eq_true h0
   exact ⟨(by show 1 ≤ sizeLine; omega), x2 hk fun z => by omega⟩
  have h1 : ¬ n < 1 := fun z => h0 (decide_eq_true z)
  refine ⟨_, rfl, _, _, rfl, rfl, _, rfl, ?_⟩
  refine ite2 (fun h2 => ?_) (fun h2 => ?_)
  ·have h3 : (8 : Int) < n := of_decide_eq_true h2
   exact ⟨(by show 1 ≤ sizeLine; omega), x2 hk fun z => by omega⟩
  have h3 : ¬ (8 : Int) < n := fun z => h2 (decide_eq_true z)
  obtain ⟨kn, rfl⟩ : ∃ kn : Nat, k = (kn : Nat) := ⟨k.toNat, by omega⟩
  obtain ⟨nn, rfl⟩ : ∃ nn : Nat, n = (nn : Nat) := ⟨n.toNat, by omega⟩
  obtain ⟨q1, q2⟩ := q kn nn rfl rfl ⟨by omega, by omega⟩ ⟨by omega, by omega⟩
  refine ⟨_, rfl, _, rfl, nn, kn, rfl, ⟨by omega, by omega⟩, _, _, rfl, rfl, _, rfl, ?_⟩
  refine ite2 (fun h4 => ?_) (fun h4 => ?_)
  ·have h5 : (64 : Int) < ((kn ^ nn : Nat) : Int) := of_decide_eq_true h4
   exact ⟨(by show 1 ≤ sizeLine; omega), q1 (by omega)⟩
  ·have h5 : ¬ (64 : Int) < ((kn ^ nn : Nat) : Int) := fun z => h4 (decide_eq_true z)
   exact q2 (by omega)

noncomputable def TellOk (t : List Nat) (nn kn : Nat) : Prop := t.length = kn ^ nn ∧ ∀ c ∈ t, 97 ≤ c ∧ c < 97 + kn
noncomputable def spToldX (ad : Adr) : Sp := fun vs H Q E => ∃ (nn kn : Nat) (t : List Nat), vs = [.int (nn : Nat), .int (kn : Nat), T t] ∧ ((1 ≤ kn ∧ kn ≤ 6) ∧ (1 ≤ nn ∧ nn ≤ 8) ∧ t.length ≤ 100000) ∧ (TellOk t nn kn → Q .non H) ∧ (¬ TellOk t nn kn → E (.ref ad.BadRule) none H)
theorem ok_looked_told {f : Addr} {fd : FuncData} (F : Fun K "looked_told" "looked_told" s_looked_told f fd) (tt : Txt K mg ad) (C_word_total : Cal P w K mg base (CX1 P w) "word_total" 1 ["length", "kinds"] spTotal) (C_letters : Cal P w K mg base (CX1 P w) "letters" 2 ["kinds"] (spLettersX ad)) :
  FnOk P w K mg base (CX1 P w) 3 f fd ["length", "kinds", "told"] (spToldX ad) := by
 refine F.okX sc_looked_told (fun vs H Q E h => ?_) (fun cdv A outer s H vs Q E hr h => ?_)
 ·obtain ⟨nn, kn, t, rfl, _⟩ := h
  rfl
 ·obtain ⟨nn, kn, t, rfl, ⟨hk, hn, ht⟩, q1, q2⟩ := h
  have hs : sizeLine = 16777216 := sizeLine_eq
  refine ⟨_, (pss_cons (ps_if (pt_cmpR op_ne_I (pe_callB call_len_T (by rfl) tt.b_len PySem.boot_len (pa_cons (pv 2) pa_nil)) (pe_cal C_word_total hr pass1 (pa_cons (pv 0) (pa_cons (pv 1) pa_nil))) (nomark _)) (pss_one (ps_raise (E := fun cls H' => E cls none H') tt.x_BadRule rfl (fun _ _ _ _ _ _ _ I hx q => raiseX I hx q) (pa_cons (pe_strT [97, 32, 114, 117, 108, 101, 32, 116, 101, 108, 108, 115, 32, 111, 110, 101, 32, 108, 101, 116, 116, 101, 114, 32, 102, 111, 114, 32, 101, 97, 99, 104, 32, 119, 111, 114, 100] (by decide +kernel)) pa_nil))) pss_nil)
   (pss_cons (ps_set (i := 3) sc_looked_told.nd rfl (Or.inl rfl) (pe_cal C_letters hr passX (pa_cons (pv 1) pa_nil)))
   (pss_one (ps_for PassesOwn.leaving rfl (pi_str (pv 2)) (pg_name (i := 4) sc_looked_told.nd rfl (Or.inl rfl)) (pss_one (ps_if (pt_cmpR op_notin_sT (pv 4) (pv 3) (by with_unfolding_all rfl)) (pss_one (ps_raise (E := fun cls H' => E cls none H') tt.x_BadRule rfl (fun _ _ _ _ _ _ _ I hx q => raiseX I hx q) (pa_cons (pe_strT [97, 32, 114, 117, 108, 101, 32, 116, 101, 108, 108, 115, 32, 108, 101, 116, 116, 101, 114, 115, 32, 111, 102, 32, 105, 116, 115, 32, 107, 105, 110, 100, 115, 32, 97, 108, 111, 110, 101] (by decide +kernel)) pa_nil))) pss_nil)))))), ?_⟩
  (try rw [cxK2]); (try rw [cxK1])
  refine ⟨_, rfl, _, rfl, (by omega), _, rfl, _, rfl, nn, kn, rfl, ⟨by omega, by omega⟩, _, rfl, _, rfl, _, rfl, ?_⟩
  by_cases hl : t.length = kn ^ nn
  case neg =>
   refine itP (by rw [decide_eq_false (by omega)]; rfl) ?_
   exact ⟨(by show 1 ≤ sizeLine; omega), q2 fun z => hl z.1⟩
  refine itN (by rw [decide_eq_true (by rw [hl])]; exact Bool.false_ne_true) ?_
  refine ⟨_, rfl, _, rfl, fun kn' ek hk' => ?_, fun z => absurd (by omega) z⟩
  obtain rfl : kn = kn' := by omega
  refine ⟨_, rfl, _, rfl, ?_⟩
  refine for_text (l := t) (fun i σ H2 => H = H2 ∧ (∀ c ∈ t.take i, 97 ≤ c ∧ c < 97 + kn) ∧ ∃ v, σ = [some (.int (nn : Nat)), some (.int (kn : Nat)), some (T t), some (T (([97, 98, 99, 100, 101, 102] : List Nat).take kn)), v]) ⟨rfl, fun c hc => (by simp at hc), none, rfl⟩ ?_ ?_
  ·rintro i c σ H2 hi ⟨rfl, hall, v, rfl⟩
   refine ⟨_, rfl, _, rfl, _, rfl, _, rfl, _, rfl, ?_⟩
   refine ite2 (fun h0 => ?_) (fun h0 => ?_)
   ·have h1 : ¬ c ∈ ([97, 98, 99, 100, 101, 102] : List Nat).take kn := fun z => by
     rw [decide_eq_true z] at h0
     cases h0
    refine ⟨(by show 1 ≤ sizeLine; omega), q2 fun z => h1 ?_⟩
    exact (abc_mem (by omega)).mpr (z.2 c (List.mem_of_getElem? hi))
   ·have h1 : c ∈ ([97, 98, 99, 100, 101, 102] : List Nat).take kn := by
     apply Classical.byContradiction
     intro z
     rw [decide_eq_false z] at h0
     exact h0 rfl
    refine ⟨rfl, fun d hd => ?_, _, rfl⟩
    rw [List.take_add_one, hi] at hd
    rcases List.mem_append.mp hd with z | z
    ·exact hall d z
    ·have : d = c := by simpa using z
     subst this
     exact (abc_mem (by omega)).mp h1
  ·rintro σ H2 ⟨rfl, hall, v, rfl⟩
   rw [List.take_length] at hall
   exact q1 ⟨hl, hall⟩

noncomputable def rflds (n k : Int) (t : List Nat) : List (Str × V) := putF "told" (T t) (putF "kinds" (.int k) (putF "length" (.int n) []))
theorem rflds_t (n k : Int) (t : List Nat) : (rflds n k t).lookup ("told" : Str) = some (T t) := by
 unfold rflds
 rw [lookup_putF, if_pos rfl]
theorem rflds_k (n k : Int) (t : List Nat) : (rflds n k t).lookup ("kinds" : Str) = some (.int k) := by
 unfold rflds
 rw [lookup_putF, if_neg (by decide +kernel), lookup_putF, if_pos rfl]
theorem rflds_l (n k : Int) (t : List Nat) : (rflds n k t).lookup ("length" : Str) = some (.int n) := by
 unfold rflds
 rw [lookup_putF, if_neg (by decide +kernel), lookup_putF, if_neg (by decide +kernel), lookup_putF, if_pos rfl]
noncomputable def SizeOk (nn kn : Nat) : Prop := (1 ≤ kn ∧ kn ≤ 6) ∧ (1 ≤ nn ∧ nn ≤ 8) ∧ kn ^ nn ≤ 64
noncomputable def spRuleI (C : Addr) (ad : Adr) : Sp := fun vs H Q E => ∃ (x dx : Addr) (n k : Int) (t : List Nat), vs = [.ref x, .int n, .int k, T t] ∧ H x = some (.ins C dx []) ∧ t.length ≤ 100000 ∧ (¬ (1 ≤ k ∧ k ≤ 6) → E (.ref ad.BadKinds) none H) ∧ ((1 ≤ k ∧ k ≤ 6) → ¬ (1 ≤ n ∧ n ≤ 8) → E (.ref ad.BadWord) none H) ∧
 ∀ kn nn : Nat, k = (kn : Nat) → n = (nn : Nat) → (1 ≤ kn ∧ kn ≤ 6) → (1 ≤ nn ∧ nn ≤ 8) → (64 < kn ^ nn → E (.ref ad.TooMany) none H) ∧ (kn ^ nn ≤ 64 → ¬ TellOk t nn kn → E (.ref ad.BadRule) none H) ∧
  (kn ^ nn ≤ 64 → TellOk t nn kn → ∀ H', (∀ b o, H b = some o → b ≠ x → H' b = some o) → H' x = some (.ins C dx (rflds (nn : Nat) (kn : Nat) t)) → Q .non H')
theorem ok_Rule_init {f : Addr} {fd : FuncData} (F : Fun K "__init__" "Rule.__init__" s_Rule_init f fd) (tt : Txt K mg ad) (C_looked_size : Cal P w K mg base (CX1 P w) "looked_size" 2 ["length", "kinds"] (spSizeX ad)) (C_looked_told : Cal P w K mg base (CX1 P w) "looked_told" 3 ["length", "kinds", "told"] (spToldX ad)) :
  FnOk P w K mg base (CX1 P w) 4 f fd ["self", "length", "kinds", "told"] (spRuleI ad.Rule ad) := by
 refine F.okX sc_Rule_init (fun vs H Q E h => ?_) (fun cdv A outer s H vs Q E hr h => ?_)
 ·obtain ⟨x, dx, n, k, t, rfl, _⟩ := h
  rfl
 ·obtain ⟨x, dx, n, k, t, rfl, hx, ht, x1, x2, q⟩ := h
  have hs : sizeLine = 16777216 := sizeLine_eq
  refine ⟨_, (pss_cons (ps_expr (pe_cal C_looked_size hr passX (pa_cons (pv 1) (pa_cons (pv 2) pa_nil))))
   (pss_cons (ps_expr (pe_cal C_looked_told hr passX (pa_cons (pv 1) (pa_cons (pv 2) (pa_cons (pv 3) pa_nil)))))
   (pss_cons (ps_fld (pv 0) (pv 1) rfl)
   (pss_cons (ps_fld (pv 0) (pv 2) rfl)
   (pss_one (ps_fld (pv 0) (pv 3) rfl)))))), ?_⟩
  (try rw [cxK2]); (try rw [cxK1])
  refine ⟨_, rfl, _, rfl, n, k, rfl, x1, x2, fun kn nn ek en hk hn => ?_⟩
  subst ek en
  obtain ⟨q1, q2, q3⟩ := q kn nn rfl rfl hk hn
  refine ⟨q1, fun h64 => ?_⟩
  refine ⟨_, rfl, _, rfl, _, rfl, nn, kn, t, rfl, ⟨hk, hn, ht⟩, fun hto => ?_, q2 h64⟩
  refine ⟨_, rfl, _, rfl, x, ad.Rule, dx, [], rfl, hx, tt.cl_Rule, tt.na_Rule_length, (by show 0 < 1000; decide), ?_⟩
  refine ⟨_, rfl, _, rfl, x, ad.Rule, dx, _, rfl, upd_same, tt.cl_Rule, tt.na_Rule_kinds, (by show 1 < 1000; decide), ?_⟩
  refine ⟨_, rfl, _, rfl, x, ad.Rule, dx, _, rfl, upd_same, tt.cl_Rule, tt.na_Rule_told, (by show 2 < 1000; decide), ?_⟩
  refine q3 h64 hto _ (fun b o e hb => ?_) upd_same
  rw [upd_ne hb, upd_ne hb, upd_ne hb]
  exact e
noncomputable def RuleAt (C : Addr) (H : Hp) (x : Addr) (nn kn : Nat) (t : List Nat) : Prop := ∃ dx, H x = some (.ins C dx (rflds (nn : Nat) (kn : Nat) t))
theorem RuleAt.on {C : Addr} {H G : Hp} {x : Addr} {nn kn : Nat} {t : List Nat} (h : RuleAt C H x nn kn t) (s : Same H G) : RuleAt C G x nn kn t := h.elim fun dx e => ⟨dx, s _ _ e⟩
noncomputable def RW (w : List Nat) (nn kn : Nat) : Prop := w.length = nn ∧ ∀ c ∈ w, 97 ≤ c ∧ c < 97 + kn
theorem RW.good {w : List Nat} {nn kn : Nat} (h : RW w nn kn) (hn : 1 ≤ nn ∧ nn ≤ 8) : Good w kn := ⟨⟨by have := h.1; omega, by have := h.1; omega⟩, h.2⟩
noncomputable def spLWX (C : Addr) (ad : Adr) : Sp := fun vs H Q E => ∃ (x : Addr) (nn kn : Nat) (t w : List Nat), vs = [.ref x, T w] ∧ RuleAt C H x nn kn t ∧ SizeOk nn kn ∧ w.length ≤ 100000 ∧ (RW w nn kn → Q .non H) ∧ (¬ RW w nn kn → E (.ref ad.BadWord) none H)
theorem ok_looked_word {f : Addr} {fd : FuncData} (F : Fun K "looked_word" "looked_word" s_looked_word f fd) (tt : Txt K mg ad) (C_looked : Cal P w K mg base (CX1 P w) "looked" 3 ["word", "kinds"] (spLookedX ad)) :
  FnOk P w K mg base (CX1 P w) 4 f fd ["rule", "word"] (spLWX ad.Rule ad) := by
 refine F.okX sc_looked_word (fun vs H Q E h => ?_) (fun cdv A outer s H vs Q E hr h => ?_)
 ·obtain ⟨x, nn, kn, t, wd, rfl, _⟩ := h
  rfl
 ·obtain ⟨x, nn, kn, t, wd, rfl, ⟨dx, hx⟩, ⟨hk, hn, h64⟩, hw, q1, q2⟩ := h
  have hs : sizeLine = 16777216 := sizeLine_eq
  refine ⟨_, (pss_cons (ps_expr (pe_cal C_looked hr passX (pa_cons (pv 1) (pa_cons (pe_fld (pv 0) rfl) pa_nil))))
   (pss_one (ps_if (pt_cmpR op_ne_I (pe_callB call_len_T (by rfl) tt.b_len PySem.boot_len (pa_cons (pv 1) pa_nil)) (pe_fld (pv 0) rfl) (nomark _)) (pss_one (ps_raise (E := fun cls H' => E cls none H') tt.x_BadWord rfl (fun _ _ _ _ _ _ _ I hx q => raiseX I hx q) (pa_cons (pe_strT [116, 104, 101, 32, 119, 111, 114, 100, 32, 104, 97, 115, 32, 97, 110, 111, 116, 104, 101, 114, 32, 108, 101, 110, 103, 116, 104, 32, 116, 104, 97, 110, 32, 116, 104, 101, 32, 114, 117, 108, 101, 39, 115, 32, 119, 111, 114, 100, 115] (by decide +kernel)) pa_nil))) pss_nil))), ?_⟩
  (try rw [cxK2]); (try rw [cxK1])
  refine ⟨_, rfl, _, rfl, x, ad.Rule, dx, _, _, rfl, hx, tt.cl_Rule, tt.na_Rule_kinds, rflds_k _ _ _, wd, _, rfl, hw, fun z => absurd (by omega) z, fun kn' ek hk' => ?_⟩
  obtain rfl : kn = kn' := by omega
  refine ⟨fun hg => ?_, fun hg => q2 fun z => hg (z.good hn)⟩
  refine ⟨_, rfl, _, rfl, (by omega), _, rfl, x, ad.Rule, dx, _, _, rfl, hx, tt.cl_Rule, tt.na_Rule_length, rflds_l _ _ _, _, rfl, _, rfl, _, rfl, ?_⟩
  by_cases hl : wd.length = nn
  ·refine itN (by rw [decide_eq_true (by rw [hl])]; exact Bool.false_ne_true) ?_
   exact q1 ⟨hl, hg.2⟩
  ·refine itP (by rw [decide_eq_false (by omega)]; rfl) ?_
   exact ⟨(by show 1 ≤ sizeLine; omega), q2 fun z => hl z.1⟩

noncomputable def spNextW (C : Addr) (ad : Adr) : Sp := fun vs H Q E => ∃ (x : Addr) (nn kn : Nat) (t w : List Nat), vs = [.ref x, T w] ∧ RuleAt C H x nn kn t ∧ SizeOk nn kn ∧ TellOk t nn kn ∧ w.length ≤ 100000 ∧ (RW w nn kn → ∀ c, t[Wd.num kn w]? = some c → Q (T (w.drop 1 ++ [c])) H) ∧ (¬ RW w nn kn → E (.ref ad.BadWord) none H)
theorem rw_num {w : List Nat} {nn kn : Nat} (h : RW w nn kn) : Wd.num kn w < kn ^ nn := (Wd.spell_num nn w h.1 h.2).2
theorem ok_next_word {f : Addr} {fd : FuncData} (F : Fun K "next_word" "next_word" s_next_word f fd) (tt : Txt K mg ad) (C_looked_word : Cal P w K mg base (CX1 P w) "looked_word" 4 ["rule", "word"] (spLWX ad.Rule ad)) (C_number_of : Cal P w K mg base (CX1 P w) "number_of" 4 ["word", "kinds"] (spNumX ad)) :
  FnOk P w K mg base (CX1 P w) 5 f fd ["rule", "word"] (spNextW ad.Rule ad) := by
 refine F.okX sc_next_word (fun vs H Q E h => ?_) (fun cdv A outer s H vs Q E hr h => ?_)
 ·obtain ⟨x, nn, kn, t, wd, rfl, _⟩ := h
  rfl
 ·obtain ⟨x, nn, kn, t, wd, rfl, hR, hz, hto, hw, q1, q2⟩ := h
  have hs : sizeLine = 16777216 := sizeLine_eq
  obtain ⟨hk, hn, h64⟩ := id hz
  refine ⟨_, (pss_cons (ps_expr (pe_cal C_looked_word hr passX (pa_cons (pv 0) (pa_cons (pv 1) pa_nil))))
   (pss_one (ps_ret (pe_op op_add_T (pe_slice sl_T (pv 1) (po_some pe_int) po_none) (pe_ix ix_T (pe_fld (pv 0) rfl) (pe_cal C_number_of hr passX (pa_cons (pv 1) (pa_cons (pe_fld (pv 0) rfl) pa_nil))) (fun _ _ => rfl)))))), ?_⟩
  (try rw [cxK2]); (try rw [cxK1])
  refine ⟨_, rfl, _, rfl, x, nn, kn, t, wd, rfl, hR, hz, hw, fun hg => ?_, q2⟩
  obtain ⟨dx, hx⟩ := id hR
  have hnum := rw_num hg
  obtain ⟨c, hc⟩ : ∃ c, t[Wd.num kn wd]? = some c := ⟨_, List.getElem?_eq_getElem (by rw [hto.1]; exact hnum)⟩
  have ed : cutL wd (some 1) none = wd.drop 1 := cutL_from (k := 1) (by have := hg.1; omega)
  have hg1 := hg.1
  refine ⟨_, rfl, _, rfl, _, rfl, (by omega), _, rfl, x, ad.Rule, dx, _, _, rfl, hx, tt.cl_Rule, tt.na_Rule_told, rflds_t _ _ _, _, rfl, _, rfl, x, ad.Rule, dx, _, _, rfl, hx, tt.cl_Rule, tt.na_Rule_kinds, rflds_k _ _ _, wd, _, rfl, hw, fun z => absurd (by omega) z, fun kn' ek hk' => ?_⟩
  obtain rfl : kn = kn' := by omega
  refine ⟨fun _ => ?_, fun z => absurd (hg.good hn) z⟩
  rw [ed]
  have hdl : (wd.drop 1).length ≤ 8 := by rw [List.length_drop]; omega
  exact ⟨_, rfl, _, rfl, (by rw [hto.1]; omega), c, atI_nat hc, _, rfl, _, rfl, (by show (wd.drop 1).length + 1 ≤ sizeLine; omega), q1 hg c hc⟩

noncomputable def parts (kn : Nat) (w : List Nat) : List (List Nat) := ((([97, 98, 99, 100, 101, 102] : List Nat).take kn).filter fun c => !decide ([c] = w.take 1)).map fun c => c :: w.drop 1
noncomputable def spPartn (C : Addr) (ad : Adr) : Sp := fun vs H Q E => ∃ (x : Addr) (nn kn : Nat) (t w : List Nat), vs = [.ref x, T w] ∧ RuleAt C H x nn kn t ∧ SizeOk nn kn ∧ w.length ≤ 100000 ∧ (RW w nn kn → ∀ D H', H D = none → Same H H' → H' D = some (.lst ((parts kn w).map T)) → Q (.ref D) H') ∧ (¬ RW w nn kn → E (.ref ad.BadWord) none H)
theorem parts_of_comp (wd : List Nat) (sg : List Nat) : (((sg.map fun c => [c]).map T).filter (fun v => !decide (unT v = wd.take 1))).map (fun v => T (unT v ++ wd.drop 1)) = ((sg.filter fun c => !decide ([c] = wd.take 1)).map fun c => c :: wd.drop 1).map T := by
 induction sg with
 | nil => rfl
 | cons c sg ih =>
  rw [List.map_cons, List.map_cons, List.filter_cons, List.filter_cons, unT_T]
  split
  ·rw [List.map_cons, List.map_cons, List.map_cons, ih, unT_T]
   rfl
  ·exact ih
theorem ok_partners {f : Addr} {fd : FuncData} (F : Fun K "partners" "partners" s_partners f fd) (tt : Txt K mg ad) (C_looked_word : Cal P w K mg base (CX1 P w) "looked_word" 4 ["rule", "word"] (spLWX ad.Rule ad)) (C_letters : Cal P w K mg base (CX1 P w) "letters" 2 ["kinds"] (spLettersX ad)) :
  FnOk P w K mg base (CX1 P w) 5 f fd ["rule", "word"] (spPartn ad.Rule ad) := by
 refine F.okX sc_partners (fun vs H Q E h => ?_) (fun cdv A outer s H vs Q E hr h => ?_)
 ·obtain ⟨x, nn, kn, t, wd, rfl, _⟩ := h
  rfl
 ·obtain ⟨x, nn, kn, t, wd, rfl, hR, hz, hw, q1, q2⟩ := h
  have hs : sizeLine = 16777216 := sizeLine_eq
  obtain ⟨hk, hn, h64⟩ := id hz
  refine ⟨_, (pss_cons (ps_expr (pe_cal C_looked_word hr passX (pa_cons (pv 0) (pa_cons (pv 1) pa_nil))))
   (pss_one (ps_ret (pe_compf cs_partners_0 rfl (pi_str (pe_cal C_letters hr passX (pa_cons (pe_fld (pv 0) rfl) pa_nil))) (fun cl C s' H' fp => (pt_cmpR op_ne_T (pv 0) (pe_ix ix_T (pv 2) pe_int (fun _ _ => rfl)) (nomark _))) (fun cl C s' H' fp => (pe_op op_add_T (pv 0) (pe_slice sl_T (pv 2) (po_some pe_int) po_none))))))), ?_⟩
  (try rw [cxK2]); (try rw [cxK1])
  refine ⟨_, rfl, _, rfl, x, nn, kn, t, wd, rfl, hR, hz, hw, fun hg => ?_, q2⟩
  obtain ⟨dx, hx⟩ := id hR
  have hg1 := hg.1
  have ed : cutL wd (some 1) none = wd.drop 1 := cutL_from (k := 1) (by omega)
  obtain ⟨c0, hc0⟩ : ∃ c, wd[0]? = some c := ⟨_, List.getElem?_eq_getElem (by omega)⟩
  have ht1 : wd.take 1 = [c0] := by
   cases wd with
   | nil => simp at hc0
   | cons a l => simp at hc0; subst hc0; rfl
  refine ⟨_, rfl, x, ad.Rule, dx, _, _, rfl, hx, tt.cl_Rule, tt.na_Rule_kinds, rflds_k _ _ _, _, rfl, fun kn' ek hk' => ?_, fun z => absurd (by omega) z⟩
  obtain rfl : kn = kn' := by omega
  refine ⟨_, rfl, ?_⟩
  refine compFG (vs := ((([97, 98, 99, 100, 101, 102] : List Nat).take kn).map fun c => [c]).map T) (fun v => !decide (unT v = wd.take 1)) (fun v => T (unT v ++ wd.drop 1)) reads_text (by rw [List.length_map, List.length_map, List.length_take]; omega) (fun v H3 hv s3 N hN => ?_) (fun v H3 hv hp s3 N hN => ?_) fun D1 H3 hD1 s3 hd3 => ?_
  ·obtain ⟨l, hl', rfl⟩ := List.mem_map.mp hv
   obtain ⟨ch, hch, rfl⟩ := List.mem_map.mp hl'
   have g := hN H3 (Same.refl _)
   rw [unT_T, ht1] at g
   exact ⟨_, rfl, _, rfl, _, rfl, _, rfl, (by omega), c0, atI_nat (j := 0) hc0, _, rfl, _, rfl, _, rfl, g⟩
  ·obtain ⟨l, hl', rfl⟩ := List.mem_map.mp hv
   obtain ⟨ch, hch, rfl⟩ := List.mem_map.mp hl'
   have g := hN H3 (Same.refl _)
   rw [unT_T, ← ed] at g
   have hdl : (cutL wd (some 1) none).length ≤ 8 := by rw [ed, List.length_drop]; omega
   exact ⟨_, rfl, _, rfl, _, rfl, _, rfl, (by omega), _, rfl, _, rfl, (by show 1 + (cutL wd (some 1) none).length ≤ sizeLine; omega), g⟩
  rw [parts_of_comp] at hd3
  exact q1 hg D1 H3 hD1 s3 hd3

theorem last_snoc (l : List Nat) (c : Nat) : atI (l ++ [c]) (-1) = some c := by
 show (ixN (l ++ [c]).length (-1)).bind _ = _
 unfold ixN
 rw [List.length_append, List.length_singleton, if_neg (by decide), if_pos (by omega), show ((-1 : Int) + ((l.length + 1 : Nat) : Int)).toNat = l.length by omega]
 show (l ++ [c])[l.length]? = _
 rw [List.getElem?_append_right (Nat.le_refl _), Nat.sub_self]
 rfl
noncomputable def swt (t : List Nat) (i j a b : Nat) : List Nat := (t.set i b).set j a
theorem swt_tell {t : List Nat} {nn kn i j a b : Nat} (h : TellOk t nn kn) (ha : t[i]? = some a) (hb : t[j]? = some b) : TellOk (swt t i j a b) nn kn := by
 refine ⟨by unfold swt; rw [List.length_set, List.length_set]; exact h.1, fun c hc => ?_⟩
 unfold swt at hc
 rcases List.mem_or_eq_of_mem_set hc with g | rfl
 ·rcases List.mem_or_eq_of_mem_set g with g | rfl
  ·exact h.2 c g
  ·exact h.2 c (List.mem_of_getElem? hb)
 ·exact h.2 c (List.mem_of_getElem? ha)
noncomputable def spExch (C : Addr) (ad : Adr) : Sp := fun vs H Q E => ∃ (x : Addr) (nn kn : Nat) (t one two : List Nat), vs = [.ref x, T one, T two] ∧ RuleAt C H x nn kn t ∧ SizeOk nn kn ∧ TellOk t nn kn ∧ one.length ≤ 100000 ∧ two.length ≤ 100000 ∧ (¬ RW one nn kn → E (.ref ad.BadWord) none H) ∧ (RW one nn kn → ¬ RW two nn kn → E (.ref ad.BadWord) none H) ∧
 (RW one nn kn → RW two nn kn → ¬ two ∈ parts kn one → ∀ H', Same H H' → E (.ref ad.BadDeed) none H') ∧
 (RW one nn kn → RW two nn kn → two ∈ parts kn one → ∀ (y : Addr) (a b : Nat) (H' : Hp), t[Wd.num kn one]? = some a → t[Wd.num kn two]? = some b → Same H H' → RuleAt C H' y nn kn (swt t (Wd.num kn one) (Wd.num kn two) a b) → Q (.ref y) H')
theorem ok_exchanged {f : Addr} {fd : FuncData} (F : Fun K "exchanged" "exchanged" s_exchanged f fd) (tt : Txt K mg ad) (C_looked_word : Cal P w K mg base (CX1 P w) "looked_word" 4 ["rule", "word"] (spLWX ad.Rule ad)) (C_partners : Cal P w K mg base (CX1 P w) "partners" 5 ["rule", "word"] (spPartn ad.Rule ad)) (C_number_of : Cal P w K mg base (CX1 P w) "number_of" 4 ["word", "kinds"] (spNumX ad))
  (C_next_word : Cal P w K mg base (CX1 P w) "next_word" 5 ["rule", "word"] (spNextW ad.Rule ad)) (C_Rule_init : Cam P w K mg base (CX1 P w) "Rule" ad.Rule 4 ["self", "length", "kinds", "told"] (spRuleI ad.Rule ad)) :
  FnOk P w K mg base (CX1 P w) 6 f fd ["rule", "one", "two"] (spExch ad.Rule ad) := by
 refine F.okX sc_exchanged (fun vs H Q E h => ?_) (fun cdv A outer s H vs Q E hr h => ?_)
 ·obtain ⟨x, nn, kn, t, one, two, rfl, _⟩ := h
  rfl
 ·obtain ⟨x, nn, kn, t, one, two, rfl, hR, hz, hto, hl1, hl2, x1, x2, x3, q⟩ := h
  have hs : sizeLine = 16777216 := sizeLine_eq
  obtain ⟨hk, hn, h64⟩ := id hz
  refine ⟨_, (pss_cons (ps_expr (pe_cal C_looked_word hr passX (pa_cons (pv 0) (pa_cons (pv 1) pa_nil))))
   (pss_cons (ps_expr (pe_cal C_looked_word hr passX (pa_cons (pv 0) (pa_cons (pv 2) pa_nil))))
   (pss_cons (ps_if (pt_cmpR op_notIn_seq (pv 2) (pe_cal C_partners hr passX (pa_cons (pv 0) (pa_cons (pv 1) pa_nil))) (by with_unfolding_all rfl)) (pss_one (ps_raise (E := fun cls H' => E cls none H') tt.x_BadDeed rfl (fun _ _ _ _ _ _ _ I hx q => raiseX I hx q) (pa_cons (pe_strT [116, 104, 101, 32, 116, 119, 111, 32, 119, 111, 114, 100, 115, 32, 97, 114, 101, 32, 110, 111, 32, 112, 97, 114, 116, 110, 101, 114, 115] (by decide +kernel)) pa_nil))) pss_nil)
   (pss_cons (ps_set (i := 3) sc_exchanged.nd rfl (Or.inl rfl) (pe_callTy (call_listT rfl) (by rfl) tt.b_list (by decide +kernel) (pa_cons (pe_fld (pv 0) rfl) pa_nil)))
   (pss_cons (ps_asg (pe_ix ix_T (pe_cal C_next_word hr passX (pa_cons (pv 0) (pa_cons (pv 2) pa_nil))) (pe_un un_neg pe_int) (fun _ _ => rfl)) (pg_sub (pv 3) (pe_cal C_number_of hr passX (pa_cons (pv 1) (pa_cons (pe_fld (pv 0) rfl) pa_nil))) set_list))
   (pss_cons (ps_asg (pe_ix ix_T (pe_cal C_next_word hr passX (pa_cons (pv 0) (pa_cons (pv 1) pa_nil))) (pe_un un_neg pe_int) (fun _ _ => rfl)) (pg_sub (pv 3) (pe_cal C_number_of hr passX (pa_cons (pv 2) (pa_cons (pe_fld (pv 0) rfl) pa_nil))) set_list))
   (pss_one (ps_ret (pe_mak C_Rule_init hr passX (pa_cons (pe_fld (pv 0) rfl) (pa_cons (pe_fld (pv 0) rfl) (pa_cons (pe_bm PySem.F.plainAttrs_str PySem.F.slot_str_join PySem.F.type_str_join mt_join (pe_strT [] (by decide +kernel)) (pa_cons (pv 3) pa_nil)) pa_nil)))))))))))), ?_⟩
  (try rw [cxK2]); (try rw [cxK1])
  refine ⟨_, rfl, _, rfl, x, nn, kn, t, one, rfl, hR, hz, hl1, fun h1 => ?_, x1⟩
  refine ⟨_, rfl, _, rfl, x, nn, kn, t, two, rfl, hR, hz, hl2, fun h2 => ?_, x2 h1⟩
  refine ⟨_, rfl, _, rfl, _, rfl, x, nn, kn, t, one, rfl, hR, hz, hl1, fun _ D1 H1 hD1 s1 hd1 => ?_, fun z => absurd h1 z⟩
  refine ⟨D1, _, rfl, .inl (SqL.of hd1), rfl, all_flat _, _, rfl, ?_⟩
  by_cases hp : two ∈ parts kn one
  case neg =>
   refine itP (by rw [inV_T, decide_eq_false hp]; rfl) ?_
   exact ⟨(by show 1 ≤ sizeLine; omega), x3 h1 h2 hp H1 s1⟩
  refine itN (by rw [inV_T, decide_eq_true hp]; exact Bool.false_ne_true) ?_
  have n1 := rw_num h1
  have n2 := rw_num h2
  obtain ⟨a, ha⟩ : ∃ c, t[Wd.num kn one]? = some c := ⟨_, List.getElem?_eq_getElem (by rw [hto.1]; exact n1)⟩
  obtain ⟨b, hb⟩ : ∃ c, t[Wd.num kn two]? = some c := ⟨_, List.getElem?_eq_getElem (by rw [hto.1]; exact n2)⟩
  have q := q h1 h2 hp
  have hR1 := hR.on s1
  obtain ⟨dx, hx⟩ := id hR1
  have htl := hto.1
  refine ⟨_, rfl, x, ad.Rule, dx, _, _, rfl, hx, tt.cl_Rule, tt.na_Rule_told, rflds_t _ _ _, t, rfl, (by omega), fun D hD => ?_⟩
  have t2 := same_upd (o := .lst ((t.map fun c => [c]).map T)) hD
  obtain ⟨H2, hH2, s2, hd2⟩ := namedD t2
  rw [← hH2]
  have hR2 := hR1.on s2
  have hx2 := s2 x _ hx
  have d1 : (two.drop 1).length ≤ 8 := by rw [List.length_drop, h2.1]; omega
  have d2 : (one.drop 1).length ≤ 8 := by rw [List.length_drop, h1.1]; omega
  refine ⟨_, rfl, _, rfl, x, nn, kn, t, two, rfl, hR2, hz, hto, hl2, fun _ c hc => ?_, fun z => absurd h2 z⟩
  obtain rfl : b = c := Option.some.inj (hb.symm.trans hc)
  refine ⟨_, rfl, _, rfl, _, rfl, (by rw [List.length_append, List.length_singleton]; omega), b, last_snoc _ _, ?_⟩
  refine ⟨_, rfl, _, rfl, _, rfl, x, ad.Rule, dx, _, _, rfl, hx2, tt.cl_Rule, tt.na_Rule_kinds, rflds_k _ _ _, one, _, rfl, hl1, fun z => absurd (by omega) z, fun kn' ek hk' => ?_⟩
  obtain rfl : kn = kn' := by omega
  refine ⟨fun _ => ?_, fun z => absurd (h1.good hn) z⟩
  refine ⟨D, _, _, Wd.num kn one, rfl, rfl, hd2, ixN_nat (by rw [List.length_map, List.length_map]; omega), ?_⟩
  rw [show ((t.map fun c => [c]).map T).set (Wd.num kn one) (T [b]) = ((t.set (Wd.num kn one) b).map fun c => [c]).map T by rw [set_map T, set_map fun c => [c]]]
  have s3 : Same H1 (upd H2 D (.lst (((t.set (Wd.num kn one) b).map fun c => [c]).map T))) := fun c o e => by rw [upd_ne (ne_of_none e hD)]; exact s2 c o e
  generalize hH3 : upd H2 D (.lst (((t.set (Wd.num kn one) b).map fun c => [c]).map T)) = H3 at s3 ⊢
  have hd3 : H3 D = some (.lst (((t.set (Wd.num kn one) b).map fun c => [c]).map T)) := by rw [← hH3]; exact upd_same
  have hR3 := hR1.on s3
  refine ⟨_, rfl, _, rfl, x, nn, kn, t, one, rfl, hR3, hz, hto, hl1, fun _ c hc => ?_, fun z => absurd h1 z⟩
  obtain rfl : a = c := Option.some.inj (ha.symm.trans hc)
  refine ⟨_, rfl, _, rfl, _, rfl, (by rw [List.length_append, List.length_singleton]; omega), a, last_snoc _ _, ?_⟩
  refine ⟨_, rfl, _, rfl, _, rfl, x, ad.Rule, dx, _, _, rfl, s3 x _ hx, tt.cl_Rule, tt.na_Rule_kinds, rflds_k _ _ _, two, _, rfl, hl2, fun z => absurd (by omega) z, fun kn' ek hk' => ?_⟩
  obtain rfl : kn = kn' := by omega
  refine ⟨fun _ => ?_, fun z => absurd (h2.good hn) z⟩
  refine ⟨D, _, _, Wd.num kn two, rfl, rfl, hd3, ixN_nat (by rw [List.length_map, List.length_map, List.length_set]; omega), ?_⟩
  rw [show (((t.set (Wd.num kn one) b).map fun c => [c]).map T).set (Wd.num kn two) (T [a]) = ((swt t (Wd.num kn one) (Wd.num kn two) a b).map fun c => [c]).map T by rw [set_map T, set_map fun c => [c]]; rfl]
  have htell := swt_tell hto ha hb
  have q := fun (y : Addr) (H' : Hp) => q y a b H' ha hb
  generalize swt t (Wd.num kn one) (Wd.num kn two) a b = t' at htell q ⊢
  have s4 : Same H1 (upd H3 D (.lst ((t'.map fun c => [c]).map T))) := fun c o e => by rw [upd_ne (ne_of_none e hD)]; exact s3 c o e
  generalize hH4 : upd H3 D (.lst ((t'.map fun c => [c]).map T)) = H4 at s4 ⊢
  have hd4 : H4 D = some (.lst ((t'.map fun c => [c]).map T)) := by rw [← hH4]; exact upd_same
  have hx4 := s4 x _ hx
  have htl' := htell.1
  refine ⟨_, rfl, x, ad.Rule, dx, _, _, rfl, hx4, tt.cl_Rule, tt.na_Rule_length, rflds_l _ _ _, _, rfl, x, ad.Rule, dx, _, _, rfl, hx4, tt.cl_Rule, tt.na_Rule_kinds, rflds_k _ _ _, rfl, _, rfl, rfl, D, _, rfl, SqL.of hd4, (by rw [signs_flat]; omega), ?_⟩
  rw [signs_flat]
  intro y dy ny ndy ney
  refine ⟨y, dy, _, _, t', rfl, upd_same, (by omega), fun z => absurd (by omega) z, fun _ z => absurd (by omega) z, fun kn' nn' ek en _ _ => ?_⟩
  obtain rfl : kn = kn' := by omega
  obtain rfl : nn = nn' := by omega
  refine ⟨fun z => absurd z (by omega), fun _ z => absurd htell z, fun _ _ H' keep hy => ⟨rfl, ?_⟩⟩
  refine q y H' (fun c o e => keep c o ?_ ?_) ⟨dy, hy⟩
  ·have := (s1.trans s4) c o e
   rw [upd_ne (ne_of_none this ny), upd_ne (ne_of_none this ndy)]
   exact this
  ·exact ne_of_none ((s1.trans s4) c o e) ny
theorem allW_pw {k n : Nat} (hk : 0 < k) : (Wd.allW k n).Pairwise (fun a b => ¬ b < a) := (Wd.allW_sorted hk).imp fun h g => List.lt_irrefl _ (List.lt_trans h g)

noncomputable def nextF (t : List Nat) (kn : Nat) (w : List Nat) : List Nat := w.drop 1 ++ [t.getD (Wd.num kn w) 97]
noncomputable abbrev FairR (t : List Nat) (nn kn : Nat) : Prop := Wd.FairOn (nextF t kn) (Wd.allW kn nn)
theorem allW_nodup {k n : Nat} (hk : 0 < k) : (Wd.allW k n).Nodup := (Wd.allW_sorted hk).imp fun h e => by subst e; exact List.lt_irrefl _ h
theorem rw_all {w : List Nat} {nn kn : Nat} (hk : 0 < kn) : w ∈ Wd.allW kn nn ↔ RW w nn kn := Wd.mem_allW hk
theorem told_at {t w : List Nat} {nn kn : Nat} (ht : TellOk t nn kn) (h : RW w nn kn) : t[Wd.num kn w]? = some (t.getD (Wd.num kn w) 97) := by
 have := rw_num h
 rw [List.getD_eq_getElem?_getD, List.getElem?_eq_getElem (by rw [ht.1]; exact this)]
 rfl
theorem next_rw {t w : List Nat} {nn kn : Nat} (ht : TellOk t nn kn) (h : RW w nn kn) (hn : 1 ≤ nn) : RW (nextF t kn w) nn kn := by
 refine ⟨by rw [nextF, List.length_append, List.length_drop, h.1, List.length_singleton]; omega, fun c hc => ?_⟩
 rcases List.mem_append.mp hc with z | z
 ·exact h.2 c (List.mem_of_mem_drop z)
 ·rw [List.mem_singleton.mp z]
  exact ht.2 _ (List.mem_of_getElem? (told_at ht h))
noncomputable def spFairX (C : Addr) : Sp := fun vs H Q _ => ∃ (x : Addr) (nn kn : Nat) (t : List Nat), vs = [.ref x] ∧ RuleAt C H x nn kn t ∧ SizeOk nn kn ∧ TellOk t nn kn ∧ ∀ (b : Bool) (H' : Hp), Same H H' → (b = true ↔ FairR t nn kn) → Q (.bl b) H'
theorem ok_is_fair {f : Addr} {fd : FuncData} (F : Fun K "is_fair" "is_fair" s_is_fair f fd) (tt : Txt K mg ad) (C_all_words : Cal P w K mg base (CX1 P w) "all_words" 3 ["length", "kinds"] (spAllX ad)) (C_next_word : Cal P w K mg base (CX1 P w) "next_word" 5 ["rule", "word"] (spNextW ad.Rule ad)) :
  FnOk P w K mg base (CX1 P w) 6 f fd ["rule"] (spFairX ad.Rule) := by
 refine F.okN sc_is_fair (fun vs H Q E h => ?_) (fun cdv A outer s H vs Q E hr h => ?_)
 ·obtain ⟨x, nn, kn, t, rfl, _⟩ := h
  rfl
 ·obtain ⟨x, nn, kn, t, rfl, hR, hz, hto, q⟩ := h
  have hs : sizeLine = 16777216 := sizeLine_eq
  have hu := Nat.lt_of_succ_lt (hu_of hr)
  obtain ⟨hk, hn, h64⟩ := id hz
  obtain ⟨dx, hx⟩ := id hR
  have hok : ∀ w ∈ Wd.allW kn nn, RW w nn kn := fun w hw => (rw_all (by omega)).mp hw
  refine ⟨_, (pss_cons (ps_set (i := 1) sc_is_fair.nd rfl (Or.inl rfl) (pe_cal C_all_words hr pass1 (pa_cons (pe_fld (pv 0) rfl) (pa_cons (pe_fld (pv 0) rfl) pa_nil))))
   (pss_one (ps_ret (pe_cmpR (op_eq_LT hu) (pe_callB call_sortedA (by rfl) tt.b_sorted PyProof.Rows.boot_sorted (pa_cons (pe_comp cs_is_fair_0 rfl (pi_list (pv 1)) (fun cl C s' H' fp => (pe_cal C_next_word hr pass1 (pa_cons (pv 1) (pa_cons (pv 0) pa_nil))))) pa_nil)) (pv 1) (nomark _))))), ?_⟩
  (try rw [cxK2]); (try rw [cxK1])
  refine ⟨_, rfl, x, ad.Rule, dx, _, _, rfl, hx, tt.cl_Rule, tt.na_Rule_length, rflds_l _ _ _, _, rfl, x, ad.Rule, dx, _, _, rfl, hx, tt.cl_Rule, tt.na_Rule_kinds, rflds_k _ _ _, _, _, rfl, fun z => absurd (by omega) z, fun _ z => absurd (by omega) z, fun kn' nn' ek en _ _ => ?_⟩
  obtain rfl : kn = kn' := by omega
  obtain rfl : nn = nn' := by omega
  refine ⟨fun z => absurd z (by omega), fun _ D1 H1 hD1 s1 hd1 => ?_⟩
  refine ⟨_, rfl, D1, rfl, ⟨_, SqL.of hd1⟩, ?_⟩
  refine compG (fun v => T (nextF t kn (unT v))) (reads_list (SqL.of hd1)) (by rw [List.length_map, Wd.allW_len]; omega) (fun v H2 hv s2 N hN => ?_) fun D2 H2 hD2 s2 hd2 => ?_
  ·obtain ⟨wd, hwd, rfl⟩ := List.mem_map.mp hv
   have g := hN H2 (Same.refl _)
   rw [unT_T] at g
   have hw := hok wd hwd
   refine ⟨_, rfl, _, rfl, x, nn, kn, t, wd, rfl, hR.on (s1.trans s2), hz, hto, (by have := hw.1; omega), fun _ c hc => ?_, fun z => absurd hw z⟩
   rw [told_at hto hw] at hc
   obtain rfl := Option.some.inj hc
   exact g
  have hd2 : H2 D2 = some (.lst (((Wd.allW kn nn).map (nextF t kn)).map T)) := by
   rw [hd2, List.map_map, List.map_map]
   refine congrArg (fun l => some (HO.lst l)) (List.map_congr_left fun m _ => ?_)
   show T (nextF t kn (unT (T m))) = T (nextF t kn m)
   rw [unT_T]
  refine ⟨D2, _, rfl, SqL.of hd2, fun qs D3 hD3 hp hw => ?_⟩
  have t3 := same_upd (o := .lst (qs.map T)) hD3
  refine ⟨_, rfl, D3, D1, qs, _, rfl, rfl, SqL.of upd_same, SqL.of ((s2.trans t3) D1 _ hd1), q _ _ (s1.trans (s2.trans t3)) ?_⟩
  rw [decide_eq_true_iff]
  exact ⟨fun z => ⟨allW_nodup (by omega), by subst z; exact hp.symm⟩, fun z => Wd.sorted_same (hp.trans z.pm) hw (allW_pw (by omega))⟩
noncomputable def spLFair (C : Addr) (ad : Adr) : Sp := fun vs H Q E => ∃ (x : Addr) (nn kn : Nat) (t : List Nat), vs = [.ref x] ∧ RuleAt C H x nn kn t ∧ SizeOk nn kn ∧ TellOk t nn kn ∧ (FairR t nn kn → ∀ H', Same H H' → Q .non H') ∧ (¬ FairR t nn kn → ∀ H', Same H H' → E (.ref ad.BadRule) none H')
theorem ok_looked_fair {f : Addr} {fd : FuncData} (F : Fun K "looked_fair" "looked_fair" s_looked_fair f fd) (tt : Txt K mg ad) (C_is_fair : Cal P w K mg base (CX1 P w) "is_fair" 6 ["rule"] (spFairX ad.Rule)) : FnOk P w K mg base (CX1 P w) 7 f fd ["rule"] (spLFair ad.Rule ad) := by
 refine F.okX sc_looked_fair (fun vs H Q E h => ?_) (fun cdv A outer s H vs Q E hr h => ?_)
 ·obtain ⟨x, nn, kn, t, rfl, _⟩ := h
  rfl
 ·obtain ⟨x, nn, kn, t, rfl, hR, hz, hto, q, qe⟩ := h
  have hs : sizeLine = 16777216 := sizeLine_eq
  refine ⟨_, (pss_one (ps_if (pt_not (pt_val (pe_cal C_is_fair hr pass1 (pa_cons (pv 0) pa_nil)))) (pss_one (ps_raise (E := fun cls H' => E cls none H') tt.x_BadRule rfl (fun _ _ _ _ _ _ _ I hx q => raiseX I hx q) (pa_cons (pe_strT [116, 104, 101, 32, 114, 117, 108, 101, 32, 105, 115, 32, 110, 111, 116, 32, 102, 97, 105, 114] (by decide +kernel)) pa_nil))) pss_nil)), ?_⟩
  (try rw [cxK2]); (try rw [cxK1])
  refine ⟨_, rfl, x, nn, kn, t, rfl, hR, hz, hto, fun b H1 s1 hb => ⟨_, rfl, ?_⟩⟩
  cases b with
  | false => exact iteT ⟨(by show 1 ≤ sizeLine; omega), qe (fun z => by have := hb.mpr z; cases this) H1 s1⟩
  | true => exact iteF (q (hb.mp rfl) H1 s1)

theorem parts_drop {kn : Nat} {one two : List Nat} (h : two ∈ parts kn one) : two.drop 1 = one.drop 1 := by
 unfold parts at h
 obtain ⟨c, _, rfl⟩ := List.mem_map.mp h
 rfl
theorem parts_rw {nn kn : Nat} {one two : List Nat} (hk : kn ≤ 6) (hn : 1 ≤ nn) (h1 : RW one nn kn) (h : two ∈ parts kn one) : RW two nn kn := by
 unfold parts at h
 obtain ⟨c, hc, rfl⟩ := List.mem_map.mp h
 have hc := (abc_mem hk).mp (List.mem_filter.mp hc).1
 refine ⟨by rw [List.length_cons, List.length_drop, h1.1]; omega, fun d hd => ?_⟩
 rcases List.mem_cons.mp hd with rfl | hd
 ·exact hc
 ·exact h1.2 d (List.mem_of_mem_drop hd)
theorem parts_few {kn : Nat} {one : List Nat} (hk : kn ≤ 6) : (parts kn one).length ≤ 6 := by
 unfold parts
 rw [List.length_map]
 refine Nat.le_trans (List.length_filter_le ..) ?_
 rw [List.length_take]
 omega
theorem rw_inj {nn kn : Nat} {a b : List Nat} (ha : RW a nn kn) (hb : RW b nn kn) (e : Wd.num kn a = Wd.num kn b) : a = b := by
 rw [← (Wd.spell_num nn a ha.1 ha.2).1, ← (Wd.spell_num nn b hb.1 hb.2).1, e]
theorem swt_fair {t one two : List Nat} {nn kn a b : Nat} (hk : 0 < kn) (ht : TellOk t nn kn) (hf : FairR t nn kn) (h1 : RW one nn kn) (h2 : RW two nn kn) (hd : two.drop 1 = one.drop 1) (hne : one ≠ two) (ha : t[Wd.num kn one]? = some a) (hb : t[Wd.num kn two]? = some b) : FairR (swt t (Wd.num kn one) (Wd.num kn two) a b) nn kn := by
 have hnn : Wd.num kn one ≠ Wd.num kn two := fun e => hne (rw_inj h1 h2 e)
 have hnd := allW_nodup (k := kn) (n := nn) hk
 have l1 := rw_num h1
 have l2 := rw_num h2
 have htl := ht.1
 let sw : List Nat → List Nat := fun w => if w = one then two else if w = two then one else w
 have sw1 : sw one = two := if_pos rfl
 have sw2 : sw two = one := by show (if two = one then two else if two = two then one else two) = one; rw [if_neg (fun e => hne e.symm), if_pos rfl]
 have sw3 : ∀ w, w ≠ one → w ≠ two → sw w = w := fun w n1 n2 => by show (if w = one then two else if w = two then one else w) = w; rw [if_neg n1, if_neg n2]
 have key : ∀ w ∈ Wd.allW kn nn, nextF (swt t (Wd.num kn one) (Wd.num kn two) a b) kn w = nextF t kn (sw w) := fun w hw => by
  have hw := (rw_all hk).mp hw
  unfold nextF swt
  rw [List.getD_eq_getElem?_getD, List.getD_eq_getElem?_getD]
  by_cases e1 : w = one
  ·subst e1
   rw [sw1, hd, List.getElem?_set_ne hnn.symm, List.getElem?_set_self (by omega), hb]
  ·by_cases e2 : w = two
   ·subst e2
    rw [sw2, hd, List.getElem?_set_self (by rw [List.length_set]; omega), ha]
   ·rw [sw3 w e1 e2, List.getElem?_set_ne (fun e => e2 (rw_inj h2 hw e).symm), List.getElem?_set_ne (fun e => e1 (rw_inj h1 hw e).symm)]
 have m1 := (rw_all (nn := nn) hk).mpr h1
 have m2 := (rw_all (nn := nn) hk).mpr h2
 have swsw : ∀ w, sw (sw w) = w := fun w => by
  by_cases e1 : w = one
  ·rw [e1, sw1, sw2]
  ·by_cases e2 : w = two
   ·rw [e2, sw2, sw1]
   ·rw [sw3 w e1 e2, sw3 w e1 e2]
 have swm : ∀ w ∈ Wd.allW kn nn, sw w ∈ Wd.allW kn nn := fun w hw => by
  by_cases e1 : w = one
  ·rw [e1, sw1]; exact m2
  ·by_cases e2 : w = two
   ·rw [e2, sw2]; exact m1
   ·rw [sw3 w e1 e2]; exact hw
 have hsp : ((Wd.allW kn nn).map sw).Perm (Wd.allW kn nn) := by
  refine (List.perm_ext_iff_of_nodup ?_ hnd).mpr fun x => ⟨fun hx => ?_, fun hx => List.mem_map.mpr ⟨sw x, swm x hx, swsw x⟩⟩
  ·exact List.pairwise_map.mpr (hnd.imp fun {p q} hab e => hab (by rw [← swsw p, e, swsw]))
  ·obtain ⟨y, hy, rfl⟩ := List.mem_map.mp hx
   exact swm y hy
 refine ⟨hnd, ?_⟩
 rw [List.map_congr_left key]
 have := (hsp.map (nextF t kn)).trans hf.pm
 rwa [List.map_map] at this

noncomputable def spRowW : Sp := fun vs H Q _ => ∃ (t : List Nat) (n : Nat), vs = [T t, .int (n : Nat)] ∧ (t.length ≤ 5000 ∧ 1 ≤ n ∧ n ≤ 5000) ∧ ∀ D H', H D = none → Same H H' → H' D = some (.lst ((Wd.rowW t n).map T)) → Q (.ref D) H'
theorem ok_row_windows {f : Addr} {fd : FuncData} (F : Fun K "row_windows" "row_windows" s_row_windows f fd) (tt : Txt K mg ad) : FnOk P w K mg base (CX1 P w) 1 f fd ["text", "length"] spRowW := by
 refine F.okN sc_row_windows (fun vs H Q E h => ?_) (fun cdv A outer s H vs Q E hr h => ?_)
 ·obtain ⟨t, n, rfl, _⟩ := h
  rfl
 ·obtain ⟨t, n, rfl, hn, q⟩ := h
  have hs : sizeLine = 16777216 := sizeLine_eq
  refine ⟨_, (pss_one (ps_ret (pe_comp cs_row_windows_0 rfl (pi_range1 (by rfl) tt.b_range (pa_cons (pe_op op_add (pe_op op_sub (pe_callB call_len_T (by rfl) tt.b_len PySem.boot_len (pa_cons (pv 0) pa_nil)) (pv 1)) pe_int) pa_nil)) (fun cl C s' H' fp => (pe_slice sl_T (pv 1) (po_some (pv 0)) (po_some (pe_op op_add (pv 0) (pv 2)))))))), ?_⟩
  (try rw [cxK2]); (try rw [cxK1])
  refine ⟨_, rfl, _, rfl, (by omega), _, rfl, _, _, rfl, rfl, _, _, rfl, rfl, _, rfl, by omega, by omega, ?_⟩
  have en : (((t.length : Nat) : Int) - ((n : Nat) : Int) + 1).toNat = t.length + 1 - n := by omega
  rw [en]
  refine comp_range (lo := 0) (n := t.length + 1 - n) (fun i => T (Wd.ringAt t n i)) (by omega) (fun i H4 hi s4 N hN => ?_) fun D H4 hD s4 hd4 => ?_
  ·refine ⟨_, rfl, _, rfl, _, rfl, _, rfl, _, rfl, _, _, rfl, rfl, _, rfl, _, rfl, by omega, ?_⟩
   have e : cutL t (some (0 + (i : Int))) (some (0 + (i : Int) + ((n : Nat) : Int))) = Wd.ringAt t n i := by
    rw [Int.zero_add, ← Int.natCast_add, cutL_mid (by omega) (by omega), Nat.add_sub_cancel_left]
    exact Wd.row_at (by omega)
   rw [e]
   exact hN H4 (Same.refl _)
  ·exact q D H4 hD s4 (by rw [hd4, Wd.rowW, List.map_map]; rfl)
noncomputable def spRingW : Sp := fun vs H Q _ => ∃ (t : List Nat) (n : Nat), vs = [T t, .int (n : Nat)] ∧ (t.length ≤ 5000 ∧ 1 ≤ n ∧ n ≤ 5000) ∧ ∀ D H', H D = none → Same H H' → H' D = some (.lst ((Wd.ringW t n).map T)) → Q (.ref D) H'
theorem ok_ring_windows {f : Addr} {fd : FuncData} (F : Fun K "ring_windows" "ring_windows" s_ring_windows f fd) (tt : Txt K mg ad) : FnOk P w K mg base (CX1 P w) 1 f fd ["text", "length"] spRingW := by
 refine F.okN sc_ring_windows (fun vs H Q E h => ?_) (fun cdv A outer s H vs Q E hr h => ?_)
 ·obtain ⟨t, n, rfl, _⟩ := h
  rfl
 ·obtain ⟨t, n, rfl, hn, q⟩ := h
  have hs : sizeLine = 16777216 := sizeLine_eq
  refine ⟨_, (pss_cons (ps_if (pt_cmpR op_eq_T (pv 0) (pe_strT [] (by decide +kernel)) (nomark _)) (pss_one (ps_ret (pe_lst pa_nil))) pss_nil)
   (pss_cons (ps_set (i := 2) sc_ring_windows.nd rfl (Or.inl rfl) (pe_callB call_len_T (by rfl) tt.b_len PySem.boot_len (pa_cons (pv 0) pa_nil)))
   (pss_cons (ps_set (i := 3) sc_ring_windows.nd rfl (Or.inr rfl) (pe_op op_mul_T (pv 0) (pe_op op_add (pe_op op_fdiv (pv 1) (pv 2)) pe_int)))
   (pss_one (ps_ret (pe_comp cs_ring_windows_0 rfl (pi_range1 (by rfl) tt.b_range (pa_cons (pv 2) pa_nil)) (fun cl C s' H' fp => (pe_slice sl_T (pv 4) (po_some (pv 0)) (po_some (pe_op op_add (pv 0) (pv 2))))))))))), ?_⟩
  (try rw [cxK2]); (try rw [cxK1])
  refine ⟨_, rfl, _, rfl, _, rfl, _, rfl, ?_⟩
  refine ite2 (fun h0 => ?_) (fun h0 => ?_)
  ·have e : t = [] := of_decide_eq_true h0
   subst e
   exact ⟨(by show 0 ≤ sizeLine; omega), fun D hD => q D _ hD (fun b o e => by rw [upd_ne (ne_of_none e hD)]; exact e) upd_same⟩
  ·have hne : t ≠ [] := fun z => h0 (decide_eq_true z)
   have hp : 0 < t.length := List.length_pos_iff.mpr hne
   have hdv : ((n : Nat) : Int) / ((t.length : Nat) : Int) + 2 = ((n / t.length + 2 : Nat) : Int) := by rw [← Int.natCast_ediv]; rfl
   have hdm : n / t.length * t.length + n % t.length = n := by rw [Nat.mul_comm]; exact Nat.div_add_mod n t.length
   have hml := Nat.mod_lt n hp
   have hdl : n / t.length ≤ n := Nat.div_le_self _ _
   have hcl : (n / t.length + 2) * t.length = n / t.length * t.length + 2 * t.length := by rw [Nat.add_mul]
   refine ⟨_, rfl, _, rfl, (by omega), ?_⟩
   refine ⟨_, rfl, _, rfl, _, rfl, _, _, rfl, rfl, ⟨by omega, by omega⟩, _, _, rfl, rfl, _, rfl, n / t.length + 2, congrArg V.int hdv, ⟨by omega, by omega⟩, ?_⟩
   refine ⟨_, rfl, _, rfl, by omega, by omega, ?_⟩
   rw [Int.toNat_natCast]
   refine comp_range (lo := 0) (n := t.length) (fun i => T (Wd.ringAt t n i)) (by omega) (fun i H4 hi s4 N hN => ?_) fun D H4 hD s4 hd4 => ?_
   ·refine ⟨_, rfl, _, rfl, _, rfl, _, rfl, _, rfl, _, _, rfl, rfl, _, rfl, _, rfl, (by rw [Wd.rep_len]; omega), ?_⟩
    have e : cutL (Wd.rep (n / t.length + 2) t) (some (0 + (i : Int))) (some (0 + (i : Int) + ((n : Nat) : Int))) = Wd.ringAt t n i := by
     rw [show 0 + (i : Int) + ((n : Nat) : Int) = ((i + n : Nat) : Int) by omega, Int.zero_add, cutL_mid (by rw [Wd.rep_len]; omega) (by omega), show i + n - i = n by omega]
     exact Wd.ring_at (by omega) hp
    rw [e]
    exact hN H4 (Same.refl _)
   ·exact q D H4 hD s4 (by rw [hd4, Wd.ringW, List.map_map]; rfl)
noncomputable def spWin : Sp := fun vs H Q _ => ∃ (t : List Nat) (n : Nat) (b : Bool), vs = [T t, .int (n : Nat), .bl b] ∧ (t.length ≤ 5000 ∧ 1 ≤ n ∧ n ≤ 5000) ∧ ∀ D H', H D = none → Same H H' → H' D = some (.lst ((Wd.win t n b).map T)) → Q (.ref D) H'
theorem ok_windows {f : Addr} {fd : FuncData} (F : Fun K "windows" "windows" s_windows f fd) (tt : Txt K mg ad) (C_row_windows : Cal P w K mg base (CX1 P w) "row_windows" 1 ["text", "length"] spRowW) (C_ring_windows : Cal P w K mg base (CX1 P w) "ring_windows" 1 ["text", "length"] spRingW) :
  FnOk P w K mg base (CX1 P w) 2 f fd ["text", "length", "ring"] spWin := by
 refine F.okN sc_windows (fun vs H Q E h => ?_) (fun cdv A outer s H vs Q E hr h => ?_)
 ·obtain ⟨t, n, b, rfl, _⟩ := h
  rfl
 ·obtain ⟨t, n, b, rfl, hn, q⟩ := h
  refine ⟨_, (pss_cons (ps_if (pt_val (pv 2)) (pss_one (ps_ret (pe_cal C_ring_windows hr pass1 (pa_cons (pv 0) (pa_cons (pv 1) pa_nil))))) pss_nil)
   (pss_one (ps_ret (pe_cal C_row_windows hr pass1 (pa_cons (pv 0) (pa_cons (pv 1) pa_nil)))))), ?_⟩
  (try rw [cxK2]); (try rw [cxK1])
  refine ⟨_, rfl, _, rfl, ?_⟩
  refine ite2 (fun h0 => ?_) (fun h0 => ?_)
  ·rw [Wd.win, if_pos h0] at q
   exact ⟨_, rfl, _, rfl, t, n, rfl, hn, q⟩
  ·rw [Wd.win, if_neg h0] at q
   exact ⟨_, rfl, _, rfl, t, n, rfl, hn, q⟩

noncomputable def AllR (r : List Nat) (nn kn : Nat) : Prop := (Wd.ringW r nn).Perm (Wd.allW kn nn)
theorem ringW_head {r : List Nat} {n : Nat} (hn : 1 ≤ n) {i c : Nat} (hi : r[i]? = some c) : ∃ w ∈ Wd.ringW r n, c ∈ w := by
 have hil := (List.getElem?_eq_some_iff.mp hi).1
 refine ⟨Wd.ringAt r n i, List.mem_map.mpr ⟨i, List.mem_range.mpr hil, rfl⟩, ?_⟩
 have h0 := Wd.ringAt_get (t := r) (n := n) (i := i) (k := 0) (by omega) (by omega)
 rw [Nat.add_zero, Nat.mod_eq_of_lt hil, hi] at h0
 exact List.mem_of_getElem? h0
theorem first_ix {a : List Nat} : ∀ {ls : List (List Nat)}, a ∈ ls → ∃ j : Nat, ls[j]? = some a ∧ ∀ i, i < j → ls[i]? ≠ some a
 | x :: ls, h => by
  by_cases e : x = a
  ·exact ⟨0, by rw [e]; rfl, fun i hi => absurd hi (by omega)⟩
  ·obtain ⟨j, h1, h2⟩ := first_ix (ls := ls) ((List.mem_cons.mp h).resolve_left fun z => e z.symm)
   refine ⟨j + 1, h1, fun i hi => ?_⟩
   cases i with
   | zero => exact fun z => e (Option.some.inj z)
   | succ i => exact h2 i (by omega)
open Classical in
noncomputable def fix (ls : List (List Nat)) (a : List Nat) : Nat := if h : a ∈ ls then Classical.choose (first_ix h) else 0
theorem fix_ok {ls : List (List Nat)} {a : List Nat} (h : a ∈ ls) : ls[fix ls a]? = some a ∧ ∀ i, i < fix ls a → ls[i]? ≠ some a := by
 unfold fix
 rw [dif_pos h]
 exact Classical.choose_spec (first_ix h)
noncomputable def spMadeOf (C : Addr) (ad : Adr) : Sp := fun vs H Q E => ∃ (r : List Nat) (n k : Int), vs = [T r, .int n, .int k] ∧ r.length ≤ 5000 ∧ (¬ (1 ≤ k ∧ k ≤ 6) → E (.ref ad.BadKinds) none H) ∧ ((1 ≤ k ∧ k ≤ 6) → ¬ (1 ≤ n ∧ n ≤ 8) → E (.ref ad.BadWord) none H) ∧
 ∀ kn nn : Nat, k = (kn : Nat) → n = (nn : Nat) → (1 ≤ kn ∧ kn ≤ 6) → (1 ≤ nn ∧ nn ≤ 8) → (64 < kn ^ nn → E (.ref ad.TooMany) none H) ∧ (kn ^ nn ≤ 64 → ¬ AllR r nn kn → ∀ H', Same H H' → E (.ref ad.NotOne) none H') ∧
  (kn ^ nn ≤ 64 → AllR r nn kn → ∀ (y : Addr) (t : List Nat) (H' : Hp), Same H H' → t = ((Wd.allW kn nn).map fun w => r.getD ((fix (Wd.ringW r nn) w + nn) % r.length) 0) → TellOk t nn kn → RuleAt C H' y nn kn t → Q (.ref y) H')
theorem ok_made_of {f : Addr} {fd : FuncData} (F : Fun K "made_of" "made_of" s_made_of f fd) (tt : Txt K mg ad) (C_looked_size : Cal P w K mg base (CX1 P w) "looked_size" 2 ["length", "kinds"] (spSizeX ad)) (C_all_words : Cal P w K mg base (CX1 P w) "all_words" 3 ["length", "kinds"] (spAllX ad)) (C_windows : Cal P w K mg base (CX1 P w) "windows" 2 ["text", "length", "ring"] spWin) (C_Rule_init : Cam P w K mg base (CX1 P w) "Rule" ad.Rule 4 ["self", "length", "kinds", "told"] (spRuleI ad.Rule ad)) :
  FnOk P w K mg base (CX1 P w) 6 f fd ["ring", "length", "kinds"] (spMadeOf ad.Rule ad) := by
 refine F.okX sc_made_of (fun vs H Q E h => ?_) (fun cdv A outer s H vs Q E hr h => ?_)
 ·obtain ⟨r, n, k, rfl, _⟩ := h
  rfl
 ·obtain ⟨r, n, k, rfl, hr5, x1, x2, q⟩ := h
  have hs : sizeLine = 16777216 := sizeLine_eq
  have hu := Nat.lt_of_succ_lt (hu_of hr)
  refine ⟨_, (pss_cons (ps_expr (pe_cal C_looked_size hr passX (pa_cons (pv 1) (pa_cons (pv 2) pa_nil))))
   (pss_cons (ps_set (i := 3) sc_made_of.nd rfl (Or.inl rfl) (pe_cal C_all_words hr passX (pa_cons (pv 1) (pa_cons (pv 2) pa_nil))))
   (pss_cons (ps_set (i := 4) sc_made_of.nd rfl (Or.inr rfl) (pe_cal C_windows hr pass1 (pa_cons (pv 0) (pa_cons (pv 1) (pa_cons pe_bl pa_nil)))))
   (pss_cons (ps_if (pt_cmpR (op_ne_LT hu) (pe_callB call_sortedA (by rfl) tt.b_sorted PyProof.Rows.boot_sorted (pa_cons (pv 4) pa_nil)) (pv 3) (nomark _)) (pss_one (ps_raise (E := fun cls H' => E cls none H') tt.x_NotOne rfl (fun _ _ _ _ _ _ _ I hx q => raiseX I hx q) (pa_cons (pe_strT [110, 111, 116, 32, 101, 97, 99, 104, 32, 119, 111, 114, 100, 32, 111, 102, 32, 116, 104, 101, 32, 108, 101, 110, 103, 116, 104, 32, 115, 116, 97, 110, 100, 115, 32, 106, 117, 115, 116, 32, 111, 110, 99, 101, 32, 105, 110, 32, 116, 104, 101, 32, 114, 105, 110, 103] (by decide +kernel)) pa_nil))) pss_nil)
   (pss_cons (ps_setComp (i := 5) cs_made_of_0 rfl (pi_list (pv 3)) (fun cl C s' H' fp => (pe_ix ix_T (pv 1) (pe_op op_mod (pe_op op_add (pe_bmK K rfl PySem.F.plainAttrs_list PySem.F.slot_list_index PySem.F.type_list_index (mt_indexTK K rfl) (pv 5) (pa_cons (pv 0) pa_nil)) (pv 2)) (pe_callB call_len_T (by rfl) tt.b_len PySem.boot_len (pa_cons (pv 1) pa_nil))) (fun _ _ => rfl))) sc_made_of.nd rfl rfl)
   (pss_one (ps_ret (pe_mak C_Rule_init hr passX (pa_cons (pv 1) (pa_cons (pv 2) (pa_cons (pe_bm PySem.F.plainAttrs_str PySem.F.slot_str_join PySem.F.type_str_join mt_join (pe_strT [] (by decide +kernel)) (pa_cons (pv 5) pa_nil)) pa_nil))))))))))), ?_⟩
  (try rw [cxK2]); (try rw [cxK1])
  refine ⟨_, rfl, _, rfl, n, k, rfl, x1, x2, fun kn nn ek en hk hn => ?_⟩
  subst ek en
  obtain ⟨q1, q2, q3⟩ := q kn nn rfl rfl hk hn
  refine ⟨q1, fun h64 => ?_⟩
  refine ⟨_, rfl, _, rfl, _, _, rfl, fun z => absurd (by omega) z, fun _ z => absurd (by omega) z, fun kn' nn' ek en _ _ => ?_⟩
  obtain rfl : kn = kn' := by omega
  obtain rfl : nn = nn' := by omega
  refine ⟨fun z => absurd z (by omega), fun _ D1 H1 hD1 s1 hd1 => ?_⟩
  refine ⟨_, rfl, _, rfl, r, nn, true, rfl, ⟨hr5, by omega, by omega⟩, fun D2 H2 hD2 s2 hd2 => ?_⟩
  have hd2 : H2 D2 = some (.lst ((Wd.ringW r nn).map T)) := hd2
  refine ⟨_, rfl, D2, Wd.ringW r nn, rfl, SqL.of hd2, fun qs D3 hD3 hp3 hw3 => ?_⟩
  have t3 := same_upd (o := .lst (qs.map T)) hD3
  refine ⟨_, rfl, D3, D1, qs, Wd.allW kn nn, rfl, rfl, SqL.of upd_same, SqL.of ((s2.trans t3) D1 _ hd1), _, rfl, ?_⟩
  have s13' := s1.trans (s2.trans t3)
  by_cases he : qs = Wd.allW kn nn
  case neg =>
   refine itP (by rw [decide_eq_false he]; rfl) ?_
   exact ⟨(by show 1 ≤ sizeLine; omega), q2 h64 (fun z => he (Wd.sorted_same (hp3.trans z) hw3 (allW_pw (by omega)))) _ s13'⟩
  refine itN (by rw [decide_eq_true he]; exact Bool.false_ne_true) ?_
  have hall : AllR r nn kn := by unfold AllR; rw [← he]; exact hp3.symm
  obtain ⟨H3, hH3, s23, hd3⟩ := namedD t3
  rw [← hH3]
  have s13 := s1.trans (s2.trans s23)
  have hd13 : H3 D1 = some (.lst ((Wd.allW kn nn).map T)) := (s2.trans s23) D1 _ hd1
  have hd23 : H3 D2 = some (.lst ((Wd.ringW r nn).map T)) := s23 D2 _ hd2
  have hrl : r.length = kn ^ nn := by
   have := hall.length_eq
   rw [Wd.ringW_len, Wd.allW_len] at this
   exact this
  have hp0 : 0 < kn ^ nn := Nat.pow_pos (by omega)
  refine ⟨_, rfl, D1, rfl, ⟨_, SqL.of hd13⟩, ?_⟩
  refine compG (fun v => T [r.getD ((fix (Wd.ringW r nn) (unT v) + nn) % r.length) 0]) (reads_list (SqL.of hd13)) (by rw [List.length_map, Wd.allW_len]; omega) (fun v H4 hv s4 N hN => ?_) fun D5 H5 hD5 s5 hd5 => ?_
  ·obtain ⟨wd, hwd, rfl⟩ := List.mem_map.mp hv
   have g := hN H4 (Same.refl _)
   rw [unT_T] at g
   obtain ⟨f1, f2⟩ := fix_ok (hall.mem_iff.mpr hwd)
   have hlt : (fix (Wd.ringW r nn) wd + nn) % r.length < r.length := Nat.mod_lt _ (by omega)
   have hat : atI r ((((fix (Wd.ringW r nn) wd : Nat) : Int) + ((nn : Nat) : Int)) % ((r.length : Nat) : Int)) = some (r.getD ((fix (Wd.ringW r nn) wd + nn) % r.length) 0) := by
    rw [← Int.natCast_add, ← Int.natCast_emod]
    refine atI_nat ?_
    rw [List.getD_eq_getElem?_getD, List.getElem?_eq_getElem hlt]
    rfl
   exact ⟨_, rfl, _, rfl, .inl ⟨rfl, _, SqL.of (s4 D2 _ hd23)⟩, _, rfl, D2, _, wd, _, rfl, rfl, SqL.of (s4 D2 _ hd23), f1, f2, _, rfl, _, _, rfl, rfl, _, rfl, _, rfl, (by omega), _, _, rfl, rfl, (by show (0 : Int) < ((r.length : Nat) : Int); omega), _, rfl, _, rfl, (by omega), _, hat, g⟩
  have hd5 : H5 D5 = some (.lst ((((Wd.allW kn nn).map fun w => r.getD ((fix (Wd.ringW r nn) w + nn) % r.length) 0).map fun c => [c]).map T)) := by
   rw [hd5, List.map_map, List.map_map, List.map_map]
   refine congrArg (fun l => some (HO.lst l)) (List.map_congr_left fun m _ => ?_)
   show T [r.getD ((fix (Wd.ringW r nn) (unT (T m)) + nn) % r.length) 0] = _
   rw [unT_T]
   rfl
  have hto : TellOk ((Wd.allW kn nn).map fun w => r.getD ((fix (Wd.ringW r nn) w + nn) % r.length) 0) nn kn := ⟨by rw [List.length_map, Wd.allW_len], fun c hc => by
   obtain ⟨wd, hwd, rfl⟩ := List.mem_map.mp hc
   have hlt : (fix (Wd.ringW r nn) wd + nn) % r.length < r.length := Nat.mod_lt _ (by omega)
   obtain ⟨u, hu', hcu⟩ := ringW_head (r := r) (n := nn) hn.1 (i := (fix (Wd.ringW r nn) wd + nn) % r.length) (c := r.getD ((fix (Wd.ringW r nn) wd + nn) % r.length) 0) (by rw [List.getD_eq_getElem?_getD, List.getElem?_eq_getElem hlt]; rfl)
   exact ((Wd.mem_allW (by omega)).mp (hall.mem_iff.mp hu')).2 _ hcu⟩
  obtain ⟨t, ht⟩ : ∃ t, t = ((Wd.allW kn nn).map fun w => r.getD ((fix (Wd.ringW r nn) w + nn) % r.length) 0) := ⟨_, rfl⟩
  rw [← ht] at hd5 hto
  have htl := hto.1
  refine ⟨_, rfl, _, rfl, rfl, _, rfl, rfl, D5, _, rfl, SqL.of hd5, (by rw [signs_flat]; omega), ?_⟩
  rw [signs_flat]
  intro y dy ny ndy ney
  refine ⟨y, dy, _, _, t, rfl, upd_same, (by omega), fun z => absurd (by omega) z, fun _ z => absurd (by omega) z, fun kn' nn' ek en _ _ => ?_⟩
  obtain rfl : kn = kn' := by omega
  obtain rfl : nn = nn' := by omega
  refine ⟨fun z => absurd z (by omega), fun _ z => absurd hto z, fun _ _ H' keep hy => ⟨rfl, ?_⟩⟩
  refine q3 h64 hall y t H' (fun c o e => keep c o ?_ ?_) ht hto ⟨dy, hy⟩
  ·have := (s13.trans s5) c o e
   rw [upd_ne (ne_of_none this ny), upd_ne (ne_of_none this ndy)]
   exact this
  ·exact ne_of_none ((s13.trans s5) c o e) ny

noncomputable def spWR (C : Addr) : Sp := fun vs H Q _ => ∃ (x : Addr) (nn kn : Nat) (t wd : List Nat), vs = [.ref x, T wd] ∧ RuleAt C H x nn kn t ∧ SizeOk nn kn ∧ TellOk t nn kn ∧ FairR t nn kn ∧ RW wd nn kn ∧
 ∀ (p : Nat) (D : Addr) (H' : Hp), Wd.Peri (nextF t kn) wd p → H D = none → Same H H' → H' D = some (.lst ((Wd.orb (nextF t kn) wd p).map T)) → Q (.ref D) H'
theorem ok_words_round {f : Addr} {fd : FuncData} (F : Fun K "words_round" "words_round" s_words_round f fd) (tt : Txt K mg ad) (C_next_word : Cal P w K mg base (CX1 P w) "next_word" 5 ["rule", "word"] (spNextW ad.Rule ad)) :
  FnOk P w K mg base (CX1 P w) 6 f fd ["rule", "word"] (spWR ad.Rule) := by
 refine F.okN sc_words_round (fun vs H Q E h => ?_) (fun cdv A outer s H vs Q E hr h => ?_)
 ·obtain ⟨x, nn, kn, t, wd, rfl, _⟩ := h
  rfl
 ·obtain ⟨x, nn, kn, t, wd, rfl, hR, hz, hto, hf, hw, q⟩ := h
  have hs : sizeLine = 16777216 := sizeLine_eq
  obtain ⟨hk, hn, h64⟩ := id hz
  have hmem : wd ∈ Wd.allW kn nn := (rw_all (by omega)).mpr hw
  have hrw : ∀ k, RW (Wd.it (nextF t kn) k wd) nn kn := fun k => (rw_all (by omega)).mp (hf.it_mem hmem k)
  have hle : ∀ {p : Nat}, Wd.OrbOk (nextF t kn) wd p → p ≤ kn ^ nn := fun ho => by have := ho.le hf hmem; rwa [Wd.allW_len] at this
  refine ⟨_, (pss_cons (ps_set (i := 2) sc_words_round.nd rfl (Or.inl rfl) (pe_lst (pa_cons (pv 1) pa_nil)))
   (pss_cons (ps_set (i := 3) sc_words_round.nd rfl (Or.inl rfl) (pe_cal C_next_word hr pass1 (pa_cons (pv 0) (pa_cons (pv 1) pa_nil))))
   (pss_cons (ps_while PassesOwn.never (pt_cmpR op_ne_T (pv 3) (pv 1) (nomark _)) (pss_cons (ps_expr (pe_bm PySem.F.plainAttrs_list PySem.F.slot_list_append PySem.F.type_list_append mt_append (pv 2) (pa_cons (pv 3) pa_nil)))
   (pss_one (ps_set (i := 3) sc_words_round.nd rfl (Or.inl rfl) (pe_cal C_next_word hr pass1 (pa_cons (pv 0) (pa_cons (pv 3) pa_nil)))))))
   (pss_one (ps_ret (pv 2)))))), ?_⟩
  (try rw [cxK2]); (try rw [cxK1])
  refine ⟨_, rfl, (by show 1 ≤ sizeLine; omega), fun G hG => ?_⟩
  have s1 := same_upd (o := .lst [T wd]) hG
  refine ⟨_, rfl, _, rfl, x, nn, kn, t, wd, rfl, hR.on s1, hz, hto, (by have := hw.1; omega), fun _ c hc => ?_, fun z => absurd hw z⟩
  rw [told_at hto hw] at hc
  obtain rfl := Option.some.inj hc
  refine ⟨fun m σ H2 => ∃ p : Nat, 1 ≤ p ∧ m = kn ^ nn + 1 - p ∧ Wd.OrbOk (nextF t kn) wd p ∧ Same H H2 ∧ H2 G = some (.lst ((Wd.orb (nextF t kn) wd p).map T)) ∧ σ = [some (.ref x), some (T wd), some (.ref G), some (T (Wd.it (nextF t kn) p wd))], ⟨_, 1, Nat.le_refl _, rfl, Wd.OrbOk.one, s1, upd_same, rfl⟩, ?_⟩
  rintro m σ H2 ⟨p, hp, hm, ho, s2, hg, rfl⟩
  have hple := hle ho
  refine ⟨_, rfl, _, rfl, _, rfl, _, rfl, _, rfl, ?_⟩
  by_cases e : Wd.it (nextF t kn) p wd = wd
  ·refine itN (by rw [decide_eq_true e]; exact Bool.false_ne_true) ?_
   exact ⟨_, rfl, q p G H2 ⟨hp, e, ho⟩ hG s2 hg⟩
  ·refine itP (by rw [decide_eq_false e]; rfl) ?_
   have ho2 := ho.more hf hmem e
   have hple2 := hle ho2
   refine ⟨_, fun σ' H' z => z, ?_⟩
   refine ⟨_, rfl, .inl ⟨rfl, _, SqL.of hg⟩, _, rfl, G, _, _, rfl, rfl, hg, (by rw [List.length_map, Wd.orb_len]; omega), ?_⟩
   have s3 : Same H (upd H2 G (.lst ((Wd.orb (nextF t kn) wd p).map T ++ [T (Wd.it (nextF t kn) p wd)]))) := fun b o e => by rw [upd_ne (ne_of_none e hG)]; exact s2 b o e
   refine ⟨_, rfl, _, rfl, x, nn, kn, t, _, rfl, hR.on s3, hz, hto, (by have := (hrw p).1; omega), fun _ c hc => ?_, fun z => absurd (hrw p) z⟩
   rw [told_at hto (hrw p)] at hc
   obtain rfl := Option.some.inj hc
   refine ⟨kn ^ nn + 1 - (p + 1), by omega, p + 1, by omega, rfl, ho2, s3, ?_, rfl⟩
   rw [upd_same, Wd.orb_snoc, List.map_append]
   rfl
noncomputable def spTR (K : PySem.W.Frag) : Sp := fun vs H Q _ => ∃ (D : Addr) (ls : List (List Nat)), vs = [.ref D] ∧ SqL K H D (ls.map T) ∧ ls.length ≤ 1000 ∧ (∀ y ∈ ls, 1 ≤ y.length ∧ y.length ≤ 1000) ∧ ∀ H', Same H H' → Q (T (ls.map fun y => y.headD 97)) H'
theorem ok_told_round {f : Addr} {fd : FuncData} (F : Fun K "told_round" "told_round" s_told_round f fd) (tt : Txt K mg ad) : FnOk P w K mg base (CX1 P w) 1 f fd ["words"] (spTR K) := by
 refine F.okN sc_told_round (fun vs H Q E h => ?_) (fun cdv A outer s H vs Q E hr h => ?_)
 ·obtain ⟨D, ls, rfl, _⟩ := h
  rfl
 ·obtain ⟨D, ls, rfl, hS, hl, hy, q⟩ := h
  have hs : sizeLine = 16777216 := sizeLine_eq
  refine ⟨_, (pss_one (ps_ret (pe_bm PySem.F.plainAttrs_str PySem.F.slot_str_join PySem.F.type_str_join mt_join (pe_strT [] (by decide +kernel)) (pa_cons (pe_comp cs_told_round_0 rfl (pi_list (pv 0)) (fun cl C s' H' fp => (pe_ix ix_T (pv 0) pe_int (fun _ _ => rfl)))) pa_nil)))), ?_⟩
  (try rw [cxK2]); (try rw [cxK1])
  refine ⟨rfl, _, rfl, D, rfl, ⟨_, hS⟩, ?_⟩
  refine compG (fun v => T [(unT v).headD 97]) (reads_list hS) (by rw [List.length_map]; omega) (fun v H2 hv s2 N hN => ?_) fun D2 H2 hD2 s2 hd2 => ?_
  ·obtain ⟨wd, hwd, rfl⟩ := List.mem_map.mp hv
   have hw := hy wd hwd
   have g := hN H2 (Same.refl _)
   rw [unT_T] at g
   have h0 : atI wd 0 = some (wd.headD 97) := by
    cases wd with
    | nil => simp at hw
    | cons c r => exact atI_nat (j := 0) rfl
   exact ⟨_, rfl, _, rfl, _, rfl, (by omega), _, h0, g⟩
  have hd2 : H2 D2 = some (.lst (((ls.map fun w => w.headD 97).map fun c => [c]).map T)) := by
   rw [hd2, List.map_map, List.map_map, List.map_map]
   refine congrArg (fun l => some (HO.lst l)) (List.map_congr_left fun m _ => ?_)
   show T [(unT (T m)).headD 97] = T [m.headD 97]
   rw [unT_T]
  refine ⟨rfl, D2, _, rfl, SqL.of hd2, (by rw [signs_flat, List.length_map]; omega), ?_⟩
  rw [signs_flat]
  exact q H2 s2

theorem mem_addT {ls : List (List Nat)} {t y : List Nat} : y ∈ Hg.addT ls t ↔ y ∈ ls ∨ y = t := by
 unfold Hg.addT
 by_cases h : t ∈ ls
 ·rw [if_pos h]
  exact ⟨.inl, fun z => z.elim id fun e => e ▸ h⟩
 ·rw [if_neg h, List.mem_append, List.mem_singleton]
theorem addT_nd {ls : List (List Nat)} {t : List Nat} (hn : ls.Nodup) : (Hg.addT ls t).Nodup := by
 unfold Hg.addT
 by_cases h : t ∈ ls
 ·rw [if_pos h]; exact hn
 ·rw [if_neg h]
  exact List.nodup_append.mpr ⟨hn, by simp, fun a ha b hb => by simp at hb; subst hb; exact fun z => h (z ▸ ha)⟩
noncomputable def spRounds (C : Addr) (ad : Adr) : Sp := fun vs H Q E => ∃ (x : Addr) (nn kn : Nat) (t : List Nat), vs = [.ref x] ∧ RuleAt C H x nn kn t ∧ SizeOk nn kn ∧ TellOk t nn kn ∧ (¬ FairR t nn kn → ∀ H', Same H H' → E (.ref ad.BadRule) none H') ∧
 (FairR t nn kn → ∀ (D : Addr) (qs : List (List Nat)) (H' : Hp), H D = none → Same H H' → qs.Perm (Wd.rounds (nextF t kn) (Wd.allW kn nn)) → qs.Pairwise (fun a b => ¬ b < a) → H' D = some (.lst (qs.map T)) → Q (.ref D) H')
theorem ok_rounds {f : Addr} {fd : FuncData} (F : Fun K "rounds" "rounds" s_rounds f fd) (tt : Txt K mg ad) (C_looked_fair : Cal P w K mg base (CX1 P w) "looked_fair" 7 ["rule"] (spLFair ad.Rule ad)) (C_all_words : Cal P w K mg base (CX1 P w) "all_words" 3 ["length", "kinds"] (spAllX ad)) (C_words_round : Cal P w K mg base (CX1 P w) "words_round" 6 ["rule", "word"] (spWR ad.Rule)) (C_told_round : Cal P w K mg base (CX1 P w) "told_round" 1 ["words"] (spTR K)) :
  FnOk P w K mg base (CX1 P w) 8 f fd ["rule"] (spRounds ad.Rule ad) := by
 refine F.okX sc_rounds (fun vs H Q E h => ?_) (fun cdv A outer s H vs Q E hr h => ?_)
 ·obtain ⟨x, nn, kn, t, rfl, _⟩ := h
  rfl
 ·obtain ⟨x, nn, kn, t, rfl, hR, hz, hto, qe, q⟩ := h
  have hs : sizeLine = 16777216 := sizeLine_eq
  obtain ⟨hk, hn, h64⟩ := id hz
  have hok : ∀ w ∈ Wd.allW kn nn, RW w nn kn := fun w hw => (rw_all (by omega)).mp hw
  have hLl : (Wd.allW kn nn).length = kn ^ nn := Wd.allW_len ..
  have hLs : (Wd.allW kn nn).Pairwise (· < ·) := Wd.allW_sorted (by omega)
  refine ⟨_, (pss_cons (ps_expr (pe_cal C_looked_fair hr passX (pa_cons (pv 0) pa_nil)))
   (pss_cons (ps_set (i := 1) sc_rounds.nd rfl (Or.inl rfl) (pe_lst pa_nil))
   (pss_cons (ps_set (i := 2) sc_rounds.nd rfl (Or.inl rfl) pe_dnewK)
   (pss_cons (ps_for PassesOwn.leaving rfl (pi_list (pe_cal C_all_words hr passX (pa_cons (pe_fld (pv 0) rfl) (pa_cons (pe_fld (pv 0) rfl) pa_nil)))) (pg_name (i := 3) sc_rounds.nd rfl (Or.inl rfl)) (pss_one (ps_if (pt_cmp (pc_dnotin (hu_of hr) (pv 3) (pv 2))) (pss_cons (ps_set (i := 4) sc_rounds.nd rfl (Or.inl rfl) (pe_cal C_words_round hr pass1 (pa_cons (pv 0) (pa_cons (pv 3) pa_nil))))
   (pss_cons (ps_expr (pe_bm PySem.F.plainAttrs_list PySem.F.slot_list_append PySem.F.type_list_append mt_append (pv 1) (pa_cons (pe_cal C_told_round hr pass1 (pa_cons (pv 4) pa_nil)) pa_nil)))
   (pss_one (ps_for PassesOwn.leaving rfl (pi_list (pv 4)) (pg_name (i := 5) sc_rounds.nd rfl (Or.inl rfl)) (pss_one (ps_dput (hu_of hr) (pv 2) (pv 5) pe_bl rfl)))))) pss_nil)))
   (pss_one (ps_ret (pe_callB call_sortedA (by rfl) tt.b_sorted PyProof.Rows.boot_sorted (pa_cons (pv 1) pa_nil)))))))), ?_⟩
  (try rw [cxK2]); (try rw [cxK1])
  refine ⟨_, rfl, x, nn, kn, t, rfl, hR, hz, hto, fun hf H1 s1 => ?_, qe⟩
  have q := q hf
  refine ⟨(by show 0 ≤ sizeLine; omega), fun F hF => ?_⟩
  have s2 := same_upd (o := .lst []) hF
  intro M hM
  have s3 := same_upd (o := .dK []) hM
  have hFM : F ≠ M := fun z => by rw [z] at hM; rw [upd_same] at hM; cases hM
  have s13 := s1.trans (s2.trans s3)
  generalize hG : upd (upd H1 F (.lst [])) M (.dK []) = G at s3 s13
  have gF : G F = some (.lst []) := by rw [← hG, upd_ne hFM]; exact upd_same
  have gM : G M = some (.dK (tKs [] (.bl true))) := by rw [← hG]; exact upd_same
  obtain ⟨dx, hx⟩ := hR.on s13
  refine ⟨_, rfl, x, ad.Rule, dx, _, _, rfl, hx, tt.cl_Rule, tt.na_Rule_length, rflds_l _ _ _, _, rfl, x, ad.Rule, dx, _, _, rfl, hx, tt.cl_Rule, tt.na_Rule_kinds, rflds_k _ _ _, _, _, rfl, fun z => absurd (by omega) z, fun _ z => absurd (by omega) z, fun kn' nn' ek en _ _ => ?_⟩
  obtain rfl : kn = kn' := by omega
  obtain rfl : nn = nn' := by omega
  refine ⟨fun z => absurd z (by omega), fun _ D1 H2 hD1 s4 hd1 => ?_⟩
  have hDF : D1 ≠ F := fun z => by rw [z, gF] at hD1; cases hD1
  have hDM : D1 ≠ M := fun z => by rw [z, gM] at hD1; cases hD1
  have hHF : H F = none := by
   cases e : H F with
   | none => rfl
   | some o => have := s1 F o e; rw [hF] at this; cases this
  have hHM : H M = none := by
   cases e : H M with
   | none => rfl
   | some o => have := (s1.trans s2) M o e; rw [hM] at this; cases this
  refine ⟨D1, rfl, ⟨_, SqL.of hd1⟩, ?_⟩
  refine for_list (K := K) (a := D1) (xs := (Wd.allW kn nn).map T) (fun i σ H3 => Same H H3 ∧ H3 D1 = some (.lst ((Wd.allW kn nn).map T)) ∧ H3 F = some (.lst ((Wd.rounds (nextF t kn) ((Wd.allW kn nn).take i)).map T)) ∧
    (∃ ls : List (List Nat), H3 M = some (.dK (tKs ls (.bl true))) ∧ ls.Nodup ∧ (∀ y, y ∈ ls ↔ ∃ z ∈ (Wd.allW kn nn).take i, ∃ k, y = Wd.it (nextF t kn) k z)) ∧ ∃ v3 v4 v5 : Option V, σ = [some (.ref x), some (.ref F), some (.ref M), v3, v4, v5])
   ⟨s13.trans s4, hd1, by rw [s4 F _ gF]; rfl, ⟨[], s4 M _ gM, List.nodup_nil, fun y => ⟨fun z => by simp at z, fun ⟨z, hz, _⟩ => by simp at hz⟩⟩, none, none, none, rfl⟩ (fun i σ H3 _ h => SqL.of h.2.1) ?_ ?_
  ·rintro i v σ H3 hi ⟨s5, d5, f5, ⟨ls, m5, hnd, hls⟩, v3, v4, v5, rfl⟩
   obtain ⟨wd, hwd, rfl⟩ : ∃ wd, (Wd.allW kn nn)[i]? = some wd ∧ T wd = v := by rw [List.getElem?_map] at hi; exact Option.map_eq_some_iff.mp hi
   have hwm := List.mem_of_getElem? hwd
   have hwr := hok wd hwm
   have htk : (Wd.allW kn nn).take (i + 1) = (Wd.allW kn nn).take i ++ [wd] := by rw [List.take_add_one, hwd]; rfl
   have hmet := Wd.not_met hf hLs hwd
   have hlsl : ls.length ≤ kn ^ nn := by
    have := Wd.nodup_le ls (Wd.allW kn nn) hnd fun y hy => by
     obtain ⟨z, hz, k, rfl⟩ := (hls y).mp hy
     exact hf.it_mem (List.mem_of_mem_take hz) k
    omega
   have hdx : DGet H3 M (T wd) (if wd ∈ ls then some (.bl true) else none) := by have g := DGet.k (k := Sum.inr (tx wd)) m5; rwa [val_tKs] at g
   refine ⟨_, rfl, _, rfl, M, _, rfl, hdx, _, rfl, ?_⟩
   obtain ⟨p, hp⟩ := Wd.Peri.ex hf hwm
   by_cases hin : wd ∈ ls
   ·refine itN (by show ¬ (!(if wd ∈ ls then some (V.bl true) else none).isSome) = true; rw [if_pos hin]; exact Bool.false_ne_true) ?_
    have hno : ¬ Wd.LeastO (nextF t kn) wd := fun z => (hmet.mpr z) ((hls wd).mp hin)
    refine ⟨s5, d5, ?_, ⟨ls, m5, hnd, fun y => ?_⟩, _, _, _, rfl⟩
    ·rw [f5, htk, Wd.rounds_snoc, if_neg hno]
    ·rw [hls y, htk]
     constructor
     ·rintro ⟨z, hz, g⟩
      exact ⟨z, List.mem_append_left _ hz, g⟩
     ·rintro ⟨z, hz, k, g⟩
      rcases List.mem_append.mp hz with hz | hz
      ·exact ⟨z, hz, k, g⟩
      ·rw [List.mem_singleton.mp hz] at g
       obtain ⟨z', hz', k', g'⟩ := (hls wd).mp hin
       exact ⟨z', hz', k + k', by rw [g, Wd.it_add, ← g']⟩
   ·refine itP (by show (!(if wd ∈ ls then some (V.bl true) else none).isSome) = true; rw [if_neg hin]; rfl) ?_
    have hyes : Wd.LeastO (nextF t kn) wd := hmet.mp fun z => hin ((hls wd).mpr z)
    have hpl : p ≤ kn ^ nn := by have := hp.2.2.le hf hwm; omega
    refine ⟨_, rfl, _, rfl, x, nn, kn, t, wd, rfl, hR.on s5, hz, hto, hf, hwr, fun p' D6 H6 hp' hD6 s6 d6 => ?_⟩
    obtain rfl := hp.uniq hp'
    have f6 := s6 F _ f5
    refine ⟨_, rfl, .inl ⟨rfl, _, SqL.of f6⟩, _, rfl, D6, _, rfl, SqL.of d6, (by rw [Wd.orb_len]; omega), (fun y hy => ?_), fun H7 s7 => ?_⟩
    ·obtain ⟨k, _, rfl⟩ := Wd.orb_mem.mp hy
     have := (hok _ (hf.it_mem hwm k)).1
     omega
    have f7 := s7 F _ f6
    have hrl := Wd.rounds_len (nextF t kn) ((Wd.allW kn nn).take i)
    rw [List.length_take] at hrl
    refine ⟨F, _, _, rfl, rfl, f7, (by rw [List.length_map]; omega), ?_⟩
    have hD6F : D6 ≠ F := fun z => by rw [z, f5] at hD6; cases hD6
    have hD6M : D6 ≠ M := fun z => by rw [z, m5] at hD6; cases hD6
    have s8 : ∀ b o, b ≠ F → H3 b = some o → upd H7 F (.lst ((Wd.rounds (nextF t kn) ((Wd.allW kn nn).take i)).map T ++ [T ((Wd.orb (nextF t kn) wd p).map fun y => y.headD 97)])) b = some o := fun b o hb e => by rw [upd_ne hb]; exact (s6.trans s7) b o e
    generalize hG8 : upd H7 F (.lst ((Wd.rounds (nextF t kn) ((Wd.allW kn nn).take i)).map T ++ [T ((Wd.orb (nextF t kn) wd p).map fun y => y.headD 97)])) = G8 at s8
    have f8 : G8 F = some (.lst ((Wd.rounds (nextF t kn) ((Wd.allW kn nn).take (i + 1))).map T)) := by
     rw [← hG8, upd_same, htk, Wd.rounds_snoc, if_pos hyes, List.map_append, Wd.rdO, hp.perO]
     rfl
    have d8 : G8 D6 = some (.lst ((Wd.orb (nextF t kn) wd p).map T)) := by rw [← hG8, upd_ne hD6F]; exact s7 D6 _ d6
    refine ⟨_, rfl, D6, rfl, ⟨_, SqL.of d8⟩, ?_⟩
    refine for_list (K := K) (a := D6) (xs := (Wd.orb (nextF t kn) wd p).map T) (fun j σ H9 => (∀ b o, b ≠ M → G8 b = some o → H9 b = some o) ∧ (∃ ls' : List (List Nat), H9 M = some (.dK (tKs ls' (.bl true))) ∧ ls'.Nodup ∧ ls'.length ≤ ls.length + j ∧ ∀ y, y ∈ ls' ↔ y ∈ ls ∨ y ∈ (Wd.orb (nextF t kn) wd p).take j) ∧ ∃ v5 : Option V, σ = [some (.ref x), some (.ref F), some (.ref M), some (T wd), some (.ref D6), v5])
     ⟨fun b o _ e => e, ⟨ls, s8 M _ (fun z => hFM z.symm) m5, hnd, Nat.le_refl _, fun y => ⟨.inl, fun z => z.elim id fun z => by simp at z⟩⟩, _, rfl⟩ (fun j σ H9 _ h => SqL.of (h.1 D6 _ hD6M d8)) ?_ ?_
    ·rintro j v σ H9 hj ⟨k9, ⟨ls', m9, hnd', hll, hls'⟩, w5, rfl⟩
     obtain ⟨y, hy, rfl⟩ : ∃ y, (Wd.orb (nextF t kn) wd p)[j]? = some y ∧ T y = v := by rw [List.getElem?_map] at hj; exact Option.map_eq_some_iff.mp hj
     have hjp : j < p := by have := (List.getElem?_eq_some_iff.mp hy).1; rwa [Wd.orb_len] at this
     refine ⟨_, rfl, _, rfl, M, _, rfl, DPut.k (k := Sum.inr (tx y)) m9 (by rw [tKs_len]; omega), ?_⟩
     rw [put_tKs]
     have htk' : (Wd.orb (nextF t kn) wd p).take (j + 1) = (Wd.orb (nextF t kn) wd p).take j ++ [y] := by rw [List.take_add_one, hy]; rfl
     refine ⟨fun b o hb e => by rw [upd_ne hb]; exact k9 b o hb e, ⟨_, upd_same, addT_nd hnd', by have := Hg.addT_len ls' y; omega, fun z => ?_⟩, _, rfl⟩
     rw [mem_addT, hls' z, htk', List.mem_append, List.mem_singleton, or_assoc]
    ·rintro σ H9 ⟨k9, ⟨ls', m9, hnd', hll, hls'⟩, w5, rfl⟩
     rw [List.length_map, List.take_length] at hls'
     have hbF : ∀ b o, H b = some o → b ≠ F ∧ b ≠ M := fun b o e => ⟨(fun z => by rw [z, hHF] at e; cases e), (fun z => by rw [z, hHM] at e; cases e)⟩
     refine ⟨fun b o e => k9 b o (hbF b o e).2 (s8 b o (hbF b o e).1 (s5 b o e)), k9 D1 _ hDM (s8 D1 _ hDF d5), k9 F _ hFM f8, ⟨ls', m9, hnd', fun y => ?_⟩, _, _, _, rfl⟩
     rw [hls' y, hls y, htk, hp.mem]
     constructor
     ·rintro (⟨z, hz, g⟩ | ⟨k, g⟩)
      ·exact ⟨z, List.mem_append_left _ hz, g⟩
      ·exact ⟨wd, List.mem_append_right _ (List.mem_singleton.mpr rfl), k, g⟩
     ·rintro ⟨z, hz, k, g⟩
      rcases List.mem_append.mp hz with hz | hz
      ·exact .inl ⟨z, hz, k, g⟩
      ·exact .inr ⟨k, by rw [List.mem_singleton.mp hz] at g; exact g⟩
  ·rintro σ H3 ⟨s5, d5, f5, _, v3, v4, v5, rfl⟩
   rw [List.length_map, List.take_length] at f5
   refine ⟨_, rfl, F, _, rfl, SqL.of f5, fun qs D7 hD7 hp7 hw7 => ?_⟩
   have hD7H : H D7 = none := by
    cases e : H D7 with
    | none => rfl
    | some o => have := s5 D7 o e; rw [hD7] at this; cases this
   exact q D7 qs _ hD7H (s5.trans (same_upd hD7)) hp7 hw7 upd_same

theorem made_by {r t : List Nat} {nn kn : Nat} (hk : 1 ≤ kn) (hn : 1 ≤ nn) (hall : AllR r nn kn) (ht : t = ((Wd.allW kn nn).map fun w => r.getD ((fix (Wd.ringW r nn) w + nn) % r.length) 0)) : Wd.RingBy (nextF t kn) r nn (Wd.allW kn nn) := by
 have hnd := allW_nodup (k := kn) (n := nn) (by omega)
 have hrl : r.length = kn ^ nn := by
  have := hall.length_eq
  rw [Wd.ringW_len, Wd.allW_len] at this
  exact this
 have hp0 : 0 < kn ^ nn := Nat.pow_pos (by omega)
 refine ⟨by omega, hn, hnd, hall, fun i hi => ?_⟩
 have hm : Wd.ringAt r nn i ∈ Wd.ringW r nn := List.mem_map.mpr ⟨i, List.mem_range.mpr hi, rfl⟩
 have hw := (rw_all (by omega)).mp (hall.mem_iff.mp hm)
 obtain ⟨e1, e2⟩ := Wd.spell_num nn _ hw.1 hw.2
 have hfx : fix (Wd.ringW r nn) (Wd.ringAt r nn i) = i := by
  obtain ⟨f1, f2⟩ := fix_ok hm
  have hrn : (Wd.ringW r nn).Nodup := hall.nodup_iff.mpr hnd
  have hj := (List.getElem?_eq_some_iff.mp f1).1
  refine (List.getElem?_inj hj hrn).mp ?_
  rw [f1, Wd.ringW_get hi]
 have e : t.getD (Wd.num kn (Wd.ringAt r nn i)) 97 = r.getD ((i + nn) % r.length) 0 := by
  rw [ht, List.getD_eq_getElem?_getD, List.getElem?_map, Wd.allW_get e2, e1]
  show r.getD ((fix (Wd.ringW r nn) (Wd.ringAt r nn i) + nn) % r.length) 0 = _
  rw [hfx]
 unfold nextF
 rw [e, Wd.ringAt_next hn]
theorem mem_parts {k n : Nat} {u v : List Nat} (hn : 1 ≤ n ∧ n ≤ 8) (hk : k ≤ 6) (hu : RW u n k) (hv : RW v n k) (hd : v.drop 1 = u.drop 1) (hne : v ≠ u) : v ∈ parts k u := by
 cases u with
 | nil => have := hu.1; simp at this; omega
 | cons c r =>
  cases v with
  | nil => have := hv.1; simp at this; omega
  | cons d q =>
   have e : q = r := hd
   subst e
   unfold parts
   refine List.mem_map.mpr ⟨d, List.mem_filter.mpr ⟨(abc_mem hk).mpr (hv.2 d (List.mem_cons_self ..)), ?_⟩, rfl⟩
   rw [decide_eq_false (fun z => hne (congrArg (· :: q) (show d = c by simpa using z)))]
   rfl
theorem nextBy {t : List Nat} {nn kn : Nat} (hk : 1 ≤ kn) (hn : 1 ≤ nn) : Wd.NextBy (nextF t kn) (Wd.allW kn nn) nn := ⟨hn, fun w hw => ((rw_all (by omega)).mp hw).1, fun w hw => ⟨_, rfl⟩⟩
theorem parts_self {kn : Nat} {u : List Nat} : ¬ u ∈ parts kn u := fun h => by
 unfold parts at h
 obtain ⟨c, hc, e⟩ := List.mem_map.mp h
 have h2 := (List.mem_filter.mp hc).2
 rw [← e] at h2
 simp at h2
theorem swt_get {t : List Nat} {i j a b : Nat} (hij : i ≠ j) (hi : i < t.length) (hj : j < t.length) : (swt t i j a b)[i]? = some b ∧ (swt t i j a b)[j]? = some a ∧ ∀ m, m ≠ i → m ≠ j → (swt t i j a b)[m]? = t[m]? := by
 unfold swt
 refine ⟨?_, ?_, fun m h1 h2 => ?_⟩
 ·rw [List.getElem?_set_ne (fun z => hij z.symm), List.getElem?_set_self hi]
 ·rw [List.getElem?_set_self (by rw [List.length_set]; exact hj)]
 ·rw [List.getElem?_set_ne (fun z => h2 z.symm), List.getElem?_set_ne (fun z => h1 z.symm)]
theorem sw_next {t : List Nat} {nn kn i j a b : Nat} (hz : SizeOk nn kn) (hto : TellOk t nn kn) (hi : i < kn ^ nn) (hj : j < kn ^ nn) (hij : i ≠ j) (hd : (Wd.spell kn nn j).drop 1 = (Wd.spell kn nn i).drop 1) (ha : t[i]? = some a) (hb : t[j]? = some b) : Wd.Sw (nextF t kn) (nextF (swt t i j a b) kn) (Wd.allW kn nn) (Wd.spell kn nn i) (Wd.spell kn nn j) := by
 obtain ⟨hk, hn, h64⟩ := id hz
 have n1 := Wd.num_spell (k := kn) (by omega) nn i hi
 have n2 := Wd.num_spell (k := kn) (by omega) nn j hj
 have htl := hto.1
 obtain ⟨h1, h2, h3⟩ := swt_get (t := t) (a := a) (b := b) hij (by omega) (by omega)
 refine ⟨fun z => hij (by rw [← n1, z, n2]), List.mem_of_getElem? (Wd.allW_get hi), List.mem_of_getElem? (Wd.allW_get hj), ?_, ?_, fun y hy e1 e2 => ?_⟩
 ·unfold nextF
  rw [n1, n2, hd, List.getD_eq_getElem?_getD, List.getD_eq_getElem?_getD, h1, hb]
 ·unfold nextF
  rw [n1, n2, hd, List.getD_eq_getElem?_getD, List.getD_eq_getElem?_getD, h2, ha]
 ·unfold nextF
  have hr := (rw_all (by omega)).mp hy
  have hsp := (Wd.spell_num nn y hr.1 hr.2).1
  rw [List.getD_eq_getElem?_getD, List.getD_eq_getElem?_getD, h3 _ (fun z => e1 (by rw [← hsp, z])) (fun z => e2 (by rw [← hsp, z]))]

noncomputable def exT (kn : Nat) (t a b : List Nat) : List Nat := swt t (Wd.num kn a) (Wd.num kn b) (t.getD (Wd.num kn a) 97) (t.getD (Wd.num kn b) 97)
open Classical in
noncomputable def jst (kn : Nat) (s : List Nat × List (List Nat × List Nat)) (q : List Nat × List Nat) : List Nat × List (List Nat × List Nat) := if Wd.SO (nextF s.1 kn) q.1 q.2 then s else (exT kn s.1 q.1 q.2, s.2 ++ [q])
set_option genInjectivity false in
structure JOk (nn kn : Nat) (t : List Nat) (s : List Nat × List (List Nat × List Nat)) : Prop where
 tell : TellOk s.1 nn kn
 fair : FairR s.1 nn kn
 num : (Wd.rounds (nextF s.1 kn) (Wd.allW kn nn)).length + s.2.length = (Wd.rounds (nextF t kn) (Wd.allW kn nn)).length
set_option genInjectivity false in
structure Par (nn kn : Nat) (q : List Nat × List Nat) : Prop where
 one : RW q.1 nn kn
 two : RW q.2 nn kn
 ne : q.1 ≠ q.2
 dr : q.2.drop 1 = q.1.drop 1
theorem ex_facts {nn kn : Nat} {t : List Nat} {q : List Nat × List Nat} (hz : SizeOk nn kn) (ht : TellOk t nn kn) (hf : FairR t nn kn) (hq : Par nn kn q) : TellOk (exT kn t q.1 q.2) nn kn ∧ FairR (exT kn t q.1 q.2) nn kn ∧ Wd.Sw (nextF t kn) (nextF (exT kn t q.1 q.2) kn) (Wd.allW kn nn) q.1 q.2 := by
 obtain ⟨hk, hn, h64⟩ := id hz
 have ha := told_at ht hq.one
 have hb := told_at ht hq.two
 refine ⟨swt_tell ht ha hb, swt_fair (by omega) ht hf hq.one hq.two hq.dr hq.ne ha hb, ?_⟩
 obtain ⟨e1, l1⟩ := Wd.spell_num nn _ hq.one.1 hq.one.2
 obtain ⟨e2, l2⟩ := Wd.spell_num nn _ hq.two.1 hq.two.2
 have := sw_next hz ht l1 l2 (fun z => hq.ne (by rw [← e1, ← e2, z])) (by rw [e1, e2]; exact hq.dr) ha hb
 rw [e1, e2] at this
 exact this
theorem jst_ok {nn kn : Nat} {t : List Nat} {s : List Nat × List (List Nat × List Nat)} {q : List Nat × List Nat} (hz : SizeOk nn kn) (h : JOk nn kn t s) (hq : Par nn kn q) :
  JOk nn kn t (jst kn s q) ∧ Wd.SO (nextF (jst kn s q).1 kn) q.1 q.2 ∧ ∀ x y, x ∈ Wd.allW kn nn → Wd.SO (nextF s.1 kn) x y → Wd.SO (nextF (jst kn s q).1 kn) x y := by
 obtain ⟨hk, hn, h64⟩ := id hz
 unfold jst
 by_cases c : Wd.SO (nextF s.1 kn) q.1 q.2
 ·rw [if_pos c]
  exact ⟨h, c, fun _ _ _ z => z⟩
 ·rw [if_neg c]
  obtain ⟨h1, h2, h3⟩ := ex_facts hz h.tell h.fair hq
  refine ⟨⟨h1, h2, ?_⟩, h3.joins h.fair h2 c, fun x y hx z => h3.keeps h.fair h2 c hx z⟩
  have := h3.fewer (nextBy hk.1 hn.1) (nextBy hk.1 hn.1) h.fair h2 c
  have e := h.num
  show _ + (s.2 ++ [q]).length = _
  rw [List.length_append, List.length_singleton]
  show (Wd.rounds (nextF (exT kn s.1 q.1 q.2) kn) (Wd.allW kn nn)).length + _ = _
  omega
theorem fold_ok {nn kn : Nat} {t : List Nat} (hz : SizeOk nn kn) : ∀ {l : List (List Nat × List Nat)} {s : List Nat × List (List Nat × List Nat)}, (∀ q ∈ l, Par nn kn q) → JOk nn kn t s →
  JOk nn kn t (l.foldl (jst kn) s) ∧ (∀ q ∈ l, Wd.SO (nextF (l.foldl (jst kn) s).1 kn) q.1 q.2) ∧ ∀ x y, x ∈ Wd.allW kn nn → Wd.SO (nextF s.1 kn) x y → Wd.SO (nextF (l.foldl (jst kn) s).1 kn) x y
 | [], s, _, h => ⟨h, fun q hq => (by cases hq), fun _ _ _ z => z⟩
 | q :: l, s, hl, h => by
  have hq := hl q (List.mem_cons_self ..)
  obtain ⟨g1, g2, g3⟩ := jst_ok hz h hq
  obtain ⟨k1, k2, k3⟩ := fold_ok (t := t) hz (l := l) (s := jst kn s q) (fun x hx => hl x (List.mem_cons_of_mem _ hx)) g1
  have hk0 : 0 < kn := by have := hz.1; omega
  refine ⟨k1, fun x hx => ?_, fun x y hx z => k3 x y hx (g3 x y hx z)⟩
  rcases List.mem_cons.mp hx with rfl | hx
  ·exact k3 _ _ ((rw_all hk0).mpr hq.one) g2
  ·exact k2 x hx
noncomputable def prs (nn kn : Nat) (one : List Nat) : List (List Nat) := (Wd.allW kn nn).filter fun two => decide (one < two) && decide (one.drop 1 = two.drop 1)
noncomputable def prT (nn kn : Nat) (ls : List (List Nat)) : List (List Nat × List Nat) := ls.flatMap fun one => (prs nn kn one).map fun two => (one, two)
theorem prT_snoc (nn kn : Nat) (ls : List (List Nat)) (x : List Nat) : prT nn kn (ls ++ [x]) = prT nn kn ls ++ (prs nn kn x).map fun two => (x, two) := by
 unfold prT
 rw [List.flatMap_append, List.flatMap_cons, List.flatMap_nil, List.append_nil]
theorem mem_prs {nn kn : Nat} {one two : List Nat} : two ∈ prs nn kn one ↔ two ∈ Wd.allW kn nn ∧ one < two ∧ one.drop 1 = two.drop 1 := by
 unfold prs
 rw [List.mem_filter, Bool.and_eq_true, decide_eq_true_iff, decide_eq_true_iff]
theorem prs_par {nn kn : Nat} {one two : List Nat} (hk : 1 ≤ kn) (h1 : RW one nn kn) (h : two ∈ prs nn kn one) : Par nn kn (one, two) := by
 obtain ⟨g1, g2, g3⟩ := mem_prs.mp h
 exact ⟨h1, (rw_all (by omega)).mp g1, fun e => by rw [show one = two from e] at g2; exact List.lt_irrefl _ g2, g3.symm⟩
theorem prT_par {nn kn : Nat} {ls : List (List Nat)} (hk : 1 ≤ kn) (h : ∀ x ∈ ls, RW x nn kn) : ∀ q ∈ prT nn kn ls, Par nn kn q := fun q hq => by
 unfold prT at hq
 obtain ⟨one, h1, h2⟩ := List.mem_flatMap.mp hq
 obtain ⟨two, h3, rfl⟩ := List.mem_map.mp h2
 exact prs_par hk (h one h1) h3
theorem parts_prs {nn kn : Nat} {one : List Nat} (hz : SizeOk nn kn) (h1 : RW one nn kn) : (parts kn one).filter (fun two => decide (one < two)) = prs nn kn one := by
 obtain ⟨hk, hn, h64⟩ := id hz
 have hpw : (parts kn one).Pairwise (· < ·) := by
  unfold parts
  refine List.pairwise_map.mpr (List.Pairwise.filter _ (List.Pairwise.sublist (List.take_sublist ..) ?_))
  refine List.Pairwise.imp (fun {a b} h => ?_) (show ([97, 98, 99, 100, 101, 102] : List Nat).Pairwise (· < ·) by decide)
  exact List.cons_lt_cons_iff.mpr (.inl h)
 have hle : ∀ {l : List (List Nat)}, l.Pairwise (· < ·) → l.Pairwise (fun a b => ¬ b < a) ∧ l.Nodup := fun h => ⟨h.imp fun h g => List.lt_irrefl _ (List.lt_trans h g), h.imp fun h e => by subst e; exact List.lt_irrefl _ h⟩
 obtain ⟨p1, n1⟩ := hle hpw
 obtain ⟨p2, n2⟩ := hle (Wd.allW_sorted (k := kn) (n := nn) (by omega))
 refine Wd.sorted_same ((List.perm_ext_iff_of_nodup (n1.filter _) (n2.filter _)).mpr fun x => ?_) (p1.filter _) (p2.filter _)
 rw [List.mem_filter, decide_eq_true_iff]
 show _ ↔ x ∈ prs nn kn one
 rw [mem_prs]
 constructor
 ·rintro ⟨g1, g2⟩
  exact ⟨(rw_all (by omega)).mpr (parts_rw hk.2 hn.1 h1 g1), g2, (parts_drop g1).symm⟩
 ·rintro ⟨g1, g2, g3⟩
  exact ⟨mem_parts hn hk.2 h1 ((rw_all (by omega)).mp g1) g3.symm (fun e => by rw [e] at g2; exact List.lt_irrefl _ g2), g2⟩
theorem all_one {nn kn : Nat} {t : List Nat} (hz : SizeOk nn kn) (hf : FairR t nn kn) (hp : ∀ x ∈ Wd.allW kn nn, ∀ y ∈ Wd.allW kn nn, x.drop 1 = y.drop 1 → Wd.SO (nextF t kn) x y) : ∀ x ∈ Wd.allW kn nn, ∀ y ∈ Wd.allW kn nn, Wd.SO (nextF t kn) x y := by
 obtain ⟨hk, hn, h64⟩ := id hz
 have step : ∀ x ∈ Wd.allW kn nn, ∀ z ∈ Wd.allW kn nn, (∃ c, z = x.drop 1 ++ [c]) → Wd.SO (nextF t kn) x z := by
  rintro x hx z hz' ⟨c, e⟩
  obtain ⟨v, hv, ev⟩ := List.mem_map.mp (hf.pm.mem_iff.mpr hz')
  have hd : v.drop 1 = x.drop 1 := by
   have : nextF t kn v = x.drop 1 ++ [c] := ev.trans e
   unfold nextF at this
   exact (List.append_inj' this rfl).1
  exact (hp x hx v hv hd.symm).trans ⟨1, ev⟩
 intro x hx y hy
 have rx := (rw_all (by omega)).mp hx
 have ry := (rw_all (by omega)).mp hy
 have lx := rx.1
 have ly := ry.1
 have key : ∀ k, k ≤ nn → x.drop k ++ y.take k ∈ Wd.allW kn nn ∧ Wd.SO (nextF t kn) x (x.drop k ++ y.take k) := by
  intro k
  induction k with
  | zero => intro _; rw [List.drop_zero, List.take_zero, List.append_nil]; exact ⟨hx, .refl _ _⟩
  | succ k ih =>
   intro hk'
   obtain ⟨g1, g2⟩ := ih (by omega)
   have hm : x.drop (k + 1) ++ y.take (k + 1) ∈ Wd.allW kn nn := (rw_all (by omega)).mpr ⟨by rw [List.length_append, List.length_drop, List.length_take]; omega, fun c hc => by
    rcases List.mem_append.mp hc with hc | hc
    ·exact rx.2 c (List.mem_of_mem_drop hc)
    ·exact ry.2 c (List.mem_of_mem_take hc)⟩
   refine ⟨hm, g2.trans (step _ g1 _ hm ?_)⟩
   obtain ⟨c, hc⟩ : ∃ c, y[k]? = some c := ⟨_, List.getElem?_eq_getElem (by omega)⟩
   refine ⟨c, ?_⟩
   rw [List.take_add_one, hc, List.drop_append_of_le_length (by rw [List.length_drop]; omega), List.drop_drop, List.append_assoc]
   rfl
 have := (key nn (Nat.le_refl _)).2
 rwa [List.drop_of_length_le (by omega), List.take_of_length_le (by omega), List.nil_append] at this
theorem fin_one {nn kn : Nat} {t : List Nat} (hz : SizeOk nn kn) (ht : TellOk t nn kn) (hf : FairR t nn kn) : JOk nn kn t ((prT nn kn (Wd.allW kn nn)).foldl (jst kn) (t, [])) ∧ ∀ x ∈ Wd.allW kn nn, ∀ y ∈ Wd.allW kn nn, Wd.SO (nextF ((prT nn kn (Wd.allW kn nn)).foldl (jst kn) (t, [])).1 kn) x y := by
 obtain ⟨hk, hn, h64⟩ := id hz
 obtain ⟨h1, h2, h3⟩ := fold_ok (t := t) hz (l := prT nn kn (Wd.allW kn nn)) (s := (t, [])) (prT_par hk.1 fun x hx => (rw_all (by omega)).mp hx) ⟨ht, hf, by simp⟩
 refine ⟨h1, all_one hz h1.fair fun x hx y hy e => ?_⟩
 have hin : ∀ {x y}, x ∈ Wd.allW kn nn → y ∈ Wd.allW kn nn → x.drop 1 = y.drop 1 → x < y → (x, y) ∈ prT nn kn (Wd.allW kn nn) := fun {x y} hx hy e hl => List.mem_flatMap.mpr ⟨x, hx, List.mem_map.mpr ⟨y, mem_prs.mpr ⟨hy, hl, e⟩, rfl⟩⟩
 by_cases c1 : x < y
 ·exact h2 (x, y) (hin hx hy e c1)
 ·by_cases c2 : y < x
  ·exact (h2 (y, x) (hin hy hx e.symm c2)).symm h1.fair hy
  ·have c3 : x = y := List.le_antisymm c2 c1
   rw [c3]; exact .refl _ _

noncomputable def spJoin (C : Addr) (ad : Adr) : Sp := fun vs H Q E => ∃ (x : Addr) (nn kn : Nat) (t : List Nat), vs = [.ref x] ∧ RuleAt C H x nn kn t ∧ SizeOk nn kn ∧ TellOk t nn kn ∧ (¬ FairR t nn kn → ∀ H', Same H H' → E (.ref ad.BadRule) none H') ∧
 (FairR t nn kn → ∀ (tp y L : Addr) (H' : Hp), Same H H' → H L = none → H' tp = some (.tup [.ref y, .ref L]) → RuleAt C H' y nn kn ((prT nn kn (Wd.allW kn nn)).foldl (jst kn) (t, [])).1 → PairsT H' L ((prT nn kn (Wd.allW kn nn)).foldl (jst kn) (t, [])).2 → Q (.ref tp) H')
theorem ok_joined {f : Addr} {fd : FuncData} (F : Fun K "joined" "joined" s_joined f fd) (tt : Txt K mg ad) (C_looked_fair : Cal P w K mg base (CX1 P w) "looked_fair" 7 ["rule"] (spLFair ad.Rule ad)) (C_all_words : Cal P w K mg base (CX1 P w) "all_words" 3 ["length", "kinds"] (spAllX ad)) (C_partners : Cal P w K mg base (CX1 P w) "partners" 5 ["rule", "word"] (spPartn ad.Rule ad)) (C_words_round : Cal P w K mg base (CX1 P w) "words_round" 6 ["rule", "word"] (spWR ad.Rule)) (C_exchanged : Cal P w K mg base (CX1 P w) "exchanged" 6 ["rule", "one", "two"] (spExch ad.Rule ad)) (C_Rule_init : Cam P w K mg base (CX1 P w) "Rule" ad.Rule 4 ["self", "length", "kinds", "told"] (spRuleI ad.Rule ad)) :
  FnOk P w K mg base (CX1 P w) 8 f fd ["rule"] (spJoin ad.Rule ad) := by
 refine F.okX sc_joined (fun vs H Q E h => ?_) (fun cdv A outer s H vs Q E hr h => ?_)
 ·obtain ⟨x, nn, kn, t, rfl, _⟩ := h
  rfl
 ·obtain ⟨x, nn, kn, t, rfl, hR, hz, hto, qe, q⟩ := h
  have hs : sizeLine = 16777216 := sizeLine_eq
  obtain ⟨hk, hn, h64⟩ := id hz
  have hok : ∀ w ∈ Wd.allW kn nn, RW w nn kn := fun w hw => (rw_all (by omega)).mp hw
  have hLl : (Wd.allW kn nn).length = kn ^ nn := Wd.allW_len ..
  refine ⟨_, (pss_cons (ps_expr (pe_cal C_looked_fair hr passX (pa_cons (pv 0) pa_nil)))
   (pss_cons (ps_set (i := 1) sc_joined.nd rfl (Or.inl rfl) (pe_mak C_Rule_init hr passX (pa_cons (pe_fld (pv 0) rfl) (pa_cons (pe_fld (pv 0) rfl) (pa_cons (pe_fld (pv 0) rfl) pa_nil)))))
   (pss_cons (ps_set (i := 2) sc_joined.nd rfl (Or.inl rfl) (pe_lst pa_nil))
   (pss_cons (ps_for PassesOwn.leaving rfl (pi_list (pe_cal C_all_words hr passX (pa_cons (pe_fld (pv 0) rfl) (pa_cons (pe_fld (pv 0) rfl) pa_nil)))) (pg_name (i := 3) sc_joined.nd rfl (Or.inl rfl)) (pss_one (ps_for PassesOwn.leaving rfl (pi_list (pe_cal C_partners hr passX (pa_cons (pv 0) (pa_cons (pv 3) pa_nil)))) (pg_name (i := 4) sc_joined.nd rfl (Or.inl rfl)) (pss_one (ps_if (PW.pt (pw_and (pt_cmpR op_lt_T (pv 3) (pv 4) (nomark _)) (pw_and1 (pt_cmpR op_notIn_seq (pv 4) (pe_cal C_words_round hr pass1 (pa_cons (pv 1) (pa_cons (pv 3) pa_nil))) (by with_unfolding_all rfl))))) (pss_cons (ps_set (i := 1) sc_joined.nd rfl (Or.inl rfl) (pe_cal C_exchanged hr passX (pa_cons (pv 1) (pa_cons (pv 3) (pa_cons (pv 4) pa_nil)))))
   (pss_one (ps_expr (pe_bm PySem.F.plainAttrs_list PySem.F.slot_list_append PySem.F.type_list_append mt_append (pv 2) (pa_cons (pe_tup (pa_cons (pv 3) (pa_cons (pv 4) pa_nil))) pa_nil))))) pss_nil)))))
   (pss_one (ps_ret (pe_tup (pa_cons (pv 1) (pa_cons (pv 2) pa_nil))))))))), ?_⟩
  (try rw [cxK2]); (try rw [cxK1])
  refine ⟨_, rfl, x, nn, kn, t, rfl, hR, hz, hto, fun hf H1 s1 => ?_, qe⟩
  have q := q hf
  have hj0 : JOk nn kn t (t, []) := ⟨hto, hf, by simp⟩
  have hst : ∀ l : List (List Nat × List Nat), (∀ q ∈ l, Par nn kn q) → JOk nn kn t (l.foldl (jst kn) (t, [])) := fun l hl => (fold_ok hz hl hj0).1
  have hfew : ∀ {s : List Nat × List (List Nat × List Nat)}, JOk nn kn t s → s.2.length ≤ 64 := fun h => by
   have := h.num
   have := Wd.rounds_len (nextF t kn) (Wd.allW kn nn)
   omega
  obtain ⟨dx, hx⟩ := hR.on s1
  have htl := hto.1
  refine ⟨_, rfl, x, ad.Rule, dx, _, _, rfl, hx, tt.cl_Rule, tt.na_Rule_length, rflds_l _ _ _, _, rfl, x, ad.Rule, dx, _, _, rfl, hx, tt.cl_Rule, tt.na_Rule_kinds, rflds_k _ _ _, _, rfl, x, ad.Rule, dx, _, _, rfl, hx, tt.cl_Rule, tt.na_Rule_told, rflds_t _ _ _, ?_⟩
  intro y dy ny ndy ney
  refine ⟨y, dy, _, _, t, rfl, upd_same, (by omega), fun z => absurd (by omega) z, fun _ z => absurd (by omega) z, fun kn' nn' ek en _ _ => ?_⟩
  obtain rfl : kn = kn' := by omega
  obtain rfl : nn = nn' := by omega
  refine ⟨fun z => absurd z (by omega), fun _ z => absurd hto z, fun _ _ H2 keep hy => ⟨rfl, ?_⟩⟩
  have s2 : Same H H2 := fun c o e => by
   have := s1 c o e
   exact keep c o (by rw [upd_ne (ne_of_none this ny), upd_ne (ne_of_none this ndy)]; exact this) (ne_of_none this ny)
  have hRy : RuleAt ad.Rule H2 y nn kn t := ⟨dy, hy⟩
  refine ⟨(by show 0 ≤ sizeLine; omega), fun L hL => ?_⟩
  have t3 := same_upd (o := .lst []) hL
  obtain ⟨H3, hH3, s3, hd3⟩ := namedD t3
  rw [← hH3]
  have hHL : H L = none := by
   cases e : H L with
   | none => rfl
   | some o => have := s2 L o e; rw [hL] at this; cases this
  obtain ⟨dx3, hx3⟩ := hR.on (s2.trans s3)
  refine ⟨_, rfl, x, ad.Rule, dx3, _, _, rfl, hx3, tt.cl_Rule, tt.na_Rule_length, rflds_l _ _ _, _, rfl, x, ad.Rule, dx3, _, _, rfl, hx3, tt.cl_Rule, tt.na_Rule_kinds, rflds_k _ _ _, _, _, rfl, fun z => absurd (by omega) z, fun _ z => absurd (by omega) z, fun kn' nn' ek en _ _ => ?_⟩
  obtain rfl : kn = kn' := by omega
  obtain rfl : nn = nn' := by omega
  refine ⟨fun z => absurd z (by omega), fun _ D1 H4 hD1 s4 hd1 => ?_⟩
  have hDL : D1 ≠ L := fun z => by rw [z, hd3] at hD1; cases hD1
  refine ⟨D1, rfl, ⟨_, SqL.of hd1⟩, ?_⟩
  refine for_list (K := K) (a := D1) (xs := (Wd.allW kn nn).map T) (fun i σ G => Same H G ∧ G D1 = some (.lst ((Wd.allW kn nn).map T)) ∧ PairsT G L ((prT nn kn ((Wd.allW kn nn).take i)).foldl (jst kn) (t, [])).2 ∧ ∃ (y : Addr) (v3 v4 : Option V), RuleAt ad.Rule G y nn kn ((prT nn kn ((Wd.allW kn nn).take i)).foldl (jst kn) (t, [])).1 ∧ σ = [some (.ref x), some (.ref y), some (.ref L), v3, v4])
   ⟨(s2.trans s3).trans s4, hd1, ⟨[], s4 L _ hd3, rfl, fun i a q e => by simp at e⟩, y, none, none, (hRy.on s3).on s4, rfl⟩ (fun i σ G _ h => SqL.of h.2.1) ?_ ?_
  ·rintro i v σ G hi ⟨s5, d5, l5, y, v3, v4, hRy, rfl⟩
   obtain ⟨wd, hwd, rfl⟩ : ∃ wd, (Wd.allW kn nn)[i]? = some wd ∧ T wd = v := by rw [List.getElem?_map] at hi; exact Option.map_eq_some_iff.mp hi
   have hw := hok wd (List.mem_of_getElem? hwd)
   have hwl := hw.1
   have htk : (Wd.allW kn nn).take (i + 1) = (Wd.allW kn nn).take i ++ [wd] := by rw [List.take_add_one, hwd]; rfl
   have hj1 := hst (prT nn kn ((Wd.allW kn nn).take i)) (prT_par hk.1 fun x hx => hok x (List.mem_of_mem_take hx))
   generalize hS : (prT nn kn ((Wd.allW kn nn).take i)).foldl (jst kn) (t, []) = S at l5 hRy hj1
   refine ⟨_, rfl, _, rfl, x, nn, kn, t, wd, rfl, hR.on s5, hz, (by omega), fun _ D2 H6 hD2 s6 d6 => ?_, fun z => absurd hw z⟩
   have h6 := parts_few (one := wd) hk.2
   have hD2L : D2 ≠ L := fun z => by obtain ⟨vs, e, _⟩ := l5.len; rw [z, e] at hD2; cases hD2
   have hpar : ∀ j, ∀ q ∈ ((((parts kn wd).take j).filter fun two => decide (wd < two)).map fun two => (wd, two)), Par nn kn q := fun j q hq => by
    obtain ⟨two, h1, rfl⟩ := List.mem_map.mp hq
    obtain ⟨h2, h3⟩ := List.mem_filter.mp h1
    have hm := List.mem_of_mem_take h2
    exact ⟨hw, parts_rw hk.2 hn.1 hw hm, fun e => by rw [show wd = two from e] at hm; exact parts_self hm, parts_drop hm⟩
   refine ⟨D2, rfl, ⟨_, SqL.of d6⟩, ?_⟩
   refine for_list (K := K) (a := D2) (xs := (parts kn wd).map T) (fun j σ G2 => Same H G2 ∧ G2 D1 = some (.lst ((Wd.allW kn nn).map T)) ∧ G2 D2 = some (.lst ((parts kn wd).map T)) ∧ PairsT G2 L (((((parts kn wd).take j).filter fun two => decide (wd < two)).map fun two => (wd, two)).foldl (jst kn) S).2 ∧ ∃ (y : Addr) (v4 : Option V), RuleAt ad.Rule G2 y nn kn (((((parts kn wd).take j).filter fun two => decide (wd < two)).map fun two => (wd, two)).foldl (jst kn) S).1 ∧ σ = [some (.ref x), some (.ref y), some (.ref L), some (T wd), v4])
    ⟨s5.trans s6, s6 D1 _ d5, d6, l5.on s6, y, _, hRy.on s6, rfl⟩ (fun j σ G2 _ h => SqL.of h.2.2.1) ?_ ?_
   ·rintro j v σ G2 hj ⟨s7, d7, e7, l7, y, v4, hRy, rfl⟩
    obtain ⟨two, htwo, rfl⟩ : ∃ two, (parts kn wd)[j]? = some two ∧ T two = v := by rw [List.getElem?_map] at hj; exact Option.map_eq_some_iff.mp hj
    have htm := List.mem_of_getElem? htwo
    have hw2 := parts_rw hk.2 hn.1 hw htm
    have hw2l := hw2.1
    have htk2 : (parts kn wd).take (j + 1) = (parts kn wd).take j ++ [two] := by rw [List.take_add_one, htwo]; rfl
    have hj2 := (fold_ok (t := t) hz (hpar j) hj1).1
    have hnext : ((((parts kn wd).take (j + 1)).filter fun two => decide (wd < two)).map fun two => (wd, two)).foldl (jst kn) S = if wd < two then jst kn (((((parts kn wd).take j).filter fun two => decide (wd < two)).map fun two => (wd, two)).foldl (jst kn) S) (wd, two) else (((((parts kn wd).take j).filter fun two => decide (wd < two)).map fun two => (wd, two)).foldl (jst kn) S) := by
     rw [htk2, List.filter_append, List.map_append, List.foldl_append]
     by_cases c : wd < two
     ·rw [if_pos c, List.filter_cons, if_pos (decide_eq_true c)]; rfl
     ·rw [if_neg c, List.filter_cons, if_neg (by rw [decide_eq_false c]; exact Bool.false_ne_true)]; rfl
    rw [hnext]
    generalize ((((parts kn wd).take j).filter fun two => decide (wd < two)).map fun two => (wd, two)).foldl (jst kn) S = S2 at l7 hRy hj2
    have hto' := hj2.tell
    have hf' := hj2.fair
    have hpr : Par nn kn (wd, two) := ⟨hw, hw2, fun e => by rw [show wd = two from e] at htm; exact parts_self htm, parts_drop htm⟩
    refine ⟨_, rfl, _, rfl, _, rfl, _, rfl, _, rfl, ?_⟩
    by_cases hlt : wd < two
    case neg =>
     refine itN (by rw [decide_eq_false hlt]; exact Bool.false_ne_true) ?_
     rw [if_neg hlt]
     exact iteF ⟨s7, d7, e7, l7, y, _, hRy, rfl⟩
    refine itP (decide_eq_true hlt) ?_
    rw [if_pos hlt]
    refine ⟨_, rfl, _, rfl, _, rfl, y, nn, kn, S2.1, wd, rfl, hRy, hz, hto', hf', hw, fun p D8 H8 hp hD8 s8 d8 => ?_⟩
    refine ⟨D8, _, rfl, .inl (SqL.of d8), rfl, all_flat _, _, rfl, ?_⟩
    have hso : two ∈ Wd.orb (nextF S2.1 kn) wd p ↔ Wd.SO (nextF S2.1 kn) wd two := by
     rw [hp.mem]
     exact ⟨fun ⟨k, e⟩ => ⟨k, e.symm⟩, fun ⟨k, e⟩ => ⟨k, e.symm⟩⟩
    by_cases hin : Wd.SO (nextF S2.1 kn) wd two
    ·refine itN (by show ¬ (!inV (T two) _) = true; rw [inV_T, decide_eq_true (hso.mpr hin)]; exact Bool.false_ne_true) ?_
     have : jst kn S2 (wd, two) = S2 := if_pos hin
     rw [this]
     exact ⟨s7.trans s8, s8 _ _ d7, s8 _ _ e7, l7.on s8, y, _, hRy.on s8, rfl⟩
    refine itP (by show (!inV (T two) _) = true; rw [inV_T, decide_eq_false (fun z => hin (hso.mp z))]; rfl) ?_
    have hjs : jst kn S2 (wd, two) = (exT kn S2.1 wd two, S2.2 ++ [(wd, two)]) := if_neg hin
    rw [hjs]
    refine ⟨_, rfl, _, rfl, _, rfl, y, nn, kn, S2.1, wd, two, rfl, hRy.on s8, hz, hto', (by omega), (by omega), fun z => absurd hw z, fun _ z => absurd hw2 z, fun _ _ z => absurd htm z, fun _ _ _ y' a b H9 ha hb s9 hR9 => ?_⟩
    rw [told_at hto' hw] at ha
    rw [told_at hto' hw2] at hb
    obtain rfl := Option.some.inj ha
    obtain rfl := Option.some.inj hb
    have l9 := l7.on (s8.trans s9)
    obtain ⟨ps, lv, lpl⟩ := l9.len
    have hps := hfew hj2
    have s79 := s7.trans (s8.trans s9)
    refine ⟨_, rfl, .inl ⟨rfl, _, SqL.of lv⟩, _, rfl, _, rfl, (by show 2 ≤ sizeLine; omega), fun Tp hTp => ?_⟩
    have t10 := same_upd (o := .tup [T wd, T two]) hTp
    have l10 := t10 L _ lv
    refine ⟨L, _, _, rfl, rfl, l10, (by omega), ?_⟩
    have hk10 : ∀ b o, b ≠ L → H9 b = some o → upd (upd H9 Tp (.tup [T wd, T two])) L (.lst (ps ++ [.ref Tp])) b = some o := fun b o hb e => by rw [upd_ne hb]; exact t10 b o e
    have hyL : y' ≠ L := fun z => by obtain ⟨d, e⟩ := hR9; rw [z, lv] at e; cases e
    have hTL : Tp ≠ L := fun z => by rw [z, lv] at hTp; cases hTp
    refine ⟨fun b o e => hk10 b o (fun z => by rw [z, hHL] at e; cases e) (s79 b o e), hk10 _ _ hDL ((s8.trans s9) _ _ d7), hk10 _ _ hD2L ((s8.trans s9) _ _ e7), l9.more lv hk10 (by rw [upd_ne hTL]; exact upd_same) upd_same, y', _, ?_, rfl⟩
    obtain ⟨d, e⟩ := hR9
    exact ⟨d, hk10 _ _ hyL e⟩
   ·rintro σ G2 ⟨s7, d7, _, l7, y, v4, hRy, rfl⟩
    rw [List.length_map, List.take_length, parts_prs hz hw, ← hS, ← List.foldl_append, ← prT_snoc, ← htk] at l7 hRy
    exact ⟨s7, d7, l7, y, _, _, hRy, rfl⟩
  ·rintro σ G ⟨s5, d5, l5, y, v3, v4, hRy, rfl⟩
   rw [List.length_map, List.take_length] at l5 hRy
   refine ⟨_, rfl, _, rfl, (by show 2 ≤ sizeLine; omega), fun Tp hTp => ?_⟩
   have t6 := same_upd (o := .tup [.ref y, .ref L]) hTp
   exact q _ y L _ (s5.trans t6) hHL upd_same (hRy.on t6) (l5.on t6)

noncomputable def spPow : Sp := fun vs H Q _ => ∃ k n : Nat, vs = [.int (k : Nat), .int (n : Nat)] ∧ (k ≤ 1000 ∧ n ≤ 1000) ∧ Q (.int ((k ^ n : Nat) : Int)) H
theorem ok__law_power {f : Addr} {fd : FuncData} (F : Fun K "_law_power" "_law_power" s__law_power f fd) (tt : Txt K mg ad) : FnOk P w K mg base (CX1 P w) 1 f fd ["base", "many"] spPow := by
 refine F.okN sc__law_power (fun vs H Q E h => ?_) (fun cdv A outer s H vs Q E hr h => ?_)
 ·obtain ⟨k, n, rfl, _⟩ := h
  rfl
 ·obtain ⟨k, n, rfl, hn, q⟩ := h
  refine ⟨_, (pss_cons (ps_set (i := 2) sc__law_power.nd rfl (Or.inl rfl) pe_int)
   (pss_cons (ps_for PassesOwn.never rfl (pi_range1 (by rfl) tt.b_range (pa_cons (pv 1) pa_nil)) (pg_name (i := 3) sc__law_power.nd rfl (Or.inl rfl)) (pss_one (ps_set (i := 2) sc__law_power.nd rfl (Or.inl rfl) (pe_op op_mul (pv 2) (pv 0)))))
   (pss_one (ps_ret (pv 2))))), ?_⟩
  (try rw [cxK2]); (try rw [cxK1])
  refine ⟨_, rfl, _, rfl, by omega, by omega, ?_⟩
  rw [Int.toNat_natCast]
  refine for_range (fun i σ H2 => H2 = H ∧ ∃ v, σ = [some (.int (k : Nat)), some (.int (n : Nat)), some (.int ((k ^ i : Nat) : Int)), v]) ⟨rfl, none, rfl⟩ ?_ ?_
  ·rintro i σ H2 hi ⟨rfl, v, rfl⟩
   refine ⟨_, rfl, _, rfl, _, _, rfl, rfl, .inr ⟨by omega, by omega⟩, ?_⟩
   refine ⟨rfl, some (.int (0 + (i : Int))), ?_⟩
   rw [Nat.pow_succ, Int.natCast_mul]
   rfl
  ·rintro σ H2 ⟨rfl, v, rfl⟩
   exact ⟨_, rfl, q⟩

noncomputable def stirZ (c k : Int) : Int := (c % 1000000007 * 48271 + (k + 1) * (k + 1) * 69621) % 2147483647 * ((c % 1000000007 * 48271 + (k + 1) * (k + 1) * 69621) % 2147483647) % 2147483629
noncomputable def spStir : Sp := fun vs H Q _ => ∃ (c k : Int), vs = [.int c, .int k] ∧ (0 ≤ k ∧ k ≤ 1000) ∧ Q (.int (stirZ c k)) H
theorem ok__law_stir {f : Addr} {fd : FuncData} (F : Fun K "_law_stir" "_law_stir" s__law_stir f fd) (tt : Txt K mg ad) : FnOk P w K mg base (CX1 P w) 1 f fd ["cell", "k"] spStir := by
 refine F.okN sc__law_stir (fun vs H Q E h => ?_) (fun cdv A outer s H vs Q E hr h => ?_)
 ·obtain ⟨c, k, rfl, _⟩ := h
  rfl
 ·obtain ⟨c, k, rfl, hk, q⟩ := h
  refine ⟨_, (pss_cons (ps_set (i := 2) sc__law_stir.nd rfl (Or.inl rfl) (pe_op op_mod (pe_op op_add (pe_op op_mul (pe_op op_mod (pv 0) pe_int) pe_int) (pe_op op_mul (pe_op op_mul (pe_op op_add (pv 1) pe_int) (pe_op op_add (pv 1) pe_int)) pe_int)) pe_int))
   (pss_one (ps_ret (pe_op op_mod (pe_op op_mul (pv 2) (pv 2)) pe_int)))), ?_⟩
  (try rw [cxK2]); (try rw [cxK1])
  refine ⟨_, rfl, _, _, rfl, rfl, (by show (0 : Int) < 1000000007; decide), _, _, rfl, rfl, .inr ⟨by decide, by decide⟩, _, rfl, _, _, rfl, rfl, _, rfl, _, _, rfl, rfl, _, _, rfl, rfl, .inl ⟨by omega, by omega⟩, _, _, rfl, rfl, .inr ⟨by decide, by decide⟩, _, _, rfl, rfl, _, _, rfl, rfl, (by show (0 : Int) < 2147483647; decide), ?_⟩
  dsimp only
  have h1 := Int.emod_nonneg (c % 1000000007 * 48271 + (k + 1) * (k + 1) * 69621) (show (2147483647 : Int) ≠ 0 by decide)
  have h2 := Int.emod_lt_of_pos (c % 1000000007 * 48271 + (k + 1) * (k + 1) * 69621) (show (0 : Int) < 2147483647 by decide)
  unfold stirZ at q
  exact ⟨_, rfl, _, rfl, _, _, rfl, rfl, .inl ⟨by omega, by omega⟩, _, _, rfl, rfl, (by show (0 : Int) < 2147483629; decide), q⟩

noncomputable def spFolded (K : PySem.W.Frag) : Sp := fun vs H Q _ => ∃ (a : Addr) (ns : List Int) (m : Nat), vs = [.ref a, .int (m : Nat)] ∧ SqL K H a (ns.map V.int) ∧ (ns.length ≤ 63 ∧ 1 ≤ m ∧ m ≤ 1000) ∧ ∀ (D : Addr) (zs : List Int) (H' : Hp), Same H H' → H' D = some (.lst (zs.map V.int)) → zs.length = m → Q (.ref D) H'
theorem ok__law_folded {f : Addr} {fd : FuncData} (F : Fun K "_law_folded" "_law_folded" s__law_folded f fd) (tt : Txt K mg ad) : FnOk P w K mg base (CX1 P w) 1 f fd ["script", "many"] (spFolded K) := by
 refine F.okN sc__law_folded (fun vs H Q E h => ?_) (fun cdv A outer s H vs Q E hr h => ?_)
 ·obtain ⟨a, ns, m, rfl, _⟩ := h
  rfl
 ·obtain ⟨a, ns, m, rfl, hS, ⟨h63, hm1, hm2⟩, q⟩ := h
  have hs : sizeLine = 16777216 := sizeLine_eq
  refine ⟨_, (pss_cons (ps_set (i := 2) sc__law_folded.nd rfl (Or.inl rfl) (pe_op op_repL (pe_lst (pa_cons pe_int pa_nil)) (pv 1)))
   (pss_cons (ps_for PassesOwn.never rfl (pi_range1 (by rfl) tt.b_range (pa_cons (pe_callB call_len_seq (by rfl) tt.b_len PySem.boot_len (pa_cons (pv 0) pa_nil)) pa_nil)) (pg_name (i := 3) sc__law_folded.nd rfl (Or.inl rfl)) (pss_cons (ps_set (i := 4) sc__law_folded.nd rfl (Or.inl rfl) (pe_op op_mod (pe_ix ix_list (pv 0) (pv 3) (fun _ _ => rfl)) pe_int))
   (pss_one (ps_asg (pe_op op_mod (pe_op op_add (pe_op op_add (pe_op op_mul (pe_ix ix_list (pv 2) (pe_op op_mod (pv 3) (pv 1)) (fun _ _ => rfl)) pe_int) (pv 4)) pe_int) pe_int) (pg_sub (pv 2) (pe_op op_mod (pv 3) (pv 1)) set_list)))))
   (pss_one (ps_ret (pv 2))))), ?_⟩
  (try rw [cxK2]); (try rw [cxK1])
  refine ⟨(by show 1 ≤ sizeLine; omega), fun p1 hp1 => ?_⟩
  have t1 := same_upd (o := .lst [.int 0]) hp1
  refine ⟨_, rfl, p1, m, _, rfl, rfl, SqL.of upd_same, ⟨by omega, by show 1 * m ≤ sizeLine; omega⟩, fun D hD => ?_⟩
  have t2 := t1.trans (same_upd (o := .lst (List.replicate m [V.int 0]).flatten) hD)
  have hrep : ∀ m : Nat, (List.replicate m [V.int 0]).flatten = (List.replicate m (0 : Int)).map V.int := fun m => by
   induction m with
   | zero => rfl
   | succ m ih => rw [List.replicate_succ, List.flatten_cons, ih, List.replicate_succ, List.map_cons]; rfl
  rw [hrep] at t2 ⊢
  obtain ⟨H2, hH2, s2, hd2⟩ := namedD t2
  rw [← hH2]
  refine ⟨_, rfl, a, _, rfl, .inl (s2.seq hS), _, rfl, by omega, (by rw [List.length_map]; omega), ?_⟩
  rw [List.length_map, Int.toNat_natCast]
  refine for_range (fun i σ H3 => Same H H3 ∧ ∃ (zs : List Int) (v3 v4 : Option V), H3 D = some (.lst (zs.map V.int)) ∧ zs.length = m ∧ σ = [some (.ref a), some (.int (m : Nat)), some (.ref D), v3, v4]) ⟨s2, _, none, none, hd2, List.length_replicate .., rfl⟩ ?_ ?_
  ·rintro i σ H3 hi ⟨s3, zs, v3, v4, hd3, hzl, rfl⟩
   obtain ⟨w1, hw1⟩ : ∃ w1, ns[i]? = some w1 := ⟨_, List.getElem?_eq_getElem hi⟩
   have z0 := Int.emod_nonneg ((i : Nat) : Int) (show ((m : Nat) : Int) ≠ 0 by omega)
   have z1 := Int.emod_lt_of_pos ((i : Nat) : Int) (show (0 : Int) < ((m : Nat) : Int) by omega)
   obtain ⟨j, hj⟩ : ∃ j : Nat, (0 + ((i : Nat) : Int)) % ((m : Nat) : Int) = (j : Int) := ⟨((0 + ((i : Nat) : Int)) % ((m : Nat) : Int)).toNat, by rw [Int.zero_add]; omega⟩
   have hjm : j < m := by rw [Int.zero_add] at hj; omega
   obtain ⟨w2, hw2⟩ : ∃ w2, zs[j]? = some w2 := ⟨_, List.getElem?_eq_getElem (by omega)⟩
   have hDn : H D = none := by
    cases e : H D with
    | none => rfl
    | some o => exact absurd ((t1 D o e).symm.trans hD) (fun z => nomatch z)
   have hm0 : (0 : Int) < ((m : Nat) : Int) := by omega
   refine ⟨_, rfl, _, rfl, a, _, _, _, rfl, rfl, s3.seq hS, (by rw [Int.zero_add]; exact atI_nat (by rw [List.getElem?_map, hw1]; rfl)), _, _, rfl, rfl, (by show (0 : Int) < 1000000007; decide), ?_⟩
   refine ⟨_, rfl, _, rfl, _, rfl, _, _, rfl, rfl, hm0, D, _, _, _, rfl, rfl, SqL.of hd3, (show atI _ ((0 + ((i : Nat) : Int)) % ((m : Nat) : Int)) = _ by rw [hj]; exact atI_nat (by rw [List.getElem?_map, hw2]; rfl)), _, _, rfl, rfl, .inr ⟨by decide, by decide⟩, _, rfl, _, _, rfl, rfl, _, _, rfl, rfl, _, _, rfl, rfl, (by show (0 : Int) < 1000000007; decide), ?_⟩
   refine ⟨_, rfl, _, rfl, _, rfl, _, _, rfl, rfl, hm0, D, _, _, j, rfl, rfl, hd3, (show ixN _ ((0 + ((i : Nat) : Int)) % ((m : Nat) : Int)) = _ by rw [hj]; exact ixN_nat (by rw [List.length_map]; omega)), ?_⟩
   rw [set_map V.int]
   exact ⟨fun b o e => by rw [upd_ne (ne_of_none e hDn)]; exact s3 b o e, _, _, _, upd_same, by rw [List.length_set]; exact hzl, rfl⟩
  ·rintro σ H3 ⟨s3, zs, v3, v4, hd3, hzl, rfl⟩
   exact ⟨_, rfl, q D zs H3 s3 hd3 hzl⟩

noncomputable def szA : List (Int × Int) := [(6, 2), (5, 2), (3, 4), (3, 3), (2, 6), (2, 5), (4, 2), (2, 4), (2, 3), (3, 2), (2, 2)]
noncomputable def szB : List (Int × Int) := [(1, 6), (1, 5), (1, 4), (1, 3), (1, 2), (1, 1), (5, 1), (8, 1)]
theorem szs_ok : ∀ z ∈ szA ++ szB, ∃ nn kn : Nat, z = (((nn : Nat) : Int), ((kn : Nat) : Int)) ∧ SizeOk nn kn := by
 intro z hz
 have key : ∀ z ∈ szA ++ szB, 0 ≤ z.1 ∧ 0 ≤ z.2 ∧ (1 ≤ z.2.toNat ∧ z.2.toNat ≤ 6) ∧ (1 ≤ z.1.toNat ∧ z.1.toNat ≤ 8) ∧ z.2.toNat ^ z.1.toNat ≤ 64 := by decide
 obtain ⟨h1, h2, h3⟩ := key z hz
 exact ⟨z.1.toNat, z.2.toNat, by rw [Int.toNat_of_nonneg h1, Int.toNat_of_nonneg h2], h3⟩
noncomputable def spSizeL : Sp := fun vs H Q _ => ∃ c : Int, vs = [.int c] ∧ ∀ (tp : Addr) (nn kn : Nat) (H' : Hp), Same H H' → H' tp = some (.tup [.int (nn : Nat), .int (kn : Nat)]) → SizeOk nn kn → Q (.ref tp) H'
theorem ok__law_size {f : Addr} {fd : FuncData} (F : Fun K "_law_size" "_law_size" s__law_size f fd) (tt : Txt K mg ad) : FnOk P w K mg base (CX1 P w) 1 f fd ["cell"] spSizeL := by
 refine F.okN sc__law_size (fun vs H Q E h => ?_) (fun cdv A outer s H vs Q E hr h => ?_)
 ·obtain ⟨c, rfl, _⟩ := h
  rfl
 ·obtain ⟨c, rfl, q⟩ := h
  have hs : sizeLine = 16777216 := sizeLine_eq
  refine ⟨_, (pss_cons (ps_set (i := 1) sc__law_size.nd rfl (Or.inl rfl) (pe_lst (pa_pairs [((_, _, _), (_, _, _), _, _), ((_, _, _), (_, _, _), _, _), ((_, _, _), (_, _, _), _, _), ((_, _, _), (_, _, _), _, _), ((_, _, _), (_, _, _), _, _), ((_, _, _), (_, _, _), _, _), ((_, _, _), (_, _, _), _, _), ((_, _, _), (_, _, _), _, _), ((_, _, _), (_, _, _), _, _), ((_, _, _), (_, _, _), _, _), ((_, _, _), (_, _, _), _, _)])))
   (pss_cons (ps_set (i := 1) sc__law_size.nd rfl (Or.inl rfl) (pe_op op_catL (pv 1) (pe_lst (pa_pairs [((_, _, _), (_, _, _), _, _), ((_, _, _), (_, _, _), _, _), ((_, _, _), (_, _, _), _, _), ((_, _, _), (_, _, _), _, _), ((_, _, _), (_, _, _), _, _), ((_, _, _), (_, _, _), _, _), ((_, _, _), (_, _, _), _, _), ((_, _, _), (_, _, _), _, _)]))))
   (pss_one (ps_ret (pe_ix ix_list (pv 1) (pe_op op_mod (pv 0) (pe_callB call_len_seq (by rfl) tt.b_len PySem.boot_len (pa_cN (pv 1) pa_nil))) (fun _ _ => rfl)))))), ?_⟩
  (try rw [cxK2]); (try rw [cxK1])
  refine pairs_use _ fun vs H1 hl1 s1 hv1 => ?_
  have hl1 : vs.length = 11 := hl1
  refine ⟨(by rw [hl1, hs]; decide), fun D hD => ?_⟩
  have t1 := same_upd (o := .lst vs) hD
  refine ⟨_, rfl, ?_⟩
  refine pairs_use _ fun us H2 hl2 s2 hv2 => ?_
  have hl2 : us.length = 8 := hl2
  refine ⟨(by rw [hl2, hs]; decide), fun D2 hD2 => ?_⟩
  have t2 := same_upd (o := .lst us) hD2
  have hlen : (vs ++ us).length = 19 := by rw [List.length_append, hl1, hl2]
  refine ⟨D, D2, vs, us, rfl, rfl, SqL.of ((s2.trans t2) D _ upd_same), SqL.of upd_same, (by show vs.length + us.length ≤ sizeLine; rw [hl1, hl2, hs]; decide), fun L hL => ?_⟩
  have t3 := same_upd (o := .lst (vs ++ us)) hL
  obtain ⟨i, hi, hil⟩ : ∃ i : Nat, c % 19 = (i : Int) ∧ i < 19 := ⟨(c % 19).toNat, by omega, by omega⟩
  obtain ⟨tp, z, g1, g2, g3⟩ : ∃ (tp : Addr) (z : Int × Int), (vs ++ us)[i]? = some (.ref tp) ∧ z ∈ szA ++ szB ∧ upd (upd H2 D2 (.lst us)) L (.lst (vs ++ us)) tp = some (.tup [.int z.1, .int z.2]) := by
   by_cases h : i < 11
   ·obtain ⟨z, hz⟩ : ∃ z, szA[i]? = some z := ⟨_, List.getElem?_eq_getElem (show i < szA.length from h)⟩
    obtain ⟨tp, e1, e2⟩ := hv1 i z (show szA[i]? = some z from hz)
    exact ⟨tp, z, by rw [List.getElem?_append_left (by rw [hl1]; exact h)]; exact e1, List.mem_append_left _ (List.mem_of_getElem? hz), t3 _ _ (t2 _ _ (s2 _ _ (t1 _ _ e2)))⟩
   ·have h8 : i - 11 < 8 := by omega
    obtain ⟨z, hz⟩ : ∃ z, szB[i - 11]? = some z := ⟨_, List.getElem?_eq_getElem (show i - 11 < szB.length from h8)⟩
    obtain ⟨tp, e1, e2⟩ := hv2 (i - 11) z (show szB[i - 11]? = some z from hz)
    exact ⟨tp, z, by rw [List.getElem?_append_right (by rw [hl1]; exact Nat.not_lt.mp h), hl1]; exact e1, List.mem_append_right _ (List.mem_of_getElem? hz), t3 _ _ (t2 _ _ e2)⟩
  obtain ⟨nn, kn, rfl, hok⟩ := szs_ok z g2
  refine ⟨_, rfl, _, rfl, _, rfl, L, _, rfl, .inl (SqL.of upd_same), _, _, rfl, rfl, (by rw [hlen]; show (0 : Int) < 19; decide), L, _, _, _, rfl, rfl, SqL.of upd_same, (show atI (vs ++ us) (c % (((vs ++ us).length : Nat) : Int)) = some (.ref tp) by rw [hlen]; show atI (vs ++ us) (c % 19) = _; rw [hi]; exact atI_nat g1), q tp nn kn _ (s1.trans (t1.trans (s2.trans (t2.trans t3)))) g3 hok⟩
theorem abc_range {k : Nat} (h : k ≤ 6) : ([97, 98, 99, 100, 101, 102] : List Nat).take k = (List.range k).map (97 + ·) := by
 have key : ∀ k : Nat, k < 7 → ([97, 98, 99, 100, 101, 102] : List Nat).take k = (List.range k).map (97 + ·) := by decide
 exact key k (by omega)
theorem fm_len {k : Nat} (l : List (List Nat)) : (l.flatMap fun w => (List.range k).map fun c => w ++ [97 + c]).length = l.length * k := by
 induction l with
 | nil => simp
 | cons a l ih => rw [List.flatMap_cons, List.length_append, ih, List.length_map, List.length_range, List.length_cons, Nat.add_mul]; omega

noncomputable def spWordsL : Sp := fun vs H Q _ => ∃ nn kn : Nat, vs = [.int (nn : Nat), .int (kn : Nat)] ∧ ((1 ≤ kn ∧ kn ≤ 6) ∧ nn ≤ 24 ∧ kn ^ nn ≤ 4096) ∧ ∀ D H', H D = none → Same H H' → H' D = some (.lst ((Wd.allW kn nn).map T)) → Q (.ref D) H'
theorem ok__law_words {f : Addr} {fd : FuncData} (F : Fun K "_law_words" "_law_words" s__law_words f fd) (tt : Txt K mg ad) : FnOk P w K mg base (CX1 P w) 1 f fd ["length", "kinds"] spWordsL := by
 refine F.okN sc__law_words (fun vs H Q E h => ?_) (fun cdv A outer s H vs Q E hr h => ?_)
 ·obtain ⟨nn, kn, rfl, _⟩ := h
  rfl
 ·obtain ⟨n, k, rfl, ⟨hk, hn, hpw⟩, q⟩ := h
  have hs : sizeLine = 16777216 := sizeLine_eq
  refine ⟨_, (pss_cons (ps_set (i := 2) sc__law_words.nd rfl (Or.inl rfl) (pe_lst (pa_cons (pe_strT [] (by decide +kernel)) pa_nil)))
   (pss_cons (ps_for PassesOwn.never rfl (pi_range1 (by rfl) tt.b_range (pa_cons (pv 0) pa_nil)) (pg_name (i := 3) sc__law_words.nd rfl (Or.inl rfl)) (pss_cons (ps_set (i := 4) sc__law_words.nd rfl (Or.inl rfl) (pe_lst pa_nil))
   (pss_cons (ps_for PassesOwn.never rfl (pi_list (pv 2)) (pg_name (i := 5) sc__law_words.nd rfl (Or.inl rfl)) (pss_one (ps_for PassesOwn.never rfl (pi_str (pe_slice sl_T (pe_strT [97, 98, 99, 100, 101, 102] (by decide +kernel)) po_none (po_some (pv 1)))) (pg_name (i := 6) sc__law_words.nd rfl (Or.inl rfl)) (pss_one (ps_expr (pe_bm PySem.F.plainAttrs_list PySem.F.slot_list_append PySem.F.type_list_append mt_append (pv 4) (pa_cons (pe_op op_add_T (pv 5) (pv 6)) pa_nil)))))))
   (pss_one (ps_set (i := 2) sc__law_words.nd rfl (Or.inl rfl) (pv 4))))))
   (pss_one (ps_ret (pv 2))))), ?_⟩
  (try rw [cxK2]); (try rw [cxK1])
  refine ⟨(by show 1 ≤ sizeLine; omega), fun p hp => ?_⟩
  refine ⟨_, rfl, _, rfl, by omega, by omega, ?_⟩
  rw [Int.toNat_natCast]
  refine for_range (fun i σ H2 => Same H H2 ∧ ∃ (D : Addr) (v1 v2 v3 v4 : Option V), H D = none ∧ H2 D = some (.lst ((Wd.allW k i).map T)) ∧ σ = [some (.int (n : Nat)), some (.int (k : Nat)), some (.ref D), v1, v2, v3, v4])
   ⟨(fun b o e => by rw [upd_ne (ne_of_none e hp)]; exact e), p, none, none, none, none, hp, upd_same, rfl⟩ ?_ ?_
  ·rintro i σ H2 hi ⟨s2, D, v1, v2, v3, v4, hD, hd, rfl⟩
   have hpi : k ^ i * k ≤ 4096 := by
    rw [← Nat.pow_succ]
    exact Nat.le_trans (Nat.pow_le_pow_right (by omega) (by omega)) hpw
   refine ⟨(by show 0 ≤ sizeLine; omega), fun L hL => ?_⟩
   have sA : Same H2 (upd H2 L (.lst [])) := same_upd hL
   refine ⟨_, rfl, D, rfl, ⟨_, SqL.of (sA D _ hd)⟩, ?_⟩
   refine for_list (K := K) (a := D) (xs := (Wd.allW k i).map T) (fun j σ H3 => Same H2 H3 ∧ ∃ (v3 v4 : Option V), H3 L = some (.lst ((((Wd.allW k i).take j).flatMap fun w => (List.range k).map fun c => w ++ [97 + c]).map T)) ∧ σ = [some (.int (n : Nat)), some (.int (k : Nat)), some (.ref D), some (.int (0 + (i : Int))), some (.ref L), v3, v4])
    ⟨sA, _, _, upd_same, rfl⟩ (fun j σ H3 _ h => SqL.of (h.1 D _ hd)) ?_ ?_
   ·rintro j y σ H3 hj ⟨s3, v3, v4, hLd, rfl⟩
    have hjl : j < (Wd.allW k i).length := by
     have := (List.getElem?_eq_some_iff.mp hj).1
     rw [List.length_map] at this
     exact this
    have hjx : (Wd.allW k i)[j]? = some (Wd.allW k i)[j] := List.getElem?_eq_getElem hjl
    obtain rfl : y = T (Wd.allW k i)[j] := by
     rw [List.getElem?_map, hjx] at hj
     exact (Option.some.inj hj).symm
    have hwl : ((Wd.allW k i)[j]).length = i := ((Wd.mem_allW (by omega)).mp (List.getElem_mem hjl)).1
    generalize (Wd.allW k i)[j] = wd at hjx hwl hj
    rw [Wd.allW_len] at hjl
    refine ⟨_, rfl, _, rfl, _, rfl, (by show 6 ≤ sizeLine; omega), ?_⟩
    rw [cutL_take, abc_range hk.2]
    refine ⟨_, rfl, ?_⟩
    refine for_text (l := (List.range k).map (97 + ·)) (fun m σ H4 => Same H2 H4 ∧ ∃ (v4 : Option V), H4 L = some (.lst (((((Wd.allW k i).take j).flatMap fun w => (List.range k).map fun c => w ++ [97 + c]) ++ ((((List.range k).map (97 + ·)).take m).map fun c => wd ++ [c])).map T)) ∧ σ = [some (.int (n : Nat)), some (.int (k : Nat)), some (.ref D), some (.int (0 + (i : Int))), some (.ref L), some (T wd), v4])
     ⟨s3, v4, by rw [List.take_zero, List.map_nil, List.append_nil]; exact hLd, rfl⟩ ?_ ?_
    ·rintro m c σ H4 hm ⟨s4, v4, hL4, rfl⟩
     have hml : m < k := by
      have := (List.getElem?_eq_some_iff.mp hm).1
      rw [List.length_map, List.length_range] at this
      exact this
     refine ⟨_, rfl, .inl ⟨rfl, _, SqL.of hL4⟩, _, rfl, _, rfl, _, rfl, _, rfl, (by show wd.length + 1 ≤ sizeLine; omega), L, _, _, rfl, rfl, hL4, ?_, ?_⟩
     ·rw [List.length_map, List.length_append, fm_len, List.length_map, List.length_take, List.length_take, Wd.allW_len, List.length_map, List.length_range]
      have : min j (k ^ i) * k ≤ k ^ i * k := Nat.mul_le_mul_right _ (Nat.min_le_right _ _)
      omega
     ·refine ⟨fun b o e => by rw [upd_ne (ne_of_none e hL)]; exact s4 b o e, some (T [c]), ?_, rfl⟩
      rw [List.take_add_one, hm]
      refine upd_same.trans ?_
      simp
    ·rintro σ H4 ⟨s4, v4, hL4, rfl⟩
     refine ⟨s4, _, _, ?_, rfl⟩
     rw [hL4, List.take_length, List.take_add_one, hjx, List.flatMap_append, List.map_map]
     simp
   ·rintro σ H3 ⟨s3, v3, v4, hLd, rfl⟩
    rw [List.length_map, List.take_length, ← Wd.allW_succ k i (by omega)] at hLd
    refine ⟨_, rfl, s2.trans s3, L, _, _, _, _, ?_, hLd, rfl⟩
    cases hq : H L with
    | none => rfl
    | some o => have := s2 _ _ hq; rw [hL] at this; cases this
  ·rintro σ H2 ⟨s2, D, v1, v2, v3, v4, hD, hd, rfl⟩
   exact ⟨_, rfl, q D H2 hD s2 hd⟩

noncomputable def OrdT (t : List Nat) (nn kn : Nat) : Prop := TellOk t nn kn ∧ ∀ j, j < kn ^ (nn - 1) → ∀ c d, c < kn → d < kn → t[c * kn ^ (nn - 1) + j]? = t[d * kn ^ (nn - 1) + j]? → c = d
theorem ord_fair {t : List Nat} {nn kn : Nat} (hk : 1 ≤ kn) (hn : 1 ≤ nn) (h : OrdT t nn kn) : FairR t nn kn := by
 have hnd := allW_nodup (k := kn) (n := nn) (by omega)
 have hin : ∀ {a b : List Nat}, RW a nn kn → RW b nn kn → nextF t kn a = nextF t kn b → a = b := fun {a b} ha hb e => by
  unfold nextF at e
  obtain ⟨e1, e2⟩ := List.append_inj' e rfl
  cases a with
  | nil => have := ha.1; simp at this; omega
  | cons x r =>
   cases b with
   | nil => have := hb.1; simp at this; omega
   | cons y q =>
    have e1 : r = q := e1
    subst e1
    have hl : r.length = nn - 1 := by have := ha.1; rw [List.length_cons] at this; omega
    have hx := ha.2 x (List.mem_cons_self ..)
    have hy := hb.2 y (List.mem_cons_self ..)
    have hj : Wd.num kn r < kn ^ (nn - 1) := (Wd.spell_num (nn - 1) r hl fun c hc => ha.2 c (List.mem_cons_of_mem _ hc)).2
    have g1 := told_at h.1 ha
    have g2 := told_at h.1 hb
    have e2 : t.getD (Wd.num kn (x :: r)) 97 = t.getD (Wd.num kn (y :: r)) 97 := by simpa using e2
    rw [e2, ← g2, Wd.num_cons, Wd.num_cons, hl] at g1
    have := h.2 _ hj (x - 97) (y - 97) (by omega) (by omega) g1
    rw [show x = y by omega]
 refine ⟨hnd, (List.perm_ext_iff_of_nodup ?_ hnd).mpr fun x => ⟨fun hx => ?_, fun hx => ?_⟩⟩
 ·exact List.pairwise_map.mpr (List.Pairwise.imp_of_mem (fun {a b} ha hb hab e => hab (hin ((rw_all (by omega)).mp ha) ((rw_all (by omega)).mp hb) e)) hnd)
 ·obtain ⟨w, hw, rfl⟩ := List.mem_map.mp hx
  exact (rw_all (by omega)).mpr (next_rw h.1 ((rw_all (by omega)).mp hw) hn)
 ·refine Wd.full (a := (Wd.allW kn nn).map (nextF t kn)) (b := Wd.allW kn nn) ?_ (fun y hy => ?_) (by rw [List.length_map]; exact Nat.le_refl _) hx
  ·exact List.pairwise_map.mpr (List.Pairwise.imp_of_mem (fun {a b} ha hb hab e => hab (hin ((rw_all (by omega)).mp ha) ((rw_all (by omega)).mp hb) e)) hnd)
  ·obtain ⟨w, hw, rfl⟩ := List.mem_map.mp hy
   exact (rw_all (by omega)).mpr (next_rw h.1 ((rw_all (by omega)).mp hw) hn)
theorem ltrs_succ (c : Nat) : Wd.ltrs (c + 1) = Wd.ltrs c ++ [97 + c] := by
 unfold Wd.ltrs
 rw [List.range_succ, List.map_append]
 rfl
theorem ins_perm {os : List Nat} {c m : Nat} (h : os.Perm (Wd.ltrs c)) : (os.take m ++ (97 + c) :: os.drop m).Perm (Wd.ltrs (c + 1)) := by
 rw [ltrs_succ]
 refine List.perm_middle.trans ?_
 rw [List.take_append_drop]
 exact (h.cons _).trans (List.perm_append_singleton _ _).symm
theorem ins_map {os : List Nat} {x m : Nat} : ((os.map fun c => [c]).map T).take m ++ T [x] :: ((os.map fun c => [c]).map T).drop m = (((os.take m ++ x :: os.drop m).map fun c => [c]).map T) := by
 rw [List.map_append, List.map_append, List.map_cons, List.map_cons, List.map_take, List.map_take, List.map_drop, List.map_drop]
theorem ix_uniq {E c d i j : Nat} (hi : i < E) (hj : j < E) (h : c * E + i = d * E + j) : c = d ∧ i = j := by
 have hE : 0 < E := by omega
 have e1 := congrArg (· % E) h
 simp only [Nat.mul_add_mod_of_lt hi, Nat.mul_add_mod_of_lt hj] at e1
 subst e1
 exact ⟨Nat.eq_of_mul_eq_mul_right hE (Nat.add_right_cancel h), rfl⟩
theorem ix_lt {E kn c j : Nat} (hc : c < kn) (hj : j < E) : c * E + j < E * kn := by
 have : (c + 1) * E ≤ kn * E := Nat.mul_le_mul_right _ hc
 rw [Nat.succ_mul] at this
 rw [Nat.mul_comm E kn]
 omega
set_option genInjectivity false in
structure Fill (ts : List (List Nat)) (kn E j c : Nat) (os : List Nat) : Prop where
 len : ts.length = E * kn
 done : ∀ i, i < j → ∃ qs : List Nat, qs.Perm (Wd.ltrs kn) ∧ ∀ d, d < kn → ts[d * E + i]? = (qs[d]?).map fun x => [x]
 now : ∀ d, d < c → ts[d * E + j]? = (os[d]?).map fun x => [x]
theorem Fill.put {ts : List (List Nat)} {kn E j c x : Nat} {os : List Nat} (h : Fill ts kn E j c os) (hj : j < E) (hc : c < kn) (hx : os[c]? = some x) : Fill (ts.set (c * E + j) [x]) kn E j (c + 1) os := by
 have hlt := ix_lt hc hj
 refine ⟨by rw [List.length_set]; exact h.len, fun i hi => ?_, fun d hd => ?_⟩
 ·obtain ⟨qs, h1, h2⟩ := h.done i hi
  refine ⟨qs, h1, fun d hd => ?_⟩
  rw [List.getElem?_set_ne (fun e => by have := (ix_uniq hj (by omega) e).2; omega)]
  exact h2 d hd
 ·by_cases e : d = c
  ·subst e
   rw [List.getElem?_set_self (by rw [h.len]; exact hlt), hx]
   rfl
  ·rw [List.getElem?_set_ne (fun z => e (ix_uniq hj hj z).1.symm)]
   exact h.now d (by omega)
theorem Fill.next {ts : List (List Nat)} {kn E j : Nat} {os os' : List Nat} (h : Fill ts kn E j kn os) (hp : os.Perm (Wd.ltrs kn)) : Fill ts kn E (j + 1) 0 os' := by
 refine ⟨h.len, fun i hi => ?_, fun d hd => absurd hd (by omega)⟩
 by_cases e : i = j
 ·subst e
  exact ⟨os, hp, h.now⟩
 ·exact h.done i (by omega)
theorem ltrs_nd (k : Nat) : (Wd.ltrs k).Nodup := (Wd.ltrs_sorted k).imp fun h e => by omega
theorem ltrs_len (k : Nat) : (Wd.ltrs k).length = k := by rw [Wd.ltrs, List.length_map, List.length_range]
theorem Fill.ord {ts : List (List Nat)} {kn nn : Nat} {os : List Nat} (hk : 1 ≤ kn) (hn : 1 ≤ nn) (h : Fill ts kn (kn ^ (nn - 1)) (kn ^ (nn - 1)) 0 os) : OrdT ts.flatten nn kn ∧ ts = (ts.flatten).map fun c => [c] := by
 have hE : kn ^ (nn - 1) * kn = kn ^ nn := by rw [← Nat.pow_succ, show (nn - 1).succ = nn by omega]
 have hE0 : 0 < kn ^ (nn - 1) := Nat.pow_pos (by omega)
 have hat : ∀ i, i < ts.length → ∃ x, ts[i]? = some [x] ∧ 97 ≤ x ∧ x < 97 + kn := fun i hi => by
  obtain ⟨qs, h1, h2⟩ := h.done (i % kn ^ (nn - 1)) (Nat.mod_lt _ hE0)
  have hd : i / kn ^ (nn - 1) < kn := by
   rw [Nat.div_lt_iff_lt_mul hE0, Nat.mul_comm]
   rw [h.len] at hi
   exact hi
  have e := h2 _ hd
  rw [Nat.div_add_mod' i] at e
  have hql : qs.length = kn := by rw [h1.length_eq, ltrs_len]
  rw [List.getElem?_eq_getElem (l := qs) (by omega)] at e
  exact ⟨_, e, Wd.mem_ltrs.mp (h1.mem_iff.mp (List.getElem_mem _))⟩
 have hsing : ts = (ts.flatten).map fun c => [c] := by
  have : ∀ l : List (List Nat), (∀ y ∈ l, ∃ x, y = [x]) → l = l.flatten.map fun c => [c] := fun l => by
   induction l with
   | nil => intro _; rfl
   | cons a l ih =>
    intro hl
    obtain ⟨x, rfl⟩ := hl a (List.mem_cons_self ..)
    rw [List.flatten_cons, List.singleton_append, List.map_cons, ← ih fun y hy => hl y (List.mem_cons_of_mem _ hy)]
  refine this ts fun y hy => ?_
  obtain ⟨i, hi, rfl⟩ := List.mem_iff_getElem.mp hy
  obtain ⟨x, e, _⟩ := hat i hi
  rw [List.getElem?_eq_getElem hi] at e
  exact ⟨x, Option.some.inj e⟩
 have hget : ∀ i, ts[i]? = (ts.flatten[i]?).map fun c => [c] := fun i => by
  conv => lhs; rw [hsing]
  rw [List.getElem?_map]
 have hlen : ts.flatten.length = kn ^ nn := by
  have := congrArg List.length hsing
  rw [List.length_map] at this
  rw [← this, h.len, hE]
 refine ⟨⟨⟨hlen, fun c hc => ?_⟩, fun j hj c d hc hd e => ?_⟩, hsing⟩
 ·obtain ⟨i, hi, rfl⟩ := List.mem_iff_getElem.mp hc
  have hi' : i < ts.length := by rw [h.len, hE]; omega
  obtain ⟨x, e1, e2⟩ := hat i hi'
  rw [hget, List.getElem?_eq_getElem hi] at e1
  have : [ts.flatten[i]] = [x] := Option.some.inj e1
  rw [List.cons.inj this |>.1]
  exact e2
 ·obtain ⟨qs, h1, h2⟩ := h.done j hj
  have g1 := h2 c hc
  have g2 := h2 d hd
  rw [hget, e, ← hget, g2] at g1
  have hql : qs.length = kn := by rw [h1.length_eq, ltrs_len]
  have hnd : qs.Nodup := h1.nodup_iff.mpr (ltrs_nd kn)
  rw [List.getElem?_eq_getElem (by omega), List.getElem?_eq_getElem (by omega)] at g1
  have g3 : [qs[d]'(by omega)] = [qs[c]'(by omega)] := Option.some.inj g1
  have g4 := (List.cons.inj g3).1
  exact ((List.getElem_inj hnd).mp g4).symm
noncomputable def spFairL (K : PySem.W.Frag) : Sp := fun vs H Q _ => ∃ (a : Addr) (ns : List Int) (nn kn : Nat), vs = [.ref a, .int (nn : Nat), .int (kn : Nat)] ∧ SqL K H a (ns.map V.int) ∧ ns.length ≤ 63 ∧ SizeOk nn kn ∧ ∀ (t : List Nat) (H' : Hp), Same H H' → OrdT t nn kn → Q (T t) H'
theorem ok__law_fair {f : Addr} {fd : FuncData} (F : Fun K "_law_fair" "_law_fair" s__law_fair f fd) (tt : Txt K mg ad) (C__law_power : Cal P w K mg base (CX1 P w) "_law_power" 1 ["base", "many"] spPow) (C__law_folded : Cal P w K mg base (CX1 P w) "_law_folded" 1 ["script", "many"] (spFolded K)) (C__law_stir : Cal P w K mg base (CX1 P w) "_law_stir" 1 ["cell", "k"] spStir) : FnOk P w K mg base (CX1 P w) 2 f fd ["script", "length", "kinds"] (spFairL K) := by
 refine F.okN sc__law_fair (fun vs H Q E h => ?_) (fun cdv A outer s H vs Q E hr h => ?_)
 ·obtain ⟨a, ns, nn, kn, rfl, _⟩ := h
  rfl
 ·obtain ⟨a, ns, nn, kn, rfl, hS, hlen, hz, q⟩ := h
  have hs : sizeLine = 16777216 := sizeLine_eq
  obtain ⟨hk, hn, h64⟩ := id hz
  have hE : kn ^ (nn - 1) * kn = kn ^ nn := by rw [← Nat.pow_succ, show (nn - 1).succ = nn by omega]
  have hE0 : 0 < kn ^ (nn - 1) := Nat.pow_pos (by omega)
  have hord := fun (ts : List (List Nat)) (os : List Nat) => Fill.ord (ts := ts) (os := os) hk.1 hn.1
  refine ⟨_, (pss_cons (ps_set (i := 3) sc__law_fair.nd rfl (Or.inl rfl) (pe_cal C__law_power hr pass1 (pa_cons (pv 2) (pa_cons (pe_op op_sub (pv 1) pe_int) pa_nil))))
   (pss_cons (ps_set (i := 4) sc__law_fair.nd rfl (Or.inl rfl) (pe_cal C__law_folded hr pass1 (pa_cons (pv 0) (pa_cons (pv 3) pa_nil))))
   (pss_cons (ps_set (i := 5) sc__law_fair.nd rfl (Or.inl rfl) (pe_op op_repL (pe_lst (pa_cons (pe_strT [] (by decide +kernel)) pa_nil)) (pe_op op_mul (pv 3) (pv 2))))
   (pss_cons (ps_set (i := 6) sc__law_fair.nd rfl (Or.inl rfl) (pe_ix ix_list (pe_op op_catL (pv 0) (pe_lst (pa_cons pe_int pa_nil))) pe_int (fun _ _ => rfl)))
   (pss_cons (ps_for PassesOwn.never rfl (pi_range1 (by rfl) tt.b_range (pa_cons (pv 3) pa_nil)) (pg_name (i := 7) sc__law_fair.nd rfl (Or.inl rfl)) (pss_cons (ps_set (i := 8) sc__law_fair.nd rfl (Or.inl rfl) (pe_lst pa_nil))
   (pss_cons (ps_set (i := 9) sc__law_fair.nd rfl (Or.inl rfl) (pe_op op_fdiv (pe_cal C__law_stir hr pass1 (pa_cons (pe_ix ix_list (pv 4) (pv 7) (fun _ _ => rfl)) (pa_cons (pv 7) pa_nil))) pe_int))
   (pss_cons (ps_if (pt_cmpR op_eq_I (pe_op op_mod (pe_ix ix_list (pe_op op_catL (pv 0) (pe_lst (pa_cons pe_int pa_nil))) pe_int (fun _ _ => rfl)) pe_int) pe_int (nomark _)) (pss_one (ps_set (i := 9) sc__law_fair.nd rfl (Or.inl rfl) (pe_op op_fdiv (pv 6) pe_int))) pss_nil)
   (pss_cons (ps_for PassesOwn.never rfl (pi_range1 (by rfl) tt.b_range (pa_cons (pv 2) pa_nil)) (pg_name (i := 10) sc__law_fair.nd rfl (Or.inl rfl)) (pss_cons (ps_expr (pe_bm PySem.F.plainAttrs_list PySem.F.slot_list_insert PySem.F.type_list_insert mt_insert (pv 8) (pa_cons (pe_op op_mod (pv 9) (pe_op op_add (pv 10) pe_int)) (pa_cons (pe_ix ix_T (pe_strT [97, 98, 99, 100, 101, 102] (by decide +kernel)) (pv 10) (fun _ _ => rfl)) pa_nil))))
   (pss_one (ps_set (i := 9) sc__law_fair.nd rfl (Or.inl rfl) (pe_op op_fdiv (pv 9) (pe_op op_add (pv 10) pe_int))))))
   (pss_cons (ps_set (i := 6) sc__law_fair.nd rfl (Or.inl rfl) (pe_op op_mul pe_int (pv 9)))
   (pss_one (ps_for PassesOwn.never rfl (pi_range1 (by rfl) tt.b_range (pa_cons (pv 2) pa_nil)) (pg_name (i := 10) sc__law_fair.nd rfl (Or.inl rfl)) (pss_one (ps_asg (pe_ix ix_list (pv 8) (pv 10) (fun _ _ => rfl)) (pg_sub (pv 5) (pe_op op_add (pe_op op_mul (pv 10) (pv 3)) (pv 7)) set_list)))))))))))
   (pss_one (ps_ret (pe_bm PySem.F.plainAttrs_str PySem.F.slot_str_join PySem.F.type_str_join mt_join (pe_strT [] (by decide +kernel)) (pa_cons (pv 5) pa_nil))))))))), ?_⟩
  (try rw [cxK2]); (try rw [cxK1])
  refine ⟨_, rfl, _, rfl, _, _, rfl, rfl, kn, nn - 1, (by show [V.int (kn : Nat), V.int (((nn : Nat) : Int) - 1)] = _; rw [show ((nn : Nat) : Int) - 1 = ((nn - 1 : Nat) : Int) by omega]), ⟨by omega, by omega⟩, ?_⟩
  dsimp only
  generalize kn ^ (nn - 1) = E at hE hE0 hord ⊢
  have hE64 : E ≤ 64 := Nat.le_trans (Nat.le_mul_of_pos_right E hk.1) (by omega)
  refine ⟨_, rfl, _, rfl, a, ns, E, rfl, hS, ⟨hlen, by omega, by omega⟩, fun C zs H1 s1 hdC hzl => ?_⟩
  refine ⟨(by show 1 ≤ sizeLine; omega), fun p1 hp1 => ?_⟩
  have t1 := same_upd (o := .lst [T []]) hp1
  refine ⟨_, rfl, _, rfl, _, _, rfl, rfl, .inl ⟨by omega, by omega⟩, p1, E * kn, _, rfl, congrArg V.int (Int.natCast_mul E kn).symm, SqL.of upd_same, ⟨by omega, by show 1 * (E * kn) ≤ sizeLine; omega⟩, fun D hD => ?_⟩
  have hrep : ∀ m : Nat, (List.replicate m [T []]).flatten = (List.replicate m ([] : List Nat)).map T := fun m => by
   induction m with
   | zero => rfl
   | succ m ih => rw [List.replicate_succ, List.flatten_cons, ih, List.replicate_succ, List.map_cons]; rfl
  have t2 := t1.trans (same_upd (o := .lst (List.replicate (E * kn) [T []]).flatten) hD)
  rw [hrep] at t2 ⊢
  obtain ⟨H2, hH2, s2, hd2⟩ := namedD t2
  rw [← hH2]
  obtain ⟨z0, hz0⟩ : ∃ z0 : Int, atI (ns.map V.int ++ [V.int 0]) 0 = some (V.int z0) := by
   cases ns with
   | nil => exact ⟨0, atI_nat (j := 0) rfl⟩
   | cons n ns => exact ⟨n, atI_nat (j := 0) rfl⟩
  have s12 := s1.trans s2
  refine ⟨_, rfl, (by show 1 ≤ sizeLine; omega), fun p2 hp2 => ?_⟩
  have t3 := same_upd (o := .lst [.int 0]) hp2
  refine ⟨a, p2, _, _, rfl, rfl, (s12.trans t3).seq hS, SqL.of upd_same, (by rw [List.length_map]; show ns.length + 1 ≤ sizeLine; omega), fun p3 hp3 => ⟨p3, _, _, _, rfl, rfl, SqL.of upd_same, hz0, ?_⟩⟩
  have t4 := t3.trans (same_upd (o := .lst (ns.map V.int ++ [V.int 0])) hp3)
  have hDn : H D = none := by
   cases e : H D with
   | none => rfl
   | some o => exact absurd (((s1.trans t1) D o e).symm.trans hD) (fun z => nomatch z)
  have hD1 : H1 D = none := by
   cases e : H1 D with
   | none => rfl
   | some o => exact absurd ((t1 D o e).symm.trans hD) (fun z => nomatch z)
  have hCD : C ≠ D := fun z => by rw [z, hD1] at hdC; cases hdC
  refine ⟨_, rfl, _, rfl, by omega, by omega, ?_⟩
  rw [Int.toNat_natCast]
  refine for_range (fun j σ H3 => Same H H3 ∧ H3 C = some (.lst (zs.map V.int)) ∧ ∃ (ts : List (List Nat)) (dg : Int) (v7 v8 v9 v10 : Option V), Fill ts kn E j 0 [] ∧ H3 D = some (.lst (ts.map T)) ∧ σ = [some (.ref a), some (.int (nn : Nat)), some (.int (kn : Nat)), some (.int (E : Nat)), some (.ref C), some (.ref D), some (.int dg), v7, v8, v9, v10])
   ⟨s12.trans t4, t4 C _ (s2 C _ hdC), _, _, none, none, none, none, ⟨List.length_replicate .., fun i hi => absurd hi (by omega), fun d hd => absurd hd (by omega)⟩, t4 D _ hd2, rfl⟩ ?_ ?_
  ·rintro j σ H3 hj ⟨s3, c3, ts, dg, v7, v8, v9, v10, hfill, d3, rfl⟩
   refine ⟨(by show 0 ≤ sizeLine; omega), fun O hO => ?_⟩
   have t5 := same_upd (o := .lst []) hO
   have hOD : O ≠ D := fun z => by rw [z, d3] at hO; cases hO
   obtain ⟨zj, hzj⟩ : ∃ zj, zs[j]? = some zj := ⟨_, List.getElem?_eq_getElem (by omega)⟩
   refine ⟨_, rfl, _, rfl, C, _, _, _, rfl, rfl, SqL.of (t5 C _ c3), (by rw [Int.zero_add]; exact atI_nat (by rw [List.getElem?_map, hzj]; rfl)), _, rfl, _, _, rfl, ⟨by omega, by omega⟩, _, _, rfl, rfl, ⟨by decide, by decide⟩, ?_⟩
   refine ⟨_, rfl, (by show 1 ≤ sizeLine; omega), fun p4 hp4 => ?_⟩
   have t6 := t5.trans (same_upd (o := .lst [.int 0]) hp4)
   refine ⟨a, p4, _, _, rfl, rfl, (s3.trans t6).seq hS, SqL.of upd_same, (by rw [List.length_map]; show ns.length + 1 ≤ sizeLine; omega), fun p5 hp5 => ⟨p5, _, _, _, rfl, rfl, SqL.of upd_same, hz0, ?_⟩⟩
   have t7 := t6.trans (same_upd (o := .lst (ns.map V.int ++ [V.int 0])) hp5)
   have o7 : (upd (upd (upd H3 O (.lst [])) p4 (.lst [.int 0])) p5 (.lst (ns.map V.int ++ [V.int 0]))) O = some (.lst []) := same_upd hp5 O _ (same_upd hp4 O _ upd_same)
   generalize upd (upd (upd H3 O (.lst [])) p4 (.lst [.int 0])) p5 (.lst (ns.map V.int ++ [V.int 0])) = H4 at t7 o7 ⊢
   refine ⟨_, _, rfl, rfl, (by show (0 : Int) < 2; decide), _, rfl, _, rfl, _, rfl, ?_⟩
   refine ite2 (fun h => ?_) (fun h => ?_)
   refine ⟨_, rfl, _, _, rfl, rfl, ⟨by decide, by decide⟩, ?_⟩
   obtain ⟨pt, hpt⟩ : ∃ pt : Int, dg / 2 = pt := ⟨_, rfl⟩
   rotate_left
   obtain ⟨pt, hpt⟩ : ∃ pt : Int, stirZ zj (0 + ((j : Nat) : Int)) / 7 = pt := ⟨_, rfl⟩
   all_goals
    dsimp only
    rw [hpt]
    refine ⟨_, rfl, _, rfl, by omega, by omega, ?_⟩
    rw [Int.toNat_natCast]
    refine for_range (fun c σ H5 => (∀ b o, b ≠ O → H4 b = some o → H5 b = some o) ∧ ∃ (os : List Nat) (pt : Int) (v10 : Option V), os.Perm (Wd.ltrs c) ∧ H5 O = some (.lst ((os.map fun c => [c]).map T)) ∧ σ = [some (.ref a), some (.int (nn : Nat)), some (.int (kn : Nat)), some (.int (E : Nat)), some (.ref C), some (.ref D), some (.int dg), some (.int (0 + ((j : Nat) : Int))), some (.ref O), some (.int pt), v10])
     ⟨fun b o _ e => e, [], pt, _, List.Perm.refl _, o7, rfl⟩ ?_ ?_
    ·rintro c σ H5 hc ⟨k5, os, pt, v10, hperm, o5, rfl⟩
     have hol : os.length = c := by rw [hperm.length_eq, ltrs_len]
     obtain ⟨m, hm, hml⟩ : ∃ m : Nat, pt % (0 + ((c : Nat) : Int) + 1) = (m : Int) ∧ m ≤ c := ⟨(pt % (0 + ((c : Nat) : Int) + 1)).toNat, by have := Int.emod_nonneg pt (show 0 + ((c : Nat) : Int) + 1 ≠ 0 by omega); omega, by have := Int.emod_nonneg pt (show 0 + ((c : Nat) : Int) + 1 ≠ 0 by omega); have := Int.emod_lt_of_pos pt (show 0 < 0 + ((c : Nat) : Int) + 1 by omega); omega⟩
     have hch : atI [97, 98, 99, 100, 101, 102] (0 + ((c : Nat) : Int)) = some (97 + c) := by
      have : ∀ k : Nat, k < 6 → ([97, 98, 99, 100, 101, 102] : List Nat)[k]? = some (97 + k) := by decide
      rw [Int.zero_add]
      exact atI_nat (this c (by omega))
     refine ⟨_, rfl, .inl ⟨rfl, _, SqL.of o5⟩, _, rfl, _, rfl, _, _, rfl, rfl, _, _, rfl, rfl, (by show (0 : Int) < 0 + ((c : Nat) : Int) + 1; omega), _, rfl, _, rfl, _, rfl, (by show 6 ≤ sizeLine; omega), _, hch, O, _, m, T [97 + c], rfl, (by show [V.int (pt % (0 + ((c : Nat) : Int) + 1)), T [97 + c]] = _; rw [hm]), o5, (by rw [List.length_map, List.length_map, hol]; exact hml), (by rw [List.length_map, List.length_map]; omega), ?_⟩
     rw [ins_map]
     refine ⟨_, rfl, _, rfl, _, _, rfl, rfl, _, _, rfl, rfl, ⟨by show (0 : Int) < 0 + ((c : Nat) : Int) + 1; omega, by show 0 + ((c : Nat) : Int) + 1 < _; omega⟩, ?_⟩
     exact ⟨fun b o hb e => by rw [upd_ne hb]; exact k5 b o hb e, _, _, _, ins_perm hperm, upd_same, rfl⟩
    ·rintro σ H5 ⟨k5, os, pt, v10, hperm, o5, rfl⟩
     have hol : os.length = kn := by rw [hperm.length_eq, ltrs_len]
     have d5 : H5 D = some (.lst (ts.map T)) := k5 D _ (fun z => hOD z.symm) (t7 D _ d3)
     refine ⟨_, rfl, _, _, rfl, rfl, .inl ⟨by decide, by decide⟩, ?_⟩
     refine ⟨_, rfl, _, rfl, by omega, by omega, ?_⟩
     rw [Int.toNat_natCast]
     refine for_range (fun c σ H6 => (∀ b o, b ≠ D → H5 b = some o → H6 b = some o) ∧ ∃ (ts : List (List Nat)) (v10 : Option V), Fill ts kn E j c os ∧ H6 D = some (.lst (ts.map T)) ∧ σ = [some (.ref a), some (.int (nn : Nat)), some (.int (kn : Nat)), some (.int (E : Nat)), some (.ref C), some (.ref D), some (.int (2 * pt)), some (.int (0 + ((j : Nat) : Int))), some (.ref O), some (.int pt), v10])
      ⟨fun b o _ e => e, ts, _, ⟨hfill.len, hfill.done, fun d hd => absurd hd (by omega)⟩, d5, rfl⟩ ?_ ?_
     ·rintro c σ H6 hc ⟨k6, ts, v10, hfl, d6, rfl⟩
      obtain ⟨x, hx⟩ : ∃ x, os[c]? = some x := ⟨_, List.getElem?_eq_getElem (by omega)⟩
      have hlt := ix_lt (E := E) hc hj
      have hce : c * E ≤ 64 := by omega
      refine ⟨_, rfl, _, rfl, O, _, _, _, rfl, rfl, SqL.of (k6 O _ hOD o5), (by rw [Int.zero_add]; exact atI_nat (by rw [List.getElem?_map, List.getElem?_map, hx]; rfl)), ?_⟩
      refine ⟨_, rfl, _, rfl, _, rfl, _, _, rfl, rfl, .inl ⟨by omega, by omega⟩, _, rfl, _, _, rfl, rfl, D, _, _, c * E + j, rfl, rfl, d6, (show ixN _ ((0 + ((c : Nat) : Int)) * ((E : Nat) : Int) + (0 + ((j : Nat) : Int))) = _ by rw [Int.zero_add, Int.zero_add, ← Int.natCast_mul, ← Int.natCast_add]; exact ixN_nat (by rw [List.length_map, hfl.len]; exact hlt)), ?_⟩
      rw [set_map T]
      exact ⟨fun b o hb e => by rw [upd_ne hb]; exact k6 b o hb e, _, _, hfl.put hj hc hx, upd_same, rfl⟩
     ·rintro σ H6 ⟨k6, ts, v10, hfl, d6, rfl⟩
      have hOn : ∀ b o, H3 b = some o → b ≠ O := fun b o e z => by rw [z, hO] at e; cases e
      have hDb : ∀ b o, H b = some o → b ≠ D := fun b o e z => by rw [z, hDn] at e; cases e
      refine ⟨fun b o e => k6 b o (hDb b o e) (k5 b o (hOn b o (s3 b o e)) (t7 b o (s3 b o e))), k6 C _ hCD (k5 C _ (hOn C _ c3) (t7 C _ c3)), ts, _, _, _, _, _, hfl.next hperm, d6, rfl⟩
  ·rintro σ H3 ⟨s3, c3, ts, dg, v7, v8, v9, v10, hfill, d3, rfl⟩
   obtain ⟨h1, h2⟩ := hord ts [] hfill
   have hl := h1.1.1
   rw [h2] at d3
   refine ⟨rfl, _, rfl, rfl, D, _, rfl, SqL.of d3, (by rw [signs_flat]; omega), ?_⟩
   rw [signs_flat]
   exact q _ H3 s3 h1

noncomputable def bK (g : List Nat → List Nat) (ls : List (List Nat)) : List (Key × V) := ls.map fun t => (Sum.inr (tx t), T (g t))
theorem bK_val {g : List Nat → List Nat} {t : List Nat} : ∀ {ls : List (List Nat)}, valV (bK g ls) (Sum.inr (tx t)) = if t ∈ ls then some (T (g t)) else none
 | [] => by simp [bK, valV]
 | l :: ls => by
  have ih := @bK_val g t ls
  unfold bK valV at ih ⊢
  rw [List.map_cons, List.find?_cons]
  by_cases e : l = t
  ·subst e
   simp
  ·have e2 : ¬ (Sum.inr (tx l) : Key) = Sum.inr (tx t) := fun z => e (tx_inj (Sum.inr.inj z))
   have e3 : ¬ t = l := fun z => e z.symm
   simp only [e2, decide_false, List.mem_cons, e3, false_or]
   exact ih
theorem bK_put {g : List Nat → List Nat} {t : List Nat} {ls : List (List Nat)} (h : ¬ t ∈ ls) : putK (bK g ls) (Sum.inr (tx t)) (T (g t)) = bK g (ls ++ [t]) := by
 have e : ((bK g ls).any fun kv => decide (kv.1 = Sum.inr (tx t))) = false := by
  rw [Bool.eq_false_iff]
  intro z
  obtain ⟨kv, h1, h2⟩ := List.any_eq_true.mp z
  obtain ⟨l, hl, rfl⟩ := List.mem_map.mp h1
  have := tx_inj (Sum.inr.inj (of_decide_eq_true h2))
  exact h (this ▸ hl)
 unfold putK
 rw [e, if_neg Bool.false_ne_true]
 unfold bK
 rw [List.map_append]
 rfl
theorem bK_len (g : List Nat → List Nat) (ls : List (List Nat)) : (bK g ls).length = ls.length := by unfold bK; rw [List.length_map]
theorem take_not {ls : List (List Nat)} {i : Nat} {x : List Nat} (h : ls.Nodup) (hx : ls[i]? = some x) : ¬ x ∈ ls.take i := fun z => by
 have htk : ls.take (i + 1) = ls.take i ++ [x] := by rw [List.take_add_one, hx]; rfl
 rw [← List.take_append_drop (i + 1) ls, htk] at h
 exact (List.nodup_append.mp (List.nodup_append.mp h).1).2.2 x z x (by simp) rfl
noncomputable def spBehind (K : PySem.W.Frag) : Sp := fun vs H Q _ => ∃ (W : Addr) (t : List Nat) (nn kn : Nat), vs = [.ref W, T t] ∧ SqL K H W ((Wd.allW kn nn).map T) ∧ SizeOk nn kn ∧ TellOk t nn kn ∧ ∀ (D : Addr) (H' : Hp), H D = none → Same H H' → H' D = some (.dK (bK (nextF t kn) (Wd.allW kn nn))) → Q (.ref D) H'
theorem ok__law_behind {f : Addr} {fd : FuncData} (F : Fun K "_law_behind" "_law_behind" s__law_behind f fd) (tt : Txt K mg ad) : FnOk P w K mg base (CX1 P w) 1 f fd ["words", "told"] (spBehind K) := by
 refine F.okN sc__law_behind (fun vs H Q E h => ?_) (fun cdv A outer s H vs Q E hr h => ?_)
 ·obtain ⟨W, t, nn, kn, rfl, _⟩ := h
  rfl
 ·obtain ⟨W, t, nn, kn, rfl, hS, hz, hto, q⟩ := h
  have hs : sizeLine = 16777216 := sizeLine_eq
  obtain ⟨hk, hn, h64⟩ := id hz
  have hLl : (Wd.allW kn nn).length = kn ^ nn := Wd.allW_len ..
  have hnd := allW_nodup (k := kn) (n := nn) (by omega)
  refine ⟨_, (pss_cons (ps_set (i := 2) sc__law_behind.nd rfl (Or.inl rfl) pe_dnewK)
   (pss_cons (ps_for PassesOwn.never rfl (pi_zipS (by rfl) tt.b_zip (pa_cons (pv 0) (pa_cons (pv 1) pa_nil))) (pg_tup rfl (pgs_cons (pg_name (i := 3) sc__law_behind.nd rfl (Or.inl rfl)) (pgs_cons (pg_name (i := 4) sc__law_behind.nd rfl (Or.inl rfl)) pgs_nil))) (pss_one (ps_dput (hu_of hr) (pv 2) (pv 3) (pe_op op_add_T (pe_slice sl_T (pv 3) (po_some pe_int) po_none) (pv 4)) rfl)))
   (pss_one (ps_ret (pv 2))))), ?_⟩
  (try rw [cxK2]); (try rw [cxK1])
  intro D hD
  have s1 := same_upd (o := .dK []) hD
  refine ⟨_, rfl, _, rfl, W, t, rfl, ⟨_, s1.seq hS⟩, (fun c hc => by have := hto.2 c hc; omega), ?_⟩
  refine for_zipS (K := K) (a := W) (xs := (Wd.allW kn nn).map T) (l := t) (fun i σ H2 => Same H H2 ∧ H2 D = some (.dK (bK (nextF t kn) ((Wd.allW kn nn).take i))) ∧ ∃ v3 v4 : Option V, σ = [some (.ref W), some (T t), some (.ref D), v3, v4]) ⟨s1, upd_same, none, none, rfl⟩ (by rw [List.length_map, hLl, hto.1]) (fun i σ H2 _ h => h.1.seq hS) ?_ ?_
  ·rintro i x c S σ H2 hx hc hSn ⟨s2, d2, v3, v4, rfl⟩
   obtain ⟨wd, hwd, rfl⟩ : ∃ wd, (Wd.allW kn nn)[i]? = some wd ∧ T wd = x := by rw [List.getElem?_map] at hx; exact Option.map_eq_some_iff.mp hx
   have hil : i < kn ^ nn := by have := (List.getElem?_eq_some_iff.mp hwd).1; omega
   have hrw : RW wd nn kn := (rw_all (by omega)).mp (List.mem_of_getElem? hwd)
   have t2 := same_upd (o := .tup [T wd, T [c]]) hSn
   have hsp : Wd.spell kn nn i = wd := Option.some.inj ((Wd.allW_get hil).symm.trans hwd)
   have hnum : Wd.num kn wd = i := by rw [← hsp]; exact Wd.num_spell (by omega) nn i hil
   have hf : wd.drop 1 ++ [c] = nextF t kn wd := by
    unfold nextF
    rw [hnum, List.getD_eq_getElem?_getD, hc]
    rfl
   have ed : cutL wd (some 1) none = wd.drop 1 := cutL_from (k := 1) (by have := hrw.1; omega)
   have hdl : (cutL wd (some 1) none).length ≤ 8 := by rw [ed, List.length_drop]; have := hrw.1; omega
   refine ⟨S, _, rfl, SqT.of upd_same, rfl, _, _, rfl, _, _, rfl, rfl, ?_⟩
   refine ⟨_, rfl, _, rfl, _, rfl, (by have := hrw.1; omega), _, rfl, _, rfl, _, rfl, (by show _ + 1 ≤ sizeLine; omega), _, rfl, _, rfl, D, _, rfl, DPut.k (k := Sum.inr (tx wd)) (t2 D _ d2) (by rw [bK_len, List.length_take]; omega), ?_⟩
   have htk : (Wd.allW kn nn).take (i + 1) = (Wd.allW kn nn).take i ++ [wd] := by rw [List.take_add_one, hwd]; rfl
   rw [ed, hf, bK_put (take_not hnd hwd), ← htk]
   exact ⟨fun b o e => by rw [upd_ne (ne_of_none e hD)]; exact (s2.trans t2) b o e, upd_same, _, _, rfl⟩
  ·rintro σ H2 ⟨s2, d2, v3, v4, rfl⟩
   rw [List.length_map, List.take_length] at d2
   exact ⟨_, rfl, q D H2 hD s2 d2⟩

noncomputable def spRoundsL (K : PySem.W.Frag) : Sp := fun vs H Q _ => ∃ (W B : Addr) (nn kn : Nat) (t : List Nat), vs = [.ref W, .ref B] ∧ SqL K H W ((Wd.allW kn nn).map T) ∧ H B = some (.dK (bK (nextF t kn) (Wd.allW kn nn))) ∧ SizeOk nn kn ∧ TellOk t nn kn ∧ FairR t nn kn ∧
 ∀ (D : Addr) (qs : List (List Nat)) (H' : Hp), H D = none → Same H H' → qs.Perm (Wd.rounds (nextF t kn) (Wd.allW kn nn)) → qs.Pairwise (fun a b => ¬ b < a) → H' D = some (.lst (qs.map T)) → Q (.ref D) H'
theorem ok__law_rounds {f : Addr} {fd : FuncData} (F : Fun K "_law_rounds" "_law_rounds" s__law_rounds f fd) (tt : Txt K mg ad) : FnOk P w K mg base (CX1 P w) 1 f fd ["words", "behind"] (spRoundsL K) := by
 refine F.okN sc__law_rounds (fun vs H Q E h => ?_) (fun cdv A outer s H vs Q E hr h => ?_)
 ·obtain ⟨W, B, nn, kn, t, rfl, _⟩ := h
  rfl
 ·obtain ⟨W, B, nn, kn, t, rfl, hW, hB, hz, hto, hf, q⟩ := h
  have hs : sizeLine = 16777216 := sizeLine_eq
  obtain ⟨hk, hn, h64⟩ := id hz
  have hok : ∀ w ∈ Wd.allW kn nn, RW w nn kn := fun w hw => (rw_all (by omega)).mp hw
  have hLl : (Wd.allW kn nn).length = kn ^ nn := Wd.allW_len ..
  have hLs : (Wd.allW kn nn).Pairwise (· < ·) := Wd.allW_sorted (by omega)
  refine ⟨_, (pss_cons (ps_set (i := 2) sc__law_rounds.nd rfl (Or.inl rfl) pe_dnewK)
   (pss_cons (ps_set (i := 3) sc__law_rounds.nd rfl (Or.inl rfl) (pe_lst pa_nil))
   (pss_cons (ps_for PassesOwn.never rfl (pi_list (pv 0)) (pg_name (i := 4) sc__law_rounds.nd rfl (Or.inl rfl)) (pss_one (ps_if (pt_cmp (pc_dnotin (hu_of hr) (pv 4) (pv 2))) (pss_cons (ps_set (i := 5) sc__law_rounds.nd rfl (Or.inl rfl) (pe_strT [] (by decide +kernel)))
   (pss_cons (ps_set (i := 6) sc__law_rounds.nd rfl (Or.inl rfl) (pv 4))
   (pss_cons (ps_while PassesOwn.never (pt_cmp (pc_dnotin (hu_of hr) (pv 6) (pv 2))) (pss_cons (ps_dput (hu_of hr) (pv 2) (pv 6) pe_bl rfl)
   (pss_cons (ps_set (i := 5) sc__law_rounds.nd rfl (Or.inl rfl) (pe_op op_add_T (pv 5) (pe_ix ix_T (pv 6) pe_int (fun _ _ => rfl))))
   (pss_one (ps_set (i := 6) sc__law_rounds.nd rfl (Or.inl rfl) (pe_dget (hu_of hr) (pv 1) (pv 6) (fun _ _ => rfl)))))))
   (pss_one (ps_expr (pe_bm PySem.F.plainAttrs_list PySem.F.slot_list_append PySem.F.type_list_append mt_append (pv 3) (pa_cons (pv 5) pa_nil))))))) pss_nil)))
   (pss_one (ps_ret (pe_callB call_sortedA (by rfl) tt.b_sorted PyProof.Rows.boot_sorted (pa_cons (pv 3) pa_nil))))))), ?_⟩
  (try rw [cxK2]); (try rw [cxK1])
  intro M hM
  have s2 := same_upd (o := .dK []) hM
  refine ⟨(by show 0 ≤ sizeLine; omega), fun F hF => ?_⟩
  have s3 := same_upd (o := .lst []) hF
  have hFM : M ≠ F := fun z => by rw [← z] at hF; rw [upd_same] at hF; cases hF
  have s13 := s2.trans s3
  have hHF : H F = none := by
   cases e : H F with
   | none => rfl
   | some o => have := s2 F o e; rw [hF] at this; cases this
  generalize hG : upd (upd H M (.dK [])) F (.lst []) = G at s13
  have gM : G M = some (.dK (tKs [] (.bl true))) := by rw [← hG, upd_ne hFM]; exact upd_same
  have gF : G F = some (.lst []) := by rw [← hG]; exact upd_same
  have hBM : B ≠ M := fun z => by rw [z, hM] at hB; cases hB
  have hBF : B ≠ F := fun z => by rw [z, hHF] at hB; cases hB
  refine ⟨_, rfl, W, rfl, ⟨_, s13.seq hW⟩, ?_⟩
  refine for_list (K := K) (a := W) (xs := (Wd.allW kn nn).map T) (fun i σ H3 => Same H H3 ∧ H3 F = some (.lst ((Wd.rounds (nextF t kn) ((Wd.allW kn nn).take i)).map T)) ∧
    (∃ ls : List (List Nat), H3 M = some (.dK (tKs ls (.bl true))) ∧ ls.Nodup ∧ (∀ y, y ∈ ls ↔ ∃ z ∈ (Wd.allW kn nn).take i, ∃ k, y = Wd.it (nextF t kn) k z)) ∧ ∃ v4 v5 v6 : Option V, σ = [some (.ref W), some (.ref B), some (.ref M), some (.ref F), v4, v5, v6])
   ⟨s13, by rw [gF]; rfl, ⟨[], gM, List.nodup_nil, fun y => ⟨fun z => by simp at z, fun ⟨z, hz, _⟩ => by simp at hz⟩⟩, none, none, none, rfl⟩ (fun i σ H3 _ h => h.1.seq hW) ?_ ?_
  ·rintro i v σ H3 hi ⟨s5, f5, ⟨ls, m5, hnd, hls⟩, v4, v5, v6, rfl⟩
   obtain ⟨wd, hwd, rfl⟩ : ∃ wd, (Wd.allW kn nn)[i]? = some wd ∧ T wd = v := by rw [List.getElem?_map] at hi; exact Option.map_eq_some_iff.mp hi
   have hwm := List.mem_of_getElem? hwd
   have htk : (Wd.allW kn nn).take (i + 1) = (Wd.allW kn nn).take i ++ [wd] := by rw [List.take_add_one, hwd]; rfl
   have hmet := Wd.not_met hf hLs hwd
   have hsub : ∀ y ∈ ls, y ∈ Wd.allW kn nn := fun y hy => by
    obtain ⟨z, hz, k, rfl⟩ := (hls y).mp hy
    exact hf.it_mem (List.mem_of_mem_take hz) k
   have hdx : DGet H3 M (T wd) (if wd ∈ ls then some (.bl true) else none) := by have g := DGet.k (k := Sum.inr (tx wd)) m5; rwa [val_tKs] at g
   refine ⟨_, rfl, _, rfl, M, _, rfl, hdx, _, rfl, ?_⟩
   obtain ⟨p, hp⟩ := Wd.Peri.ex hf hwm
   by_cases hin : wd ∈ ls
   ·refine itN (by show ¬ (!(if wd ∈ ls then some (V.bl true) else none).isSome) = true; rw [if_pos hin]; exact Bool.false_ne_true) ?_
    have hno : ¬ Wd.LeastO (nextF t kn) wd := fun z => (hmet.mpr z) ((hls wd).mp hin)
    refine ⟨s5, ?_, ⟨ls, m5, hnd, fun y => ?_⟩, _, _, _, rfl⟩
    ·rw [f5, htk, Wd.rounds_snoc, if_neg hno]
    ·rw [hls y, htk]
     constructor
     ·rintro ⟨z, hz, g⟩
      exact ⟨z, List.mem_append_left _ hz, g⟩
     ·rintro ⟨z, hz, k, g⟩
      rcases List.mem_append.mp hz with hz | hz
      ·exact ⟨z, hz, k, g⟩
      ·rw [List.mem_singleton.mp hz] at g
       obtain ⟨z', hz', k', g'⟩ := (hls wd).mp hin
       exact ⟨z', hz', k + k', by rw [g, Wd.it_add, ← g']⟩
   ·refine itP (by show (!(if wd ∈ ls then some (V.bl true) else none).isSome) = true; rw [if_neg hin]; rfl) ?_
    have hyes : Wd.LeastO (nextF t kn) wd := hmet.mp fun z => hin ((hls wd).mpr z)
    have hpl : p ≤ kn ^ nn := by have := hp.2.2.le hf hwm; omega
    have hout : ∀ k, ¬ Wd.it (nextF t kn) k wd ∈ ls := fun k z => by
     obtain ⟨z', hz', k', g'⟩ := (hls _).mp z
     obtain ⟨j, g⟩ := hp.back k
     exact hin ((hls wd).mpr ⟨z', hz', j + k', by rw [Wd.it_add, ← g', ← g]⟩)
    refine ⟨_, rfl, ?_⟩
    refine ⟨fun m σ H9 => ∃ k : Nat, k ≤ p ∧ m = p - k ∧ (∀ b o, b ≠ M → H3 b = some o → H9 b = some o) ∧ (∃ ls' : List (List Nat), H9 M = some (.dK (tKs ls' (.bl true))) ∧ ls'.Nodup ∧ (∀ y ∈ ls', y ∈ Wd.allW kn nn) ∧ ∀ y, y ∈ ls' ↔ y ∈ ls ∨ y ∈ Wd.orb (nextF t kn) wd k) ∧ σ = [some (.ref W), some (.ref B), some (.ref M), some (.ref F), some (T wd), some (T (Wd.rdT (nextF t kn) wd k)), some (T (Wd.it (nextF t kn) k wd))],
     ⟨_, 0, Nat.zero_le _, rfl, fun b o _ e => e, ⟨ls, m5, hnd, hsub, fun y => ⟨.inl, fun z => z.elim id fun z => by simp [Wd.orb] at z⟩⟩, rfl⟩, ?_⟩
    rintro m σ H9 ⟨k, hkp, hm, k9, ⟨ls', m9, hnd', hsub', hls'⟩, rfl⟩
    have hdy : DGet H9 M (T (Wd.it (nextF t kn) k wd)) (if Wd.it (nextF t kn) k wd ∈ ls' then some (.bl true) else none) := by have g := DGet.k (k := Sum.inr (tx (Wd.it (nextF t kn) k wd))) m9; rwa [val_tKs] at g
    refine ⟨_, rfl, _, rfl, M, _, rfl, hdy, _, rfl, ?_⟩
    by_cases hkl : k < p
    ·have hni : ¬ Wd.it (nextF t kn) k wd ∈ ls' := fun z => by
      rcases (hls' _).mp z with z | z
      ·exact hout k z
      ·obtain ⟨j, hj, e⟩ := Wd.orb_mem.mp z
       exact hp.2.2 j k hj hkl e.symm
     refine itP (by show (!(if _ ∈ ls' then some (V.bl true) else none).isSome) = true; rw [if_neg hni]; rfl) ?_
     have hlen' : ls'.length ≤ kn ^ nn := by have := Wd.nodup_le ls' (Wd.allW kn nn) hnd' hsub'; omega
     have hmk := hf.it_mem hwm k
     have hrk := hok _ hmk
     refine ⟨_, fun σ' H' z => z, ?_⟩
     refine ⟨_, rfl, _, rfl, M, _, rfl, DPut.k (k := Sum.inr (tx (Wd.it (nextF t kn) k wd))) m9 (by rw [tKs_len]; omega), ?_⟩
     rw [put_tKs]
     obtain ⟨c, r, hcr⟩ : ∃ c r, Wd.it (nextF t kn) k wd = c :: r := by
      cases e : Wd.it (nextF t kn) k wd with
      | nil => have := hrk.1; rw [e] at this; simp at this; omega
      | cons c r => exact ⟨c, r, rfl⟩
     have hrl : (Wd.rdT (nextF t kn) wd k).length = k := Wd.rdT_len ..
     refine ⟨_, rfl, _, rfl, _, rfl, _, rfl, (by have := hrk.1; omega), c, (by rw [hcr]; exact atI_nat (j := 0) rfl), _, rfl, _, rfl, (by rw [hrl]; show k + 1 ≤ sizeLine; omega), ?_⟩
     have b9 : upd H9 M (.dK (tKs (Hg.addT ls' (Wd.it (nextF t kn) k wd)) (.bl true))) B = some (.dK (bK (nextF t kn) (Wd.allW kn nn))) := by rw [upd_ne hBM]; exact k9 B _ hBM (s5 B _ hB)
     refine ⟨_, rfl, _, rfl, B, T (nextF t kn (Wd.it (nextF t kn) k wd)), rfl, (by have g := DGet.k (k := Sum.inr (tx (Wd.it (nextF t kn) k wd))) b9; rwa [bK_val, if_pos hmk] at g), ?_⟩
     refine ⟨p - (k + 1), by omega, k + 1, hkl, rfl, fun b o hb e => by rw [upd_ne hb]; exact k9 b o hb e, ⟨_, upd_same, addT_nd hnd', fun y hy => ?_, fun y => ?_⟩, ?_⟩
     ·rcases mem_addT.mp hy with hy | rfl
      ·exact hsub' y hy
      ·exact hmk
     ·rw [mem_addT, hls' y, Wd.orb_snoc, List.mem_append, List.mem_singleton, or_assoc]
     ·have : Wd.rdT (nextF t kn) wd (k + 1) = Wd.rdT (nextF t kn) wd k ++ [c] := by
       unfold Wd.rdT
       rw [Wd.orb_snoc, List.map_append, hcr]
       rfl
      rw [this]
      rfl
    ·obtain rfl : k = p := by omega
     have hyi : Wd.it (nextF t kn) k wd ∈ ls' := (hls' _).mpr (.inr (by rw [hp.2.1]; exact Wd.orb_mem.mpr ⟨0, hp.1, rfl⟩))
     refine itN (by show ¬ (!(if _ ∈ ls' then some (V.bl true) else none).isSome) = true; rw [if_pos hyi]; exact Bool.false_ne_true) ?_
     have f9 := k9 F _ hFM.symm f5
     have hrl := Wd.rounds_len (nextF t kn) ((Wd.allW kn nn).take i)
     rw [List.length_take] at hrl
     refine ⟨_, rfl, .inl ⟨rfl, _, SqL.of f9⟩, _, rfl, F, _, _, rfl, rfl, f9, (by rw [List.length_map]; omega), ?_⟩
     have hbF : ∀ b o, H b = some o → b ≠ F ∧ b ≠ M := fun b o e => ⟨(fun z => by rw [z, hHF] at e; cases e), (fun z => by rw [z, hM] at e; cases e)⟩
     refine ⟨fun b o e => by rw [upd_ne (hbF b o e).1]; exact k9 b o (hbF b o e).2 (s5 b o e), ?_, ⟨ls', by rw [upd_ne hFM]; exact m9, hnd', fun y => ?_⟩, _, _, _, rfl⟩
     ·rw [upd_same, htk, Wd.rounds_snoc, if_pos hyes, List.map_append, Wd.rdO, hp.perO]
      rfl
     ·rw [hls' y, hls y, htk, hp.mem]
      constructor
      ·rintro (⟨z, hz, g⟩ | ⟨k, g⟩)
       ·exact ⟨z, List.mem_append_left _ hz, g⟩
       ·exact ⟨wd, List.mem_append_right _ (List.mem_singleton.mpr rfl), k, g⟩
      ·rintro ⟨z, hz, k, g⟩
       rcases List.mem_append.mp hz with hz | hz
       ·exact .inl ⟨z, hz, k, g⟩
       ·exact .inr ⟨k, by rw [List.mem_singleton.mp hz] at g; exact g⟩
  ·rintro σ H3 ⟨s5, f5, _, v4, v5, v6, rfl⟩
   rw [List.length_map, List.take_length] at f5
   refine ⟨_, rfl, F, _, rfl, SqL.of f5, fun qs D7 hD7 hp7 hw7 => ?_⟩
   have hD7H : H D7 = none := by
    cases e : H D7 with
    | none => rfl
    | some o => have := s5 D7 o e; rw [hD7] at this; cases this
   exact q D7 qs _ hD7H (s5.trans (same_upd hD7)) hp7 hw7 upd_same

noncomputable def spSameR : Sp := fun vs H Q _ => ∃ (B : Addr) (nn kn : Nat) (t one two : List Nat), vs = [.ref B, T one, T two] ∧ H B = some (.dK (bK (nextF t kn) (Wd.allW kn nn))) ∧ SizeOk nn kn ∧ FairR t nn kn ∧ one ∈ Wd.allW kn nn ∧ one ≠ two ∧ ∀ b : Bool, (b = true ↔ Wd.SO (nextF t kn) one two) → Q (.bl b) H
theorem ok__law_same_round {f : Addr} {fd : FuncData} (F : Fun K "_law_same_round" "_law_same_round" s__law_same_round f fd) (tt : Txt K mg ad) : FnOk P w K mg base (CX1 P w) 1 f fd ["behind", "one", "two"] spSameR := by
 refine F.okN sc__law_same_round (fun vs H Q E h => ?_) (fun cdv A outer s H vs Q E hr h => ?_)
 ·obtain ⟨B, nn, kn, t, one, two, rfl, _⟩ := h
  rfl
 ·obtain ⟨B, nn, kn, t, one, two, rfl, hB, hz, hf, h1, hne, q⟩ := h
  have hs : sizeLine = 16777216 := sizeLine_eq
  obtain ⟨p, hp⟩ := Wd.Peri.ex hf h1
  have hget : ∀ k, DGet H B (T (Wd.it (nextF t kn) k one)) (some (T (Wd.it (nextF t kn) (k + 1) one))) := fun k => by
   have g := DGet.k (k := Sum.inr (tx (Wd.it (nextF t kn) k one))) hB
   rwa [bK_val, if_pos (hf.it_mem h1 k)] at g
  refine ⟨_, (pss_cons (ps_set (i := 3) sc__law_same_round.nd rfl (Or.inl rfl) (pe_dget (hu_of hr) (pv 0) (pv 1) (fun _ _ => rfl)))
   (pss_cons (ps_while PassesOwn.never (PW.pt (pw_and (pt_cmpR op_ne_T (pv 3) (pv 1) (nomark _)) (pw_and1 (pt_cmpR op_ne_T (pv 3) (pv 2) (nomark _))))) (pss_one (ps_set (i := 3) sc__law_same_round.nd rfl (Or.inl rfl) (pe_dget (hu_of hr) (pv 0) (pv 3) (fun _ _ => rfl)))))
   (pss_one (ps_ret (pe_cmpR op_eq_T (pv 3) (pv 2) (nomark _)))))), ?_⟩
  (try rw [cxK2]); (try rw [cxK1])
  refine ⟨_, rfl, _, rfl, B, _, rfl, hget 0, ?_⟩
  refine ⟨fun m σ H2 => H2 = H ∧ ∃ k, 1 ≤ k ∧ k ≤ p ∧ m = p - k ∧ (∀ j, j < k → Wd.it (nextF t kn) j one ≠ two) ∧ σ = [some (.ref B), some (T one), some (T two), some (T (Wd.it (nextF t kn) k one))], ⟨_, rfl, 1, Nat.le_refl _, hp.1, rfl, fun j hj => by rw [show j = 0 by omega]; exact hne, rfl⟩, ?_⟩
  rintro m σ H2 ⟨rfl, k, hk1, hkp, hm, hno, rfl⟩
  refine ⟨_, rfl, _, rfl, _, rfl, _, rfl, _, rfl, ?_⟩
  by_cases e1 : Wd.it (nextF t kn) k one = one
  ·refine itN (by rw [decide_eq_true e1]; exact Bool.false_ne_true) ?_
   have hkp2 : k = p := by
    rcases Nat.lt_or_ge k p with c | c
    ·exact absurd e1.symm (hp.2.2 0 k (by omega) c)
    ·omega
   refine ⟨_, rfl, _, rfl, _, rfl, _, rfl, q _ ?_⟩
   rw [e1, decide_eq_true_iff]
   refine ⟨fun z => absurd z hne, fun ⟨j, e⟩ => ?_⟩
   rw [hp.mod j] at e
   exact absurd e (hno _ (by rw [hkp2]; exact Nat.mod_lt _ hp.1))
  ·refine itP (by rw [decide_eq_false e1]; rfl) ?_
   refine ⟨_, rfl, _, rfl, _, rfl, _, rfl, _, rfl, ?_⟩
   by_cases e2 : Wd.it (nextF t kn) k one = two
   ·refine itN (by rw [decide_eq_true e2]; exact Bool.false_ne_true) ?_
    refine ⟨_, rfl, _, rfl, _, rfl, _, rfl, q _ ?_⟩
    rw [decide_eq_true_iff]
    exact ⟨fun _ => ⟨k, e2⟩, fun _ => e2⟩
   ·refine itP (by rw [decide_eq_false e2]; rfl) ?_
    have hkl : k < p := by
     rcases Nat.lt_or_ge k p with c | c
     ·exact c
     ·exact absurd (show Wd.it (nextF t kn) k one = one by rw [show k = p by omega]; exact hp.2.1) e1
    refine ⟨_, fun σ' H' z => z, ?_⟩
    refine ⟨_, rfl, _, rfl, B, _, rfl, hget k, ?_⟩
    refine ⟨p - (k + 1), by omega, rfl, k + 1, by omega, hkl, rfl, fun j hj => ?_, rfl⟩
    by_cases c : j = k
    ·rw [c]; exact e2
    ·exact hno j (by omega)

noncomputable def spPairs (K : PySem.W.Frag) : Sp := fun vs H Q _ => ∃ (W : Addr) (nn kn : Nat), vs = [.ref W] ∧ SqL K H W ((Wd.allW kn nn).map T) ∧ SizeOk nn kn ∧ ∀ (D : Addr) (H' : Hp), H D = none → Same H H' → PairsT H' D (prT nn kn (Wd.allW kn nn)) → Q (.ref D) H'
theorem prT_len {nn kn : Nat} (hz : SizeOk nn kn) : ∀ ls : List (List Nat), (prT nn kn ls).length ≤ 64 * ls.length
 | [] => Nat.le_refl _
 | x :: ls => by
  have := prT_len hz ls
  have h2 := List.length_filter_le (fun two => decide (x < two) && decide (x.drop 1 = two.drop 1)) (Wd.allW kn nn)
  have h3 : (Wd.allW kn nn).length = kn ^ nn := Wd.allW_len ..
  have h4 := hz.2.2
  unfold prT prs at *
  rw [List.flatMap_cons, List.length_append, List.length_map, List.length_cons]
  omega
theorem ok__law_pairs {f : Addr} {fd : FuncData} (F : Fun K "_law_pairs" "_law_pairs" s__law_pairs f fd) (tt : Txt K mg ad) : FnOk P w K mg base (CX1 P w) 1 f fd ["words"] (spPairs K) := by
 refine F.okN sc__law_pairs (fun vs H Q E h => ?_) (fun cdv A outer s H vs Q E hr h => ?_)
 ·obtain ⟨W, nn, kn, rfl, _⟩ := h
  rfl
 ·obtain ⟨W, nn, kn, rfl, hW, hz, q⟩ := h
  have hs : sizeLine = 16777216 := sizeLine_eq
  obtain ⟨hk, hn, h64⟩ := id hz
  have hok : ∀ w ∈ Wd.allW kn nn, RW w nn kn := fun w hw => (rw_all (by omega)).mp hw
  have hLl : (Wd.allW kn nn).length = kn ^ nn := Wd.allW_len ..
  refine ⟨_, (pss_cons (ps_set (i := 1) sc__law_pairs.nd rfl (Or.inl rfl) (pe_lst pa_nil))
   (pss_cons (ps_for PassesOwn.never rfl (pi_list (pv 0)) (pg_name (i := 2) sc__law_pairs.nd rfl (Or.inl rfl)) (pss_one (ps_for PassesOwn.never rfl (pi_list (pv 0)) (pg_name (i := 3) sc__law_pairs.nd rfl (Or.inl rfl)) (pss_one (ps_if (PW.pt (pw_and (pt_cmpR op_lt_T (pv 2) (pv 3) (nomark _)) (pw_and1 (pt_cmpR op_eq_T (pe_slice sl_T (pv 2) (po_some pe_int) po_none) (pe_slice sl_T (pv 3) (po_some pe_int) po_none) (nomark _))))) (pss_one (ps_expr (pe_bm PySem.F.plainAttrs_list PySem.F.slot_list_append PySem.F.type_list_append mt_append (pv 1) (pa_cons (pe_tup (pa_cons (pv 2) (pa_cons (pv 3) pa_nil))) pa_nil)))) pss_nil)))))
   (pss_one (ps_ret (pv 1))))), ?_⟩
  (try rw [cxK2]); (try rw [cxK1])
  refine ⟨(by show 0 ≤ sizeLine; omega), fun L hL => ?_⟩
  have t1 := same_upd (o := .lst []) hL
  refine ⟨_, rfl, W, rfl, ⟨_, t1.seq hW⟩, ?_⟩
  refine for_list (K := K) (a := W) (xs := (Wd.allW kn nn).map T) (fun i σ G => Same H G ∧ PairsT G L (prT nn kn ((Wd.allW kn nn).take i)) ∧ ∃ v2 v3 : Option V, σ = [some (.ref W), some (.ref L), v2, v3]) ⟨t1, ⟨[], upd_same, rfl, fun i a q e => by simp at e⟩, none, none, rfl⟩ (fun i σ G _ h => h.1.seq hW) ?_ ?_
  ·rintro i v σ G hi ⟨s2, l2, v2, v3, rfl⟩
   obtain ⟨one, hone, rfl⟩ : ∃ wd, (Wd.allW kn nn)[i]? = some wd ∧ T wd = v := by rw [List.getElem?_map] at hi; exact Option.map_eq_some_iff.mp hi
   have htk : (Wd.allW kn nn).take (i + 1) = (Wd.allW kn nn).take i ++ [one] := by rw [List.take_add_one, hone]; rfl
   have r1 := hok one (List.mem_of_getElem? hone)
   have l1 := r1.1
   have hpl := prT_len hz ((Wd.allW kn nn).take i)
   have hil : ((Wd.allW kn nn).take i).length ≤ 64 := by rw [List.length_take]; omega
   refine ⟨_, rfl, W, rfl, ⟨_, s2.seq hW⟩, ?_⟩
   refine for_list (K := K) (a := W) (xs := (Wd.allW kn nn).map T) (fun j σ G2 => Same H G2 ∧ PairsT G2 L (prT nn kn ((Wd.allW kn nn).take i) ++ (((Wd.allW kn nn).take j).filter fun two => decide (one < two) && decide (one.drop 1 = two.drop 1)).map fun two => (one, two)) ∧ ∃ v3 : Option V, σ = [some (.ref W), some (.ref L), some (T one), v3])
    ⟨s2, by rw [List.take_zero, List.filter_nil, List.map_nil, List.append_nil]; exact l2, _, rfl⟩ (fun j σ G2 _ h => h.1.seq hW) ?_ ?_
   ·rintro j v σ G2 hj ⟨s3, l3, v3, rfl⟩
    obtain ⟨two, htwo, rfl⟩ : ∃ wd, (Wd.allW kn nn)[j]? = some wd ∧ T wd = v := by rw [List.getElem?_map] at hj; exact Option.map_eq_some_iff.mp hj
    have r2 := hok two (List.mem_of_getElem? htwo)
    have l2' := r2.1
    have htk2 : (Wd.allW kn nn).take (j + 1) = (Wd.allW kn nn).take j ++ [two] := by rw [List.take_add_one, htwo]; rfl
    have hfl := List.length_filter_le (fun two => decide (one < two) && decide (one.drop 1 = two.drop 1)) ((Wd.allW kn nn).take j)
    have hjl : ((Wd.allW kn nn).take j).length ≤ 64 := by rw [List.length_take]; omega
    have hst : ∀ {b : Bool}, (decide (one < two) && decide (one.drop 1 = two.drop 1)) = b → prT nn kn ((Wd.allW kn nn).take i) ++ (((Wd.allW kn nn).take (j + 1)).filter fun two => decide (one < two) && decide (one.drop 1 = two.drop 1)).map (fun two => (one, two)) = (prT nn kn ((Wd.allW kn nn).take i) ++ (((Wd.allW kn nn).take j).filter fun two => decide (one < two) && decide (one.drop 1 = two.drop 1)).map fun two => (one, two)) ++ if b = true then [(one, two)] else [] := fun {b} e => by
     rw [htk2, List.filter_append, List.map_append, List.append_assoc, List.filter_cons]
     simp only [e, List.filter_nil]
     cases b <;> rfl
    refine ⟨_, rfl, _, rfl, _, rfl, _, rfl, _, rfl, ?_⟩
    by_cases hlt : one < two
    case neg =>
     refine itN (by rw [decide_eq_false hlt]; exact Bool.false_ne_true) ?_
     refine iteF ⟨s3, ?_, _, rfl⟩
     rw [hst (b := false) (by rw [decide_eq_false hlt]; rfl)]
     rw [if_neg Bool.false_ne_true, List.append_nil]
     exact l3
    refine itP (decide_eq_true hlt) ?_
    have ed1 : cutL one (some 1) none = one.drop 1 := cutL_from (k := 1) (by omega)
    have ed2 : cutL two (some 1) none = two.drop 1 := cutL_from (k := 1) (by omega)
    refine ⟨_, rfl, _, rfl, _, rfl, (by omega), _, rfl, _, rfl, _, rfl, (by omega), _, rfl, _, rfl, _, rfl, ?_⟩
    rw [ed1, ed2]
    by_cases hdd : one.drop 1 = two.drop 1
    case neg =>
     refine itN (by rw [decide_eq_false hdd]; exact Bool.false_ne_true) ?_
     refine ⟨s3, ?_, _, rfl⟩
     rw [hst (b := false) (by rw [decide_eq_false hdd, Bool.and_false])]
     rw [if_neg Bool.false_ne_true, List.append_nil]
     exact l3
    refine itP (decide_eq_true hdd) ?_
    obtain ⟨ps, lv, lpl⟩ := l3.len
    rw [List.length_append, List.length_map] at lpl
    refine ⟨_, rfl, .inl ⟨rfl, _, SqL.of lv⟩, _, rfl, _, rfl, (by show 2 ≤ sizeLine; omega), fun Tp hTp => ?_⟩
    have t4 := same_upd (o := .tup [T one, T two]) hTp
    refine ⟨L, _, _, rfl, rfl, t4 L _ lv, (by omega), ?_⟩
    have hk10 : ∀ b o, b ≠ L → G2 b = some o → upd (upd G2 Tp (.tup [T one, T two])) L (.lst (ps ++ [.ref Tp])) b = some o := fun b o hb e => by rw [upd_ne hb]; exact t4 b o e
    have hTL : Tp ≠ L := fun z => by rw [z, lv] at hTp; cases hTp
    refine ⟨fun b o e => hk10 b o (fun z => by rw [z, hL] at e; cases e) (s3 b o e), ?_, _, rfl⟩
    rw [hst (b := true) (by rw [decide_eq_true hlt, decide_eq_true hdd]; rfl), if_pos rfl]
    exact l3.more lv hk10 (by rw [upd_ne hTL]; exact upd_same) upd_same
   ·rintro σ G2 ⟨s3, l3, v3, rfl⟩
    rw [List.length_map, List.take_length] at l3
    refine ⟨s3, ?_, _, _, rfl⟩
    rw [htk, prT_snoc]
    exact l3
  ·rintro σ G ⟨s2, l2, v2, v3, rfl⟩
   rw [List.length_map, List.take_length] at l2
   exact ⟨_, rfl, q L G hL s2 l2⟩

theorem bK_upd {g : List Nat → List Nat} {x v : List Nat} {ls : List (List Nat)} (h : x ∈ ls) : putK (bK g ls) (Sum.inr (tx x)) (T v) = bK (fun y => if y = x then v else g y) ls := by
 have e : ((bK g ls).any fun kv => decide (kv.1 = Sum.inr (tx x))) = true := List.any_eq_true.mpr ⟨_, List.mem_map.mpr ⟨x, h, rfl⟩, decide_eq_true rfl⟩
 unfold putK
 rw [if_pos e]
 unfold bK
 rw [List.map_map]
 refine List.map_congr_left fun y _ => ?_
 show (if (Sum.inr (tx y) : Key) = Sum.inr (tx x) then ((Sum.inr (tx y) : Key), T v) else (Sum.inr (tx y), T (g y))) = (Sum.inr (tx y), T (if y = x then v else g y))
 by_cases c : y = x
 ·rw [if_pos (by rw [c]), if_pos c]
 ·rw [if_neg (fun z => c (tx_inj (Sum.inr.inj z))), if_neg c]
theorem bK_sw {f g : List Nat → List Nat} {ls : List (List Nat)} {a b : List Nat} (s : Wd.Sw f g ls a b) : putK (putK (bK f ls) (Sum.inr (tx a)) (T (f b))) (Sum.inr (tx b)) (T (f a)) = bK g ls := by
 rw [bK_upd s.ma, bK_upd s.mb]
 unfold bK
 refine List.map_congr_left fun y hy => ?_
 show (Sum.inr (tx y), T (if y = b then f a else if y = a then f b else f y)) = _
 by_cases c1 : y = b
 ·rw [if_pos c1, c1, s.gb]
 ·by_cases c2 : y = a
  ·rw [if_neg c1, if_pos c2, c2, s.ga]
  ·rw [if_neg c1, if_neg c2, s.go y hy c2 c1]
noncomputable def spJoinL (K : PySem.W.Frag) : Sp := fun vs H Q _ => ∃ (W : Addr) (nn kn : Nat) (t : List Nat), vs = [.ref W, T t] ∧ SqL K H W ((Wd.allW kn nn).map T) ∧ SizeOk nn kn ∧ TellOk t nn kn ∧ FairR t nn kn ∧
 ∀ (tp B L : Addr) (H' : Hp), Same H H' → H' tp = some (.tup [.ref B, .ref L]) → H' B = some (.dK (bK (nextF ((prT nn kn (Wd.allW kn nn)).foldl (jst kn) (t, [])).1 kn) (Wd.allW kn nn))) → PairsT H' L ((prT nn kn (Wd.allW kn nn)).foldl (jst kn) (t, [])).2 → Q (.ref tp) H'
theorem ok__law_joined {f : Addr} {fd : FuncData} (F : Fun K "_law_joined" "_law_joined" s__law_joined f fd) (tt : Txt K mg ad) (C__law_behind : Cal P w K mg base (CX1 P w) "_law_behind" 1 ["words", "told"] (spBehind K)) (C__law_pairs : Cal P w K mg base (CX1 P w) "_law_pairs" 1 ["words"] (spPairs K)) (C__law_same_round : Cal P w K mg base (CX1 P w) "_law_same_round" 1 ["behind", "one", "two"] spSameR) : FnOk P w K mg base (CX1 P w) 2 f fd ["words", "told"] (spJoinL K) := by
 refine F.okN sc__law_joined (fun vs H Q E h => ?_) (fun cdv A outer s H vs Q E hr h => ?_)
 ·obtain ⟨W, nn, kn, t, rfl, _⟩ := h
  rfl
 ·obtain ⟨W, nn, kn, t, rfl, hW, hz, hto, hf, q⟩ := h
  have hs : sizeLine = 16777216 := sizeLine_eq
  obtain ⟨hk, hn, h64⟩ := id hz
  have hok : ∀ w ∈ Wd.allW kn nn, RW w nn kn := fun w hw => (rw_all (by omega)).mp hw
  have hLl : (Wd.allW kn nn).length = kn ^ nn := Wd.allW_len ..
  have hj0 : JOk nn kn t (t, []) := ⟨hto, hf, by simp⟩
  have hpar := prT_par (nn := nn) (kn := kn) (ls := Wd.allW kn nn) hk.1 hok
  refine ⟨_, (pss_cons (ps_set (i := 2) sc__law_joined.nd rfl (Or.inl rfl) (pe_cal C__law_behind hr pass1 (pa_cons (pv 0) (pa_cons (pv 1) pa_nil))))
   (pss_cons (ps_set (i := 3) sc__law_joined.nd rfl (Or.inl rfl) (pe_lst pa_nil))
   (pss_cons (ps_for PassesOwn.never rfl (pi_list (pe_cal C__law_pairs hr pass1 (pa_cons (pv 0) pa_nil))) (pg_tup rfl (pgs_cons (pg_name (i := 4) sc__law_joined.nd rfl (Or.inl rfl)) (pgs_cons (pg_name (i := 5) sc__law_joined.nd rfl (Or.inl rfl)) pgs_nil))) (pss_one (ps_if (pt_not (pt_val (pe_cal C__law_same_round hr pass1 (pa_cons (pv 2) (pa_cons (pv 4) (pa_cons (pv 5) pa_nil)))))) (pss_cons (ps_set (i := 6) sc__law_joined.nd rfl (Or.inl rfl) (pe_dget (hu_of hr) (pv 2) (pv 4) (fun _ _ => rfl)))
   (pss_cons (ps_dput (hu_of hr) (pv 2) (pv 4) (pe_dget (hu_of hr) (pv 2) (pv 5) (fun _ _ => rfl)) rfl)
   (pss_cons (ps_dput (hu_of hr) (pv 2) (pv 5) (pv 6) rfl)
   (pss_one (ps_expr (pe_bm PySem.F.plainAttrs_list PySem.F.slot_list_append PySem.F.type_list_append mt_append (pv 3) (pa_cons (pe_tup (pa_cons (pv 4) (pa_cons (pv 5) pa_nil))) pa_nil))))))) pss_nil)))
   (pss_one (ps_ret (pe_tup (pa_cons (pv 2) (pa_cons (pv 3) pa_nil)))))))), ?_⟩
  (try rw [cxK2]); (try rw [cxK1])
  refine ⟨_, rfl, _, rfl, W, t, nn, kn, rfl, hW, hz, hto, fun B H1 hB s1 hdB => ?_⟩
  refine ⟨(by show 0 ≤ sizeLine; omega), fun L hL => ?_⟩
  have t2 := same_upd (o := .lst []) hL
  have hBL : B ≠ L := fun z => by rw [z, hL] at hdB; cases hdB
  have hHL : H L = none := by
   cases e : H L with
   | none => rfl
   | some o => have := s1 L o e; rw [hL] at this; cases this
  refine ⟨_, rfl, W, nn, kn, rfl, (s1.trans t2).seq hW, hz, fun Dp H3 hDp s3 lp => ?_⟩
  have b3 := s3 B _ (t2 B _ hdB)
  have l3 := s3 L _ (upd_same (H := H1) (a := L) (o := .lst []))
  have hDB : Dp ≠ B := fun z => by rw [z, t2 B _ hdB] at hDp; cases hDp
  have hDL : Dp ≠ L := fun z => by rw [z, upd_same] at hDp; cases hDp
  obtain ⟨vs, dv, dl, dat⟩ := lp.at
  generalize hPR : prT nn kn (Wd.allW kn nn) = PR at dl dat hpar q
  have hst : ∀ i, JOk nn kn t ((PR.take i).foldl (jst kn) (t, [])) := fun i => (fold_ok hz (fun q hq => hpar q (List.mem_of_mem_take hq)) hj0).1
  refine ⟨Dp, rfl, ⟨_, SqL.of dv⟩, ?_⟩
  refine for_list (K := K) (a := Dp) (xs := vs) (fun i σ G => (∀ b o, b ≠ B → b ≠ L → H3 b = some o → G b = some o) ∧ G B = some (.dK (bK (nextF ((PR.take i).foldl (jst kn) (t, [])).1 kn) (Wd.allW kn nn))) ∧ PairsT G L ((PR.take i).foldl (jst kn) (t, [])).2 ∧ ∃ v4 v5 v6 : Option V, σ = [some (.ref W), some (T t), some (.ref B), some (.ref L), v4, v5, v6])
   ⟨fun b o _ _ e => e, b3, ⟨[], l3, rfl, fun i a q e => by simp at e⟩, none, none, none, rfl⟩ (fun i σ G _ h => SqL.of (h.1 Dp _ hDB hDL dv)) ?_ ?_
  ·rintro i v σ G hi ⟨k4, b4, l4, v4, v5, v6, rfl⟩
   obtain ⟨a, ⟨one, two⟩, rfl, hq, ha⟩ := dat i v hi
   have hp := hpar _ (List.mem_of_getElem? hq)
   have haB : a ≠ B := fun z => by rw [z, b3] at ha; cases ha
   have haL : a ≠ L := fun z => by rw [z, l3] at ha; cases ha
   have hnx : (PR.take (i + 1)).foldl (jst kn) (t, []) = jst kn ((PR.take i).foldl (jst kn) (t, [])) (one, two) := by
    rw [List.take_add_one, hq, List.foldl_append]; rfl
   have hj := hst i
   rw [hnx]
   generalize (PR.take i).foldl (jst kn) (t, []) = S at b4 l4 hj
   refine ⟨a, _, rfl, SqT.of (k4 a _ haB haL ha), rfl, _, _, rfl, _, _, rfl, rfl, ?_⟩
   have m1 : one ∈ Wd.allW kn nn := (rw_all (by omega)).mpr hp.one
   have m2 : two ∈ Wd.allW kn nn := (rw_all (by omega)).mpr hp.two
   refine ⟨_, rfl, _, rfl, _, rfl, B, nn, kn, S.1, one, two, rfl, b4, hz, hj.fair, m1, hp.ne, fun b hb => ?_⟩
   cases b with
   | true =>
    refine ⟨_, rfl, iteF ?_⟩
    have : jst kn S (one, two) = S := if_pos (hb.mp rfl)
    rw [this]
    exact ⟨k4, b4, l4, _, _, _, rfl⟩
   | false =>
    refine ⟨_, rfl, iteT ?_⟩
    have hin : ¬ Wd.SO (nextF S.1 kn) one two := fun z => Bool.false_ne_true (hb.mpr z)
    have hjs : jst kn S (one, two) = (exT kn S.1 one two, S.2 ++ [(one, two)]) := if_neg hin
    rw [hjs]
    obtain ⟨g1, g2, hsw⟩ := ex_facts hz hj.tell hj.fair hp
    have hget : ∀ {y : List Nat}, y ∈ Wd.allW kn nn → DGet G B (T y) (some (T (nextF S.1 kn y))) := fun {y} hy => by
     have g := DGet.k (k := Sum.inr (tx y)) b4
     rwa [bK_val, if_pos hy] at g
    refine ⟨_, rfl, _, rfl, B, _, rfl, hget m1, ?_⟩
    refine ⟨_, rfl, _, rfl, B, _, rfl, hget m2, _, rfl, _, rfl, B, _, rfl, DPut.k (k := Sum.inr (tx one)) b4 (by rw [bK_len]; omega), ?_⟩
    refine ⟨_, rfl, _, rfl, _, rfl, B, _, rfl, DPut.k (k := Sum.inr (tx two)) upd_same (by rw [bK_upd m1, bK_len]; omega), ?_⟩
    rw [bK_sw hsw]
    have k5 : ∀ b o, b ≠ B → G b = some o → upd (upd G B (.dK (putK (bK (nextF S.1 kn) (Wd.allW kn nn)) (Sum.inr (tx one)) (T (nextF S.1 kn two))))) B (.dK (bK (nextF (exT kn S.1 one two) kn) (Wd.allW kn nn))) b = some o := fun b o hb e => by rw [upd_ne hb, upd_ne hb]; exact e
    generalize hG5 : upd (upd G B (.dK (putK (bK (nextF S.1 kn) (Wd.allW kn nn)) (Sum.inr (tx one)) (T (nextF S.1 kn two))))) B (.dK (bK (nextF (exT kn S.1 one two) kn) (Wd.allW kn nn))) = G5 at k5
    have b5 : G5 B = some (.dK (bK (nextF (exT kn S.1 one two) kn) (Wd.allW kn nn))) := by rw [← hG5]; exact upd_same
    obtain ⟨as, l41, l42, l43⟩ := id l4
    have l5 : PairsT G5 L S.2 := ⟨as, k5 L _ hBL.symm l41, l42, fun i a q e1 e2 => k5 a _ (fun z => by have := l43 i a q e1 e2; rw [z, b4] at this; cases this) (l43 i a q e1 e2)⟩
    obtain ⟨ps, lv, lpl⟩ := l5.len
    have hnum := hj.num
    have hrl := Wd.rounds_len (nextF t kn) (Wd.allW kn nn)
    refine ⟨_, rfl, .inl ⟨rfl, _, SqL.of lv⟩, _, rfl, _, rfl, (by show 2 ≤ sizeLine; omega), fun Tp hTp => ?_⟩
    have t6 := same_upd (o := .tup [T one, T two]) hTp
    refine ⟨L, _, _, rfl, rfl, t6 L _ lv, (by omega), ?_⟩
    have hk10 : ∀ b o, b ≠ L → G5 b = some o → upd (upd G5 Tp (.tup [T one, T two])) L (.lst (ps ++ [.ref Tp])) b = some o := fun b o hb e => by rw [upd_ne hb]; exact t6 b o e
    have hTL : Tp ≠ L := fun z => by rw [z, lv] at hTp; cases hTp
    exact ⟨fun b o h1 h2 e => hk10 b o h2 (k5 b o h1 (k4 b o h1 h2 e)), hk10 B _ hBL b5, l5.more lv hk10 (by rw [upd_ne hTL]; exact upd_same) upd_same, _, _, _, rfl⟩
  ·rintro σ G ⟨k4, b4, l4, v4, v5, v6, rfl⟩
   rw [dl, List.take_length] at b4 l4
   refine ⟨_, rfl, _, rfl, (by show 2 ≤ sizeLine; omega), fun Tp hTp => ?_⟩
   have t6 := same_upd (o := .tup [.ref B, .ref L]) hTp
   have hHB : ∀ b o, H b = some o → b ≠ B ∧ b ≠ L := fun b o e => ⟨(fun z => by rw [z, hB] at e; cases e), (fun z => by rw [z, hHL] at e; cases e)⟩
   exact q Tp B L _ (fun b o e => t6 b o (k4 b o (hHB b o e).1 (hHB b o e).2 ((s1.trans (t2.trans s3)) b o e))) upd_same (t6 B _ b4) (l4.on t6)

noncomputable def spSlips (K : PySem.W.Frag) : Sp := fun vs H Q _ => ∃ (r : List Nat) (z : Int), vs = [T r, .int z] ∧ (1 ≤ r.length ∧ r.length ≤ 64) ∧ ∀ (D : Addr) (ls : List (List Nat)) (H' : Hp), H D = none → Same H H' → H' D = some (.lst (ls.map T)) → ls.length ≤ 6 → (∀ x ∈ ls, x.length ≤ 600) → Q (.ref D) H'
theorem mod_nat (z : Int) {m : Nat} (hm : 0 < m) : ∃ i : Nat, z % ((m : Nat) : Int) = (i : Int) ∧ i < m := ⟨(z % ((m : Nat) : Int)).toNat, by have := Int.emod_nonneg z (show ((m : Nat) : Int) ≠ 0 by omega); omega, by have := Int.emod_nonneg z (show ((m : Nat) : Int) ≠ 0 by omega); have := Int.emod_lt_of_pos z (show (0 : Int) < ((m : Nat) : Int) by omega); omega⟩
theorem ok__law_slips {f : Addr} {fd : FuncData} (F : Fun K "_law_slips" "_law_slips" s__law_slips f fd) (tt : Txt K mg ad) : FnOk P w K mg base (CX1 P w) 1 f fd ["ring", "n"] (spSlips K) := by
 refine F.okN sc__law_slips (fun vs H Q E h => ?_) (fun cdv A outer s H vs Q E hr h => ?_)
 ·obtain ⟨r, z, rfl, _⟩ := h
  rfl
 ·obtain ⟨r, z, rfl, ⟨hr1, hr64⟩, q⟩ := h
  have hs : sizeLine = 16777216 := sizeLine_eq
  have hL : (0 : Int) < ((r.length : Nat) : Int) := by omega
  obtain ⟨i, hi, hil⟩ := mod_nat (z / 7) (m := r.length) (by omega)
  obtain ⟨j, hj, hjl⟩ := mod_nat (z / 700) (m := r.length) (by omega)
  obtain ⟨l, hl, hll⟩ := mod_nat (z / 70000) (m := 6) (by omega)
  obtain ⟨ci, hci⟩ : ∃ c, r[i]? = some c := ⟨_, List.getElem?_eq_getElem hil⟩
  obtain ⟨cj, hcj⟩ : ∃ c, r[j]? = some c := ⟨_, List.getElem?_eq_getElem hjl⟩
  have hcl := cutL_length_le
  refine ⟨_, (pss_cons (ps_set (i := 2) sc__law_slips.nd rfl (Or.inl rfl) (pe_op op_mod (pe_op op_fdiv (pv 1) pe_int) (pe_callB call_len_T (by rfl) tt.b_len PySem.boot_len (pa_cons (pv 0) pa_nil))))
   (pss_cons (ps_set (i := 3) sc__law_slips.nd rfl (Or.inl rfl) (pe_op op_mod (pe_op op_fdiv (pv 1) pe_int) (pe_callB call_len_T (by rfl) tt.b_len PySem.boot_len (pa_cons (pv 0) pa_nil))))
   (pss_cons (ps_set (i := 4) sc__law_slips.nd rfl (Or.inl rfl) (pe_ix ix_T (pe_strT [97, 98, 99, 100, 101, 102] (by decide +kernel)) (pe_op op_mod (pe_op op_fdiv (pv 1) pe_int) pe_int) (fun _ _ => rfl)))
   (pss_cons (ps_set (i := 5) sc__law_slips.nd rfl (Or.inl rfl) (pe_op op_add_T (pe_slice sl_T (pv 0) po_none (po_some (pv 2))) (pe_slice sl_T (pv 0) (po_some (pe_op op_add (pv 2) pe_int)) po_none)))
   (pss_cons (ps_set (i := 6) sc__law_slips.nd rfl (Or.inl rfl) (pe_callTy (call_listT rfl) (by rfl) tt.b_list (by decide +kernel) (pa_cons (pv 0) pa_nil)))
   (pss_cons (ps_asg (pe_ix ix_T (pv 0) (pv 3) (fun _ _ => rfl)) (pg_sub (pv 6) (pv 2) set_list))
   (pss_cons (ps_asg (pe_ix ix_T (pv 0) (pv 2) (fun _ _ => rfl)) (pg_sub (pv 6) (pv 3) set_list))
   (pss_cons (ps_set (i := 7) sc__law_slips.nd rfl (Or.inl rfl) (pe_lst (pa_cons (pe_op op_add_T (pe_op op_add_T (pe_slice sl_T (pv 0) po_none (po_some (pv 2))) (pv 4)) (pe_slice sl_T (pv 0) (po_some (pe_op op_add (pv 2) pe_int)) po_none)) (pa_cons (pe_op op_add_T (pe_op op_add_T (pe_slice sl_T (pv 5) po_none (po_some (pv 3))) (pe_ix ix_T (pv 0) (pv 2) (fun _ _ => rfl))) (pe_slice sl_T (pv 5) (po_some (pv 3)) po_none)) (pa_cons (pe_bm PySem.F.plainAttrs_str PySem.F.slot_str_join PySem.F.type_str_join mt_join (pe_strT [] (by decide +kernel)) (pa_cons (pv 6) pa_nil)) pa_nil)))))
   (pss_one (ps_ret (pe_op op_catL (pv 7) (pe_lst (pa_cons (pe_joinrevT rfl (by rfl) tt.b_reversed (pv 0) (by decide +kernel)) (pa_cons (pe_op op_add_T (pv 0) (pv 0)) (pa_cons (pv 5) pa_nil))))))))))))))), ?_⟩
  (try rw [cxK2]); (try rw [cxK1])
  refine ⟨_, rfl, _, _, rfl, rfl, ⟨by decide, by decide⟩, _, rfl, _, rfl, (by omega), _, _, rfl, rfl, hL, ?_⟩
  dsimp only
  rw [hi]
  refine ⟨_, rfl, _, _, rfl, rfl, ⟨by decide, by decide⟩, _, rfl, _, rfl, (by omega), _, _, rfl, rfl, hL, ?_⟩
  dsimp only
  rw [hj]
  have hch : atI [97, 98, 99, 100, 101, 102] (z / 70000 % 6) = some (97 + l) := by
   have : ∀ k : Nat, k < 6 → ([97, 98, 99, 100, 101, 102] : List Nat)[k]? = some (97 + k) := by decide
   rw [show z / 70000 % 6 = (l : Int) from hl]
   exact atI_nat (this l hll)
  refine ⟨_, rfl, _, _, rfl, rfl, ⟨by decide, by decide⟩, _, _, rfl, rfl, (by show (0 : Int) < 6; decide), _, rfl, _, rfl, (by show 6 ≤ sizeLine; omega), _, hch, ?_⟩
  have c1 := hcl r none (some (i : Int))
  have c2 := hcl r (some ((i : Int) + 1)) none
  refine ⟨_, rfl, _, rfl, _, rfl, _, rfl, (by omega), _, rfl, _, rfl, _, _, rfl, rfl, _, rfl, _, rfl, (by omega), _, rfl, _, rfl, (by omega), ?_⟩
  refine ⟨_, rfl, r, rfl, (by omega), fun D hD => ?_⟩
  have t1 := same_upd (o := .lst ((r.map fun c => [c]).map T)) hD
  obtain ⟨H1, hH1, s1, d1⟩ := namedD t1
  rw [← hH1]
  refine ⟨_, rfl, _, rfl, _, rfl, _, rfl, (by omega), cj, atI_nat hcj, _, rfl, _, rfl, D, _, _, i, rfl, rfl, d1, ixN_nat (by rw [List.length_map, List.length_map]; exact hil), ?_⟩
  rw [show ((r.map fun c => [c]).map T).set i (T [cj]) = ((r.set i cj).map fun c => [c]).map T by rw [set_map T, set_map fun c => [c]]]
  refine ⟨_, rfl, _, rfl, _, rfl, _, rfl, (by omega), ci, atI_nat hci, _, rfl, _, rfl, D, _, _, j, rfl, rfl, upd_same, ixN_nat (by rw [List.length_map, List.length_map, List.length_set]; exact hjl), ?_⟩
  rw [show (((r.set i cj).map fun c => [c]).map T).set j (T [ci]) = (((r.set i cj).set j ci).map fun c => [c]).map T by rw [set_map T, set_map fun c => [c]]]
  have s3 : Same H (upd (upd H1 D (.lst (((r.set i cj).map fun c => [c]).map T))) D (.lst ((((r.set i cj).set j ci).map fun c => [c]).map T))) := fun b o e => by rw [upd_ne (ne_of_none e hD), upd_ne (ne_of_none e hD)]; exact s1 b o e
  have d3 : (upd (upd H1 D (.lst (((r.set i cj).map fun c => [c]).map T))) D (.lst ((((r.set i cj).set j ci).map fun c => [c]).map T))) D = some (.lst ((((r.set i cj).set j ci).map fun c => [c]).map T)) := upd_same
  generalize upd (upd H1 D (.lst (((r.set i cj).map fun c => [c]).map T))) D (.lst ((((r.set i cj).set j ci).map fun c => [c]).map T)) = H3 at s3 d3
  have hsl : ((r.set i cj).set j ci).length = r.length := by rw [List.length_set, List.length_set]
  generalize (r.set i cj).set j ci = sw at d3 hsl
  have c3 := hcl (cutL r none (some (i : Int)) ++ cutL r (some ((i : Int) + 1)) none) none (some (j : Int))
  have c4 := hcl (cutL r none (some (i : Int)) ++ cutL r (some ((i : Int) + 1)) none) (some (j : Int)) none
  rw [List.length_append] at c3 c4
  have cl : ([97 + l] : List Nat).length = 1 := rfl
  have cc : ([ci] : List Nat).length = 1 := rfl
  refine ⟨_, rfl, _, rfl, _, rfl, _, rfl, (by omega), _, rfl, _, rfl, _, rfl, (by omega), _, rfl, _, rfl, _, _, rfl, rfl, _, rfl, _, rfl, (by omega), _, rfl, _, rfl, (by rw [List.length_append]; omega), ?_⟩
  refine ⟨_, rfl, _, rfl, _, rfl, _, rfl, (by rw [List.length_append]; omega), _, rfl, _, rfl, _, rfl, _, rfl, (by omega), ci, atI_nat hci, _, rfl, _, rfl, (by omega), _, rfl, _, rfl, _, rfl, _, rfl, (by rw [List.length_append]; omega), _, rfl, _, rfl, (by rw [List.length_append]; omega), ?_⟩
  refine ⟨rfl, _, rfl, rfl, D, _, rfl, SqL.of d3, (by rw [signs_flat]; omega), (by show 3 ≤ sizeLine; omega), fun p1 hp1 => ?_⟩
  have t4 := same_upd (o := .lst [T (cutL r none (some (i : Int)) ++ [97 + l] ++ cutL r (some ((i : Int) + 1)) none), T (cutL (cutL r none (some (i : Int)) ++ cutL r (some ((i : Int) + 1)) none) none (some (j : Int)) ++ [ci] ++ cutL (cutL r none (some (i : Int)) ++ cutL r (some ((i : Int) + 1)) none) (some (j : Int)) none), T (sw.map fun c => [c]).flatten]) hp1
  obtain ⟨H4, hH4, s4, d4⟩ := namedD t4
  rw [← hH4]
  refine ⟨_, rfl, _, rfl, _, rfl, (by omega), _, rfl, _, rfl, _, rfl, _, rfl, (by omega), _, rfl, (by show 3 ≤ sizeLine; omega), fun p2 hp2 => ?_⟩
  have t5 := same_upd (o := .lst [T r.reverse, T (r ++ r), T (cutL r none (some (i : Int)) ++ cutL r (some ((i : Int) + 1)) none)]) hp2
  refine ⟨p1, p2, _, _, rfl, rfl, SqL.of (t5 p1 _ d4), SqL.of upd_same, (by show 3 + 3 ≤ sizeLine; omega), fun p3 hp3 => ?_⟩
  have hn : H p3 = none := by
   cases e : H p3 with
   | none => rfl
   | some o => have := (s3.trans (s4.trans t5)) p3 o e; rw [hp3] at this; cases this
  refine q p3 [cutL r none (some (i : Int)) ++ [97 + l] ++ cutL r (some ((i : Int) + 1)) none, cutL (cutL r none (some (i : Int)) ++ cutL r (some ((i : Int) + 1)) none) none (some (j : Int)) ++ [ci] ++ cutL (cutL r none (some (i : Int)) ++ cutL r (some ((i : Int) + 1)) none) (some (j : Int)) none, (sw.map fun c => [c]).flatten, r.reverse, r ++ r, cutL r none (some (i : Int)) ++ cutL r (some ((i : Int) + 1)) none] _ hn (s3.trans (s4.trans (t5.trans (same_upd hp3)))) upd_same (Nat.le_refl _) ?_
  intro x hx
  simp only [List.mem_cons, List.not_mem_nil, or_false] at hx
  rcases hx with rfl | rfl | rfl | rfl | rfl | rfl
  ·rw [List.length_append, List.length_append]; omega
  ·rw [List.length_append, List.length_append]; omega
  ·rw [signs_flat]; omega
  ·rw [List.length_reverse]; omega
  ·rw [List.length_append]; omega
  ·rw [List.length_append]; omega

noncomputable def wOne : List Nat := [111, 110, 101]
noncomputable def madeT (r : List Nat) (nn kn : Nat) : List Nat := (Wd.allW kn nn).map fun w => r.getD ((fix (Wd.ringW r nn) w + nn) % r.length) 0
noncomputable def spMade50 : Sp := fun vs H Q _ => ∃ (r : List Nat) (nn kn : Nat), vs = [T r, .int (nn : Nat), .int (kn : Nat)] ∧ r.length ≤ 600 ∧ SizeOk nn kn ∧ ∀ (d : List Nat) (H' : Hp), Same H H' → (AllR r nn kn → d = madeT r nn kn) → (¬ AllR r nn kn → d = wOne) → Q (T d) H'
theorem ok__law_made {f : Addr} {fd : FuncData} (F : Fun K "_law_made" "_law_made" s__law_made f fd) (tt : Txt K mg ad) (C_made_of : Cal P w K mg base (CX1 P w) "made_of" 6 ["ring", "length", "kinds"] (spMadeOf ad.Rule ad)) : FnOk P w K mg base (CX1 P w) 7 f fd ["text", "length", "kinds"] spMade50 := by
 refine F.okX sc__law_made (fun vs H Q E h => ?_) (fun cdv A outer s H vs Q E hr h => ?_)
 ·obtain ⟨r, nn, kn, rfl, _⟩ := h
  rfl
 ·obtain ⟨r, nn, kn, rfl, hr200, hz, q⟩ := h
  have hs : sizeLine = 16777216 := sizeLine_eq
  obtain ⟨hk, hn, h64⟩ := id hz
  refine ⟨_, (pss_cons (ps_set (i := 3) sc__law_made.nd rfl (Or.inl rfl) pe_non)
   (pss_cons (ps_try ownX (py_set (i := 3) sc__law_made.nd rfl (Or.inl rfl) (pex_fld (pex_cal C_made_of hr (pa_cons (pv 0) (pa_cons (pv 1) (pa_cons (pv 2) pa_nil)))) rfl)) (ph_plain tt.m_NotOne (fun a => (pss_one (ps_set (i := 3) sc__law_made.nd rfl (Or.inl rfl) (pe_strT [111, 110, 101] (by decide +kernel))))) ph_nil))
   (pss_one (ps_ret (pv 3))))), ?_⟩
  (try rw [cxK2]); (try rw [cxK1])
  refine ⟨_, rfl, _, rfl, _, rfl, r, _, _, rfl, (by omega), fun z => absurd (by omega) z, fun _ z => absurd (by omega) z, fun kn' nn' ek en _ _ => ?_⟩
  obtain rfl : kn = kn' := by omega
  obtain rfl : nn = nn' := by omega
  refine ⟨fun z => absurd z (by omega), fun _ hno H1 s1 => ?_, fun _ hall y t H1 s1 ht hto hy => ?_⟩
  ·exact .inl ⟨tt.q_NotOne, ⟨_, rfl, q _ _ s1 (fun z => absurd z hno) fun _ => rfl⟩⟩
  ·obtain ⟨dy, hy⟩ := hy
   refine ⟨y, ad.Rule, dy, _, _, rfl, hy, tt.cl_Rule, tt.na_Rule_told, rflds_t _ _ _, ?_⟩
   exact ⟨_, rfl, q _ _ s1 (fun _ => ht) fun z => absurd hall z⟩

theorem allR_len {r : List Nat} {nn kn : Nat} (h : AllR r nn kn) : r.length = kn ^ nn := by
 have := h.length_eq
 rwa [Wd.ringW_len, Wd.allW_len] at this
theorem fix_at {r : List Nat} {nn kn k : Nat} (hk : 1 ≤ kn) (h : AllR r nn kn) (hi : k < r.length) : fix (Wd.ringW r nn) (Wd.ringAt r nn k) = k := by
 have hm : Wd.ringAt r nn k ∈ Wd.ringW r nn := List.mem_map.mpr ⟨k, List.mem_range.mpr hi, rfl⟩
 obtain ⟨f1, f2⟩ := fix_ok hm
 have hrn : (Wd.ringW r nn).Nodup := h.nodup_iff.mpr (allW_nodup (by omega))
 have hj := (List.getElem?_eq_some_iff.mp f1).1
 refine (List.getElem?_inj hj hrn).mp ?_
 rw [f1, Wd.ringW_get hi]
noncomputable def spSlipsR (K : PySem.W.Frag) : Sp := fun vs H Q _ => ∃ (r : List Nat) (W : Addr) (nn kn : Nat) (z : Int), vs = [T r, .ref W, .int (nn : Nat), .int (kn : Nat), .int z] ∧ (1 ≤ r.length ∧ r.length ≤ 64) ∧ SqL K H W ((Wd.allW kn nn).map T) ∧ SizeOk nn kn ∧ ∀ H', Same H H' → Q (.bl true) H'
theorem ok__law_slips_right {f : Addr} {fd : FuncData} (F : Fun K "_law_slips_right" "_law_slips_right" s__law_slips_right f fd) (tt : Txt K mg ad) (C__law_slips : Cal P w K mg base (CX1 P w) "_law_slips" 1 ["ring", "n"] (spSlips K)) (C__law_made : Cal P w K mg base (CX1 P w) "_law_made" 7 ["text", "length", "kinds"] spMade50) : FnOk P w K mg base (CX1 P w) 8 f fd ["ring", "words", "length", "kinds", "n"] (spSlipsR K) := by
 refine F.okN sc__law_slips_right (fun vs H Q E h => ?_) (fun cdv A outer s H vs Q E hr h => ?_)
 ·obtain ⟨r, W, nn, kn, z, rfl, _⟩ := h
  rfl
 ·obtain ⟨rg, W, nn, kn, z, rfl, hrg, hW, hz, q⟩ := h
  have hs : sizeLine = 16777216 := sizeLine_eq
  have hu := Nat.lt_of_succ_lt (hu_of hr)
  obtain ⟨hk, hn, h64⟩ := id hz
  have hLl : (Wd.allW kn nn).length = kn ^ nn := Wd.allW_len ..
  have hnd := allW_nodup (k := kn) (n := nn) (by omega)
  refine ⟨_, (pss_cons (ps_for PassesOwn.never rfl (pi_list (pe_cal C__law_slips hr pass1 (pa_cons (pv 0) (pa_cons (pv 4) pa_nil)))) (pg_name (i := 5) sc__law_slips_right.nd rfl (Or.inl rfl)) (pss_cons (ps_set (i := 6) sc__law_slips_right.nd rfl (Or.inr rfl) (pe_op op_mul_T (pv 5) (pe_op op_add (pv 2) pe_int)))
   (pss_cons (ps_setComp (i := 7) cs__law_slips_right_0 rfl (pi_range1 (by rfl) tt.b_range (pa_cons (pe_callB call_len_T (by rfl) tt.b_len PySem.boot_len (pa_cons (pv 5) pa_nil)) pa_nil)) (fun cl C s' H' fp => (pe_slice sl_T (pv 7) (po_some (pv 0)) (po_some (pe_op op_add (pv 0) (pv 3))))) sc__law_slips_right.nd rfl rfl)
   (pss_cons (ps_set (i := 8) sc__law_slips_right.nd rfl (Or.inl rfl) (pe_strT [111, 110, 101] (by decide +kernel)))
   (pss_cons (ps_if (pt_cmpR (op_eq_LT hu) (pe_callB call_sortedA (by rfl) tt.b_sorted PyProof.Rows.boot_sorted (pa_cons (pv 7) pa_nil)) (pv 1) (nomark _)) (pss_cons (ps_set (i := 9) sc__law_slips_right.nd rfl (Or.inr rfl) pe_dnewK)
   (pss_cons (ps_for PassesOwn.never rfl (pi_range1 (by rfl) tt.b_range (pa_cons (pe_callB call_len_T (by rfl) tt.b_len PySem.boot_len (pa_cons (pv 5) pa_nil)) pa_nil)) (pg_name (i := 10) sc__law_slips_right.nd rfl (Or.inl rfl)) (pss_one (ps_dput (hu_of hr) (pv 9) (pe_ix ix_list (pv 7) (pv 10) (fun _ _ => rfl)) (pe_ix ix_T (pv 6) (pe_op op_add (pv 10) (pv 2)) (fun _ _ => rfl)) rfl)))
   (pss_one (ps_set (i := 8) sc__law_slips_right.nd rfl (Or.inl rfl) (pe_bm PySem.F.plainAttrs_str PySem.F.slot_str_join PySem.F.type_str_join mt_join (pe_strT [] (by decide +kernel)) (pa_cons (pe_comp cs__law_slips_right_1 rfl (pi_list (pv 1)) (fun cl C s' H' fp => (pe_dget (hu_of hr) (pv 10) (pv 0) (fun _ _ => rfl)))) pa_nil)))))) pss_nil)
   (pss_one (ps_if (pt_cmpR op_ne_T (pe_cal C__law_made hr pass1 (pa_cons (pv 5) (pa_cons (pv 2) (pa_cons (pv 3) pa_nil)))) (pv 8) (nomark _)) (pss_one (ps_ret pe_bl)) pss_nil)))))))
   (pss_one (ps_ret pe_bl))), ?_⟩
  (try rw [cxK2]); (try rw [cxK1])
  refine ⟨_, rfl, _, rfl, rg, z, rfl, hrg, fun D0 ls H0 hD0 s0 hd0 hl6 hlx => ?_⟩
  refine ⟨D0, rfl, ⟨_, SqL.of hd0⟩, ?_⟩
  refine for_list (K := K) (a := D0) (xs := ls.map T) (fun i σ G => Same H0 G ∧ ∃ v5 v6 v7 v8 v9 v10 : Option V, σ = [some (T rg), some (.ref W), some (.int (nn : Nat)), some (.int (kn : Nat)), some (.int z), v5, v6, v7, v8, v9, v10]) ⟨Same.refl _, none, none, none, none, none, none, rfl⟩ (fun i σ G _ h => SqL.of (h.1 D0 _ hd0)) ?_ ?_
  ·rintro i v σ G hi ⟨s1, v5, v6, v7, v8, v9, v10, rfl⟩
   obtain ⟨r, hr', rfl⟩ : ∃ x, ls[i]? = some x ∧ T x = v := by rw [List.getElem?_map] at hi; exact Option.map_eq_some_iff.mp hi
   have hrl := hlx r (List.mem_of_getElem? hr')
   have s01 := s0.trans s1
   have hrep : (Wd.rep (nn + 1) r).length = (nn + 1) * r.length := Wd.rep_len ..
   have hmul : (nn + 1) * r.length ≤ 9 * r.length := Nat.mul_le_mul_right _ (by omega)
   refine ⟨_, rfl, _, rfl, _, _, rfl, rfl, _, rfl, nn + 1, rfl, ⟨by omega, by show (nn + 1) * r.length ≤ sizeLine; omega⟩, ?_⟩
   refine ⟨_, rfl, _, rfl, (by omega), _, rfl, by omega, by omega, ?_⟩
   rw [Int.toNat_natCast]
   refine comp_range (lo := 0) (n := r.length) (fun k => T (Wd.ringAt r nn k)) (by omega) (fun k G2 hkr s2 N hN => ?_) fun D1 G2 hD1 s2 hd2 => ?_
   ·have hle : k + nn ≤ (nn + 1) * r.length := by
     rw [Nat.succ_mul]
     have : nn * 1 ≤ nn * r.length := Nat.mul_le_mul_left _ (by omega)
     omega
    have e : cutL (Wd.rep (nn + 1) r) (some (0 + (k : Int))) (some (0 + (k : Int) + ((nn : Nat) : Int))) = Wd.ringAt r nn k := by
     rw [Int.zero_add, ← Int.natCast_add, cutL_mid (by omega) (by omega), Nat.add_sub_cancel_left]
     exact Wd.ring_at hle (by omega)
    refine ⟨_, rfl, _, rfl, _, rfl, _, rfl, _, rfl, _, _, rfl, rfl, _, rfl, _, rfl, (by omega), ?_⟩
    rw [e]
    exact hN G2 (Same.refl _)
   have hd2 : G2 D1 = some (.lst ((Wd.ringW r nn).map T)) := by rw [hd2, Wd.ringW, List.map_map]; rfl
   have s02 := s01.trans s2
   refine ⟨_, rfl, D1, Wd.ringW r nn, rfl, SqL.of hd2, fun qs D2 hD2 hp2 hw2 => ?_⟩
   have t3 := same_upd (o := .lst (qs.map T)) hD2
   refine ⟨_, rfl, D2, W, qs, Wd.allW kn nn, rfl, rfl, SqL.of upd_same, (s02.trans t3).seq hW, _, rfl, ?_⟩
   have t23 := s2.trans t3
   have hd3 := t3 D1 _ hd2
   generalize upd G2 D2 (.lst (qs.map T)) = G3 at t3 t23 hd3
   have s03 := s01.trans t23
   by_cases he : qs = Wd.allW kn nn
   case neg =>
    refine itN (by rw [decide_eq_false he]; exact Bool.false_ne_true) ?_
    have hno : ¬ AllR r nn kn := fun z => he (Wd.sorted_same (hp2.trans z) hw2 ((Wd.allW_sorted (by omega)).imp fun h g => List.lt_irrefl _ (List.lt_trans h g)))
    refine ⟨_, rfl, _, rfl, _, rfl, r, nn, kn, rfl, hrl, hz, fun d G4 s4 _ hd => ?_⟩
    obtain rfl := hd hno
    refine ⟨_, rfl, _, rfl, _, rfl, _, rfl, itN (by rw [decide_eq_true (show wOne = [111, 110, 101] from rfl)]; exact Bool.false_ne_true) ?_⟩
    exact ⟨s1.trans (t23.trans s4), _, _, _, _, _, _, rfl⟩
   refine itP (decide_eq_true he) ?_
   have hall : AllR r nn kn := by unfold AllR; rw [← he]; exact hp2.symm
   have hrn := allR_len hall
   have hp0 : 0 < kn ^ nn := Nat.pow_pos (by omega)
   have hrd : (Wd.ringW r nn).Nodup := hall.nodup_iff.mpr hnd
   have hrwl : (Wd.ringW r nn).length = r.length := Wd.ringW_len ..
   intro B hB
   have t5 := same_upd (o := .dK []) hB
   refine ⟨_, rfl, _, rfl, (by omega), _, rfl, by omega, by omega, ?_⟩
   rw [Int.toNat_natCast]
   refine for_range (fun k σ G5 => (∀ b o, b ≠ B → G3 b = some o → G5 b = some o) ∧ G5 B = some (.dK (bK (fun w => [r.getD ((fix (Wd.ringW r nn) w + nn) % r.length) 0]) ((Wd.ringW r nn).take k))) ∧ ∃ v10 : Option V, σ = [some (T rg), some (.ref W), some (.int (nn : Nat)), some (.int (kn : Nat)), some (.int z), some (T r), some (T (Wd.rep (nn + 1) r)), some (.ref D1), some (T [111, 110, 101]), some (.ref B), v10])
    ⟨fun b o hb e => t5 b o e, upd_same, _, rfl⟩ ?_ ?_
   ·rintro k σ G5 hkr ⟨k5, b5, v10, rfl⟩
    have hD1B : D1 ≠ B := fun z => by rw [z, hB] at hd3; cases hd3
    have hat : (Wd.ringW r nn)[k]? = some (Wd.ringAt r nn k) := Wd.ringW_get hkr
    have hlt : (k + nn) % r.length < r.length := Nat.mod_lt _ (by omega)
    have hle : k + nn < (nn + 1) * r.length := by
     rw [Nat.succ_mul]
     have : nn * 1 ≤ nn * r.length := Nat.mul_le_mul_left _ (by omega)
     omega
    have hch : atI (Wd.rep (nn + 1) r) (0 + ((k : Nat) : Int) + ((nn : Nat) : Int)) = some (r.getD ((k + nn) % r.length) 0) := by
     rw [Int.zero_add, ← Int.natCast_add]
     refine atI_nat ?_
     rw [Wd.rep_get hle, List.getD_eq_getElem?_getD, List.getElem?_eq_getElem hlt]
     rfl
    refine ⟨_, rfl, _, rfl, _, rfl, _, _, rfl, rfl, _, rfl, _, rfl, (by omega), _, hch, _, rfl, _, rfl, _, rfl, D1, _, _, _, rfl, rfl, SqL.of (k5 D1 _ hD1B hd3), (show atI _ (0 + ((k : Nat) : Int)) = some (T (Wd.ringAt r nn k)) by rw [Int.zero_add]; exact atI_nat (by rw [List.getElem?_map, hat]; rfl)), B, _, rfl, DPut.k (k := Sum.inr (tx (Wd.ringAt r nn k))) b5 (by rw [bK_len, List.length_take]; omega), ?_⟩
    have hput := bK_put (g := fun w => [r.getD ((fix (Wd.ringW r nn) w + nn) % r.length) 0]) (take_not hrd hat)
    rw [fix_at hk.1 hall hkr] at hput
    rw [hput]
    have htk : (Wd.ringW r nn).take (k + 1) = (Wd.ringW r nn).take k ++ [Wd.ringAt r nn k] := by rw [List.take_add_one, hat]; rfl
    rw [← htk]
    exact ⟨fun b o hb e => by rw [upd_ne hb]; exact k5 b o hb e, upd_same, _, rfl⟩
   ·rintro σ G5 ⟨k5, b5, v10, rfl⟩
    rw [List.take_of_length_le (by omega)] at b5
    have s05 : Same G3 G5 := fun b o e => k5 b o (fun z => by rw [z, hB] at e; cases e) e
    have s35 := s03.trans s05
    refine ⟨rfl, _, rfl, W, rfl, ⟨_, s35.seq hW⟩, ?_⟩
    refine compG (fun v => T [r.getD ((fix (Wd.ringW r nn) (unT v) + nn) % r.length) 0]) (reads_list (s35.seq hW)) (by rw [List.length_map]; omega) (fun v G6 hv s6 N hN => ?_) fun D6 G6 hD6 s6 hd6 => ?_
    ·obtain ⟨wd, hwd, rfl⟩ := List.mem_map.mp hv
     have g := hN G6 (Same.refl _)
     rw [unT_T] at g
     exact ⟨_, rfl, _, rfl, B, _, rfl, (by have g := DGet.k (k := Sum.inr (tx wd)) (s6 B _ b5); rwa [bK_val, if_pos (hall.mem_iff.mpr hwd)] at g), g⟩
    have hd6 : G6 D6 = some (.lst (((madeT r nn kn).map fun c => [c]).map T)) := by
     rw [hd6]
     unfold madeT
     rw [List.map_map, List.map_map, List.map_map]
     refine congrArg (fun l => some (HO.lst l)) (List.map_congr_left fun m _ => ?_)
     show T [r.getD ((fix (Wd.ringW r nn) (unT (T m)) + nn) % r.length) 0] = _
     rw [unT_T]
     rfl
    have hml : (madeT r nn kn).length = kn ^ nn := by unfold madeT; rw [List.length_map, hLl]
    refine ⟨rfl, D6, _, rfl, SqL.of hd6, (by rw [signs_flat]; omega), ?_⟩
    rw [signs_flat]
    refine ⟨_, rfl, _, rfl, _, rfl, r, nn, kn, rfl, hrl, hz, fun d G7 s7 hd _ => ?_⟩
    obtain rfl := hd hall
    refine ⟨_, rfl, _, rfl, _, rfl, _, rfl, itN (by rw [decide_eq_true rfl]; exact Bool.false_ne_true) ?_⟩
    exact ⟨s1.trans (t23.trans (s05.trans (s6.trans s7))), _, _, _, _, _, _, rfl⟩
  ·rintro σ G ⟨s1, v5, v6, v7, v8, v9, v10, rfl⟩
   exact q _ (s0.trans s1)

theorem tell_ext {t u : List Nat} {nn kn : Nat} (hk : 1 ≤ kn) (ht : TellOk t nn kn) (hu : TellOk u nn kn) (h : ∀ w ∈ Wd.allW kn nn, nextF t kn w = nextF u kn w) : t = u := by
 refine List.ext_getElem? fun i => ?_
 by_cases hi : i < kn ^ nn
 ·have hm : Wd.spell kn nn i ∈ Wd.allW kn nn := List.mem_of_getElem? (Wd.allW_get hi)
  have hr := (rw_all (by omega)).mp hm
  have e := h _ hm
  unfold nextF at e
  have e2 := (List.append_inj' e rfl).2
  have n1 := Wd.num_spell (k := kn) (by omega) nn i hi
  have a1 := told_at ht hr
  have a2 := told_at hu hr
  rw [n1] at a1 a2 e2
  rw [a1, a2, (List.cons.inj e2).1]
 ·rw [List.getElem?_eq_none (by rw [ht.1]; omega), List.getElem?_eq_none (by rw [hu.1]; omega)]
theorem made_tell {r : List Nat} {nn kn : Nat} (hk : 1 ≤ kn) (hn : 1 ≤ nn) (hall : AllR r nn kn) : TellOk (madeT r nn kn) nn kn := ⟨by unfold madeT; rw [List.length_map, Wd.allW_len], fun c hc => by
 have hrl := allR_len hall
 have hp0 : 0 < kn ^ nn := Nat.pow_pos (by omega)
 unfold madeT at hc
 obtain ⟨wd, hwd, rfl⟩ := List.mem_map.mp hc
 have hlt : (fix (Wd.ringW r nn) wd + nn) % r.length < r.length := Nat.mod_lt _ (by omega)
 obtain ⟨u, hu', hcu⟩ := ringW_head (r := r) (n := nn) hn (i := (fix (Wd.ringW r nn) wd + nn) % r.length) (c := r.getD ((fix (Wd.ringW r nn) wd + nn) % r.length) 0) (by rw [List.getD_eq_getElem?_getD, List.getElem?_eq_getElem hlt]; rfl)
 exact ((Wd.mem_allW (by omega)).mp (hall.mem_iff.mp hu')).2 _ hcu⟩
theorem made_eq {r u : List Nat} {nn kn : Nat} (hk : 1 ≤ kn) (hn : 1 ≤ nn) (hall : AllR r nn kn) (hu : TellOk u nn kn) (hx : ∀ i, nextF u kn (Wd.ringAt r nn i) = Wd.ringAt r nn (i + 1)) : madeT r nn kn = u := by
 have hb := made_by (t := madeT r nn kn) hk hn hall rfl
 refine tell_ext hk (made_tell hk hn hall) hu fun w hw => ?_
 obtain ⟨i, hi, rfl⟩ := List.mem_map.mp (hall.mem_iff.mpr hw)
 rw [hb.nx', hx]
theorem told_all {t : List Nat} {nn kn : Nat} (hk : 1 ≤ kn) (ht : TellOk t nn kn) : (Wd.allW kn nn).map (fun w => t.getD (Wd.num kn w) 97) = t := by
 refine List.ext_getElem? fun i => ?_
 rw [List.getElem?_map]
 by_cases hi : i < kn ^ nn
 ·rw [Wd.allW_get hi]
  show some (t.getD (Wd.num kn (Wd.spell kn nn i)) 97) = _
  rw [Wd.num_spell (by omega) nn i hi, List.getD_eq_getElem?_getD, List.getElem?_eq_getElem (by rw [ht.1]; exact hi)]
  rfl
 ·rw [List.getElem?_eq_none (by rw [Wd.allW_len]; omega), List.getElem?_eq_none (by rw [ht.1]; omega)]
  rfl
theorem ring_facts {nn kn : Nat} {t : List Nat} (hz : SizeOk nn kn) (ht : TellOk t nn kn) (hf : FairR t nn kn) (ha : ∀ x ∈ Wd.allW kn nn, ∀ y ∈ Wd.allW kn nn, Wd.SO (nextF t kn) x y) : ∃ r : List Nat, Wd.rounds (nextF t kn) (Wd.allW kn nn) = [r] ∧ AllR r nn kn ∧ ∀ i, nextF t kn (Wd.ringAt r nn i) = Wd.ringAt r nn (i + 1) := by
 obtain ⟨hk, hn, h64⟩ := id hz
 have hp0 : 0 < kn ^ nn := Nat.pow_pos (by omega)
 have hx : Wd.spell kn nn 0 ∈ Wd.allW kn nn := List.mem_of_getElem? (Wd.allW_get hp0)
 have N := nextBy (t := t) (nn := nn) (kn := kn) hk.1 hn.1
 obtain ⟨m, hm, lm, e⟩ := Wd.one_round N hf hx ha
 obtain ⟨p, hp⟩ := Wd.Peri.ex hf hm
 have er : Wd.rdO (nextF t kn) m = Wd.rdT (nextF t kn) m p := by unfold Wd.rdO; rw [hp.perO]
 refine ⟨_, e, ?_, fun i => ?_⟩
 ·rw [er]
  unfold AllR
  rw [N.wins hf hm hp]
  refine (List.perm_ext_iff_of_nodup hp.2.2.nodup (allW_nodup (by omega))).mpr fun y => ⟨fun hy => ?_, fun hy => ?_⟩
  ·obtain ⟨k, rfl⟩ := hp.mem.mp hy
   exact hf.it_mem hm k
  ·obtain ⟨k, e⟩ := ha m hm y hy
   exact hp.mem.mpr ⟨k, e.symm⟩
 ·rw [er, N.win hf hm hp, N.win hf hm hp]
  rfl
noncomputable def spLaw (K : PySem.W.Frag) : Sp := fun vs H Q _ => ∃ (a : Addr) (ns : List Int), vs = [.ref a] ∧ SqL K H a (ns.map V.int) ∧ ns.length ≤ 63 ∧ ∀ H', Q (.bl true) H'
theorem ok_law {f : Addr} {fd : FuncData} (F : Fun K "law" "law" s_law f fd) (tt : Txt K mg ad) (C__law_size : Cal P w K mg base (CX1 P w) "_law_size" 1 ["cell"] spSizeL) (C__law_words : Cal P w K mg base (CX1 P w) "_law_words" 1 ["length", "kinds"] spWordsL) (C__law_fair : Cal P w K mg base (CX1 P w) "_law_fair" 2 ["script", "length", "kinds"] (spFairL K))
  (C_Rule_init : Cam P w K mg base (CX1 P w) "Rule" ad.Rule 4 ["self", "length", "kinds", "told"] (spRuleI ad.Rule ad)) (C_rounds : Cal P w K mg base (CX1 P w) "rounds" 8 ["rule"] (spRounds ad.Rule ad)) (C__law_joined : Cal P w K mg base (CX1 P w) "_law_joined" 2 ["words", "told"] (spJoinL K)) (C_joined : Cal P w K mg base (CX1 P w) "joined" 8 ["rule"] (spJoin ad.Rule ad)) (C__law_rounds : Cal P w K mg base (CX1 P w) "_law_rounds" 1 ["words", "behind"] (spRoundsL K))
  (C_made_of : Cal P w K mg base (CX1 P w) "made_of" 6 ["ring", "length", "kinds"] (spMadeOf ad.Rule ad)) (C__law_stir : Cal P w K mg base (CX1 P w) "_law_stir" 1 ["cell", "k"] spStir) (C__law_slips_right : Cal P w K mg base (CX1 P w) "_law_slips_right" 8 ["ring", "words", "length", "kinds", "n"] (spSlipsR K)) : FnOk P w K mg base (CX1 P w) 9 f fd ["script"] (spLaw K) := by
 refine F.okN sc_law (fun vs H Q E h => ?_) (fun cdv A outer s H vs Q E hr h => ?_)
 ·obtain ⟨a, ns, rfl, _⟩ := h
  rfl
 ·obtain ⟨a, ns, rfl, hS, hlen, q⟩ := h
  have hs : sizeLine = 16777216 := sizeLine_eq
  have hu := Nat.lt_of_succ_lt (hu_of hr)
  refine ⟨_, (pss_cons (ps_set (i := 1) sc_law.nd rfl (Or.inl rfl) (pe_op op_mod (pe_op op_mul (pe_callB (call_sumX rfl) (by rfl) tt.b_sum PyProof.Rows.boot_sum (pa_cons (pv 0) pa_nil)) pe_int) pe_int))
   (pss_cons (ps_asg (pe_cal C__law_size hr pass1 (pa_cons (pe_op op_fdiv (pv 1) pe_int) pa_nil)) (pg_tup rfl (pgs_cons (pg_name (i := 2) sc_law.nd rfl (Or.inr rfl)) (pgs_cons (pg_name (i := 3) sc_law.nd rfl (Or.inl rfl)) pgs_nil))))
   (pss_cons (ps_set (i := 4) sc_law.nd rfl (Or.inl rfl) (pe_cal C__law_words hr pass1 (pa_cons (pv 2) (pa_cons (pv 3) pa_nil))))
   (pss_cons (ps_set (i := 5) sc_law.nd rfl (Or.inl rfl) (pe_cal C__law_fair hr pass1 (pa_cons (pv 0) (pa_cons (pv 2) (pa_cons (pv 3) pa_nil)))))
   (pss_cons (ps_set (i := 6) sc_law.nd rfl (Or.inl rfl) (pe_mak C_Rule_init hr pass1 (pa_cons (pv 2) (pa_cons (pv 3) (pa_cons (pv 5) pa_nil)))))
   (pss_cons (ps_set (i := 7) sc_law.nd rfl (Or.inl rfl) (pe_callB call_len_seq (by rfl) tt.b_len PySem.boot_len (pa_cons (pe_cal C_rounds hr pass1 (pa_cons (pv 6) pa_nil)) pa_nil)))
   (pss_cons (ps_asg (pe_cal C__law_joined hr pass1 (pa_cons (pv 4) (pa_cons (pv 5) pa_nil))) (pg_tup rfl (pgs_cons (pg_name (i := 8) sc_law.nd rfl (Or.inr rfl)) (pgs_cons (pg_name (i := 9) sc_law.nd rfl (Or.inl rfl)) pgs_nil))))
   (pss_cons (ps_set (i := 10) sc_law.nd rfl (Or.inl rfl) (pe_cal C_joined hr pass1 (pa_cons (pv 6) pa_nil)))
   (pss_cons (ps_if (PW.pt (pw_or (pt_not (pt_val (pe_callB call_isinst (by rfl) tt.b_isinstance PyProof.Rows.boot_isinstance (pa_cons (pv 10) (pa_cons (pe_bltn (v := .ty "tuple") (u := .type "tuple") (by rfl) tt.b_tuple (by decide +kernel) rfl) pa_nil))))) (pw_or (pt_cmpR op_ne_I (pe_callB call_len_seq (by rfl) tt.b_len PySem.boot_len (pa_cons (pv 10) pa_nil)) pe_int (nomark _)) (pw_or (pt_not (pt_val (pe_callB call_isinst (by rfl) tt.b_isinstance PyProof.Rows.boot_isinstance (pa_cons (pe_ix ix_tup (pv 10) pe_int (fun _ _ => rfl)) (pa_cons (pe_bltn (v := .ty "list") (u := .type "list") (by rfl) tt.b_list (by decide +kernel) rfl) pa_nil))))) (pw_or1 (pt_cmpR (op_ne_LPT (hu_of hr)) (pe_ix ix_tup (pv 10) pe_int (fun _ _ => rfl)) (pv 9) (nomark _))))))) (pss_one (ps_ret pe_bl)) pss_nil)
   (pss_cons (ps_if (PW.pt (pw_or (pt_cmpR op_ne_I (pe_callB call_len_seq (by rfl) tt.b_len PySem.boot_len (pa_cons (pv 9) pa_nil)) (pe_op op_sub (pv 7) pe_int) (nomark _)) (pw_or1 (pt_cmpR op_ne_T (pe_fld (pv 6) rfl) (pv 5) (nomark _))))) (pss_one (ps_ret pe_bl)) pss_nil)
   (pss_cons (ps_if (pt_cmpR op_ne_T (pe_fld (pe_ix ix_tup (pv 10) pe_int (fun _ _ => rfl)) rfl) (pe_bm PySem.F.plainAttrs_str PySem.F.slot_str_join PySem.F.type_str_join mt_join (pe_strT [] (by decide +kernel)) (pa_cons (pe_comp cs_law_0 rfl (pi_list (pv 4)) (fun cl C s' H' fp => (pe_ix ix_T (pe_dget (hu_of hr) (pv 9) (pv 0) (fun _ _ => rfl)) (pe_un un_neg pe_int) (fun _ _ => rfl)))) pa_nil)) (nomark _)) (pss_one (ps_ret pe_bl)) pss_nil)
   (pss_cons (ps_expr (pe_bm PySem.F.plainAttrs_list PySem.F.slot_list_append PySem.F.type_list_append mt_append (pe_ix ix_tup (pv 10) pe_int (fun _ _ => rfl)) (pa_cons (pe_tup (pa_cons (pe_strT [] (by decide +kernel)) (pa_cons (pe_strT [] (by decide +kernel)) pa_nil))) pa_nil)))
   (pss_cons (ps_if (pt_cmpR (op_ne_LPT (hu_of hr)) (pe_ix ix_tup (pe_cal C_joined hr pass1 (pa_cons (pv 6) pa_nil)) pe_int (fun _ _ => rfl)) (pv 9) (nomark _)) (pss_one (ps_ret pe_bl)) pss_nil)
   (pss_cons (ps_set (i := 11) sc_law.nd rfl (Or.inl rfl) (pe_cal C_rounds hr pass1 (pa_cons (pe_ix ix_tup (pv 10) pe_int (fun _ _ => rfl)) pa_nil)))
   (pss_cons (ps_if (PW.pt (pw_or (pt_cmpR (op_ne_LT hu) (pv 11) (pe_cal C__law_rounds hr pass1 (pa_cons (pv 4) (pa_cons (pv 8) pa_nil))) (nomark _)) (pw_or1 (pt_cmpR op_ne_I (pe_callB call_len_seq (by rfl) tt.b_len PySem.boot_len (pa_cons (pv 11) pa_nil)) pe_int (nomark _))))) (pss_one (ps_ret pe_bl)) pss_nil)
   (pss_cons (ps_set (i := 12) sc_law.nd rfl (Or.inl rfl) (pe_ix ix_list (pv 11) pe_int (fun _ _ => rfl)))
   (pss_cons (ps_set (i := 13) sc_law.nd rfl (Or.inr rfl) (pe_op op_mul_T (pv 12) (pe_op op_add (pv 2) pe_int)))
   (pss_cons (ps_if (pt_cmpR (op_ne_LT hu) (pe_callB call_sortedA (by rfl) tt.b_sorted PyProof.Rows.boot_sorted (pa_cons (pe_comp cs_law_1 rfl (pi_range1 (by rfl) tt.b_range (pa_cons (pe_callB call_len_T (by rfl) tt.b_len PySem.boot_len (pa_cons (pv 12) pa_nil)) pa_nil)) (fun cl C s' H' fp => (pe_slice sl_T (pv 14) (po_some (pv 0)) (po_some (pe_op op_add (pv 0) (pv 3)))))) pa_nil)) (pv 4) (nomark _)) (pss_one (ps_ret pe_bl)) pss_nil)
   (pss_cons (ps_set (i := 14) sc_law.nd rfl (Or.inl rfl) (pe_op op_mod (pe_op op_fdiv (pv 1) pe_int) (pe_callB call_len_T (by rfl) tt.b_len PySem.boot_len (pa_cons (pv 12) pa_nil))))
   (pss_cons (ps_for PassesOwn.never rfl (pi_list (pe_lst (pa_cons (pv 12) (pa_cons (pe_op op_add_T (pe_slice sl_T (pv 12) (po_some (pv 14)) po_none) (pe_slice sl_T (pv 12) po_none (po_some (pv 14)))) pa_nil)))) (pg_name (i := 15) sc_law.nd rfl (Or.inl rfl)) (pss_cons (ps_set (i := 16) sc_law.nd rfl (Or.inl rfl) (pe_cal C_made_of hr pass1 (pa_cons (pv 15) (pa_cons (pv 2) (pa_cons (pv 3) pa_nil)))))
   (pss_one (ps_if (pt_cmpR (op_ne_IIT hu) (pe_tup (pa_cons (pe_fld (pv 16) rfl) (pa_cons (pe_fld (pv 16) rfl) (pa_cons (pe_fld (pv 16) rfl) pa_nil)))) (pe_tup (pa_cons (pv 2) (pa_cons (pv 3) (pa_cons (pe_fld (pe_ix ix_tup (pv 10) pe_int (fun _ _ => rfl)) rfl) pa_nil)))) (nomark _)) (pss_one (ps_ret pe_bl)) pss_nil))))
   (pss_one (ps_ret (pe_cal C__law_slips_right hr pass1 (pa_cons (pv 12) (pa_cons (pv 4) (pa_cons (pv 2) (pa_cons (pv 3) (pa_cons (pe_cal C__law_stir hr pass1 (pa_cons (pv 1) (pa_cons pe_int pa_nil))) pa_nil)))))))))))))))))))))))))))), ?_⟩
  (try rw [cxK2]); (try rw [cxK1])
  refine ⟨_, rfl, a, ns, rfl, hS, _, _, rfl, rfl, .inr ⟨by decide, by decide⟩, _, _, rfl, rfl, (by show (0 : Int) < 2147483647; decide), ?_⟩
  dsimp only
  generalize ns.sum * 69621 % 2147483647 = z
  refine ⟨_, rfl, _, _, rfl, rfl, ⟨by decide, by decide⟩, _, rfl, fun tp nn kn H1 s1 htp hz => ?_⟩
  obtain ⟨hk, hn, h64⟩ := id hz
  refine ⟨tp, _, rfl, SqT.of htp, rfl, _, _, rfl, _, _, rfl, rfl, ?_⟩
  refine ⟨_, rfl, _, rfl, nn, kn, rfl, ⟨hk, by omega, by omega⟩, fun W H2 hWn s2 hdW => ?_⟩
  have hwl : ((Wd.allW kn nn).map T).length = kn ^ nn := by rw [List.length_map, Wd.allW_len]
  have hLl : (Wd.allW kn nn).length = kn ^ nn := Wd.allW_len ..
  have hp0 : 0 < kn ^ nn := Nat.pow_pos (by omega)
  refine ⟨_, rfl, _, rfl, _, rfl, a, ns, nn, kn, rfl, (s1.trans s2).seq hS, hlen, hz, fun t H3 s3 hord => ?_⟩
  have hto := hord.1
  have htl := hto.1
  have hf := ord_fair hk.1 hn.1 hord
  refine ⟨_, rfl, _, rfl, _, rfl, ?_⟩
  intro x dx nx ndx nex
  have sx : Same H3 (upd (upd H3 dx (.own x)) x (.ins ad.Rule dx [])) := fun b o e => by
   rw [upd_ne (ne_of_none e nx), upd_ne (ne_of_none e ndx)]
   exact e
  refine ⟨x, dx, _, _, t, rfl, upd_same, (by omega), fun z => absurd (by omega) z, fun _ z => absurd (by omega) z, fun kn' nn' ek en _ _ => ?_⟩
  obtain rfl : kn = kn' := by omega
  obtain rfl : nn = nn' := by omega
  refine ⟨fun z => absurd z (by omega), fun _ z => absurd hto z, fun _ _ H5 keep hx => ⟨rfl, ?_⟩⟩
  have s5 : Same H3 H5 := fun b o e => keep b o (sx b o e) (ne_of_none e nx)
  have hR : RuleAt ad.Rule H5 x nn kn t := ⟨dx, hx⟩
  have w5 := s5 W _ (s3 W _ hdW)
  refine ⟨_, rfl, x, nn, kn, t, rfl, hR, hz, hto, fun z => absurd hf z, fun _ D0 qs0 H6 hD0 s6 hqs0 hqw0 hd0 => ?_⟩
  refine ⟨D0, _, rfl, .inl (SqL.of hd0), ?_⟩
  have w6 := s6 W _ w5
  have hR6 := hR.on s6
  refine ⟨_, rfl, _, rfl, W, nn, kn, t, rfl, SqL.of w6, hz, hto, hf, fun tp1 B L H7 s7 htp1 hB7 hL7 => ?_⟩
  refine ⟨tp1, _, rfl, SqT.of htp1, rfl, _, _, rfl, _, _, rfl, rfl, ?_⟩
  have w7 := s7 W _ w6
  have hR7 := hR6.on s7
  refine ⟨_, rfl, x, nn, kn, t, rfl, hR7, hz, hto, fun z => absurd hf z, fun _ tp2 y L2 H8 s8 hL2n htp2 hRy8 hL28 => ?_⟩
  obtain ⟨hjo, hso⟩ := fin_one hz hto hf
  generalize hFF : (prT nn kn (Wd.allW kn nn)).foldl (jst kn) (t, []) = FF at hB7 hL7 hRy8 hL28 hjo hso
  obtain ⟨tF, ps⟩ := FF
  obtain ⟨htF, hfF, hnum⟩ := hjo
  dsimp only at hB7 hL7 hRy8 hL28 htF hfF hnum hso
  obtain ⟨rg, hrg, hall, hnx⟩ := ring_facts hz htF hfF hso
  have htFl := htF.1
  have hrl := allR_len hall
  have hnum2 : ps.length + 1 = qs0.length := by
   rw [hrg] at hnum
   rw [hqs0.length_eq, ← hnum]
   simp only [List.length_cons, List.length_nil]
   omega
  have w8 := s8 W _ w7
  have hR8 := hR7.on s8
  have hB8 := s8 B _ hB7
  have hL8 := hL7.on s8
  refine ⟨_, rfl, _, _, _, _, rfl, .tup htp2, kit_same _, _, rfl, iteF ?_⟩
  refine ⟨_, rfl, tp2, _, rfl, .inr (SqT.of htp2), _, rfl, _, rfl, _, rfl, itN (by exact Bool.false_ne_true) ?_⟩
  obtain ⟨lv2, hlv2, hll2⟩ := hL28.len
  refine ⟨_, rfl, tp2, _, _, _, rfl, rfl, SqT.of htp2, atI_nat (j := 1) rfl, _, _, _, _, rfl, .lst hlv2, kit_same _, _, rfl, iteF ?_⟩
  refine ⟨_, rfl, tp2, _, _, _, rfl, rfl, SqT.of htp2, atI_nat (j := 1) rfl, _, rfl, L2, L, ps, rfl, rfl, hL28, hL8, _, rfl, itN Bool.false_ne_true ?_⟩
  obtain ⟨lv, hlv, hll⟩ := hL8.len
  obtain ⟨dx8, hx8⟩ := id hR8
  refine ⟨_, rfl, L, _, rfl, .inl (SqL.of hlv), _, rfl, _, _, rfl, rfl, _, rfl, _, rfl, _, rfl, itN (by rw [decide_eq_true (by rw [List.length_map]; omega)]; exact Bool.false_ne_true) ?_⟩
  refine ⟨_, rfl, x, ad.Rule, dx8, _, _, rfl, hx8, tt.cl_Rule, tt.na_Rule_told, rflds_t _ _ _, _, rfl, _, rfl, _, rfl, _, rfl, itN (by rw [decide_eq_true rfl]; exact Bool.false_ne_true) ?_⟩
  obtain ⟨dy8, hy8⟩ := id hRy8
  refine ⟨_, rfl, tp2, _, _, _, rfl, rfl, SqT.of htp2, atI_nat (j := 0) rfl, y, ad.Rule, dy8, _, _, rfl, hy8, tt.cl_Rule, tt.na_Rule_told, rflds_t _ _ _, rfl, _, rfl, W, rfl, ⟨_, SqL.of w8⟩, ?_⟩
  refine compG (fun v => T [tF.getD (Wd.num kn (unT v)) 97]) (reads_list (SqL.of w8)) (by rw [hwl]; omega) (fun v G hv sg N hN => ?_) fun D9 H9 hD9 s9 hd9 => ?_
  ·obtain ⟨wd, hwd, rfl⟩ := List.mem_map.mp hv
   have g := hN G (Same.refl _)
   rw [unT_T] at g
   have hlw := ((rw_all (by omega)).mp hwd).1
   refine ⟨_, rfl, _, rfl, B, _, rfl, (by have g := DGet.k (k := Sum.inr (tx wd)) (sg B _ hB8); rwa [bK_val, if_pos hwd] at g), _, rfl, _, rfl, _, rfl, (by rw [List.length_append, List.length_drop, List.length_singleton]; omega), _, last_snoc _ _, g⟩
  have hd9 : H9 D9 = some (.lst ((tF.map fun c => [c]).map T)) := by
   rw [hd9]
   conv => rhs; rw [← told_all hk.1 htF]
   rw [List.map_map, List.map_map, List.map_map]
   refine congrArg (fun l => some (HO.lst l)) (List.map_congr_left fun m _ => ?_)
   show T [tF.getD (Wd.num kn (unT (T m))) 97] = _
   rw [unT_T]
   rfl
  refine ⟨rfl, D9, _, rfl, SqL.of hd9, (by rw [signs_flat]; omega), _, rfl, _, rfl, _, rfl, itN (by rw [decide_eq_true (signs_flat _).symm]; exact Bool.false_ne_true) ?_⟩
  have htp9 := s9 tp2 _ htp2
  have hlv9 := s9 L2 _ hlv2
  have t10 := fun Tp (hTp : H9 Tp = none) => same_upd (o := .tup [T [], T []]) hTp
  refine ⟨_, rfl, tp2, _, _, _, rfl, rfl, SqT.of htp9, atI_nat (j := 1) rfl, .inl ⟨rfl, _, SqL.of hlv9⟩, (by show 2 ≤ sizeLine; omega), fun Tp hTp => ?_⟩
  refine ⟨L2, _, _, rfl, rfl, t10 Tp hTp L2 _ hlv9, (by have := Wd.rounds_len (nextF t kn) (Wd.allW kn nn); have := hqs0.length_eq; omega), ?_⟩
  have k10 : ∀ b o, b ≠ L2 → H9 b = some o → upd (upd H9 Tp (.tup [T [], T []])) L2 (.lst (lv2 ++ [.ref Tp])) b = some o := fun b o hb e => by rw [upd_ne hb]; exact t10 Tp hTp b o e
  generalize upd (upd H9 Tp (.tup [T [], T []])) L2 (.lst (lv2 ++ [.ref Tp])) = H10 at k10
  have s710 : Same H7 H10 := fun b o e => k10 b o (ne_of_none e hL2n) ((s8.trans s9) b o e)
  have w10 := s710 W _ w7
  have hR10 := hR7.on s710
  have hB10 := s710 B _ hB7
  have hL10 := hL7.on s710
  have htp10 := k10 tp2 _ (fun z => by rw [z, hlv2] at htp2; cases htp2) htp9
  have hRy10 : RuleAt ad.Rule H10 y nn kn tF := ⟨dy8, k10 y _ (fun z => by rw [z, hlv2] at hy8; cases hy8) (s9 y _ hy8)⟩
  refine ⟨_, rfl, x, nn, kn, t, rfl, hR10, hz, hto, fun z => absurd hf z, fun _ tp3 y3 L3 H11 s11 _ htp3 _ hL3 => ?_⟩
  rw [hFF] at hL3
  refine ⟨tp3, _, _, _, rfl, rfl, SqT.of htp3, atI_nat (j := 1) rfl, _, rfl, L3, L, ps, rfl, rfl, hL3, hL10.on s11, _, rfl, itN Bool.false_ne_true ?_⟩
  have htp11 := s11 tp2 _ htp10
  have hRy11 := hRy10.on s11
  refine ⟨_, rfl, tp2, _, _, _, rfl, rfl, SqT.of htp11, atI_nat (j := 0) rfl, y, nn, kn, tF, rfl, hRy11, hz, htF, fun z => absurd hfF z, fun _ D4 qs4 H12 hD4 s12 hqs4 hqw4 hd4 => ?_⟩
  have s12a := s11.trans s12
  have w12 := s12a W _ w10
  refine ⟨_, rfl, _, rfl, _, rfl, W, B, nn, kn, tF, rfl, SqL.of w12, s12a B _ hB10, hz, htF, hfF, fun D5 qs5 H13 hD5 s13 hqs5 hqw5 hd5 => ?_⟩
  refine ⟨D4, D5, qs4, qs5, rfl, rfl, SqL.of (s13 D4 _ hd4), SqL.of hd5, _, rfl, itN (by rw [decide_eq_true (Wd.sorted_same (hqs4.trans hqs5.symm) hqw4 hqw5)]; exact Bool.false_ne_true) ?_⟩
  rw [hrg] at hqs4
  obtain rfl := List.perm_singleton.mp hqs4
  have hd4' := s13 D4 _ hd4
  refine ⟨_, rfl, D4, _, rfl, .inl (SqL.of hd4'), _, rfl, _, rfl, _, rfl, itN (by exact Bool.false_ne_true) ?_⟩
  refine ⟨_, rfl, D4, _, _, _, rfl, rfl, SqL.of hd4', atI_nat (j := 0) rfl, ?_⟩
  have s13a := s12a.trans s13
  have w13 := s13a W _ w10
  have hrep : (Wd.rep (nn + 1) rg).length = (nn + 1) * rg.length := Wd.rep_len ..
  have hmul : (nn + 1) * rg.length ≤ 9 * rg.length := Nat.mul_le_mul_right _ (by omega)
  refine ⟨_, rfl, _, rfl, _, _, rfl, rfl, _, rfl, nn + 1, rfl, ⟨by omega, by show (nn + 1) * rg.length ≤ sizeLine; omega⟩, ?_⟩
  refine ⟨_, rfl, _, rfl, (by omega), _, rfl, by omega, by omega, ?_⟩
  rw [Int.toNat_natCast]
  refine comp_range (lo := 0) (n := rg.length) (fun k => T (Wd.ringAt rg nn k)) (by omega) (fun k G2 hkr s2 N hN => ?_) fun D6 H14 hD6 s14 hd6 => ?_
  ·have hle : k + nn ≤ (nn + 1) * rg.length := by
    rw [Nat.succ_mul]
    have : nn * 1 ≤ nn * rg.length := Nat.mul_le_mul_left _ (by omega)
    omega
   have e : cutL (Wd.rep (nn + 1) rg) (some (0 + (k : Int))) (some (0 + (k : Int) + ((nn : Nat) : Int))) = Wd.ringAt rg nn k := by
    rw [Int.zero_add, ← Int.natCast_add, cutL_mid (by omega) (by omega), Nat.add_sub_cancel_left]
    exact Wd.ring_at hle (by omega)
   refine ⟨_, rfl, _, rfl, _, rfl, _, rfl, _, rfl, _, _, rfl, rfl, _, rfl, _, rfl, (by omega), ?_⟩
   rw [e]
   exact hN G2 (Same.refl _)
  have hd6 : H14 D6 = some (.lst ((Wd.ringW rg nn).map T)) := by rw [hd6, Wd.ringW, List.map_map]; rfl
  refine ⟨D6, Wd.ringW rg nn, rfl, SqL.of hd6, fun qs D7 hD7 hp7 hw7 => ?_⟩
  have t15 := same_upd (o := .lst (qs.map T)) hD7
  have s15 := s13a.trans (s14.trans t15)
  have w15 := s15 W _ w10
  refine ⟨_, rfl, D7, W, qs, Wd.allW kn nn, rfl, rfl, SqL.of upd_same, SqL.of w15, _, rfl, itN (by rw [decide_eq_true (Wd.sorted_same (hp7.trans hall) hw7 ((Wd.allW_sorted (by omega)).imp fun h g => List.lt_irrefl _ (List.lt_trans h g)))]; exact Bool.false_ne_true) ?_⟩
  generalize upd H14 D7 (.lst (qs.map T)) = H15 at s15 w15
  obtain ⟨b, hb, hbl⟩ := mod_nat (z / 200) (m := rg.length) (by omega)
  refine ⟨_, rfl, _, _, rfl, rfl, ⟨by decide, by decide⟩, _, rfl, _, rfl, (by omega), _, _, rfl, rfl, (by show (0 : Int) < ((rg.length : Nat) : Int); omega), ?_⟩
  dsimp only
  rw [hb]
  have e1 : cutL rg (some (b : Int)) none = rg.drop b := cutL_from (by omega)
  have e2 : cutL rg none (some (b : Int)) = rg.take b := cutL_to (by omega)
  have hcl1 : (rg.drop b).length ≤ 64 := by rw [List.length_drop]; omega
  have hcl2 : (rg.take b).length ≤ 64 := by rw [List.length_take]; omega
  refine ⟨_, rfl, _, rfl, _, rfl, _, rfl, _, rfl, (by omega), _, rfl, _, rfl, _, rfl, _, rfl, (by omega), _, rfl, _, rfl, (by rw [e1, e2]; omega), (by show 2 ≤ sizeLine; omega), fun p1 hp1 => ?_⟩
  rw [e1, e2]
  have t16 := same_upd (o := .lst [T rg, T (rg.drop b ++ rg.take b)]) hp1
  obtain ⟨H16, hH16, s16, hd16⟩ := namedD t16
  rw [← hH16]
  have hrot : AllR (rg.drop b ++ rg.take b) nn kn ∧ ∀ i, nextF tF kn (Wd.ringAt (rg.drop b ++ rg.take b) nn i) = Wd.ringAt (rg.drop b ++ rg.take b) nn (i + 1) := by
   have er : rg.drop b ++ rg.take b = Wd.rotN rg b := rfl
   rw [er]
   refine ⟨?_, fun i => by rw [Wd.ringAt_rot hbl, Wd.ringAt_rot hbl, hnx, show i + 1 + b = i + b + 1 by omega]⟩
   unfold AllR
   rw [Wd.ringW_rot hbl]
   refine List.Perm.trans ?_ hall
   unfold Wd.rotN
   exact List.perm_append_comm.trans (by rw [List.take_append_drop])
  have htx : ∀ x ∈ [rg, rg.drop b ++ rg.take b], AllR x nn kn ∧ madeT x nn kn = tF := fun x hx => by
   rcases List.mem_cons.mp hx with rfl | hx
   ·exact ⟨hall, made_eq hk.1 hn.1 hall htF hnx⟩
   ·obtain rfl := List.mem_singleton.mp hx
    exact ⟨hrot.1, made_eq hk.1 hn.1 hrot.1 htF hrot.2⟩
  have s16a := s15.trans s16
  have hRy16 := hRy10.on s16a
  have htp16 := s16a tp2 _ htp10
  refine ⟨p1, rfl, ⟨_, SqL.of hd16⟩, ?_⟩
  refine for_list (K := K) (a := p1) (xs := [rg, rg.drop b ++ rg.take b].map T) (fun i σ G => Same H16 G ∧ ∃ v15 v16 : Option V, σ = [some (.ref a), some (.int z), some (.int (nn : Nat)), some (.int (kn : Nat)), some (.ref W), some (T t), some (.ref x), some (.int (((qs0.map T).length : Nat) : Int)), some (.ref B), some (.ref L), some (.ref tp2), some (.ref D4), some (T rg), some (T (Wd.rep (nn + 1) rg)), some (.int (b : Nat)), v15, v16])
   ⟨Same.refl _, none, none, rfl⟩ (fun i σ G _ h => SqL.of (h.1 p1 _ hd16)) ?_ ?_
  ·rintro i v σ G hi ⟨sG, v15, v16, rfl⟩
   obtain ⟨r, hr', rfl⟩ : ∃ x, [rg, rg.drop b ++ rg.take b][i]? = some x ∧ T x = v := by rw [List.getElem?_map] at hi; exact Option.map_eq_some_iff.mp hi
   obtain ⟨ha, hm⟩ := htx r (List.mem_of_getElem? hr')
   have hrl' := allR_len ha
   refine ⟨_, rfl, _, rfl, _, rfl, r, _, _, rfl, (by omega), fun z => absurd (by omega) z, fun _ z => absurd (by omega) z, fun kn' nn' ek en _ _ => ?_⟩
   obtain rfl : kn = kn' := by omega
   obtain rfl : nn = nn' := by omega
   refine ⟨fun z => absurd z (by omega), fun _ hno => absurd ha hno, fun _ _ y6 t6 G1 sg1 ht6 hto6 hy6 => ?_⟩
   obtain rfl : t6 = tF := ht6.trans hm
   obtain ⟨dy6, hy6⟩ := hy6
   have hG1 := sG.trans sg1
   obtain ⟨dyg, hyg⟩ := hRy16.on hG1
   refine ⟨_, rfl, y6, ad.Rule, dy6, _, _, rfl, hy6, tt.cl_Rule, tt.na_Rule_length, rflds_l _ _ _, _, rfl, y6, ad.Rule, dy6, _, _, rfl, hy6, tt.cl_Rule, tt.na_Rule_kinds, rflds_k _ _ _, _, rfl, y6, ad.Rule, dy6, _, _, rfl, hy6, tt.cl_Rule, tt.na_Rule_told, rflds_t _ _ _, (by show 3 ≤ sizeLine; omega), fun p2 hp2 => ?_⟩
   have t17 := same_upd (o := .tup [.int ((nn : Nat) : Int), .int ((kn : Nat) : Int), T t6]) hp2
   refine ⟨_, rfl, _, rfl, _, rfl, tp2, _, _, _, rfl, rfl, SqT.of ((hG1.trans t17) tp2 _ htp16), atI_nat (j := 0) rfl, y, ad.Rule, dyg, _, _, rfl, t17 y _ hyg, tt.cl_Rule, tt.na_Rule_told, rflds_t _ _ _, (by show 3 ≤ sizeLine; omega), fun p3 hp3 => ?_⟩
   have t18 := same_upd (o := .tup [.int ((nn : Nat) : Int), .int ((kn : Nat) : Int), T t6]) hp3
   refine ⟨p2, p3, _, _, t6, rfl, rfl, SqT.of (t18 p2 _ upd_same), SqT.of upd_same, _, rfl, itN Bool.false_ne_true ?_⟩
   exact ⟨hG1.trans (t17.trans t18), _, _, rfl⟩
  ·rintro σ G ⟨sG, v15, v16, rfl⟩
   refine ⟨_, rfl, _, rfl, _, rfl, _, rfl, _, rfl, _, _, rfl, ⟨by decide, by decide⟩, rg, W, nn, kn, _, rfl, ⟨by omega, by omega⟩, SqL.of (sG W _ (s16 W _ w15)), hz, fun G1 _ => q _⟩

end
theorem all_mk {l : PySem.W.OpenLaw} {w : World} {K : PySem.W.Frag} {h : Heap} {mg : Str → Option Value} {fa : Addr} (X : K.In h) (G : h.Ns mainGlobals mg) (hfa : mg "law" = some (.ref fa))
  {f_0 : Addr} {od_0 an_0 : Option Addr} {sl_0 : Array (Option Value)} {oc_0 kV_0 dc_0 pm_0 cd_0 ct_0 : Value}
  {f_1 : Addr} {od_1 an_1 : Option Addr} {sl_1 : Array (Option Value)} {oc_1 kV_1 dc_1 pm_1 cd_1 ct_1 : Value}
  {f_2 : Addr} {od_2 an_2 : Option Addr} {sl_2 : Array (Option Value)} {oc_2 kV_2 dc_2 pm_2 cd_2 ct_2 : Value}
  {f_3 : Addr} {od_3 an_3 : Option Addr} {sl_3 : Array (Option Value)} {oc_3 kV_3 dc_3 pm_3 cd_3 ct_3 : Value}
  {f_4 : Addr} {od_4 an_4 : Option Addr} {sl_4 : Array (Option Value)} {oc_4 kV_4 dc_4 pm_4 cd_4 ct_4 : Value}
  {f_5 : Addr} {od_5 an_5 : Option Addr} {sl_5 : Array (Option Value)} {oc_5 kV_5 dc_5 pm_5 cd_5 ct_5 : Value}
  {f_6 : Addr} {od_6 an_6 : Option Addr} {sl_6 : Array (Option Value)} {oc_6 kV_6 dc_6 pm_6 cd_6 ct_6 : Value}
  {f_7 : Addr} {od_7 an_7 : Option Addr} {sl_7 : Array (Option Value)} {oc_7 kV_7 dc_7 pm_7 cd_7 ct_7 : Value}
  {f_8 : Addr} {od_8 an_8 : Option Addr} {sl_8 : Array (Option Value)} {oc_8 kV_8 dc_8 pm_8 cd_8 ct_8 : Value}
  {f_9 : Addr} {od_9 an_9 : Option Addr} {sl_9 : Array (Option Value)} {oc_9 kV_9 dc_9 pm_9 cd_9 ct_9 : Value}
  {f_10 : Addr} {od_10 an_10 : Option Addr} {sl_10 : Array (Option Value)} {oc_10 kV_10 dc_10 pm_10 cd_10 ct_10 : Value}
  {f_11 : Addr} {od_11 an_11 : Option Addr} {sl_11 : Array (Option Value)} {oc_11 kV_11 dc_11 pm_11 cd_11 ct_11 : Value}
  {f_12 : Addr} {od_12 an_12 : Option Addr} {sl_12 : Array (Option Value)} {oc_12 kV_12 dc_12 pm_12 cd_12 ct_12 : Value}
  {f_13 : Addr} {od_13 an_13 : Option Addr} {sl_13 : Array (Option Value)} {oc_13 kV_13 dc_13 pm_13 cd_13 ct_13 : Value}
  {f_14 : Addr} {od_14 an_14 : Option Addr} {sl_14 : Array (Option Value)} {oc_14 kV_14 dc_14 pm_14 cd_14 ct_14 : Value}
  {f_15 : Addr} {od_15 an_15 : Option Addr} {sl_15 : Array (Option Value)} {oc_15 kV_15 dc_15 pm_15 cd_15 ct_15 : Value}
  {f_16 : Addr} {od_16 an_16 : Option Addr} {sl_16 : Array (Option Value)} {oc_16 kV_16 dc_16 pm_16 cd_16 ct_16 : Value}
  {f_17 : Addr} {od_17 an_17 : Option Addr} {sl_17 : Array (Option Value)} {oc_17 kV_17 dc_17 pm_17 cd_17 ct_17 : Value}
  {f_18 : Addr} {od_18 an_18 : Option Addr} {sl_18 : Array (Option Value)} {oc_18 kV_18 dc_18 pm_18 cd_18 ct_18 : Value}
  {f_19 : Addr} {od_19 an_19 : Option Addr} {sl_19 : Array (Option Value)} {oc_19 kV_19 dc_19 pm_19 cd_19 ct_19 : Value}
  {f_20 : Addr} {od_20 an_20 : Option Addr} {sl_20 : Array (Option Value)} {oc_20 kV_20 dc_20 pm_20 cd_20 ct_20 : Value}
  {f_21 : Addr} {od_21 an_21 : Option Addr} {sl_21 : Array (Option Value)} {oc_21 kV_21 dc_21 pm_21 cd_21 ct_21 : Value}
  {f_22 : Addr} {od_22 an_22 : Option Addr} {sl_22 : Array (Option Value)} {oc_22 kV_22 dc_22 pm_22 cd_22 ct_22 : Value}
  {f_23 : Addr} {od_23 an_23 : Option Addr} {sl_23 : Array (Option Value)} {oc_23 kV_23 dc_23 pm_23 cd_23 ct_23 : Value}
  {f_24 : Addr} {od_24 an_24 : Option Addr} {sl_24 : Array (Option Value)} {oc_24 kV_24 dc_24 pm_24 cd_24 ct_24 : Value}
  {f_25 : Addr} {od_25 an_25 : Option Addr} {sl_25 : Array (Option Value)} {oc_25 kV_25 dc_25 pm_25 cd_25 ct_25 : Value}
  {f_26 : Addr} {od_26 an_26 : Option Addr} {sl_26 : Array (Option Value)} {oc_26 kV_26 dc_26 pm_26 cd_26 ct_26 : Value}
  {f_27 : Addr} {od_27 an_27 : Option Addr} {sl_27 : Array (Option Value)} {oc_27 kV_27 dc_27 pm_27 cd_27 ct_27 : Value}
  {f_28 : Addr} {od_28 an_28 : Option Addr} {sl_28 : Array (Option Value)} {oc_28 kV_28 dc_28 pm_28 cd_28 ct_28 : Value}
  {f_29 : Addr} {od_29 an_29 : Option Addr} {sl_29 : Array (Option Value)} {oc_29 kV_29 dc_29 pm_29 cd_29 ct_29 : Value}
  {f_30 : Addr} {od_30 an_30 : Option Addr} {sl_30 : Array (Option Value)} {oc_30 kV_30 dc_30 pm_30 cd_30 ct_30 : Value}
  {f_31 : Addr} {od_31 an_31 : Option Addr} {sl_31 : Array (Option Value)} {oc_31 kV_31 dc_31 pm_31 cd_31 ct_31 : Value}
  {f_32 : Addr} {od_32 an_32 : Option Addr} {sl_32 : Array (Option Value)} {oc_32 kV_32 dc_32 pm_32 cd_32 ct_32 : Value}
  {f_33 : Addr} {od_33 an_33 : Option Addr} {sl_33 : Array (Option Value)} {oc_33 kV_33 dc_33 pm_33 cd_33 ct_33 : Value}
  {f_34 : Addr} {od_34 an_34 : Option Addr} {sl_34 : Array (Option Value)} {oc_34 kV_34 dc_34 pm_34 cd_34 ct_34 : Value}
  {f_35 : Addr} {od_35 an_35 : Option Addr} {sl_35 : Array (Option Value)} {oc_35 kV_35 dc_35 pm_35 cd_35 ct_35 : Value}
  {f_36 : Addr} {od_36 an_36 : Option Addr} {sl_36 : Array (Option Value)} {oc_36 kV_36 dc_36 pm_36 cd_36 ct_36 : Value}
  {f_37 : Addr} {od_37 an_37 : Option Addr} {sl_37 : Array (Option Value)} {oc_37 kV_37 dc_37 pm_37 cd_37 ct_37 : Value}
  {f_38 : Addr} {od_38 an_38 : Option Addr} {sl_38 : Array (Option Value)} {oc_38 kV_38 dc_38 pm_38 cd_38 ct_38 : Value}
  {f_39 : Addr} {od_39 an_39 : Option Addr} {sl_39 : Array (Option Value)} {oc_39 kV_39 dc_39 pm_39 cd_39 ct_39 : Value}
  {c_BadKinds : Addr}
  {c_BadWord : Addr}
  {c_TooMany : Addr}
  {c_BadRule : Addr}
  {c_BadDeed : Addr}
  {c_NotOne : Addr}
  {c_Rule : Addr}
  {u_LETTERS : Value}
  {u_LONGEST : Value}
  {u_MOST_WORDS : Value}
  {u_MOST_OF_A_RULE : Value}
  {u_LONGEST_OF_A_RULE : Value}
  (a_0 : PySem.W.nsIn K mainGlobals "looked_kinds" = some (some (.ref f_0))) (l_0 : K.lookup f_0 = some ⟨oc_0, od_0, .func (PySem.W.fnOf "looked_kinds" "looked_kinds" (defArgs s_looked_kinds) (defBody s_looked_kinds) (defScope s_looked_kinds) .none kV_0 dc_0 pm_0 an_0 cd_0 ct_0), sl_0⟩) (c_0 : PySem.W.codeIn K cd_0 "looked_kinds" = true) (k_0 : PySem.W.keepIn K (.ref f_0) = true)
  (a_1 : PySem.W.nsIn K mainGlobals "looked_length" = some (some (.ref f_1))) (l_1 : K.lookup f_1 = some ⟨oc_1, od_1, .func (PySem.W.fnOf "looked_length" "looked_length" (defArgs s_looked_length) (defBody s_looked_length) (defScope s_looked_length) .none kV_1 dc_1 pm_1 an_1 cd_1 ct_1), sl_1⟩) (c_1 : PySem.W.codeIn K cd_1 "looked_length" = true) (k_1 : PySem.W.keepIn K (.ref f_1) = true)
  (a_2 : PySem.W.nsIn K mainGlobals "letters" = some (some (.ref f_2))) (l_2 : K.lookup f_2 = some ⟨oc_2, od_2, .func (PySem.W.fnOf "letters" "letters" (defArgs s_letters) (defBody s_letters) (defScope s_letters) .none kV_2 dc_2 pm_2 an_2 cd_2 ct_2), sl_2⟩) (c_2 : PySem.W.codeIn K cd_2 "letters" = true) (k_2 : PySem.W.keepIn K (.ref f_2) = true)
  (a_3 : PySem.W.nsIn K mainGlobals "looked" = some (some (.ref f_3))) (l_3 : K.lookup f_3 = some ⟨oc_3, od_3, .func (PySem.W.fnOf "looked" "looked" (defArgs s_looked) (defBody s_looked) (defScope s_looked) .none kV_3 dc_3 pm_3 an_3 cd_3 ct_3), sl_3⟩) (c_3 : PySem.W.codeIn K cd_3 "looked" = true) (k_3 : PySem.W.keepIn K (.ref f_3) = true)
  (a_4 : PySem.W.nsIn K mainGlobals "number_of" = some (some (.ref f_4))) (l_4 : K.lookup f_4 = some ⟨oc_4, od_4, .func (PySem.W.fnOf "number_of" "number_of" (defArgs s_number_of) (defBody s_number_of) (defScope s_number_of) .none kV_4 dc_4 pm_4 an_4 cd_4 ct_4), sl_4⟩) (c_4 : PySem.W.codeIn K cd_4 "number_of" = true) (k_4 : PySem.W.keepIn K (.ref f_4) = true)
  (a_5 : PySem.W.nsIn K mainGlobals "word_total" = some (some (.ref f_5))) (l_5 : K.lookup f_5 = some ⟨oc_5, od_5, .func (PySem.W.fnOf "word_total" "word_total" (defArgs s_word_total) (defBody s_word_total) (defScope s_word_total) .none kV_5 dc_5 pm_5 an_5 cd_5 ct_5), sl_5⟩) (c_5 : PySem.W.codeIn K cd_5 "word_total" = true) (k_5 : PySem.W.keepIn K (.ref f_5) = true)
  (a_6 : PySem.W.nsIn K mainGlobals "spelled" = some (some (.ref f_6))) (l_6 : K.lookup f_6 = some ⟨oc_6, od_6, .func (PySem.W.fnOf "spelled" "spelled" (defArgs s_spelled) (defBody s_spelled) (defScope s_spelled) .none kV_6 dc_6 pm_6 an_6 cd_6 ct_6), sl_6⟩) (c_6 : PySem.W.codeIn K cd_6 "spelled" = true) (k_6 : PySem.W.keepIn K (.ref f_6) = true)
  (a_7 : PySem.W.nsIn K mainGlobals "all_words" = some (some (.ref f_7))) (l_7 : K.lookup f_7 = some ⟨oc_7, od_7, .func (PySem.W.fnOf "all_words" "all_words" (defArgs s_all_words) (defBody s_all_words) (defScope s_all_words) .none kV_7 dc_7 pm_7 an_7 cd_7 ct_7), sl_7⟩) (c_7 : PySem.W.codeIn K cd_7 "all_words" = true) (k_7 : PySem.W.keepIn K (.ref f_7) = true)
  (a_8 : PySem.W.nsIn K mainGlobals "row_windows" = some (some (.ref f_8))) (l_8 : K.lookup f_8 = some ⟨oc_8, od_8, .func (PySem.W.fnOf "row_windows" "row_windows" (defArgs s_row_windows) (defBody s_row_windows) (defScope s_row_windows) .none kV_8 dc_8 pm_8 an_8 cd_8 ct_8), sl_8⟩) (c_8 : PySem.W.codeIn K cd_8 "row_windows" = true) (k_8 : PySem.W.keepIn K (.ref f_8) = true)
  (a_9 : PySem.W.nsIn K mainGlobals "ring_windows" = some (some (.ref f_9))) (l_9 : K.lookup f_9 = some ⟨oc_9, od_9, .func (PySem.W.fnOf "ring_windows" "ring_windows" (defArgs s_ring_windows) (defBody s_ring_windows) (defScope s_ring_windows) .none kV_9 dc_9 pm_9 an_9 cd_9 ct_9), sl_9⟩) (c_9 : PySem.W.codeIn K cd_9 "ring_windows" = true) (k_9 : PySem.W.keepIn K (.ref f_9) = true)
  (a_10 : PySem.W.nsIn K mainGlobals "windows" = some (some (.ref f_10))) (l_10 : K.lookup f_10 = some ⟨oc_10, od_10, .func (PySem.W.fnOf "windows" "windows" (defArgs s_windows) (defBody s_windows) (defScope s_windows) .none kV_10 dc_10 pm_10 an_10 cd_10 ct_10), sl_10⟩) (c_10 : PySem.W.codeIn K cd_10 "windows" = true) (k_10 : PySem.W.keepIn K (.ref f_10) = true)
  (a_11 : PySem.W.nsIn K mainGlobals "looked_size" = some (some (.ref f_11))) (l_11 : K.lookup f_11 = some ⟨oc_11, od_11, .func (PySem.W.fnOf "looked_size" "looked_size" (defArgs s_looked_size) (defBody s_looked_size) (defScope s_looked_size) .none kV_11 dc_11 pm_11 an_11 cd_11 ct_11), sl_11⟩) (c_11 : PySem.W.codeIn K cd_11 "looked_size" = true) (k_11 : PySem.W.keepIn K (.ref f_11) = true)
  (a_12 : PySem.W.nsIn K mainGlobals "looked_told" = some (some (.ref f_12))) (l_12 : K.lookup f_12 = some ⟨oc_12, od_12, .func (PySem.W.fnOf "looked_told" "looked_told" (defArgs s_looked_told) (defBody s_looked_told) (defScope s_looked_told) .none kV_12 dc_12 pm_12 an_12 cd_12 ct_12), sl_12⟩) (c_12 : PySem.W.codeIn K cd_12 "looked_told" = true) (k_12 : PySem.W.keepIn K (.ref f_12) = true)
  (a_13 : PySem.W.findIn K (.ref c_Rule) "__init__" = some (some (.ref f_13))) (l_13 : K.lookup f_13 = some ⟨oc_13, od_13, .func (PySem.W.fnOf "__init__" "Rule.__init__" (defArgs s_Rule_init) (defBody s_Rule_init) (defScope s_Rule_init) .none kV_13 dc_13 pm_13 an_13 cd_13 ct_13), sl_13⟩) (c_13 : PySem.W.codeIn K cd_13 "Rule.__init__" = true) (k_13 : PySem.W.keepIn K (.ref f_13) = true) (i_Rule_init : PySem.W.isFn K (.ref f_13) = true)
  (a_14 : PySem.W.nsIn K mainGlobals "looked_word" = some (some (.ref f_14))) (l_14 : K.lookup f_14 = some ⟨oc_14, od_14, .func (PySem.W.fnOf "looked_word" "looked_word" (defArgs s_looked_word) (defBody s_looked_word) (defScope s_looked_word) .none kV_14 dc_14 pm_14 an_14 cd_14 ct_14), sl_14⟩) (c_14 : PySem.W.codeIn K cd_14 "looked_word" = true) (k_14 : PySem.W.keepIn K (.ref f_14) = true)
  (a_15 : PySem.W.nsIn K mainGlobals "next_word" = some (some (.ref f_15))) (l_15 : K.lookup f_15 = some ⟨oc_15, od_15, .func (PySem.W.fnOf "next_word" "next_word" (defArgs s_next_word) (defBody s_next_word) (defScope s_next_word) .none kV_15 dc_15 pm_15 an_15 cd_15 ct_15), sl_15⟩) (c_15 : PySem.W.codeIn K cd_15 "next_word" = true) (k_15 : PySem.W.keepIn K (.ref f_15) = true)
  (a_16 : PySem.W.nsIn K mainGlobals "partners" = some (some (.ref f_16))) (l_16 : K.lookup f_16 = some ⟨oc_16, od_16, .func (PySem.W.fnOf "partners" "partners" (defArgs s_partners) (defBody s_partners) (defScope s_partners) .none kV_16 dc_16 pm_16 an_16 cd_16 ct_16), sl_16⟩) (c_16 : PySem.W.codeIn K cd_16 "partners" = true) (k_16 : PySem.W.keepIn K (.ref f_16) = true)
  (a_17 : PySem.W.nsIn K mainGlobals "is_fair" = some (some (.ref f_17))) (l_17 : K.lookup f_17 = some ⟨oc_17, od_17, .func (PySem.W.fnOf "is_fair" "is_fair" (defArgs s_is_fair) (defBody s_is_fair) (defScope s_is_fair) .none kV_17 dc_17 pm_17 an_17 cd_17 ct_17), sl_17⟩) (c_17 : PySem.W.codeIn K cd_17 "is_fair" = true) (k_17 : PySem.W.keepIn K (.ref f_17) = true)
  (a_18 : PySem.W.nsIn K mainGlobals "made_of" = some (some (.ref f_18))) (l_18 : K.lookup f_18 = some ⟨oc_18, od_18, .func (PySem.W.fnOf "made_of" "made_of" (defArgs s_made_of) (defBody s_made_of) (defScope s_made_of) .none kV_18 dc_18 pm_18 an_18 cd_18 ct_18), sl_18⟩) (c_18 : PySem.W.codeIn K cd_18 "made_of" = true) (k_18 : PySem.W.keepIn K (.ref f_18) = true)
  (a_19 : PySem.W.nsIn K mainGlobals "exchanged" = some (some (.ref f_19))) (l_19 : K.lookup f_19 = some ⟨oc_19, od_19, .func (PySem.W.fnOf "exchanged" "exchanged" (defArgs s_exchanged) (defBody s_exchanged) (defScope s_exchanged) .none kV_19 dc_19 pm_19 an_19 cd_19 ct_19), sl_19⟩) (c_19 : PySem.W.codeIn K cd_19 "exchanged" = true) (k_19 : PySem.W.keepIn K (.ref f_19) = true)
  (a_20 : PySem.W.nsIn K mainGlobals "looked_fair" = some (some (.ref f_20))) (l_20 : K.lookup f_20 = some ⟨oc_20, od_20, .func (PySem.W.fnOf "looked_fair" "looked_fair" (defArgs s_looked_fair) (defBody s_looked_fair) (defScope s_looked_fair) .none kV_20 dc_20 pm_20 an_20 cd_20 ct_20), sl_20⟩) (c_20 : PySem.W.codeIn K cd_20 "looked_fair" = true) (k_20 : PySem.W.keepIn K (.ref f_20) = true)
  (a_21 : PySem.W.nsIn K mainGlobals "words_round" = some (some (.ref f_21))) (l_21 : K.lookup f_21 = some ⟨oc_21, od_21, .func (PySem.W.fnOf "words_round" "words_round" (defArgs s_words_round) (defBody s_words_round) (defScope s_words_round) .none kV_21 dc_21 pm_21 an_21 cd_21 ct_21), sl_21⟩) (c_21 : PySem.W.codeIn K cd_21 "words_round" = true) (k_21 : PySem.W.keepIn K (.ref f_21) = true)
  (a_22 : PySem.W.nsIn K mainGlobals "told_round" = some (some (.ref f_22))) (l_22 : K.lookup f_22 = some ⟨oc_22, od_22, .func (PySem.W.fnOf "told_round" "told_round" (defArgs s_told_round) (defBody s_told_round) (defScope s_told_round) .none kV_22 dc_22 pm_22 an_22 cd_22 ct_22), sl_22⟩) (c_22 : PySem.W.codeIn K cd_22 "told_round" = true) (k_22 : PySem.W.keepIn K (.ref f_22) = true)
  (a_23 : PySem.W.nsIn K mainGlobals "rounds" = some (some (.ref f_23))) (l_23 : K.lookup f_23 = some ⟨oc_23, od_23, .func (PySem.W.fnOf "rounds" "rounds" (defArgs s_rounds) (defBody s_rounds) (defScope s_rounds) .none kV_23 dc_23 pm_23 an_23 cd_23 ct_23), sl_23⟩) (c_23 : PySem.W.codeIn K cd_23 "rounds" = true) (k_23 : PySem.W.keepIn K (.ref f_23) = true)
  (a_24 : PySem.W.nsIn K mainGlobals "joined" = some (some (.ref f_24))) (l_24 : K.lookup f_24 = some ⟨oc_24, od_24, .func (PySem.W.fnOf "joined" "joined" (defArgs s_joined) (defBody s_joined) (defScope s_joined) .none kV_24 dc_24 pm_24 an_24 cd_24 ct_24), sl_24⟩) (c_24 : PySem.W.codeIn K cd_24 "joined" = true) (k_24 : PySem.W.keepIn K (.ref f_24) = true)
  (a_25 : PySem.W.nsIn K mainGlobals "_law_power" = some (some (.ref f_25))) (l_25 : K.lookup f_25 = some ⟨oc_25, od_25, .func (PySem.W.fnOf "_law_power" "_law_power" (defArgs s__law_power) (defBody s__law_power) (defScope s__law_power) .none kV_25 dc_25 pm_25 an_25 cd_25 ct_25), sl_25⟩) (c_25 : PySem.W.codeIn K cd_25 "_law_power" = true) (k_25 : PySem.W.keepIn K (.ref f_25) = true)
  (a_26 : PySem.W.nsIn K mainGlobals "_law_stir" = some (some (.ref f_26))) (l_26 : K.lookup f_26 = some ⟨oc_26, od_26, .func (PySem.W.fnOf "_law_stir" "_law_stir" (defArgs s__law_stir) (defBody s__law_stir) (defScope s__law_stir) .none kV_26 dc_26 pm_26 an_26 cd_26 ct_26), sl_26⟩) (c_26 : PySem.W.codeIn K cd_26 "_law_stir" = true) (k_26 : PySem.W.keepIn K (.ref f_26) = true)
  (a_27 : PySem.W.nsIn K mainGlobals "_law_folded" = some (some (.ref f_27))) (l_27 : K.lookup f_27 = some ⟨oc_27, od_27, .func (PySem.W.fnOf "_law_folded" "_law_folded" (defArgs s__law_folded) (defBody s__law_folded) (defScope s__law_folded) .none kV_27 dc_27 pm_27 an_27 cd_27 ct_27), sl_27⟩) (c_27 : PySem.W.codeIn K cd_27 "_law_folded" = true) (k_27 : PySem.W.keepIn K (.ref f_27) = true)
  (a_28 : PySem.W.nsIn K mainGlobals "_law_size" = some (some (.ref f_28))) (l_28 : K.lookup f_28 = some ⟨oc_28, od_28, .func (PySem.W.fnOf "_law_size" "_law_size" (defArgs s__law_size) (defBody s__law_size) (defScope s__law_size) .none kV_28 dc_28 pm_28 an_28 cd_28 ct_28), sl_28⟩) (c_28 : PySem.W.codeIn K cd_28 "_law_size" = true) (k_28 : PySem.W.keepIn K (.ref f_28) = true)
  (a_29 : PySem.W.nsIn K mainGlobals "_law_words" = some (some (.ref f_29))) (l_29 : K.lookup f_29 = some ⟨oc_29, od_29, .func (PySem.W.fnOf "_law_words" "_law_words" (defArgs s__law_words) (defBody s__law_words) (defScope s__law_words) .none kV_29 dc_29 pm_29 an_29 cd_29 ct_29), sl_29⟩) (c_29 : PySem.W.codeIn K cd_29 "_law_words" = true) (k_29 : PySem.W.keepIn K (.ref f_29) = true)
  (a_30 : PySem.W.nsIn K mainGlobals "_law_fair" = some (some (.ref f_30))) (l_30 : K.lookup f_30 = some ⟨oc_30, od_30, .func (PySem.W.fnOf "_law_fair" "_law_fair" (defArgs s__law_fair) (defBody s__law_fair) (defScope s__law_fair) .none kV_30 dc_30 pm_30 an_30 cd_30 ct_30), sl_30⟩) (c_30 : PySem.W.codeIn K cd_30 "_law_fair" = true) (k_30 : PySem.W.keepIn K (.ref f_30) = true)
  (a_31 : PySem.W.nsIn K mainGlobals "_law_behind" = some (some (.ref f_31))) (l_31 : K.lookup f_31 = some ⟨oc_31, od_31, .func (PySem.W.fnOf "_law_behind" "_law_behind" (defArgs s__law_behind) (defBody s__law_behind) (defScope s__law_behind) .none kV_31 dc_31 pm_31 an_31 cd_31 ct_31), sl_31⟩) (c_31 : PySem.W.codeIn K cd_31 "_law_behind" = true) (k_31 : PySem.W.keepIn K (.ref f_31) = true)
  (a_32 : PySem.W.nsIn K mainGlobals "_law_rounds" = some (some (.ref f_32))) (l_32 : K.lookup f_32 = some ⟨oc_32, od_32, .func (PySem.W.fnOf "_law_rounds" "_law_rounds" (defArgs s__law_rounds) (defBody s__law_rounds) (defScope s__law_rounds) .none kV_32 dc_32 pm_32 an_32 cd_32 ct_32), sl_32⟩) (c_32 : PySem.W.codeIn K cd_32 "_law_rounds" = true) (k_32 : PySem.W.keepIn K (.ref f_32) = true)
  (a_33 : PySem.W.nsIn K mainGlobals "_law_same_round" = some (some (.ref f_33))) (l_33 : K.lookup f_33 = some ⟨oc_33, od_33, .func (PySem.W.fnOf "_law_same_round" "_law_same_round" (defArgs s__law_same_round) (defBody s__law_same_round) (defScope s__law_same_round) .none kV_33 dc_33 pm_33 an_33 cd_33 ct_33), sl_33⟩) (c_33 : PySem.W.codeIn K cd_33 "_law_same_round" = true) (k_33 : PySem.W.keepIn K (.ref f_33) = true)
  (a_34 : PySem.W.nsIn K mainGlobals "_law_pairs" = some (some (.ref f_34))) (l_34 : K.lookup f_34 = some ⟨oc_34, od_34, .func (PySem.W.fnOf "_law_pairs" "_law_pairs" (defArgs s__law_pairs) (defBody s__law_pairs) (defScope s__law_pairs) .none kV_34 dc_34 pm_34 an_34 cd_34 ct_34), sl_34⟩) (c_34 : PySem.W.codeIn K cd_34 "_law_pairs" = true) (k_34 : PySem.W.keepIn K (.ref f_34) = true)
  (a_35 : PySem.W.nsIn K mainGlobals "_law_joined" = some (some (.ref f_35))) (l_35 : K.lookup f_35 = some ⟨oc_35, od_35, .func (PySem.W.fnOf "_law_joined" "_law_joined" (defArgs s__law_joined) (defBody s__law_joined) (defScope s__law_joined) .none kV_35 dc_35 pm_35 an_35 cd_35 ct_35), sl_35⟩) (c_35 : PySem.W.codeIn K cd_35 "_law_joined" = true) (k_35 : PySem.W.keepIn K (.ref f_35) = true)
  (a_36 : PySem.W.nsIn K mainGlobals "_law_slips" = some (some (.ref f_36))) (l_36 : K.lookup f_36 = some ⟨oc_36, od_36, .func (PySem.W.fnOf "_law_slips" "_law_slips" (defArgs s__law_slips) (defBody s__law_slips) (defScope s__law_slips) .none kV_36 dc_36 pm_36 an_36 cd_36 ct_36), sl_36⟩) (c_36 : PySem.W.codeIn K cd_36 "_law_slips" = true) (k_36 : PySem.W.keepIn K (.ref f_36) = true)
  (a_37 : PySem.W.nsIn K mainGlobals "_law_made" = some (some (.ref f_37))) (l_37 : K.lookup f_37 = some ⟨oc_37, od_37, .func (PySem.W.fnOf "_law_made" "_law_made" (defArgs s__law_made) (defBody s__law_made) (defScope s__law_made) .none kV_37 dc_37 pm_37 an_37 cd_37 ct_37), sl_37⟩) (c_37 : PySem.W.codeIn K cd_37 "_law_made" = true) (k_37 : PySem.W.keepIn K (.ref f_37) = true)
  (a_38 : PySem.W.nsIn K mainGlobals "_law_slips_right" = some (some (.ref f_38))) (l_38 : K.lookup f_38 = some ⟨oc_38, od_38, .func (PySem.W.fnOf "_law_slips_right" "_law_slips_right" (defArgs s__law_slips_right) (defBody s__law_slips_right) (defScope s__law_slips_right) .none kV_38 dc_38 pm_38 an_38 cd_38 ct_38), sl_38⟩) (c_38 : PySem.W.codeIn K cd_38 "_law_slips_right" = true) (k_38 : PySem.W.keepIn K (.ref f_38) = true)
  (a_39 : PySem.W.nsIn K mainGlobals "law" = some (some (.ref f_39))) (l_39 : K.lookup f_39 = some ⟨oc_39, od_39, .func (PySem.W.fnOf "law" "law" (defArgs s_law) (defBody s_law) (defScope s_law) .none kV_39 dc_39 pm_39 an_39 cd_39 ct_39), sl_39⟩) (c_39 : PySem.W.codeIn K cd_39 "law" = true) (k_39 : PySem.W.keepIn K (.ref f_39) = true)
  (z_isinstance : PySem.W.nsIn K mainGlobals "isinstance" = some none)
  (z_len : PySem.W.nsIn K mainGlobals "len" = some none)
  (z_list : PySem.W.nsIn K mainGlobals "list" = some none)
  (z_range : PySem.W.nsIn K mainGlobals "range" = some none)
  (z_reversed : PySem.W.nsIn K mainGlobals "reversed" = some none)
  (z_sorted : PySem.W.nsIn K mainGlobals "sorted" = some none)
  (z_sum : PySem.W.nsIn K mainGlobals "sum" = some none)
  (z_tuple : PySem.W.nsIn K mainGlobals "tuple" = some none)
  (z_zip : PySem.W.nsIn K mainGlobals "zip" = some none)
  (y_BadKinds : PySem.W.nsIn K mainGlobals "BadKinds" = some (some (.ref c_BadKinds)))
  (y_BadWord : PySem.W.nsIn K mainGlobals "BadWord" = some (some (.ref c_BadWord)))
  (y_TooMany : PySem.W.nsIn K mainGlobals "TooMany" = some (some (.ref c_TooMany)))
  (y_BadRule : PySem.W.nsIn K mainGlobals "BadRule" = some (some (.ref c_BadRule)))
  (y_BadDeed : PySem.W.nsIn K mainGlobals "BadDeed" = some (some (.ref c_BadDeed)))
  (y_NotOne : PySem.W.nsIn K mainGlobals "NotOne" = some (some (.ref c_NotOne)))
  (y_Rule : PySem.W.nsIn K mainGlobals "Rule" = some (some (.ref c_Rule)))
  (e_BadKinds : PySem.W.excIn K c_BadKinds bmVE "ValueError.__new__" = true)
  (e_BadWord : PySem.W.excIn K c_BadWord bmVE "ValueError.__new__" = true)
  (e_TooMany : PySem.W.excIn K c_TooMany bmVE "ValueError.__new__" = true)
  (e_BadRule : PySem.W.excIn K c_BadRule bmVE "ValueError.__new__" = true)
  (e_BadDeed : PySem.W.excIn K c_BadDeed bmVE "ValueError.__new__" = true)
  (e_NotOne : PySem.W.excIn K c_NotOne bmVE "ValueError.__new__" = true)
  (g_LETTERS : PySem.W.nsIn K mainGlobals "LETTERS" = some (some u_LETTERS)) (r_LETTERS : RelV (T [97, 98, 99, 100, 101, 102]) u_LETTERS)
  (g_LONGEST : PySem.W.nsIn K mainGlobals "LONGEST" = some (some u_LONGEST)) (r_LONGEST : RelV (.int 24) u_LONGEST)
  (g_MOST_WORDS : PySem.W.nsIn K mainGlobals "MOST_WORDS" = some (some u_MOST_WORDS)) (r_MOST_WORDS : RelV (.int 4096) u_MOST_WORDS)
  (g_MOST_OF_A_RULE : PySem.W.nsIn K mainGlobals "MOST_OF_A_RULE" = some (some u_MOST_OF_A_RULE)) (r_MOST_OF_A_RULE : RelV (.int 64) u_MOST_OF_A_RULE)
  (g_LONGEST_OF_A_RULE : PySem.W.nsIn K mainGlobals "LONGEST_OF_A_RULE" = some (some u_LONGEST_OF_A_RULE)) (r_LONGEST_OF_A_RULE : RelV (.int 8) u_LONGEST_OF_A_RULE)
  (q_NotOne : PySem.W.exmOne K (.ref c_NotOne) (.ref c_NotOne) = some true)
  (pg_Rule : PySem.W.plainGet K c_Rule Str.empty = true) (hd_Rule : PySem.W.hasDictIn K c_Rule = true) (po_Rule : PySem.W.plainOver K c_Rule = true) (sa_Rule : PySem.W.findIn K (.ref c_Rule) "__setattr__" = some (some (.builtin "object.__setattr__"))) (mk_Rule : PySem.W.makesIn K c_Rule = true) (kc_Rule : PySem.W.keepIn K (.ref c_Rule) = true)
  (na_Rule_length : PySem.W.findIn K (.ref c_Rule) "length" = some none)
  (na_Rule_kinds : PySem.W.findIn K (.ref c_Rule) "kinds" = some none)
  (na_Rule_told : PySem.W.findIn K (.ref c_Rule) "told" = some none) :
  ∃ fd : FuncData, (∀ (s : Shared) (v : Value), BindsTo s fd ⟨[v], []⟩ [("script", v)]) ∧ ∀ base : Heap, K.In base → base.Ns mainGlobals mg → FnOk l.prog w K mg base (CX1 l.prog w) 9 fa fd ["script"] (spLaw K) := by
 have e := hfa.symm.trans (PySem.W.mg_of X G a_39)
 cases e
 have tt : Txt K mg ⟨c_BadKinds, c_BadWord, c_TooMany, c_BadRule, c_BadDeed, c_NotOne, c_Rule, u_LETTERS, u_LONGEST, u_MOST_WORDS, u_MOST_OF_A_RULE, u_LONGEST_OF_A_RULE⟩ := ⟨PySem.W.mg_none_of X G z_isinstance, PySem.W.mg_none_of X G z_len, PySem.W.mg_none_of X G z_list, PySem.W.mg_none_of X G z_range, PySem.W.mg_none_of X G z_reversed, PySem.W.mg_none_of X G z_sorted, PySem.W.mg_none_of X G z_sum, PySem.W.mg_none_of X G z_tuple, PySem.W.mg_none_of X G z_zip, PySem.W.mg_of X G y_BadKinds, PySem.W.mg_of X G y_BadWord, PySem.W.mg_of X G y_TooMany, PySem.W.mg_of X G y_BadRule, PySem.W.mg_of X G y_BadDeed, PySem.W.mg_of X G y_NotOne, PySem.W.mg_of X G y_Rule, ⟨PySem.W.mg_of X G y_BadKinds, e_BadKinds⟩, ⟨PySem.W.mg_of X G y_BadWord, e_BadWord⟩, ⟨PySem.W.mg_of X G y_TooMany, e_TooMany⟩, ⟨PySem.W.mg_of X G y_BadRule, e_BadRule⟩, ⟨PySem.W.mg_of X G y_BadDeed, e_BadDeed⟩, ⟨PySem.W.mg_of X G y_NotOne, e_NotOne⟩, PySem.W.mg_of X G g_LETTERS, r_LETTERS, PySem.W.mg_of X G g_LONGEST, r_LONGEST, PySem.W.mg_of X G g_MOST_WORDS, r_MOST_WORDS, PySem.W.mg_of X G g_MOST_OF_A_RULE, r_MOST_OF_A_RULE, PySem.W.mg_of X G g_LONGEST_OF_A_RULE, r_LONGEST_OF_A_RULE, q_NotOne, ⟨pg_Rule, hd_Rule, po_Rule, sa_Rule⟩, na_Rule_length, na_Rule_kinds, na_Rule_told⟩
 have F_0 := fun_mk (st := s_looked_kinds) l_0 c_0 k_0
 have b_0 := F_0.binds (ps := ["kinds"]) fun _ _ _ _ _ _ us hl => L2.on1 (C := fun us => bindArgs _ ⟨us, []⟩ = pure (List.zip _ us)) hl fun _ => rfl
 have F_1 := fun_mk (st := s_looked_length) l_1 c_1 k_1
 have b_1 := F_1.binds (ps := ["length", "kinds"]) fun _ _ _ _ _ _ us hl => L2.on2 (C := fun us => bindArgs _ ⟨us, []⟩ = pure (List.zip _ us)) hl fun _ _ => rfl
 have F_2 := fun_mk (st := s_letters) l_2 c_2 k_2
 have b_2 := F_2.binds (ps := ["kinds"]) fun _ _ _ _ _ _ us hl => L2.on1 (C := fun us => bindArgs _ ⟨us, []⟩ = pure (List.zip _ us)) hl fun _ => rfl
 have F_3 := fun_mk (st := s_looked) l_3 c_3 k_3
 have b_3 := F_3.binds (ps := ["word", "kinds"]) fun _ _ _ _ _ _ us hl => L2.on2 (C := fun us => bindArgs _ ⟨us, []⟩ = pure (List.zip _ us)) hl fun _ _ => rfl
 have F_4 := fun_mk (st := s_number_of) l_4 c_4 k_4
 have b_4 := F_4.binds (ps := ["word", "kinds"]) fun _ _ _ _ _ _ us hl => L2.on2 (C := fun us => bindArgs _ ⟨us, []⟩ = pure (List.zip _ us)) hl fun _ _ => rfl
 have F_5 := fun_mk (st := s_word_total) l_5 c_5 k_5
 have b_5 := F_5.binds (ps := ["length", "kinds"]) fun _ _ _ _ _ _ us hl => L2.on2 (C := fun us => bindArgs _ ⟨us, []⟩ = pure (List.zip _ us)) hl fun _ _ => rfl
 have F_6 := fun_mk (st := s_spelled) l_6 c_6 k_6
 have b_6 := F_6.binds (ps := ["number", "length", "kinds"]) fun _ _ _ _ _ _ us hl => L2.on3 (C := fun us => bindArgs _ ⟨us, []⟩ = pure (List.zip _ us)) hl fun _ _ _ => rfl
 have F_7 := fun_mk (st := s_all_words) l_7 c_7 k_7
 have b_7 := F_7.binds (ps := ["length", "kinds"]) fun _ _ _ _ _ _ us hl => L2.on2 (C := fun us => bindArgs _ ⟨us, []⟩ = pure (List.zip _ us)) hl fun _ _ => rfl
 have F_8 := fun_mk (st := s_row_windows) l_8 c_8 k_8
 have b_8 := F_8.binds (ps := ["text", "length"]) fun _ _ _ _ _ _ us hl => L2.on2 (C := fun us => bindArgs _ ⟨us, []⟩ = pure (List.zip _ us)) hl fun _ _ => rfl
 have F_9 := fun_mk (st := s_ring_windows) l_9 c_9 k_9
 have b_9 := F_9.binds (ps := ["text", "length"]) fun _ _ _ _ _ _ us hl => L2.on2 (C := fun us => bindArgs _ ⟨us, []⟩ = pure (List.zip _ us)) hl fun _ _ => rfl
 have F_10 := fun_mk (st := s_windows) l_10 c_10 k_10
 have b_10 := F_10.binds (ps := ["text", "length", "ring"]) fun _ _ _ _ _ _ us hl => L2.on3 (C := fun us => bindArgs _ ⟨us, []⟩ = pure (List.zip _ us)) hl fun _ _ _ => rfl
 have F_11 := fun_mk (st := s_looked_size) l_11 c_11 k_11
 have b_11 := F_11.binds (ps := ["length", "kinds"]) fun _ _ _ _ _ _ us hl => L2.on2 (C := fun us => bindArgs _ ⟨us, []⟩ = pure (List.zip _ us)) hl fun _ _ => rfl
 have F_12 := fun_mk (st := s_looked_told) l_12 c_12 k_12
 have b_12 := F_12.binds (ps := ["length", "kinds", "told"]) fun _ _ _ _ _ _ us hl => L2.on3 (C := fun us => bindArgs _ ⟨us, []⟩ = pure (List.zip _ us)) hl fun _ _ _ => rfl
 have F_13 := fun_mk (st := s_Rule_init) l_13 c_13 k_13
 have b_13 := F_13.binds (ps := ["self", "length", "kinds", "told"]) fun _ _ _ _ _ _ us hl => L2.on4 (C := fun us => bindArgs _ ⟨us, []⟩ = pure (List.zip _ us)) hl fun _ _ _ _ => rfl
 have F_14 := fun_mk (st := s_looked_word) l_14 c_14 k_14
 have b_14 := F_14.binds (ps := ["rule", "word"]) fun _ _ _ _ _ _ us hl => L2.on2 (C := fun us => bindArgs _ ⟨us, []⟩ = pure (List.zip _ us)) hl fun _ _ => rfl
 have F_15 := fun_mk (st := s_next_word) l_15 c_15 k_15
 have b_15 := F_15.binds (ps := ["rule", "word"]) fun _ _ _ _ _ _ us hl => L2.on2 (C := fun us => bindArgs _ ⟨us, []⟩ = pure (List.zip _ us)) hl fun _ _ => rfl
 have F_16 := fun_mk (st := s_partners) l_16 c_16 k_16
 have b_16 := F_16.binds (ps := ["rule", "word"]) fun _ _ _ _ _ _ us hl => L2.on2 (C := fun us => bindArgs _ ⟨us, []⟩ = pure (List.zip _ us)) hl fun _ _ => rfl
 have F_17 := fun_mk (st := s_is_fair) l_17 c_17 k_17
 have b_17 := F_17.binds (ps := ["rule"]) fun _ _ _ _ _ _ us hl => L2.on1 (C := fun us => bindArgs _ ⟨us, []⟩ = pure (List.zip _ us)) hl fun _ => rfl
 have F_18 := fun_mk (st := s_made_of) l_18 c_18 k_18
 have b_18 := F_18.binds (ps := ["ring", "length", "kinds"]) fun _ _ _ _ _ _ us hl => L2.on3 (C := fun us => bindArgs _ ⟨us, []⟩ = pure (List.zip _ us)) hl fun _ _ _ => rfl
 have F_19 := fun_mk (st := s_exchanged) l_19 c_19 k_19
 have b_19 := F_19.binds (ps := ["rule", "one", "two"]) fun _ _ _ _ _ _ us hl => L2.on3 (C := fun us => bindArgs _ ⟨us, []⟩ = pure (List.zip _ us)) hl fun _ _ _ => rfl
 have F_20 := fun_mk (st := s_looked_fair) l_20 c_20 k_20
 have b_20 := F_20.binds (ps := ["rule"]) fun _ _ _ _ _ _ us hl => L2.on1 (C := fun us => bindArgs _ ⟨us, []⟩ = pure (List.zip _ us)) hl fun _ => rfl
 have F_21 := fun_mk (st := s_words_round) l_21 c_21 k_21
 have b_21 := F_21.binds (ps := ["rule", "word"]) fun _ _ _ _ _ _ us hl => L2.on2 (C := fun us => bindArgs _ ⟨us, []⟩ = pure (List.zip _ us)) hl fun _ _ => rfl
 have F_22 := fun_mk (st := s_told_round) l_22 c_22 k_22
 have b_22 := F_22.binds (ps := ["words"]) fun _ _ _ _ _ _ us hl => L2.on1 (C := fun us => bindArgs _ ⟨us, []⟩ = pure (List.zip _ us)) hl fun _ => rfl
 have F_23 := fun_mk (st := s_rounds) l_23 c_23 k_23
 have b_23 := F_23.binds (ps := ["rule"]) fun _ _ _ _ _ _ us hl => L2.on1 (C := fun us => bindArgs _ ⟨us, []⟩ = pure (List.zip _ us)) hl fun _ => rfl
 have F_24 := fun_mk (st := s_joined) l_24 c_24 k_24
 have b_24 := F_24.binds (ps := ["rule"]) fun _ _ _ _ _ _ us hl => L2.on1 (C := fun us => bindArgs _ ⟨us, []⟩ = pure (List.zip _ us)) hl fun _ => rfl
 have F_25 := fun_mk (st := s__law_power) l_25 c_25 k_25
 have b_25 := F_25.binds (ps := ["base", "many"]) fun _ _ _ _ _ _ us hl => L2.on2 (C := fun us => bindArgs _ ⟨us, []⟩ = pure (List.zip _ us)) hl fun _ _ => rfl
 have F_26 := fun_mk (st := s__law_stir) l_26 c_26 k_26
 have b_26 := F_26.binds (ps := ["cell", "k"]) fun _ _ _ _ _ _ us hl => L2.on2 (C := fun us => bindArgs _ ⟨us, []⟩ = pure (List.zip _ us)) hl fun _ _ => rfl
 have F_27 := fun_mk (st := s__law_folded) l_27 c_27 k_27
 have b_27 := F_27.binds (ps := ["script", "many"]) fun _ _ _ _ _ _ us hl => L2.on2 (C := fun us => bindArgs _ ⟨us, []⟩ = pure (List.zip _ us)) hl fun _ _ => rfl
 have F_28 := fun_mk (st := s__law_size) l_28 c_28 k_28
 have b_28 := F_28.binds (ps := ["cell"]) fun _ _ _ _ _ _ us hl => L2.on1 (C := fun us => bindArgs _ ⟨us, []⟩ = pure (List.zip _ us)) hl fun _ => rfl
 have F_29 := fun_mk (st := s__law_words) l_29 c_29 k_29
 have b_29 := F_29.binds (ps := ["length", "kinds"]) fun _ _ _ _ _ _ us hl => L2.on2 (C := fun us => bindArgs _ ⟨us, []⟩ = pure (List.zip _ us)) hl fun _ _ => rfl
 have F_30 := fun_mk (st := s__law_fair) l_30 c_30 k_30
 have b_30 := F_30.binds (ps := ["script", "length", "kinds"]) fun _ _ _ _ _ _ us hl => L2.on3 (C := fun us => bindArgs _ ⟨us, []⟩ = pure (List.zip _ us)) hl fun _ _ _ => rfl
 have F_31 := fun_mk (st := s__law_behind) l_31 c_31 k_31
 have b_31 := F_31.binds (ps := ["words", "told"]) fun _ _ _ _ _ _ us hl => L2.on2 (C := fun us => bindArgs _ ⟨us, []⟩ = pure (List.zip _ us)) hl fun _ _ => rfl
 have F_32 := fun_mk (st := s__law_rounds) l_32 c_32 k_32
 have b_32 := F_32.binds (ps := ["words", "behind"]) fun _ _ _ _ _ _ us hl => L2.on2 (C := fun us => bindArgs _ ⟨us, []⟩ = pure (List.zip _ us)) hl fun _ _ => rfl
 have F_33 := fun_mk (st := s__law_same_round) l_33 c_33 k_33
 have b_33 := F_33.binds (ps := ["behind", "one", "two"]) fun _ _ _ _ _ _ us hl => L2.on3 (C := fun us => bindArgs _ ⟨us, []⟩ = pure (List.zip _ us)) hl fun _ _ _ => rfl
 have F_34 := fun_mk (st := s__law_pairs) l_34 c_34 k_34
 have b_34 := F_34.binds (ps := ["words"]) fun _ _ _ _ _ _ us hl => L2.on1 (C := fun us => bindArgs _ ⟨us, []⟩ = pure (List.zip _ us)) hl fun _ => rfl
 have F_35 := fun_mk (st := s__law_joined) l_35 c_35 k_35
 have b_35 := F_35.binds (ps := ["words", "told"]) fun _ _ _ _ _ _ us hl => L2.on2 (C := fun us => bindArgs _ ⟨us, []⟩ = pure (List.zip _ us)) hl fun _ _ => rfl
 have F_36 := fun_mk (st := s__law_slips) l_36 c_36 k_36
 have b_36 := F_36.binds (ps := ["ring", "n"]) fun _ _ _ _ _ _ us hl => L2.on2 (C := fun us => bindArgs _ ⟨us, []⟩ = pure (List.zip _ us)) hl fun _ _ => rfl
 have F_37 := fun_mk (st := s__law_made) l_37 c_37 k_37
 have b_37 := F_37.binds (ps := ["text", "length", "kinds"]) fun _ _ _ _ _ _ us hl => L2.on3 (C := fun us => bindArgs _ ⟨us, []⟩ = pure (List.zip _ us)) hl fun _ _ _ => rfl
 have F_38 := fun_mk (st := s__law_slips_right) l_38 c_38 k_38
 have b_38 := F_38.binds (ps := ["ring", "words", "length", "kinds", "n"]) fun _ _ _ _ _ _ us hl => L2.on5 (C := fun us => bindArgs _ ⟨us, []⟩ = pure (List.zip _ us)) hl fun _ _ _ _ _ => rfl
 have F_39 := fun_mk (st := s_law) l_39 c_39 k_39
 refine ⟨PySem.W.fnOf "law" "law" (defArgs s_law) (defBody s_law) (defScope s_law) .none kV_39 dc_39 pm_39 an_39 cd_39 ct_39, fun s v => .of_eq rfl, fun base _ _ => ?_⟩
 have C_0 : Cal l.prog w K mg base (CX1 l.prog w) "looked_kinds" 1 ["kinds"] (spKindsX _) := ⟨⟨_, _, ok_looked_kinds F_0 tt, PySem.W.mg_of X G a_0, F_0.kp, b_0⟩⟩
 have C_1 : Cal l.prog w K mg base (CX1 l.prog w) "looked_length" 2 ["length", "kinds"] (spLenX _) := ⟨⟨_, _, ok_looked_length F_1 tt C_0, PySem.W.mg_of X G a_1, F_1.kp, b_1⟩⟩
 have C_2 : Cal l.prog w K mg base (CX1 l.prog w) "letters" 2 ["kinds"] (spLettersX _) := ⟨⟨_, _, ok_letters F_2 tt C_0, PySem.W.mg_of X G a_2, F_2.kp, b_2⟩⟩
 have C_3 : Cal l.prog w K mg base (CX1 l.prog w) "looked" 3 ["word", "kinds"] (spLookedX _) := ⟨⟨_, _, ok_looked F_3 tt C_1 C_2, PySem.W.mg_of X G a_3, F_3.kp, b_3⟩⟩
 have C_4 : Cal l.prog w K mg base (CX1 l.prog w) "number_of" 4 ["word", "kinds"] (spNumX _) := ⟨⟨_, _, ok_number_of F_4 tt C_3, PySem.W.mg_of X G a_4, F_4.kp, b_4⟩⟩
 have C_5 : Cal l.prog w K mg base (CX1 l.prog w) "word_total" 1 ["length", "kinds"] spTotal := ⟨⟨_, _, ok_word_total F_5 tt, PySem.W.mg_of X G a_5, F_5.kp, b_5⟩⟩
 have C_6 : Cal l.prog w K mg base (CX1 l.prog w) "spelled" 1 ["number", "length", "kinds"] spSpell := ⟨⟨_, _, ok_spelled F_6 tt, PySem.W.mg_of X G a_6, F_6.kp, b_6⟩⟩
 have C_7 : Cal l.prog w K mg base (CX1 l.prog w) "all_words" 3 ["length", "kinds"] (spAllX _) := ⟨⟨_, _, ok_all_words F_7 tt C_1 C_5 C_6, PySem.W.mg_of X G a_7, F_7.kp, b_7⟩⟩
 have C_8 : Cal l.prog w K mg base (CX1 l.prog w) "row_windows" 1 ["text", "length"] spRowW := ⟨⟨_, _, ok_row_windows F_8 tt, PySem.W.mg_of X G a_8, F_8.kp, b_8⟩⟩
 have C_9 : Cal l.prog w K mg base (CX1 l.prog w) "ring_windows" 1 ["text", "length"] spRingW := ⟨⟨_, _, ok_ring_windows F_9 tt, PySem.W.mg_of X G a_9, F_9.kp, b_9⟩⟩
 have C_10 : Cal l.prog w K mg base (CX1 l.prog w) "windows" 2 ["text", "length", "ring"] spWin := ⟨⟨_, _, ok_windows F_10 tt C_8 C_9, PySem.W.mg_of X G a_10, F_10.kp, b_10⟩⟩
 have C_11 : Cal l.prog w K mg base (CX1 l.prog w) "looked_size" 2 ["length", "kinds"] (spSizeX _) := ⟨⟨_, _, ok_looked_size F_11 tt C_0 C_5, PySem.W.mg_of X G a_11, F_11.kp, b_11⟩⟩
 have C_12 : Cal l.prog w K mg base (CX1 l.prog w) "looked_told" 3 ["length", "kinds", "told"] (spToldX _) := ⟨⟨_, _, ok_looked_told F_12 tt C_5 C_2, PySem.W.mg_of X G a_12, F_12.kp, b_12⟩⟩
 have C_13 : Cam l.prog w K mg base (CX1 l.prog w) "Rule" c_Rule 4 ["self", "length", "kinds", "told"] (spRuleI c_Rule _) := ⟨⟨_, _, ok_Rule_init F_13 tt C_11 C_12, ⟨mk_Rule, a_13, i_Rule_init, kc_Rule⟩, PySem.W.mg_of X G y_Rule, b_13⟩⟩
 have C_14 : Cal l.prog w K mg base (CX1 l.prog w) "looked_word" 4 ["rule", "word"] (spLWX c_Rule _) := ⟨⟨_, _, ok_looked_word F_14 tt C_3, PySem.W.mg_of X G a_14, F_14.kp, b_14⟩⟩
 have C_15 : Cal l.prog w K mg base (CX1 l.prog w) "next_word" 5 ["rule", "word"] (spNextW c_Rule _) := ⟨⟨_, _, ok_next_word F_15 tt C_14 C_4, PySem.W.mg_of X G a_15, F_15.kp, b_15⟩⟩
 have C_16 : Cal l.prog w K mg base (CX1 l.prog w) "partners" 5 ["rule", "word"] (spPartn c_Rule _) := ⟨⟨_, _, ok_partners F_16 tt C_14 C_2, PySem.W.mg_of X G a_16, F_16.kp, b_16⟩⟩
 have C_17 : Cal l.prog w K mg base (CX1 l.prog w) "is_fair" 6 ["rule"] (spFairX c_Rule) := ⟨⟨_, _, ok_is_fair F_17 tt C_7 C_15, PySem.W.mg_of X G a_17, F_17.kp, b_17⟩⟩
 have C_18 : Cal l.prog w K mg base (CX1 l.prog w) "made_of" 6 ["ring", "length", "kinds"] (spMadeOf c_Rule _) := ⟨⟨_, _, ok_made_of F_18 tt C_11 C_7 C_10 C_13, PySem.W.mg_of X G a_18, F_18.kp, b_18⟩⟩
 have C_19 : Cal l.prog w K mg base (CX1 l.prog w) "exchanged" 6 ["rule", "one", "two"] (spExch c_Rule _) := ⟨⟨_, _, ok_exchanged F_19 tt C_14 C_16 C_4 C_15 C_13, PySem.W.mg_of X G a_19, F_19.kp, b_19⟩⟩
 have C_20 : Cal l.prog w K mg base (CX1 l.prog w) "looked_fair" 7 ["rule"] (spLFair c_Rule _) := ⟨⟨_, _, ok_looked_fair F_20 tt C_17, PySem.W.mg_of X G a_20, F_20.kp, b_20⟩⟩
 have C_21 : Cal l.prog w K mg base (CX1 l.prog w) "words_round" 6 ["rule", "word"] (spWR c_Rule) := ⟨⟨_, _, ok_words_round F_21 tt C_15, PySem.W.mg_of X G a_21, F_21.kp, b_21⟩⟩
 have C_22 : Cal l.prog w K mg base (CX1 l.prog w) "told_round" 1 ["words"] (spTR K) := ⟨⟨_, _, ok_told_round F_22 tt, PySem.W.mg_of X G a_22, F_22.kp, b_22⟩⟩
 have C_23 : Cal l.prog w K mg base (CX1 l.prog w) "rounds" 8 ["rule"] (spRounds c_Rule _) := ⟨⟨_, _, ok_rounds F_23 tt C_20 C_7 C_21 C_22, PySem.W.mg_of X G a_23, F_23.kp, b_23⟩⟩
 have C_24 : Cal l.prog w K mg base (CX1 l.prog w) "joined" 8 ["rule"] (spJoin c_Rule _) := ⟨⟨_, _, ok_joined F_24 tt C_20 C_7 C_16 C_21 C_19 C_13, PySem.W.mg_of X G a_24, F_24.kp, b_24⟩⟩
 have C_25 : Cal l.prog w K mg base (CX1 l.prog w) "_law_power" 1 ["base", "many"] spPow := ⟨⟨_, _, ok__law_power F_25 tt, PySem.W.mg_of X G a_25, F_25.kp, b_25⟩⟩
 have C_26 : Cal l.prog w K mg base (CX1 l.prog w) "_law_stir" 1 ["cell", "k"] spStir := ⟨⟨_, _, ok__law_stir F_26 tt, PySem.W.mg_of X G a_26, F_26.kp, b_26⟩⟩
 have C_27 : Cal l.prog w K mg base (CX1 l.prog w) "_law_folded" 1 ["script", "many"] (spFolded K) := ⟨⟨_, _, ok__law_folded F_27 tt, PySem.W.mg_of X G a_27, F_27.kp, b_27⟩⟩
 have C_28 : Cal l.prog w K mg base (CX1 l.prog w) "_law_size" 1 ["cell"] spSizeL := ⟨⟨_, _, ok__law_size F_28 tt, PySem.W.mg_of X G a_28, F_28.kp, b_28⟩⟩
 have C_29 : Cal l.prog w K mg base (CX1 l.prog w) "_law_words" 1 ["length", "kinds"] spWordsL := ⟨⟨_, _, ok__law_words F_29 tt, PySem.W.mg_of X G a_29, F_29.kp, b_29⟩⟩
 have C_30 : Cal l.prog w K mg base (CX1 l.prog w) "_law_fair" 2 ["script", "length", "kinds"] (spFairL K) := ⟨⟨_, _, ok__law_fair F_30 tt C_25 C_27 C_26, PySem.W.mg_of X G a_30, F_30.kp, b_30⟩⟩
 have C_31 : Cal l.prog w K mg base (CX1 l.prog w) "_law_behind" 1 ["words", "told"] (spBehind K) := ⟨⟨_, _, ok__law_behind F_31 tt, PySem.W.mg_of X G a_31, F_31.kp, b_31⟩⟩
 have C_32 : Cal l.prog w K mg base (CX1 l.prog w) "_law_rounds" 1 ["words", "behind"] (spRoundsL K) := ⟨⟨_, _, ok__law_rounds F_32 tt, PySem.W.mg_of X G a_32, F_32.kp, b_32⟩⟩
 have C_33 : Cal l.prog w K mg base (CX1 l.prog w) "_law_same_round" 1 ["behind", "one", "two"] spSameR := ⟨⟨_, _, ok__law_same_round F_33 tt, PySem.W.mg_of X G a_33, F_33.kp, b_33⟩⟩
 have C_34 : Cal l.prog w K mg base (CX1 l.prog w) "_law_pairs" 1 ["words"] (spPairs K) := ⟨⟨_, _, ok__law_pairs F_34 tt, PySem.W.mg_of X G a_34, F_34.kp, b_34⟩⟩
 have C_35 : Cal l.prog w K mg base (CX1 l.prog w) "_law_joined" 2 ["words", "told"] (spJoinL K) := ⟨⟨_, _, ok__law_joined F_35 tt C_31 C_34 C_33, PySem.W.mg_of X G a_35, F_35.kp, b_35⟩⟩
 have C_36 : Cal l.prog w K mg base (CX1 l.prog w) "_law_slips" 1 ["ring", "n"] (spSlips K) := ⟨⟨_, _, ok__law_slips F_36 tt, PySem.W.mg_of X G a_36, F_36.kp, b_36⟩⟩
 have C_37 : Cal l.prog w K mg base (CX1 l.prog w) "_law_made" 7 ["text", "length", "kinds"] spMade50 := ⟨⟨_, _, ok__law_made F_37 tt C_18, PySem.W.mg_of X G a_37, F_37.kp, b_37⟩⟩
 have C_38 : Cal l.prog w K mg base (CX1 l.prog w) "_law_slips_right" 8 ["ring", "words", "length", "kinds", "n"] (spSlipsR K) := ⟨⟨_, _, ok__law_slips_right F_38 tt C_36 C_37, PySem.W.mg_of X G a_38, F_38.kp, b_38⟩⟩
 exact ok_law F_39 tt C_28 C_29 C_30 C_13 C_23 C_35 C_24 C_32 C_18 C_26 C_38
theorem walk {l : PySem.W.OpenLaw} {q : Program} {loose : List Str} {XP : (Str → Option Value) → Heap → Prop} {YP : World → Heap → Prop} {d : DefRec} {K : Params → PySem.W.Frag} (hn : l.most = some 63) (hdf : d.params.defaults = [])
  (hY : ∀ (w : World) (h : Heap), YP w h → (K w.params).In h)
  (F : ∀ (w : World) (mg : Str → Option Value) (fa : Addr) (h : Heap), (K w.params).In h → h.Ns mainGlobals mg → mg d.name = some (.ref fa) →
   ∃ fd : FuncData, (∀ (s : Shared) (u : Value), BindsTo s fd ⟨[u], []⟩ [("script", u)]) ∧ ∀ base : Heap, (K w.params).In base → base.Ns mainGlobals mg → FnOk l.prog w (K w.params) mg base (CX1 l.prog w) 9 fa fd ["script"] (spLaw (K w.params))) :
  PySem.W.WalkO q loose XP YP l.row.toRowW d [] (fun f vs => PySem.call f vs) :=
 L2.walk_of (n := 63) (k := 9) (x := "script") (CX := fun w => CX1 l.prog w) (sp := fun w => spLaw (K w.params)) hn (by decide) hdf ⟨rfl, by decide, by decide⟩ hY F (fun _ _ a ns hl _ hS => ⟨a, ns, rfl, hS, hl, fun _ => rfl⟩) fun _ _ _ _ _ ⟨_, _, _, _, _, z⟩ => z
end K50
theorem PySem.W.Fast.tw13608365930705350816 : True := trivial
theorem PySem.W.Fast.tw17785124084609826272 : True := trivial
theorem PySem.W.Fast.tw12646038035212017248 : True := trivial
theorem PySem.W.Fast.tw12477049623860686432 : True := trivial
theorem PySem.W.Fast.tw9320363325076388480 : True := trivial
theorem PySem.W.Fast.tw10871698515498357408 : True := trivial
theorem PySem.W.Fast.tw2493603146818455296 : True := trivial
theorem PySem.W.Fast.tw15388170597573179264 : True := trivial
theorem PySem.W.Fast.tw11049238182516380801 : True := trivial
theorem PySem.W.Fast.tw8679074259561405857 : True := trivial
theorem PySem.W.Fast.tw10983549847190910401 : True := trivial
theorem PySem.W.Fast.tw6511560604059447682 : True := trivial
theorem PySem.W.Fast.tw7148473936280635938 : True := trivial
theorem PySem.W.Fast.tw4958723238364512834 : True := trivial
theorem PySem.W.Fast.tw13675497281145930498 : True := trivial
theorem PySem.W.Fast.tw14220285127560053698 : True := trivial
theorem PySem.W.Fast.tw16870566894667674851 : True := trivial
theorem PySem.W.Fast.tw5168746397008338403 : True := trivial
theorem PySem.W.Fast.tw11817259586382199331 : True := trivial
theorem PySem.W.Fast.tw10676123290630406787 : True := trivial
theorem PySem.W.Fast.tw3380534617565549347 : True := trivial
theorem PySem.W.Fast.tw11097503990516055939 : True := trivial
theorem PySem.W.Fast.tw12959529484331722116 : True := trivial
theorem PySem.W.Fast.tw8584433659133008452 : True := trivial
theorem PySem.W.Fast.tw2278071327691889316 : True := trivial
theorem PySem.W.Fast.tw14348797177844154052 : True := trivial
theorem PySem.W.Fast.tw15728389870640495396 : True := trivial
theorem PySem.W.Fast.tw3960191069317411716 : True := trivial
theorem PySem.W.Fast.tw13579452371027310564 : True := trivial
theorem PySem.W.Fast.tw14109131862230422853 : True := trivial
theorem PySem.W.Fast.tw2570439624565080517 : True := trivial
theorem PySem.W.Fast.tw4433532008652944837 : True := trivial
theorem PySem.W.Fast.tw11813423141763034725 : True := trivial
theorem PySem.W.Fast.tw5939139958028998662 : True := trivial
theorem PySem.W.Fast.tw8088444076940928070 : True := trivial
theorem PySem.W.Fast.tw10013688303319202246 : True := trivial
theorem PySem.W.Fast.tw8938827174756894246 : True := trivial
theorem PySem.W.Fast.tw4039534325413529190 : True := trivial
theorem PySem.W.Fast.tw13573019563679409351 : True := trivial
theorem PySem.W.Fast.tw15281616479479465351 : True := trivial
theorem PySem.W.Fast.tw18381938714533996167 : True := trivial
theorem PySem.W.Fast.tw6398059151062495975 : True := trivial
theorem PySem.W.Fast.tw6339232905240116103 : True := trivial
theorem PySem.W.Fast.tw18118353541316747175 : True := trivial
theorem PySem.W.Fast.tw9491878241482828775 : True := trivial
theorem PySem.W.Fast.tw17004954843125364776 : True := trivial
theorem PySem.W.Fast.tw16242608705691728936 : True := trivial
theorem PySem.W.Fast.tw15642574671369577576 : True := trivial
theorem PySem.W.Fast.tw5227155253841565928 : True := trivial
theorem PySem.W.Fast.tw18218121501123456328 : True := trivial
theorem PySem.W.Fast.tw12891266714093058952 : True := trivial
theorem PySem.W.Fast.tw2953917602992468073 : True := trivial
theorem PySem.W.Fast.tw2466274771799000841 : True := trivial
theorem PySem.W.Fast.tw8629294674157519657 : True := trivial
theorem PySem.W.Fast.tw8497264099192796298 : True := trivial
theorem PySem.W.Fast.tw15146534477267648810 : True := trivial
theorem PySem.W.Fast.tw14560576025718627626 : True := trivial
theorem PySem.W.Fast.tw11365260386616913450 : True := trivial
theorem PySem.W.Fast.tw1709834819209861834 : True := trivial
theorem PySem.W.Fast.tw15717419823963152106 : True := trivial
theorem PySem.W.Fast.tw5207043344739091402 : True := trivial
theorem PySem.W.Fast.tw13412681038979194858 : True := trivial
theorem PySem.W.Fast.tw13476897238413325323 : True := trivial
theorem PySem.W.Fast.tw17900294340381807659 : True := trivial
theorem PySem.W.Fast.tw5875968396027364459 : True := trivial
theorem PySem.W.Fast.tw2200547695725787275 : True := trivial
theorem PySem.W.Fast.tw6102116927136483627 : True := trivial
theorem PySem.W.Fast.tw7682751290297836939 : True := trivial
theorem PySem.W.Fast.tw10254447939083362923 : True := trivial
theorem PySem.W.Fast.tw4800257014910199467 : True := trivial
theorem PySem.W.Fast.tw3232735743623604075 : True := trivial
theorem PySem.W.Fast.tw7026009537265538955 : True := trivial
theorem PySem.W.Fast.tw3275986722139751916 : True := trivial
theorem PySem.W.Fast.tw5907593665931474444 : True := trivial
theorem PySem.W.Fast.tw13898668161545756204 : True := trivial
theorem PySem.W.Fast.tw12038618869506680620 : True := trivial
theorem PySem.W.Fast.tw7428866565249584397 : True := trivial
theorem PySem.W.Fast.tw12085941453191387597 : True := trivial
theorem PySem.W.Fast.tw14589140181223011149 : True := trivial
theorem PySem.W.Fast.tw392013756131589965 : True := trivial
theorem PySem.W.Fast.tw14780756845719791565 : True := trivial
theorem PySem.W.Fast.tw15435599298436382894 : True := trivial
theorem PySem.W.Fast.tw744646156914735310 : True := trivial
theorem PySem.W.Fast.tw1981636564729495822 : True := trivial
theorem PySem.W.Fast.tw353009630499359086 : True := trivial
theorem PySem.W.Fast.tw13746125684395725166 : True := trivial
theorem PySem.W.Fast.tw14247138383403808142 : True := trivial
theorem PySem.W.Fast.tw16233970999710361006 : True := trivial
theorem PySem.W.Fast.tw16648628310981446286 : True := trivial
theorem PySem.W.Fast.tw4355076707226283726 : True := trivial
theorem PySem.W.Fast.tw4739810266227321646 : True := trivial
theorem PySem.W.Fast.tw17176876533227663150 : True := trivial
theorem PySem.W.Fast.tw8835774970585710382 : True := trivial
theorem PySem.W.Fast.tw2171107220955941935 : True := trivial
theorem PySem.W.Fast.tw5689097351967590479 : True := trivial
theorem PySem.W.Fast.tw17312711722912685359 : True := trivial
theorem PySem.W.Fast.te4811392084221717935 : True := trivial
theorem PySem.W.Fast.tw15416265504164094128 : True := trivial
theorem PySem.W.Fast.tw12975311101493717232 : True := trivial
theorem PySem.W.Fast.tw9695788182676634064 : True := trivial
theorem PySem.W.Fast.tw15352857436472103472 : True := trivial
theorem PySem.W.Fast.tw5717341924327275152 : True := trivial
theorem PySem.W.Fast.tw6303102976840133681 : True := trivial
theorem PySem.W.Fast.tw18169638016267872369 : True := trivial
theorem PySem.W.Fast.tw14301491514770807377 : True := trivial
theorem PySem.W.Fast.tw17277428274793155313 : True := trivial
theorem PySem.W.Fast.tw10494377666549318481 : True := trivial
theorem PySem.W.Fast.tw857363731883584594 : True := trivial
theorem PySem.W.Fast.tw10801924425355982962 : True := trivial
theorem PySem.W.Fast.tw4633108905712186770 : True := trivial
theorem PySem.W.Fast.tw11316773608643973618 : True := trivial
theorem PySem.W.Fast.tw4152952539832953746 : True := trivial
theorem PySem.W.Fast.tw18254572486982661171 : True := trivial
theorem PySem.W.Fast.tw10628016226061950099 : True := trivial
theorem PySem.W.Fast.tw4949719317234829779 : True := trivial
theorem PySem.W.Fast.tw12991715411156688403 : True := trivial
theorem PySem.W.Fast.tw1297759094706840115 : True := trivial
theorem PySem.W.Fast.tw12917254621076172371 : True := trivial
theorem PySem.W.Fast.tw8982854785613013651 : True := trivial
theorem PySem.W.Fast.tw18008987068942786355 : True := trivial
theorem PySem.W.Fast.tw1295704573895136179 : True := trivial
theorem PySem.W.Fast.tw4115099152696785907 : True := trivial
theorem PySem.W.Fast.tw14599289127030026420 : True := trivial
theorem PySem.W.Fast.tw723403338403955956 : True := trivial
theorem PySem.W.Fast.tw9245946342986932500 : True := trivial
theorem PySem.W.Fast.tw6518775387093316916 : True := trivial
theorem PySem.W.Fast.tw1243187311949416820 : True := trivial
theorem PySem.W.Fast.tw6709139690342091156 : True := trivial
theorem PySem.W.Fast.tw12393182763011449268 : True := trivial
theorem PySem.W.Fast.tw10125330616664355284 : True := trivial
theorem PySem.W.Fast.tw14025253846917263860 : True := trivial
theorem PySem.W.Fast.tw17107888120148693556 : True := trivial
theorem PySem.W.Fast.tw14767571937794542228 : True := trivial
theorem PySem.W.Fast.tw4206813150456352564 : True := trivial
theorem PySem.W.Fast.tw5287314726791627700 : True := trivial
theorem PySem.W.Fast.tw3827695855333854132 : True := trivial
theorem PySem.W.Fast.tw17864510905644541077 : True := trivial
theorem PySem.W.Fast.tw47748412176170165 : True := trivial
theorem PySem.W.Fast.tw9040569523198373173 : True := trivial
theorem PySem.W.Fast.tw12929494307514137941 : True := trivial
theorem PySem.W.Fast.tw16728819768545703349 : True := trivial
theorem PySem.W.Fast.tw18364057293222741014 : True := trivial
theorem PySem.W.Fast.tw5312616578725270774 : True := trivial
theorem PySem.W.Fast.tw5539446175815572886 : True := trivial
theorem PySem.W.Fast.tw13231351849274766359 : True := trivial
theorem PySem.W.Fast.tw3533250538693017655 : True := trivial
theorem PySem.W.Fast.tw297028481824622871 : True := trivial
theorem PySem.W.Fast.tw10821626500945370391 : True := trivial
theorem PySem.W.Fast.tw2056124567366615479 : True := trivial
theorem PySem.W.Fast.tw13616916542532727960 : True := trivial
theorem PySem.W.Fast.tw4342374607988245656 : True := trivial
theorem PySem.W.Fast.tw1398330507866067096 : True := trivial
theorem PySem.W.Fast.tw3599159661479348408 : True := trivial
theorem PySem.W.Fast.tw13640792532018279832 : True := trivial
theorem PySem.W.Fast.tw13320833093908049720 : True := trivial
theorem PySem.W.Fast.tw16300891259763821560 : True := trivial
theorem PySem.W.Fast.tw4615014006585886873 : True := trivial
theorem PySem.W.Fast.tw10866402637258347737 : True := trivial
theorem PySem.W.Fast.tw14817344634824880377 : True := trivial
theorem PySem.W.Fast.tw6490117406484750873 : True := trivial
theorem PySem.W.Fast.tw2590332968818146937 : True := trivial
theorem PySem.W.Fast.tw10532205632556759737 : True := trivial
theorem PySem.W.Fast.tw16546427379618312921 : True := trivial
theorem PySem.W.Fast.tw16319722152731243321 : True := trivial
theorem PySem.W.Fast.tw7904748002769774425 : True := trivial
theorem PySem.W.Fast.tw14381924974349517753 : True := trivial
theorem PySem.W.Fast.tw14274304380641707194 : True := trivial
theorem PySem.W.Fast.tw3278375233959332026 : True := trivial
theorem PySem.W.Fast.tw12812234709187894458 : True := trivial
theorem PySem.W.Fast.tw14855751779364676986 : True := trivial
theorem PySem.W.Fast.tw2274516418074262938 : True := trivial
theorem PySem.W.Fast.tw15287877790414280218 : True := trivial
theorem PySem.W.Fast.tw3588268743512474138 : True := trivial
theorem PySem.W.Fast.tw11133734988370611834 : True := trivial
theorem PySem.W.Fast.tw8084081579079801498 : True := trivial
theorem PySem.W.Fast.tw1783817832173596346 : True := trivial
theorem PySem.W.Fast.tw779368085979136730 : True := trivial
theorem PySem.W.Fast.tw17144430949043162842 : True := trivial
theorem PySem.W.Fast.tw17132413979517218522 : True := trivial
theorem PySem.W.Fast.tw3662568554105813786 : True := trivial
theorem PySem.W.Fast.tw1501693000258632570 : True := trivial
theorem PySem.W.Fast.tw2881465312413424506 : True := trivial
theorem PySem.W.Fast.tw2179421253840577466 : True := trivial
theorem PySem.W.Fast.tw14398525206328650811 : True := trivial
theorem PySem.W.Fast.tw16717379863078264891 : True := trivial
theorem PySem.W.Fast.tw10906225680438952251 : True := trivial
theorem PySem.W.Fast.tw12446395070175336859 : True := trivial
theorem PySem.W.Fast.tw9841035221588164027 : True := trivial
theorem PySem.W.Fast.tw11699055031709000219 : True := trivial
theorem PySem.W.Fast.tw1736193639826990907 : True := trivial
theorem PySem.W.Fast.tw15290674754913463227 : True := trivial
theorem PySem.W.Fast.tw2733061858218091804 : True := trivial
theorem PySem.W.Fast.tw9299473923090548380 : True := trivial
theorem PySem.W.Fast.tw10668336417577895708 : True := trivial
theorem PySem.W.Fast.tw12694427254186026972 : True := trivial
theorem PySem.W.Fast.tw10275934077163882557 : True := trivial
theorem PySem.W.Fast.tw153818353905208509 : True := trivial
theorem PySem.W.Fast.tw14028692458166116605 : True := trivial
theorem PySem.W.Fast.tw7162333948274932989 : True := trivial
theorem PySem.W.Fast.tw4882737128221241629 : True := trivial
theorem PySem.W.Fast.tw11543460849937079869 : True := trivial
theorem PySem.W.Fast.tw2895101704449966366 : True := trivial
theorem PySem.W.Fast.tw8033788447498914334 : True := trivial
theorem PySem.W.Fast.tw2616828594597324702 : True := trivial
theorem PySem.W.Fast.tw10735717537535034527 : True := trivial
theorem PySem.W.Fast.tw10573267601470282943 : True := trivial
theorem PySem.W.Fast.tw13675750854803308895 : True := trivial
theorem PySem.W.Fast.tw15999896708158488031 : True := trivial
theorem PySem.W.Fast.tw5964952702200412671 : True := trivial
theorem PySem.W.Fast.tw8400888618721263167 : True := trivial
theorem PySem.W.Fast.tw14926818060985438943 : True := trivial
def PySem.W.Fast.tw5246652815950876901 := PySem.Challenge.pw_onceround_k50_whole_rounds_joined
theorem PySem.W.Fast.te5246652815950876901 : PySem.Challenge.pw_onceround_k50_whole_rounds_joined = PySem.W.Fast.tw5246652815950876901 := rfl
open PySem PySem.W PyProof.Rows
set_option maxRecDepth 100000 in
set_option maxHeartbeats 0 in
theorem PySem.Challenge.cw_onceround_k50_whole_rounds_joined_holds : PySem.Challenge.rw_onceround_k50_whole_rounds_joined.Holds := by
  w_on; o_law; k_head; (case hw => w_witness2)
  k_fill
  refine K50.walk (l := PySem.Challenge.rw_onceround_k50_whole_rounds_joined) rfl rfl (fun w h Y => PySem.W.kIn_of Y) ?F
  case F =>
    intro w mg fa h KX G hmg
    refine' K50.all_mk KX G hmg ?a_0 ?l_0 ?c_0 ?k_0 ?a_1 ?l_1 ?c_1 ?k_1 ?a_2 ?l_2 ?c_2 ?k_2 ?a_3 ?l_3 ?c_3 ?k_3 ?a_4 ?l_4 ?c_4 ?k_4 ?a_5 ?l_5 ?c_5 ?k_5 ?a_6 ?l_6 ?c_6 ?k_6 ?a_7 ?l_7 ?c_7 ?k_7 ?a_8 ?l_8 ?c_8 ?k_8 ?a_9 ?l_9 ?c_9 ?k_9 ?a_10 ?l_10 ?c_10 ?k_10 ?a_11 ?l_11 ?c_11 ?k_11 ?a_12 ?l_12 ?c_12 ?k_12 ?a_13 ?l_13 ?c_13 ?k_13 ?i_Rule_init ?a_14 ?l_14 ?c_14 ?k_14 ?a_15 ?l_15 ?c_15 ?k_15 ?a_16 ?l_16 ?c_16 ?k_16 ?a_17 ?l_17 ?c_17 ?k_17 ?a_18 ?l_18 ?c_18 ?k_18 ?a_19 ?l_19 ?c_19 ?k_19 ?a_20 ?l_20 ?c_20 ?k_20 ?a_21 ?l_21 ?c_21 ?k_21 ?a_22 ?l_22 ?c_22 ?k_22 ?a_23 ?l_23 ?c_23 ?k_23 ?a_24 ?l_24 ?c_24 ?k_24 ?a_25 ?l_25 ?c_25 ?k_25 ?a_26 ?l_26 ?c_26 ?k_26 ?a_27 ?l_27 ?c_27 ?k_27 ?a_28 ?l_28 ?c_28 ?k_28 ?a_29 ?l_29 ?c_29 ?k_29 ?a_30 ?l_30 ?c_30 ?k_30 ?a_31 ?l_31 ?c_31 ?k_31 ?a_32 ?l_32 ?c_32 ?k_32 ?a_33 ?l_33 ?c_33 ?k_33 ?a_34 ?l_34 ?c_34 ?k_34 ?a_35 ?l_35 ?c_35 ?k_35 ?a_36 ?l_36 ?c_36 ?k_36 ?a_37 ?l_37 ?c_37 ?k_37 ?a_38 ?l_38 ?c_38 ?k_38 ?a_39 ?l_39 ?c_39 ?k_39 ?z_isinstance ?z_len ?z_list ?z_range ?z_reversed ?z_sorted ?z_sum ?z_tuple ?z_zip ?y_BadKinds ?y_BadWord ?y_TooMany ?y_BadRule ?y_BadDeed ?y_NotOne ?y_Rule ?e_BadKinds ?e_BadWord ?e_TooMany ?e_BadRule ?e_BadDeed ?e_NotOne ?g_LETTERS ?r_LETTERS ?g_LONGEST ?r_LONGEST ?g_MOST_WORDS ?r_MOST_WORDS ?g_MOST_OF_A_RULE ?r_MOST_OF_A_RULE ?g_LONGEST_OF_A_RULE ?r_LONGEST_OF_A_RULE ?q_NotOne ?pg_Rule ?hd_Rule ?po_Rule ?sa_Rule ?mk_Rule ?kc_Rule ?na_Rule_length ?na_Rule_kinds ?na_Rule_told
    (case y_Rule => k_is)
    (case a_0 => k_is)
    (case l_0 => k_is)
    (case c_0 => k_is)
    (case k_0 => k_is)
    (case a_1 => k_is)
    (case l_1 => k_is)
    (case c_1 => k_is)
    (case k_1 => k_is)
    (case a_2 => k_is)
    (case l_2 => k_is)
    (case c_2 => k_is)
    (case k_2 => k_is)
    (case a_3 => k_is)
    (case l_3 => k_is)
    (case c_3 => k_is)
    (case k_3 => k_is)
    (case a_4 => k_is)
    (case l_4 => k_is)
    (case c_4 => k_is)
    (case k_4 => k_is)
    (case a_5 => k_is)
    (case l_5 => k_is)
    (case c_5 => k_is)
    (case k_5 => k_is)
    (case a_6 => k_is)
    (case l_6 => k_is)
    (case c_6 => k_is)
    (case k_6 => k_is)
    (case a_7 => k_is)
    (case l_7 => k_is)
    (case c_7 => k_is)
    (case k_7 => k_is)
    (case a_8 => k_is)
    (case l_8 => k_is)
    (case c_8 => k_is)
    (case k_8 => k_is)
    (case a_9 => k_is)
    (case l_9 => k_is)
    (case c_9 => k_is)
    (case k_9 => k_is)
    (case a_10 => k_is)
    (case l_10 => k_is)
    (case c_10 => k_is)
    (case k_10 => k_is)
    (case a_11 => k_is)
    (case l_11 => k_is)
    (case c_11 => k_is)
    (case k_11 => k_is)
    (case a_12 => k_is)
    (case l_12 => k_is)
    (case c_12 => k_is)
    (case k_12 => k_is)
    (case a_13 => k_is)
    (case l_13 => k_is)
    (case c_13 => k_is)
    (case k_13 => k_is)
    (case a_14 => k_is)
    (case l_14 => k_is)
    (case c_14 => k_is)
    (case k_14 => k_is)
    (case a_15 => k_is)
    (case l_15 => k_is)
    (case c_15 => k_is)
    (case k_15 => k_is)
    (case a_16 => k_is)
    (case l_16 => k_is)
    (case c_16 => k_is)
    (case k_16 => k_is)
    (case a_17 => k_is)
    (case l_17 => k_is)
    (case c_17 => k_is)
    (case k_17 => k_is)
    (case a_18 => k_is)
    (case l_18 => k_is)
    (case c_18 => k_is)
    (case k_18 => k_is)
    (case a_19 => k_is)
    (case l_19 => k_is)
    (case c_19 => k_is)
    (case k_19 => k_is)
    (case a_20 => k_is)
    (case l_20 => k_is)
    (case c_20 => k_is)
    (case k_20 => k_is)
    (case a_21 => k_is)
    (case l_21 => k_is)
    (case c_21 => k_is)
    (case k_21 => k_is)
    (case a_22 => k_is)
    (case l_22 => k_is)
    (case c_22 => k_is)
    (case k_22 => k_is)
    (case a_23 => k_is)
    (case l_23 => k_is)
    (case c_23 => k_is)
    (case k_23 => k_is)
    (case a_24 => k_is)
    (case l_24 => k_is)
    (case c_24 => k_is)
    (case k_24 => k_is)
    (case a_25 => k_is)
    (case l_25 => k_is)
    (case c_25 => k_is)
    (case k_25 => k_is)
    (case a_26 => k_is)
    (case l_26 => k_is)
    (case c_26 => k_is)
    (case k_26 => k_is)
    (case a_27 => k_is)
    (case l_27 => k_is)
    (case c_27 => k_is)
    (case k_27 => k_is)
    (case a_28 => k_is)
    (case l_28 => k_is)
    (case c_28 => k_is)
    (case k_28 => k_is)
    (case a_29 => k_is)
    (case l_29 => k_is)
    (case c_29 => k_is)
    (case k_29 => k_is)
    (case a_30 => k_is)
    (case l_30 => k_is)
    (case c_30 => k_is)
    (case k_30 => k_is)
    (case a_31 => k_is)
    (case l_31 => k_is)
    (case c_31 => k_is)
    (case k_31 => k_is)
    (case a_32 => k_is)
    (case l_32 => k_is)
    (case c_32 => k_is)
    (case k_32 => k_is)
    (case a_33 => k_is)
    (case l_33 => k_is)
    (case c_33 => k_is)
    (case k_33 => k_is)
    (case a_34 => k_is)
    (case l_34 => k_is)
    (case c_34 => k_is)
    (case k_34 => k_is)
    (case a_35 => k_is)
    (case l_35 => k_is)
    (case c_35 => k_is)
    (case k_35 => k_is)
    (case a_36 => k_is)
    (case l_36 => k_is)
    (case c_36 => k_is)
    (case k_36 => k_is)
    (case a_37 => k_is)
    (case l_37 => k_is)
    (case c_37 => k_is)
    (case k_37 => k_is)
    (case a_38 => k_is)
    (case l_38 => k_is)
    (case c_38 => k_is)
    (case k_38 => k_is)
    (case a_39 => k_is)
    (case l_39 => k_is)
    (case c_39 => k_is)
    (case k_39 => k_is)
    (case z_isinstance => k_is)
    (case z_len => k_is)
    (case z_list => k_is)
    (case z_range => k_is)
    (case z_reversed => k_is)
    (case z_sorted => k_is)
    (case z_sum => k_is)
    (case z_tuple => k_is)
    (case z_zip => k_is)
    (case y_BadKinds => k_is)
    (case y_BadWord => k_is)
    (case y_TooMany => k_is)
    (case y_BadRule => k_is)
    (case y_BadDeed => k_is)
    (case y_NotOne => k_is)
    (case e_BadKinds => kernel_rfl)
    (case e_BadWord => kernel_rfl)
    (case e_TooMany => kernel_rfl)
    (case e_BadRule => kernel_rfl)
    (case e_BadDeed => kernel_rfl)
    (case e_NotOne => kernel_rfl)
    (case g_LETTERS => k_is)
    (case r_LETTERS => exact ⟨_, rfl⟩)
    (case g_LONGEST => k_is)
    (case r_LONGEST => exact ⟨_, rfl⟩)
    (case g_MOST_WORDS => k_is)
    (case r_MOST_WORDS => exact ⟨_, rfl⟩)
    (case g_MOST_OF_A_RULE => k_is)
    (case r_MOST_OF_A_RULE => exact ⟨_, rfl⟩)
    (case g_LONGEST_OF_A_RULE => k_is)
    (case r_LONGEST_OF_A_RULE => exact ⟨_, rfl⟩)
    (case q_NotOne => kts_exm)
    (case pg_Rule => k_is)
    (case hd_Rule => k_is)
    (case po_Rule => k_is)
    (case sa_Rule => k_is)
    (case mk_Rule => k_is)
    (case kc_Rule => k_is)
    (case na_Rule_length => k_is)
    (case na_Rule_kinds => k_is)
    (case na_Rule_told => k_is)
    (case i_Rule_init => k_is)
#print axioms PySem.Challenge.cw_onceround_k50_whole_rounds_joined_holds
