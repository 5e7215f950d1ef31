import PyProof.Rows.All
import Wide.All
import OpenK.AllK
import Wide.FinOn
import Lean
import PyProof.EqAt
import PyProof.EqKinds
import PyProof.TupleCall
import PySem.Challenge.RW_onceround_k72_whole_led
set_option genSizeOfSpec false
set_option bootstrap.genMatcherCode false
-- CHANGE: your row's module here, as the last of these rows
set_option Elab.async false
set_option linter.all false
set_option maxRecDepth 100000
namespace L2
open PySem PySem.Spec PyProof.Rows

noncomputable abbrev Key := Sum Int Str
noncomputable def keyIs : Key → Value → Bool
  | .inl k, v => Value.isInt k v
  | .inr x, v => Value.isStrOf x v
noncomputable def keyH (w : World) : Key → Int
  | .inl k => hashInt k
  | .inr x => hashStr w x
theorem keyIs_shape : ∀ {k : Key} {v : Value}, keyIs k v = true → (∃ i t, k = Sum.inl i ∧ v = Value.int i t) ∨ (∃ x t, k = Sum.inr x ∧ v = Value.str x t)
  | .inl i, v, h => by
    obtain ⟨t, e⟩ := Value.isInt_shape (k := i) (v := v) h
    exact .inl ⟨i, t, rfl, e⟩
  | .inr x, v, h => by
    obtain ⟨t, e⟩ := Value.isStrOf_shape (x := x) (v := v) h
    exact .inr ⟨x, t, rfl, e⟩
theorem keyIs_int (i : Int) (t : Tok) : keyIs (.inl i) (.int i t) = true := by simp [keyIs, Value.isInt]
theorem keyIs_str (x : Str) (t : Tok) : keyIs (.inr x) (.str x t) = true := by simp [keyIs, Value.isStrOf]
theorem key_ll (a b : Int) : decide ((Sum.inl a : Key) = Sum.inl b) = (a == b) := by
  by_cases e : a = b
  · subst e; simp
  · have h : ¬ (Sum.inl a : Key) = Sum.inl b := fun q => e (Sum.inl.inj q)
    rw [decide_eq_false h]
    exact (beq_eq_false_iff_ne.mpr e).symm
theorem key_rr (a b : Str) : decide ((Sum.inr a : Key) = Sum.inr b) = decide (a = b) := by
  by_cases e : a = b
  · subst e; simp
  · have h : ¬ (Sum.inr a : Key) = Sum.inr b := fun q => e (Sum.inr.inj q)
    rw [decide_eq_false h, decide_eq_false e]
theorem key_lr (a : Int) (b : Str) : decide ((Sum.inl a : Key) = Sum.inr b) = false := decide_eq_false (fun q => nomatch q)
theorem key_rl (a : Str) (b : Int) : decide ((Sum.inr a : Key) = Sum.inl b) = false := decide_eq_false (fun q => nomatch q)

noncomputable def mixKind (prog : Program) (w : World) : PySem.KeyKind prog w Key where
  is := keyIs
  hash := keyH w
  inj := fun v a b ha hb => by
    rcases keyIs_shape ha with ⟨i, t, rfl, rfl⟩ | ⟨x, t, rfl, rfl⟩
    · rcases keyIs_shape hb with ⟨j, u, rfl, e⟩ | ⟨y, u, rfl, e⟩
      · injection e with e1 _; rw [e1]
      · exact nomatch e
    · rcases keyIs_shape hb with ⟨j, u, rfl, e⟩ | ⟨y, u, rfl, e⟩
      · exact nomatch e
      · injection e with e1 _; rw [e1]
  byValue := fun k v h => by
    rcases keyIs_shape h with ⟨i, t, rfl, rfl⟩ | ⟨x, t, rfl, rfl⟩ <;> rfl
  pyHash := fun hv h => by
    rcases keyIs_shape hv with ⟨i, t, rfl, rfl⟩ | ⟨x, t, rfl, rfl⟩
    · exact wpAny_pyHash_int h
    · exact wpAny_pyHash_str h
  eqBool := fun hu hv h => by
    rcases keyIs_shape hu with ⟨i, t, rfl, rfl⟩ | ⟨x, t, rfl, rfl⟩
    · rcases keyIs_shape hv with ⟨j, u, rfl, rfl⟩ | ⟨y, u, rfl, rfl⟩
      · rw [key_ll] at h; exact wpAny_eqBool_int h
      · rw [key_lr] at h; exact SeqAt.EqAt.int_str i t y u _ _ _ _ h
    · rcases keyIs_shape hv with ⟨j, u, rfl, rfl⟩ | ⟨y, u, rfl, rfl⟩
      · rw [key_rl] at h; exact SeqAt.EqAt.str_int x t j u _ _ _ _ h
      · rw [key_rr] at h; exact wpAny_eqBool_str h
  «strs» := fun k x t v h => by
    rcases keyIs_shape h with ⟨i, u, rfl, e⟩ | ⟨y, u, rfl, e⟩
    · exact nomatch e
    · injection e with e1 _
      subst e1
      cases v <;> rfl

theorem mixKind_int (prog : Program) (w : World) (i : Int) (t : Tok) : (mixKind prog w).is (.inl i) (.int i t) = true := keyIs_int i t
theorem mixKind_str (prog : Program) (w : World) (x : Str) (t : Tok) : (mixKind prog w).is (.inr x) (.str x t) = true := keyIs_str x t
end L2

namespace L2
open PySem PySem.Spec PyProof.Rows

inductive V where
  | non | bl (b : Bool) | int (i : Int) | str (x : Str) | byt (b : Array UInt8) | flt (b : UInt64) | ref (a : Addr) | ty (n : String)
  deriving DecidableEq

noncomputable def RelV : V → Value → Prop
  | .non, u => u = Value.none
  | .bl b, u => u = Value.bool b
  | .int i, u => ∃ t, u = Value.int i t
  | .str x, u => ∃ t, u = Value.str x t
  | .byt b, u => ∃ t, u = Value.bytes b t
  | .flt b, u => ∃ t, u = Value.float b t
  | .ref a, u => u = Value.ref a
  | .ty n, u => u = Value.type n

noncomputable abbrev Vals : List V → List Value → Prop := Paired RelV
theorem Vals.length {xs : List V} {us : List Value} (r : Vals xs us) : xs.length = us.length := Paired.length r
theorem Vals.get : ∀ {xs : List V} {us : List Value} {i : Nat} {x : V}, Vals xs us → xs[i]? = some x → ∃ u, us[i]? = some u ∧ RelV x u
  | _, _, _, _, .nil, e => by simp at e
  | _, _, 0, _, .cons r _, e => by simp at e; subst e; exact ⟨_, rfl, r⟩
  | _, _, i + 1, x, .cons _ t, e => by
    obtain ⟨u, h1, h2⟩ := Vals.get (i := i) (x := x) t (by simpa using e)
    exact ⟨u, by simpa using h1, h2⟩
theorem Vals.append : ∀ {xs ys : List V} {us ws : List Value}, Vals xs us → Vals ys ws → Vals (xs ++ ys) (us ++ ws)
  | _, _, _, _, .nil, s => s
  | _, _, _, _, .cons r t, s => .cons r (Vals.append t s)
theorem Vals.take : ∀ {xs : List V} {us : List Value} (n : Nat), Vals xs us → Vals (xs.take n) (us.take n)
  | _, _, 0, _ => .nil
  | _, _, _ + 1, .nil => .nil
  | _, _, n + 1, .cons r t => .cons r (Vals.take n t)
theorem Vals.drop : ∀ {xs : List V} {us : List Value} (n : Nat), Vals xs us → Vals (xs.drop n) (us.drop n)
  | _, _, 0, r => r
  | _, _, _ + 1, .nil => .nil
  | _, _, n + 1, .cons _ t => Vals.drop n t
noncomputable def RelO : Option V → Option Value → Prop
  | some v, some u => RelV v u
  | none, none => True
  | _, _ => False
noncomputable def KV {κ : Type} : List (κ × V) → List (κ × Value) → Prop := Paired fun (p : κ × V) (q : κ × Value) => p.1 = q.1 ∧ RelV p.2 q.2

noncomputable def kV : Key → V
  | .inl i => .int i
  | .inr x => .str x

inductive HO where
    | lst (xs : List V)
    | tup (xs : List V)
    | dK (kvs : List (Key × V)) | dT (kvs : List (List Key × V))
    | set (S : Int → Bool) (n : Nat)
    | ins (C dx : Addr) (fs : List (Str × V))
    | own (x : Addr)
    | xd (fs : List (Str × V))
    | met (f x : Addr)
    | rng (lo hi : Int)
    | frz (o : Obj) (u : HO)
    | tbl (ps : Array Value)
    | ext (φ : Heap → Prop)

noncomputable abbrev Hp := Addr → Option HO
noncomputable def upd (H : Hp) (a : Addr) (o : HO) : Hp := fun b => if b = a then some o else H b
theorem upd_same {H : Hp} {a : Addr} {o : HO} : upd H a o a = some o := by unfold upd; rw [if_pos rfl]
theorem upd_ne {H : Hp} {a b : Addr} {o : HO} (h : b ≠ a) : upd H a o b = H b := by unfold upd; rw [if_neg h]
theorem ne_of {H : Hp} {a b : Addr} {o u : HO} (h : H a = some o) (h' : H b = some u) (d : o ≠ u) : a ≠ b := by
  intro e; subst e; rw [h] at h'; exact d (Option.some.inj h')
theorem ne_of_none {H : Hp} {a b : Addr} {o : HO} (h : H a = some o) (h' : H b = none) : a ≠ b := by
  intro e; subst e; rw [h] at h'; cases h'

section
variable (P : Program) (w : World)
noncomputable def ObjOk (H : Hp) (h : Heap) (a : Addr) : HO → Prop
  | .lst xs => xs.length ≤ sizeLine ∧ ∃ (its : List Value) (n : Nat), Vals xs its ∧ h.get? a = some { cls := .type "list", data := .seq its.toArray n }
  | .tup xs => xs.length ≤ sizeLine ∧ ∃ its : List Value, Vals xs its ∧ IsTup h a its.toArray
  | .dK kvs => kvs.length ≤ sizeLine ∧ (a == sysModules) = false ∧ ∃ vs, KV kvs vs ∧ h.DictOf (mixKind P w) a vs
  | .dT kvs => kvs.length ≤ sizeLine ∧ (a == sysModules) = false ∧ ∃ xs : List (List Key × Addr × Value),
      Paired (fun (p : List Key × V) (q : List Key × Addr × Value) => p.1 = q.1 ∧ H q.2.1 = some (.tup (p.1.map kV)) ∧ RelV p.2 q.2.2) kvs xs ∧
      ∃ o es ep, h.get? a = some o ∧ o.ExactDict ∧ o.data = .dict es ep ∧ es.toList = xs.map (entryOfKey (tupleKind (mixKind P w))) ∧ (xs.map (·.1)).Nodup
  | .set S n => h.SetOf (intKind P w) a S n
  | .ins C dx fs => H dx = some (.own a) ∧ fs.length ≤ 1000 ∧ dx ≠ a ∧ h.get? a = some (PySem.W.instObj C dx) ∧
      ∃ mA, h.Ns1 dx mA ∧ (∀ f, RelO (fs.lookup f) (mA f)) ∧ PySem.Within mA (fs.map (·.1))
  | .own _ => ∃ o, h.get? a = some o
  | .xd fs => ∃ mA, h.Ns1 a mA ∧ ∀ f, RelO (fs.lookup f) (mA f)
  | .rng lo hi => ∃ t u v, h.get? a = some { cls := .type "range", data := .fields #[.int lo t, .int hi u, .int 1 v] }
  | .frz o u => h.get? a = some o ∧ ObjOk H h a u
  | .tbl ps => h.get? a = some { cls := .none, data := .fields ps }
  | .met f x => h.get? a = some (PySem.W.methodObj (.ref f) (.ref x))
  | .ext φ => φ h ∧ (∃ o, h.get? a = some o) ∧ ∀ h1 h2 : Heap, φ h1 → (∀ o, h1.get? a = some o → h2.get? a = some o) → φ h2
noncomputable def HOk (H : Hp) (h : Heap) : Prop := ∀ a o, H a = some o → ObjOk P w H h a o
end

section
variable {P : Program} {w : World} {H H' : Hp} {h h' : Heap} {a : Addr} {o : HO}
theorem ObjOk.lt (x : ObjOk P w H h a o) : a < h.objs.size := by
  cases o with
  | lst xs => obtain ⟨_, _, _, _, e⟩ := x; exact Heap.lt_size e
  | tup xs => obtain ⟨_, _, _, p⟩ := x; exact p.lt
  | dK kvs => obtain ⟨_, _, _, _, o, _, _, e, _⟩ := x; exact Heap.lt_size e
  | dT kvs => obtain ⟨_, _, _, _, o, _, _, e, _⟩ := x; exact Heap.lt_size e
  | set S n => obtain ⟨o, _, _, _, e, _⟩ := x; exact Heap.lt_size e
  | ins C dx fs => obtain ⟨_, _, _, e, _⟩ := x; exact Heap.lt_size e
  | own y => obtain ⟨_, e⟩ := x; exact Heap.lt_size e
  | xd fs => obtain ⟨_, ⟨_, _, _, e, _⟩, _⟩ := x; exact Heap.lt_size e
  | rng lo hi => obtain ⟨_, _, _, e⟩ := x; exact Heap.lt_size e
  | frz ob u => obtain ⟨e, _⟩ := x; exact Heap.lt_size e
  | tbl ps => exact Heap.lt_size (show h.get? a = some _ from x)
  | met f y => exact Heap.lt_size (show h.get? a = some _ from x)
  | ext φ => obtain ⟨_, ⟨_, e⟩, _⟩ := x; exact Heap.lt_size e
theorem Paired.mapP {α β : Type} {F G : α → β → Prop} : ∀ {l₁ : List α} {l₂ : List β}, Paired F l₁ l₂ → (∀ a b, F a b → G a b) → Paired G l₁ l₂
  | _, _, .nil, _ => .nil
  | _, _, .cons r t, f => .cons (f _ _ r) (Paired.mapP t f)
theorem ObjOk.stay (x : ObjOk P w H h a o) (k : ∀ b u, (b = a ∨ H b = some (.own a)) → h.get? b = some u → h'.get? b = some u)
    (ho : ∀ b, H b = some (.own a) → H' b = some (.own a)) (ht : ∀ b xs, H b = some (.tup xs) → H' b = some (.tup xs)) : ObjOk P w H' h' a o := by
  induction o with
  | lst xs => obtain ⟨z, its, n, r, e⟩ := x; exact ⟨z, its, n, r, k _ _ (.inl rfl) e⟩
  | tup xs => obtain ⟨z, its, r, ob, e, c⟩ := x; exact ⟨z, its, r, ob, k _ _ (.inl rfl) e, c⟩
  | dK kvs => obtain ⟨z, y, vs, r, ob, es, ep, e, c⟩ := x; exact ⟨z, y, vs, r, ob, es, ep, k _ _ (.inl rfl) e, c⟩
  | dT kvs =>
    obtain ⟨z, y, xs, r, ob, es, ep, e, c⟩ := x
    exact ⟨z, y, xs, Paired.mapP r fun p q z => ⟨z.1, ht _ _ z.2.1, z.2.2⟩, ob, es, ep, k _ _ (.inl rfl) e, c⟩
  | set S n => obtain ⟨ob, es, ep, t, e, c⟩ := x; exact ⟨ob, es, ep, t, k _ _ (.inl rfl) e, c⟩
  | ins C dx fs =>
    obtain ⟨d, z, ne, e, mA, ⟨od, es, ep, e2, c⟩, r⟩ := x
    exact ⟨ho _ d, z, ne, k _ _ (.inl rfl) e, mA, ⟨od, es, ep, k _ _ (.inr d) e2, c⟩, r⟩
  | own y => obtain ⟨ob, e⟩ := x; exact ⟨ob, k _ _ (.inl rfl) e⟩
  | xd fs => obtain ⟨mA, ⟨od, es, ep, e, c⟩, r⟩ := x; exact ⟨mA, ⟨od, es, ep, k _ _ (.inl rfl) e, c⟩, r⟩
  | rng lo hi => obtain ⟨t, u, v, e⟩ := x; exact ⟨t, u, v, k _ _ (.inl rfl) e⟩
  | frz ob u ih => obtain ⟨e, q⟩ := x; exact ⟨k _ _ (.inl rfl) e, ih q⟩
  | tbl ps =>
    have e : h.get? a = some { cls := .none, data := .fields ps } := x
    show h'.get? a = some { cls := .none, data := .fields ps }
    exact k a _ (.inl rfl) e
  | met f y =>
    have e : h.get? a = some (PySem.W.methodObj (.ref f) (.ref y)) := x
    show h'.get? a = some (PySem.W.methodObj (.ref f) (.ref y))
    exact k a _ (.inl rfl) e
  | ext φ => obtain ⟨p, ⟨o, e⟩, st⟩ := x; exact ⟨st _ _ p fun o q => k _ _ (.inl rfl) q, ⟨o, k _ _ (.inl rfl) e⟩, st⟩
theorem HOk.lt (x : HOk P w H h) (e : H a = some o) : a < h.objs.size := (x a o e).lt
theorem HOk.fresh (x : HOk P w H h) (e : h.objs.size ≤ a) : H a = none := by
  cases q : H a with
  | none => rfl
  | some u => exact absurd (Nat.lt_of_lt_of_le (x.lt q) e) (Nat.lt_irrefl _)
theorem HOk.kept (x : HOk P w H h) (k : ∀ b u, h.get? b = some u → h'.get? b = some u) : HOk P w H h' := fun a o e =>
  (x a o e).stay (fun b u _ q => k b u q) (fun _ q => q) fun _ _ q => q
theorem HOk.laid (x : HOk P w H h) (k : ∀ b u, h.get? b = some u → h'.get? b = some u) (hp : h.objs.size ≤ a) (new : ObjOk P w (upd H a o) h' a o) : HOk P w (upd H a o) h' := fun b u e => by
  have hn := x.fresh hp
  by_cases hb : b = a
  · subst hb; rw [upd_same] at e; cases e; exact new
  · rw [upd_ne hb] at e
    exact (x b u e).stay (fun c v _ q => k c v q) (fun c q => by rw [upd_ne (ne_of_none q hn)]; exact q) fun c xs q => by rw [upd_ne (ne_of_none q hn)]; exact q
end

noncomputable def Rd (H : Hp) (a : Addr) (u : HO) : Prop := H a = some u ∨ ∃ o, H a = some (.frz o u)
theorem Rd.ok {P : Program} {w : World} {H : Hp} {h : Heap} {a : Addr} {u : HO} (r : Rd H a u) (x : HOk P w H h) : ObjOk P w H h a u := by
  rcases r with r | ⟨o, r⟩
  · exact x a u r
  · obtain ⟨_, q⟩ := x a _ r
    exact q
noncomputable def Mut : Option HO → Prop
  | some (.lst _) => True
  | some (.dK _) => True
  | some (.dT _) => True
  | some (.set _ _) => True
  | some (.ins _ _ _) => True
  | some (.ext _) => True
  | _ => False
section
variable {P : Program} {w : World} {H : Hp} {h h' : Heap} {x e : Addr} {o' : HO}
theorem HOk.write (ok : HOk P w H h) (mu : Mut (H x)) (he : e = x ∨ H e = some (.own x)) (k : ∀ b u, b ≠ e → h.get? b = some u → h'.get? b = some u) (heo : ∃ u, h'.get? e = some u)
    (new : ObjOk P w (upd H x o') h' x o') : HOk P w (upd H x o') h' := fun b u q => by
  have nown : ∀ c y, H c = some (.own y) → c ≠ x := fun c y r z => by subst z; rw [r] at mu; exact mu
  have ntup : ∀ c xs, H c = some (.tup xs) → c ≠ x := fun c xs r z => by subst z; rw [r] at mu; exact mu
  by_cases hb : b = x
  · subst hb; rw [upd_same] at q; cases q; exact new
  · rw [upd_ne hb] at q
    by_cases hbe : b = e
    · have q' : H b = some (.own x) := by
        rcases he with z | z
        · exact absurd (hbe.trans z) hb
        · rw [hbe]; exact z
      rw [q] at q'; cases q'
      obtain ⟨v, hv⟩ := heo
      exact ⟨v, by rw [hbe]; exact hv⟩
    · refine (ok b u q).stay (fun c v hc r => k c v ?_ r) (fun c r => by rw [upd_ne (nown c b r)]; exact r) fun c xs r => by rw [upd_ne (ntup c xs r)]; exact r
      rcases hc with rfl | hc
      · exact hbe
      · rintro rfl
        rcases he with z | z
        · exact nown c b hc z
        · rw [hc] at z; cases z; exact hb rfl
end

set_option genInjectivity false in
structure Un (fs ex : List Addr) (H H' : Hp) (h h' : Heap) : Prop where
  keep : ∀ b o, h.get? b = some o → H b = none → b ∉ fs → b ∉ ex → h'.get? b = some o
  slot : ∀ b o, h.get? b = some o → H b = none → b ∈ fs → b ∉ ex → ∃ sl, h'.get? b = some { o with slots := sl }
  free : ∀ b o, h.get? b = some o → H b = none → b ∉ ex → H' b = none
  there : ∀ b o, h.get? b = some o → b ∉ ex → ∃ o', h'.get? b = some o'
  tups : ∀ b xs, H b = some (.tup xs) → H' b = some (.tup xs)
  frzs : ∀ b o u, H b = some (.frz o u) → H' b = some (.frz o u)
  tbls : ∀ b ps, H b = some (.tbl ps) → ∃ more, H' b = some (.tbl (ps ++ more))
section
variable {fs fs' ex ex' : List Addr} {H H1 H2 : Hp} {h h1 h2 h' : Heap} {a x e : Addr} {o : HO}
theorem Un.any (u : Un fs ex H H1 h h1) {b : Addr} {ob : Obj} (q : h.get? b = some ob) (n : H b = none) (hx : b ∉ ex) : ∃ sl, h1.get? b = some { ob with slots := sl } := by
  by_cases hb : b ∈ fs
  · exact u.slot b ob q n hb hx
  · exact ⟨ob.slots, u.keep b ob q n hb hx⟩
theorem Un.kept (k : ∀ b u, h.get? b = some u → h'.get? b = some u) : Un fs ex H H h h' :=
  ⟨fun b ob q _ _ _ => k b ob q, fun b ob q _ _ _ => ⟨ob.slots, k b ob q⟩, fun _ _ _ n _ => n, fun b ob q _ => ⟨ob, k b ob q⟩, fun _ _ q => q, fun _ _ _ q => q, fun _ ps q => ⟨#[], by rw [q]; simp⟩⟩
theorem Un.refl : Un fs ex H H h h := Un.kept fun _ _ q => q
theorem Un.laid (k : ∀ b u, h.get? b = some u → h'.get? b = some u) (hp : h.objs.size ≤ a) (hn : H a = none) : Un fs ex H (upd H a o) h h' where
  keep := fun b u q _ _ _ => k b u q
  slot := fun b u q _ _ _ => ⟨u.slots, k b u q⟩
  free := fun b u q n _ => by rw [upd_ne (Nat.ne_of_lt (Nat.lt_of_lt_of_le (Heap.lt_size q) hp))]; exact n
  there := fun b u q _ => ⟨u, k b u q⟩
  tups := fun b xs q => by rw [upd_ne (ne_of_none q hn)]; exact q
  frzs := fun b u xs q => by rw [upd_ne (ne_of_none q hn)]; exact q
  tbls := fun b ps q => ⟨#[], by rw [upd_ne (ne_of_none q hn), q]; simp⟩
theorem Un.write (mu : Mut (H x)) (he : e = x ∨ H e = some (.own x)) (k : ∀ b u, b ≠ e → h.get? b = some u → h'.get? b = some u) (heo : ∃ u, h'.get? e = some u) : Un fs ex H (upd H x o) h h' := by
  have hx : ∀ b, H b = none → b ≠ x := fun b n z => by subst z; rw [n] at mu; exact mu
  have hb : ∀ b, H b = none → b ≠ e := fun b n z => by
    subst z
    rcases he with r | r
    · exact hx b n r
    · rw [n] at r; cases r
  have hm : ∀ b u, H b = some u → ¬ Mut (some u) → b ≠ x := fun b u q nm z => by subst z; rw [q] at mu; exact nm mu
  refine ⟨fun b u q n _ _ => k b u (hb b n) q, fun b u q n _ _ => ⟨u.slots, k b u (hb b n) q⟩, fun b u q n _ => by rw [upd_ne (hx b n)]; exact n, fun b u q _ => ?_,
    fun b xs q => by rw [upd_ne (hm b _ q fun z => z)]; exact q, fun b u xs q => by rw [upd_ne (hm b _ q fun z => z)]; exact q, fun b ps q => ⟨#[], by rw [upd_ne (hm b _ q fun z => z), q]; simp⟩⟩
  by_cases hbe : b = e
  · subst hbe; exact heo
  · exact ⟨u, k b u hbe q⟩
end

noncomputable def trk (h : Heap) (H : Hp) : List Addr := (List.range h.objs.size).filter fun a => (H a).isSome
noncomputable def hidT (h : Heap) (H : Hp) : Heap := PySem.W.hideAll h (trk h H)
theorem hidT_size (h : Heap) (H : Hp) : (hidT h H).objs.size = h.objs.size := PySem.W.hideAll_size _ _
theorem hidT_get {h : Heap} {H : Hp} {b : Addr} {o : Obj} (e : h.get? b = some o) (n : H b = none) : (hidT h H).get? b = some o :=
  PySem.W.hideAll_get _ e fun hm => by
    have q : (H b).isSome = true := (List.mem_filter.mp hm).2
    rw [n] at q; simp at q
theorem of_hidT {h : Heap} {H : Hp} {b : Addr} {o : Obj} (e : (hidT h H).get? b = some o) : h.get? b = some o ∧ H b = none := by
  have e' : h.get? b = some o := PySem.W.of_hideAll (trk h H) e
  refine ⟨e', ?_⟩
  cases q : H b with
  | none => rfl
  | some x =>
    have hm : b ∈ trk h H := List.mem_filter.mpr ⟨List.mem_range.mpr (Heap.lt_size e'), by simp [q]⟩
    have z : (hidT h H).get? b = none := PySem.W.hideAll_none (trk h H) hm
    rw [z] at e; cases e

noncomputable def allNews (g h : Heap) (L : Addr) : List (Addr × Obj) := (List.range h.objs.size).filterMap fun a => if a = L ∨ (g.get? a).isSome = true then none else (h.get? a).map fun o => (a, o)
noncomputable def rest (g h : Heap) (L d : Addr) : List (Addr × Obj) := (allNews g h L).filter fun p => decide (p.1 ≠ d)
end L2

namespace L2
open PySem PySem.Spec PyProof.Rows

set_option genInjectivity false in
structure Mod (K : PySem.W.Frag) (mg : Str → Option Value) (base : Heap) : Prop where
  kin : K.In base
  glob : base.Ns mainGlobals mg
  blt : ∃ mb, base.Ns builtinsNs mb ∧ ∀ x : Str, x ≠ "__name__" → mb x = bootBuiltins x
  nolimit : base.NoLimit

set_option genInjectivity false in
structure Cx where
  prog : Program
  w : World
  K : PySem.W.Frag
  mg : Str → Option Value
  base : Heap
  A : Around
  N : List Str
  s₀ : Shared
  H₀ : Hp
  env : Env
  outer : List Env
  stack : List Env
  ex : List Addr
  fn : Str → Bool
  calm : Bool
  pn : List (Addr × Obj)
  xe : Value → Shared → Prop
noncomputable def frs (l : List Env) : List Addr := l.filterMap (·.frame)
noncomputable abbrev Cx.fs (X : Cx) : List Addr := frs X.outer

noncomputable def Vis (sc : Scope) (x : Str) : Prop := sc.names.lookup x = some .local ∨ sc.names.lookup x = some .cell ∨ sc.names.lookup x = some .free
noncomputable def Loc (sc : Scope) (x : Str) : Prop := sc.names.lookup x = some .local ∨ sc.names.lookup x = some .cell
noncomputable def Look (env : Env) (h : Heap) (m : Str → Option Value) (x : Str) (u : Value) : Prop :=
  (env.kindOf x = some .local ∧ m x = some u) ∨ ((env.kindOf x = some .cell ∨ env.kindOf x = some .free) ∧ ∃ c, env.cells.lookup x = some c ∧ h.IsCell c (some u))

set_option genInjectivity false in
structure Cx.Ok (X : Cx) : Prop where
  mod : Mod X.K X.mg X.base
  kind : X.env.scope.kind = .function
  glob : X.env.globals = mainGlobals
  blt : X.env.builtins = builtinsNs
  above : X.s₀.heap.objs.size ≤ X.env.locals
  inj : ∀ x y c, X.env.cells.lookup x = some c → X.env.cells.lookup y = some c → x = y
  has : ∀ x, (X.env.kindOf x = some .cell ∨ X.env.kindOf x = some .free) → ∃ c, X.env.cells.lookup x = some c
  cab : ∀ x c, X.fn x = true → X.env.cells.lookup x = some c → X.s₀.heap.objs.size ≤ c
  hd : X.calm = true → X.A.handled = none
  frames : X.A.frames = some X.stack
  stk : X.stack = X.outer ∨ (X.stack = X.env :: X.outer ∧ X.env.frame = some X.env.locals)
  exf : ∀ b ∈ X.ex, b ≠ X.env.locals ∧ ∀ x c, X.env.cells.lookup x = some c → c ≠ b
  bs : ∀ b o, X.base.get? b = some o → X.s₀.heap.get? b = some o ∧ X.H₀ b = none
  bsz : X.base.objs.size ≤ X.s₀.heap.objs.size
  noex : ∀ b o, X.base.get? b = some o → b ∉ X.ex
  exfs : ∀ b ∈ X.ex, b ∉ X.fs
  funs : X.s₀.heap.FunFrames X.base X.outer
  frf : ∀ b ∈ X.fs, X.H₀ b = none

set_option genInjectivity false in
structure Inv (X : Cx) (pins : List (Addr × Obj)) (σ : List (Option V)) (H : Hp) (s : Shared) : Prop where
  ok : X.Ok
  os : s.os = X.s₀.os
  bare : AllBare s.gens
  base : Un X.fs X.ex X.H₀ H X.s₀.heap s.heap
  loc : ∃ m, s.heap.Ns X.env.locals m ∧ ∀ (i : Nat) (x : Str) (v : V), X.N[i]? = some x → σ[i]? = some (some v) → Vis X.env.scope x → ∃ u, RelV v u ∧ Look X.env s.heap m x u
  cell : ∀ x c, X.env.cells.lookup x = some c → ∃ v, s.heap.IsCell c v
  free : H X.env.locals = none
  freeC : ∀ x c, X.env.cells.lookup x = some c → H c = none
  pin : ∀ p ∈ X.pn ++ pins, s.heap.get? p.1 = some p.2 ∧ H p.1 = none ∧ p.1 ≠ X.env.locals ∧ p.1 ∉ X.fs ∧ ∀ v, p.2.data ≠ .cell v
  hok : HOk X.prog X.w H s.heap
  len : σ.length = X.N.length

section
variable {X : Cx} {pins : List (Addr × Obj)} {σ : List (Option V)} {H H' : Hp} {s : Shared} {h' : Heap}

theorem Cx.Ok.nofr (ok : X.Ok) {b : Addr} {o : Obj} (e : X.base.get? b = some o) : b ∉ X.fs := fun hb => by
  have := (ok.funs.mem hb).1
  rw [e] at this; cases this
theorem Inv.bs (I : Inv X pins σ H s) : ∀ b o, X.base.get? b = some o → s.heap.get? b = some o ∧ H b = none := fun b o e =>
  ⟨I.base.keep b o (I.ok.bs b o e).1 (I.ok.bs b o e).2 (I.ok.nofr e) (I.ok.noex b o e), I.base.free b o (I.ok.bs b o e).1 (I.ok.bs b o e).2 (I.ok.noex b o e)⟩
theorem Inv.bk (I : Inv X pins σ H s) : ∀ b o, X.base.get? b = some o → s.heap.get? b = some o := fun b o e => (I.bs b o e).1
theorem Inv.mod (I : Inv X pins σ H s) : Mod X.K X.mg X.base := I.ok.mod
theorem Inv.kIn (I : Inv X pins σ H s) : X.K.In s.heap := I.ok.mod.kin.keeps I.bk
theorem Inv.lt (I : Inv X pins σ H s) : X.env.locals < s.heap.objs.size := let ⟨_, hn, _⟩ := I.loc; hn.lt
theorem Inv.sz (I : Inv X pins σ H s) : X.s₀.heap.objs.size ≤ s.heap.objs.size := Nat.le_trans I.ok.above (Nat.le_of_lt I.lt)
theorem Inv.nofs (I : Inv X pins σ H s) {a : Addr} (h : s.heap.objs.size ≤ a) : a ∉ X.fs := fun hb => by
  obtain ⟨_, o, ho, _⟩ := I.ok.funs.mem hb
  exact absurd (Nat.lt_of_lt_of_le (Heap.lt_size ho) (Nat.le_trans I.sz h)) (Nat.lt_irrefl _)
theorem Inv.cne (I : Inv X pins σ H s) : ∀ x c, X.env.cells.lookup x = some c → c ≠ X.env.locals := fun x c e z => by
  obtain ⟨v, o, ho, hd⟩ := I.cell x c e
  obtain ⟨m, ⟨o', es, ep, ho', hd', _⟩, _⟩ := I.loc
  rw [z, ho'] at ho; cases ho; rw [hd'] at hd; cases hd
theorem Inv.funs (I : Inv X pins σ H s) : s.heap.FunFrames X.base X.outer := by
  have all : ∀ (l : List Env), (∀ b ∈ frs l, b ∈ X.fs) → X.s₀.heap.FunFrames X.base l → s.heap.FunFrames X.base l := by
    intro l
    induction l with
    | nil => intro _ _; trivial
    | cons env r ih =>
      intro hs hl
      obtain ⟨hk, ⟨L, o, hf, hn, ho, hd⟩, hr⟩ := hl
      have hL : L ∈ X.fs := hs L (by unfold frs; rw [List.filterMap_cons, hf]; exact List.mem_cons_self)
      obtain ⟨sl, e⟩ := I.base.slot L o ho (I.ok.frf L hL) hL fun z => I.ok.exfs L z hL
      exact ⟨hk, ⟨L, _, hf, hn, e, hd⟩, ih (fun b hb => hs b (by unfold frs; rw [List.filterMap_cons, hf]; exact List.mem_cons_of_mem _ hb)) hr⟩
  exact all X.outer (fun _ hb => hb) I.ok.funs

theorem Inv.stack (I : Inv X pins σ H s) : s.heap.FunFrames X.base X.stack := by
  rcases I.ok.stk with e | ⟨e, hf⟩
  · rw [e]; exact I.funs
  · rw [e]
    obtain ⟨m, hn, _⟩ := I.loc
    refine .cons (by rw [I.ok.kind]; decide) hf hn ?_ I.funs
    exact Heap.get?_none_of_le (Nat.le_trans I.ok.bsz I.ok.above)
theorem Inv.stkSub (I : Inv X pins σ H s) : ∀ b ∈ frs X.stack, b ∈ X.env.locals :: X.fs := fun b hb => by
  rcases I.ok.stk with e | ⟨e, hf⟩
  · rw [e] at hb; exact List.mem_cons_of_mem _ hb
  · rw [e] at hb
    unfold frs at hb
    rw [List.filterMap_cons, hf] at hb
    exact hb
theorem Inv.stkFree (I : Inv X pins σ H s) : ∀ b ∈ frs X.stack, H b = none := fun b hb => by
  rcases List.mem_cons.mp (I.stkSub b hb) with e | hb
  · rw [e]; exact I.free
  · obtain ⟨_, o, ho, _⟩ := I.ok.funs.mem hb
    exact I.base.free b o ho (I.ok.frf b hb) fun z => I.ok.exfs b z hb

theorem Inv.step {g' : Array GenState} {t' : Nat} {d' : Drawn} {ch : List Addr} (I : Inv X pins σ H s)
    (hch : ∀ b ∈ ch, (b ∈ X.ex ∨ X.s₀.heap.objs.size ≤ b) ∧ b ≠ X.env.locals ∧ (∀ x c, X.env.cells.lookup x = some c → c ≠ b) ∧ ∀ p ∈ X.pn ++ pins, p.1 ≠ b)
    (keep : ∀ b o, b ≠ X.env.locals → b ∉ X.fs → b ∉ ch → s.heap.get? b = some o → H b = none → h'.get? b = some o)
    (slot : ∀ b o, b ≠ X.env.locals → b ∈ X.fs → b ∉ ch → s.heap.get? b = some o → H b = none → ∃ sl, h'.get? b = some { o with slots := sl }) (free : ∀ b o, b ∉ ch → s.heap.get? b = some o → H b = none → H' b = none)
    (there : ∀ b o, b ∉ ch → s.heap.get? b = some o → ∃ o', h'.get? b = some o')
    (tups : ∀ b xs, H b = some (.tup xs) → H' b = some (.tup xs)) (frzs : ∀ b o u, H b = some (.frz o u) → H' b = some (.frz o u)) (tbls : ∀ b ps, H b = some (.tbl ps) → ∃ more, H' b = some (.tbl (ps ++ more)))
    (ns : ∀ m, s.heap.Ns X.env.locals m → h'.Ns X.env.locals m) (hok : HOk X.prog X.w H' h') (hg : AllBare g') :
    Inv X pins σ H' { s with heap := h', gens := g', drawn := d', toks := t' } := by
  have neL : ∀ b o, X.s₀.heap.get? b = some o → b ≠ X.env.locals := fun b o e => Nat.ne_of_lt (Nat.lt_of_lt_of_le (Heap.lt_size e) I.ok.above)
  have neC : ∀ b o, X.s₀.heap.get? b = some o → b ∉ X.ex → b ∉ ch := fun b o e hx hb => by
    rcases (hch b hb).1 with z | z
    · exact hx z
    · exact absurd (Nat.lt_of_lt_of_le (Heap.lt_size e) z) (Nat.lt_irrefl _)
  have cellK : ∀ x c, X.env.cells.lookup x = some c → ∀ v, s.heap.IsCell c v → h'.IsCell c v := fun x c e v ⟨o, ho, hd⟩ => by
    have nch : c ∉ ch := fun z => (hch c z).2.2.1 x c e rfl
    by_cases hc : c ∈ X.fs
    · obtain ⟨sl, q⟩ := slot c o (I.cne x c e) hc nch ho (I.freeC x c e)
      exact ⟨_, q, hd⟩
    · exact ⟨o, keep c o (I.cne x c e) hc nch ho (I.freeC x c e), hd⟩
  refine ⟨I.ok, I.os, hg, ⟨fun b o e n hb hx => ?_, fun b o e n hb hx => ?_, fun b o e n hx => ?_, fun b o e hx => ?_, fun b xs e => tups b xs (I.base.tups b xs e), fun b o xs e => frzs b o xs (I.base.frzs b o xs e), fun b ps e => ?_⟩, ?_, fun x c e => ?_, ?_, fun x c e => ?_, fun p hp => ?_, hok, I.len⟩
  · exact keep b o (neL b o e) hb (neC b o e hx) (I.base.keep b o e n hb hx) (I.base.free b o e n hx)
  · obtain ⟨sl, e1⟩ := I.base.slot b o e n hb hx
    obtain ⟨sl', e2⟩ := slot b _ (neL b o e) hb (neC b o e hx) e1 (I.base.free b o e n hx)
    exact ⟨sl', e2⟩
  · obtain ⟨o', e1⟩ := I.base.there b o e hx
    exact free b o' (neC b o e hx) e1 (I.base.free b o e n hx)
  · obtain ⟨o', e1⟩ := I.base.there b o e hx
    exact there b o' (neC b o e hx) e1
  · obtain ⟨m1, e1⟩ := I.base.tbls b ps e
    obtain ⟨m2, e2⟩ := tbls b _ e1
    exact ⟨m1 ++ m2, by rw [e2, Array.append_assoc]⟩
  · obtain ⟨m, hn, hl⟩ := I.loc
    refine ⟨m, ns m hn, fun i x v e1 e2 e3 => ?_⟩
    obtain ⟨u, r, l⟩ := hl i x v e1 e2 e3
    refine ⟨u, r, ?_⟩
    rcases l with l | ⟨k, c, e, z⟩
    · exact .inl l
    · exact .inr ⟨k, c, e, cellK x c e _ z⟩
  · obtain ⟨v, z⟩ := I.cell x c e
    exact ⟨v, cellK x c e v z⟩
  · obtain ⟨m, ⟨o, _, _, ho, _⟩, _⟩ := I.loc
    exact free _ o (fun z => (hch _ z).2.1 rfl) ho I.free
  · obtain ⟨v, o, ho, hd⟩ := I.cell x c e
    exact free c o (fun z => (hch c z).2.2.1 x c e rfl) ho (I.freeC x c e)
  · obtain ⟨e, n, ne, nf, d⟩ := I.pin p hp
    have nch : p.1 ∉ ch := fun z => (hch p.1 z).2.2.2 p hp rfl
    exact ⟨keep p.1 p.2 ne nf nch e n, free p.1 p.2 nch e n, ne, nf, d⟩
theorem Inv.un {t' : Nat} (I : Inv X pins σ H s) (u : Un X.fs [] H H' s.heap h') (hok : HOk X.prog X.w H' h') : Inv X pins σ H' { s with heap := h', toks := t' } := by
  obtain ⟨m, ⟨o, es, ep, ho, r⟩, _⟩ := id I.loc
  obtain ⟨sl, hL⟩ := u.any ho I.free (by simp)
  exact I.step (g' := s.gens) (d' := s.drawn) (ch := []) (fun _ z => nomatch z) (fun b o _ hb _ e n => u.keep b o e n hb (by simp)) (fun b o _ hb _ e n => u.slot b o e n hb (by simp)) (fun b o _ e n => u.free b o e n (by simp)) (fun b o _ e => u.there b o e (by simp)) u.tups u.frzs u.tbls (fun m' hm => by
    obtain ⟨o', es', ep', ho', r'⟩ := hm
    rw [ho] at ho'; cases ho'
    exact ⟨_, es', ep', hL, r'⟩) hok I.bare
theorem Inv.call {g' : Array GenState} {t' : Nat} {d' : Drawn} {ch : List Addr} (I : Inv X pins σ H s) (u : Un (frs X.stack) ch H H' s.heap h') (hok : HOk X.prog X.w H' h') (hg : AllBare g')
    (hch : ∀ b ∈ ch, (b ∈ X.ex ∨ X.s₀.heap.objs.size ≤ b) ∧ b ≠ X.env.locals ∧ (∀ x c, X.env.cells.lookup x = some c → c ≠ b) ∧ ∀ p ∈ X.pn ++ pins, p.1 ≠ b) :
    Inv X pins σ H' { s with heap := h', gens := g', drawn := d', toks := t' } := by
  obtain ⟨m, ⟨o, es, ep, ho, r⟩, _⟩ := id I.loc
  obtain ⟨sl, hL⟩ := u.any ho I.free fun z => (hch _ z).2.1 rfl
  exact I.step (ch := ch) hch (fun b o hL hb hc e n => u.keep b o e n (fun z => (List.mem_cons.mp (I.stkSub b z)).elim hL hb) hc) (fun b o _ _ hc e n => u.any e n hc) (fun b o hc e n => u.free b o e n hc) (fun b o hc e => u.there b o e hc) u.tups u.frzs u.tbls (fun m' hm => by
    obtain ⟨o', es', ep', ho', r'⟩ := hm
    rw [ho] at ho'; cases ho'
    exact ⟨_, es', ep', hL, r'⟩) hok hg
theorem Inv.turned {t' : Nat} {it : Addr} (I : Inv X pins σ H s) (k : ∀ b o, b ≠ it → s.heap.get? b = some o → h'.get? b = some o) (hn : H it = none) (hL : it ≠ X.env.locals)
    (h1 : it ∈ X.ex ∨ X.s₀.heap.objs.size ≤ it) (h2 : ∀ x c, X.env.cells.lookup x = some c → c ≠ it) (h3 : ∀ p ∈ X.pn ++ pins, p.1 ≠ it) : Inv X pins σ H { s with heap := h', toks := t' } := by
  have nit : ∀ b u, H b = some u → b ≠ it := fun b u e z => by rw [z, hn] at e; cases e
  refine I.step (g' := s.gens) (d' := s.drawn) (ch := [it]) (fun b hb => ?_) (fun b o _ _ hc e _ => k b o (fun z => hc (by simp [z])) e) (fun b o _ _ hc e _ => ⟨o.slots, k b o (fun z => hc (by simp [z])) e⟩) (fun _ _ _ _ n => n)
    (fun b o hc e => ⟨o, k b o (fun z => hc (by simp [z])) e⟩) (fun _ _ e => e) (fun _ _ _ e => e) (fun b ps e => ⟨#[], by rw [e]; simp⟩) (fun m hm => ?_) (fun b u e => ?_) I.bare
  · have e : b = it := by simpa using hb
    subst e
    exact ⟨h1, hL, h2, h3⟩
  · obtain ⟨o, es, ep, ho, r⟩ := hm
    exact ⟨o, es, ep, k _ o (Ne.symm hL) ho, r⟩
  · refine (I.hok b u e).stay (fun c v hc q => k c v ?_ q) (fun _ q => q) fun _ _ q => q
    rcases hc with z | z
    · rw [z]; exact nit b u e
    · exact nit c _ z
theorem Inv.tok (I : Inv X pins σ H s) (t : Nat) : Inv X pins σ H { s with toks := t } := I.un (h' := s.heap) (t' := t) Un.refl I.hok
theorem Inv.kept {t' : Nat} (I : Inv X pins σ H s) (k : ∀ b u, s.heap.get? b = some u → h'.get? b = some u) : Inv X pins σ H { s with heap := h', toks := t' } := I.un (Un.kept k) (I.hok.kept k)
theorem Inv.laid {a : Addr} {o : HO} {t' : Nat} (I : Inv X pins σ H s) (k : ∀ b u, s.heap.get? b = some u → h'.get? b = some u) (hp : s.heap.objs.size ≤ a) (new : ObjOk X.prog X.w (upd H a o) h' a o) :
    Inv X pins σ (upd H a o) { s with heap := h', toks := t' } := I.un (Un.laid k hp (I.hok.fresh hp)) (I.hok.laid k hp new)
theorem Inv.write {x e : Addr} {o : HO} {t' : Nat} (I : Inv X pins σ H s) (mu : Mut (H x)) (he : e = x ∨ H e = some (.own x)) (k : ∀ b u, b ≠ e → s.heap.get? b = some u → h'.get? b = some u) (heo : ∃ u, h'.get? e = some u)
    (new : ObjOk X.prog X.w (upd H x o) h' x o) : Inv X pins σ (upd H x o) { s with heap := h', toks := t' } := I.un (Un.write mu he k heo) (I.hok.write mu he k heo new)
theorem Inv.pins_of {pins' : List (Addr × Obj)} (I : Inv X pins σ H s) (h : ∀ p ∈ pins', s.heap.get? p.1 = some p.2 ∧ H p.1 = none ∧ p.1 ≠ X.env.locals ∧ p.1 ∉ X.fs ∧ ∀ v, p.2.data ≠ .cell v) : Inv X pins' σ H s :=
  ⟨I.ok, I.os, I.bare, I.base, I.loc, I.cell, I.free, I.freeC, fun p hp => (List.mem_append.mp hp).elim (fun z => I.pin p (List.mem_append_left _ z)) (h p), I.hok, I.len⟩

theorem nodup_ix {N : List Str} (hN : N.Nodup) {i j : Nat} {x : Str} (a : N[i]? = some x) (b : N[j]? = some x) : i = j := by
  obtain ⟨h1, e1⟩ := List.getElem?_eq_some_iff.mp a
  obtain ⟨h2, e2⟩ := List.getElem?_eq_some_iff.mp b
  exact (List.getElem_inj hN).mp (e1.trans e2.symm)

theorem store_ok2 {M : Model} {A : Around} {E : Value → Shared → Prop} {i : Nat} {x : Str} {v : V} {u : Value} {Q : Unit → Shared → Prop} (I : Inv X pins σ H s) (hN : X.N.Nodup) (hi : X.N[i]? = some x) (hx : Loc X.env.scope x) (r : RelV v u)
    (h : ∀ s', Inv X pins (σ.set i (some v)) H s' → (∃ a, Heap.SameBut a s.heap s'.heap ∧ (a = X.env.locals ∨ X.env.cells.lookup x = some a)) → Q () s') (hf : X.fn x = true ∨ X.env.scope.names.lookup x = some .local := by first | exact .inl rfl | exact .inr rfl | assumption) : wpAny M A (storeName X.env x u) Q E s := by
  obtain ⟨m, hn, hl⟩ := id I.loc
  have hcls : (X.env.scope.kind == .class || (X.env.scope.kind == .module && X.env.locals != X.env.globals)) = false := by rw [I.ok.kind]; rfl
  have hiσ : i < σ.length := by rw [I.len]; exact (List.getElem?_eq_some_iff.mp hi).1
  have cne := I.cne
  have tracked : ∀ {a : Addr} {h' : Heap}, (∃ o, s.heap.get? a = some o ∧ H a = none) → Heap.SameBut a s.heap h' → HOk X.prog X.w H h' := fun {a h'} ha hs b ob e => by
    obtain ⟨_, _, hfree⟩ := ha
    refine (I.hok b ob e).stay (fun c w' hc q => (hs.2 c ?_).trans q) (fun _ q => q) fun _ _ q => q
    rintro rfl
    rcases hc with rfl | hc
    · rw [hfree] at e; cases e
    · rw [hfree] at hc; cases hc
  rcases hx with hk | hk
  · refine wpAny_storeName_local hk hn (fun h' hn' hs => ?_) hcls
    obtain ⟨oL, _, _, hoL, _⟩ := id hn
    refine h _ ⟨I.ok, I.os, I.bare, ⟨fun b o e n hb hx => ?_, fun b o e n hb hx => ?_, I.base.free, fun b o e hx => ?_, I.base.tups, I.base.frzs, I.base.tbls⟩, ⟨_, hn', fun j y v' e1 e2 e3 => ?_⟩, fun y c e => ?_, I.free, I.freeC, fun p hp => ?_, tracked ⟨oL, hoL, I.free⟩ hs, by simpa using I.len⟩ ⟨_, hs, .inl rfl⟩
    · exact (hs.2 b (Nat.ne_of_lt (Nat.lt_of_lt_of_le (Heap.lt_size e) I.ok.above))).trans (I.base.keep b o e n hb hx)
    · obtain ⟨sl, e1⟩ := I.base.slot b o e n hb hx
      exact ⟨sl, (hs.2 b (Nat.ne_of_lt (Nat.lt_of_lt_of_le (Heap.lt_size e) I.ok.above))).trans e1⟩
    · obtain ⟨o', e1⟩ := I.base.there b o e hx
      exact ⟨o', (hs.2 b (Nat.ne_of_lt (Nat.lt_of_lt_of_le (Heap.lt_size e) I.ok.above))).trans e1⟩
    · by_cases hj : j = i
      · subst hj
        rw [hi] at e1; cases e1
        rw [List.getElem?_set_self hiσ] at e2
        cases e2
        exact ⟨u, r, .inl ⟨hk, by simp⟩⟩
      · rw [List.getElem?_set_ne (Ne.symm hj)] at e2
        obtain ⟨u', r', q⟩ := hl j y v' e1 e2 e3
        refine ⟨u', r', ?_⟩
        rcases q with ⟨k, e⟩ | ⟨k, c, e, z⟩
        · refine .inl ⟨k, ?_⟩
          have : y ≠ x := fun e => hj (nodup_ix hN e1 (e ▸ hi))
          simp [this, e]
        · exact .inr ⟨k, c, e, z.sameBut hs (cne y c e)⟩
    · obtain ⟨w', z⟩ := I.cell y c e
      exact ⟨w', z.sameBut hs (cne y c e)⟩
    · obtain ⟨e, n, ne, nf, d⟩ := I.pin p hp
      exact ⟨(hs.2 p.1 ne).trans e, n, ne, nf, d⟩
  · have hfn : X.fn x = true := by
      rcases hf with z | z
      · exact z
      · rw [z] at hk; cases hk
    obtain ⟨c, hc⟩ := I.ok.has x (.inl hk)
    obtain ⟨w', z⟩ := I.cell x c hc
    refine wpAny_storeName_cell I.ok.kind hk hc z (fun h' hc' hs => ?_)
    obtain ⟨oc, hoc, hocd⟩ := id z
    refine h { s with heap := h' } ⟨I.ok, I.os, I.bare, ⟨fun b o e n hb hx => ?_, fun b o e n hb hx => ?_, I.base.free, fun b o e hx => ?_, I.base.tups, I.base.frzs, I.base.tbls⟩, ⟨m, hn.sameBut hs (Ne.symm (cne x c hc)), fun j y v' e1 e2 e3 => ?_⟩, fun y c' e => ?_, I.free, I.freeC, fun p hp => ?_, tracked ⟨oc, hoc, I.freeC x c hc⟩ hs, by simpa using I.len⟩ ⟨c, hs, .inr hc⟩
    · exact (hs.2 b (Nat.ne_of_lt (Nat.lt_of_lt_of_le (Heap.lt_size e) (I.ok.cab x c hfn hc)))).trans (I.base.keep b o e n hb hx)
    · obtain ⟨sl, e1⟩ := I.base.slot b o e n hb hx
      exact ⟨sl, (hs.2 b (Nat.ne_of_lt (Nat.lt_of_lt_of_le (Heap.lt_size e) (I.ok.cab x c hfn hc)))).trans e1⟩
    · obtain ⟨o', e1⟩ := I.base.there b o e hx
      exact ⟨o', (hs.2 b (Nat.ne_of_lt (Nat.lt_of_lt_of_le (Heap.lt_size e) (I.ok.cab x c hfn hc)))).trans e1⟩
    · by_cases hj : j = i
      · subst hj
        rw [hi] at e1; cases e1
        rw [List.getElem?_set_self hiσ] at e2
        cases e2
        exact ⟨u, r, .inr ⟨.inl hk, c, hc, hc'⟩⟩
      · rw [List.getElem?_set_ne (Ne.symm hj)] at e2
        obtain ⟨u', r', q⟩ := hl j y v' e1 e2 e3
        refine ⟨u', r', ?_⟩
        rcases q with q | ⟨k, c', e, z'⟩
        · exact .inl q
        · refine .inr ⟨k, c', e, z'.sameBut hs ?_⟩
          rintro rfl
          exact hj (nodup_ix hN e1 (I.ok.inj _ _ _ e hc ▸ hi))
    · by_cases hcc : c' = c
      · subst hcc; exact ⟨_, hc'⟩
      · obtain ⟨w2, z2⟩ := I.cell y c' e
        exact ⟨w2, z2.sameBut hs hcc⟩
    · obtain ⟨e, n, ne, nf, d⟩ := I.pin p hp
      refine ⟨(hs.2 p.1 ?_).trans e, n, ne, nf, d⟩
      intro q
      rw [q, hoc] at e
      have q' : oc = p.2 := Option.some.inj e
      exact d w' (by rw [← q']; exact hocd)
theorem store_ok {M : Model} {A : Around} {E : Value → Shared → Prop} {i : Nat} {x : Str} {v : V} {u : Value} {Q : Unit → Shared → Prop} (I : Inv X pins σ H s) (hN : X.N.Nodup) (hi : X.N[i]? = some x) (hx : Loc X.env.scope x) (r : RelV v u)
    (h : ∀ s', Inv X pins (σ.set i (some v)) H s' → Q () s') (hf : X.fn x = true ∨ X.env.scope.names.lookup x = some .local := by first | exact .inl rfl | exact .inr rfl | assumption) : wpAny M A (storeName X.env x u) Q E s :=
  store_ok2 I hN hi hx r (fun s' I' _ => h s' I') hf
theorem Inv.call' {s' : Shared} {ch : List Addr} (I : Inv X pins σ H s) (ho : s'.os = s.os) (u : Un (frs X.stack) ch H H' s.heap s'.heap) (hok : HOk X.prog X.w H' s'.heap) (hg : AllBare s'.gens)
    (hch : ∀ b ∈ ch, (b ∈ X.ex ∨ X.s₀.heap.objs.size ≤ b) ∧ b ≠ X.env.locals ∧ (∀ x c, X.env.cells.lookup x = some c → c ≠ b) ∧ ∀ p ∈ X.pn ++ pins, p.1 ≠ b) : Inv X pins σ H' s' := by
  obtain ⟨h', g', d', t', o'⟩ := s'
  have e : o' = s.os := ho
  subst e
  exact I.call (g' := g') (t' := t') (d' := d') u hok hg hch
end

noncomputable abbrev XK := Value → Option Addr → Hp → Prop
noncomputable abbrev St := List (Option V)
noncomputable abbrev VK := V → Hp → Prop
noncomputable abbrev TE := St → Hp → VK → Prop
noncomputable abbrev TT := St → Hp → (Bool → Hp → Prop) → Prop
noncomputable abbrev TA := St → Hp → (List V → Hp → Prop) → Prop
set_option genInjectivity false in
structure Ends where
  nx : St → Hp → Prop
  rt : VK
  bk : St → Hp → Prop := fun _ _ => False
  ct : St → Hp → Prop := fun _ _ => False
noncomputable abbrev TS := Ends → St → Hp → Prop

noncomputable def EP (X : Cx) (pins : List (Addr × Obj)) (σ : St) (Q : VK) (u : Value) (s' : Shared) : Prop := ∃ v H', Inv X pins σ H' s' ∧ RelV v u ∧ Q v H'
noncomputable def TP (X : Cx) (pins : List (Addr × Obj)) (σ : St) (Q : Bool → Hp → Prop) (b : Bool) (s' : Shared) : Prop := ∃ H', Inv X pins σ H' s' ∧ Q b H'
noncomputable def AP (X : Cx) (pins : List (Addr × Obj)) (σ : St) (Q : List V → Hp → Prop) (us : List Value) (s' : Shared) : Prop := ∃ vs H', Inv X pins σ H' s' ∧ Vals vs us ∧ Q vs H'
noncomputable def SP (X : Cx) (pins : List (Addr × Obj)) (D : Ends) (f : Flow) (s' : Shared) : Prop :=
  match f with
  | .next => ∃ σ' H', Inv X pins σ' H' s' ∧ D.nx σ' H'
  | .brk => ∃ σ' H', Inv X pins σ' H' s' ∧ D.bk σ' H'
  | .cont => ∃ σ' H', Inv X pins σ' H' s' ∧ D.ct σ' H'
  | .ret u => ∃ v σ' H', Inv X pins σ' H' s' ∧ RelV v u ∧ D.rt v H'

noncomputable def PE (X : Cx) (e : Expr) (t : TE) : Prop :=
  ∀ (pins : List (Addr × Obj)) (s : Shared) (σ : St) (H : Hp) (Q : VK), Inv X pins σ H s → t σ H Q → wpAny (model X.prog X.w) X.A (eval e X.env) (EP X pins σ Q) X.xe s
noncomputable def PT (X : Cx) (e : Expr) (t : TT) : Prop :=
  ∀ (pins : List (Addr × Obj)) (s : Shared) (σ : St) (H : Hp) (Q : Bool → Hp → Prop), Inv X pins σ H s → t σ H Q → wpAny (model X.prog X.w) X.A (isTrue e X.env (eval e X.env)) (TP X pins σ Q) X.xe s
noncomputable def PW (X : Cx) (e : Expr) (t : TT) : Prop :=
  ∀ (whole : Sem Value) (pins : List (Addr × Obj)) (s : Shared) (σ : St) (H : Hp) (Q : Bool → Hp → Prop), Inv X pins σ H s → t σ H Q → wpAny (model X.prog X.w) X.A (isTrue e X.env whole) (TP X pins σ Q) X.xe s
theorem PW.pt {X : Cx} {e : Expr} {t : TT} (h : PW X e t) : PT X e t := h _
noncomputable def PA (X : Cx) (es : List Expr) (t : TA) : Prop :=
  ∀ (pos : Pos) (pins : List (Addr × Obj)) (s : Shared) (σ : St) (H : Hp) (Q : List V → Hp → Prop), Inv X pins σ H s → t σ H Q → wpAny (model X.prog X.w) X.A (spliced (backTo pos (starEach es X.env))) (AP X pins σ Q) X.xe s
noncomputable def PS (X : Cx) (st : Stmt) (t : TS) : Prop :=
  ∀ (pins : List (Addr × Obj)) (s : Shared) (σ : St) (H : Hp) (D : Ends), Inv X pins σ H s → t D σ H → wpAny (model X.prog X.w) X.A (exec st X.env) (SP X pins D) X.xe s
noncomputable def PSs (X : Cx) (st : List Stmt) (t : TS) : Prop :=
  ∀ (pins : List (Addr × Obj)) (s : Shared) (σ : St) (H : Hp) (D : Ends), Inv X pins σ H s → t D σ H → wpAny (model X.prog X.w) X.A (execs st X.env) (SP X pins D) X.xe s
theorem thn {α : Type} {t : Sem α} {Q Q' : α → Shared → Prop} {M : Model} {A : Around} {E : Value → Shared → Prop} {s : Shared} (h : wpAny M A t Q E s) (hQ : ∀ a s, Q a s → Q' a s) : wpAny M A t Q' E s := wpAny_mono h hQ fun _ _ x => x
end L2

namespace L2
open PySem PySem.Spec PyProof.Rows
section
variable {X : Cx}

noncomputable def tVar (i : Nat) : TE := fun σ H Q => ∃ v, σ[i]? = some (some v) ∧ Q v H
noncomputable def tC (v : V) : TE := fun _ H Q => Q v H
theorem pe_var {i : Nat} {x : Str} {pos : Pos} (hN : X.N[i]? = some x) (hv : Vis X.env.scope x) (hd : (x == ("__debug__" : Str)) = false := by decide) (hcd : (x == ("__classdict__" : Str)) = false := by decide) : PE X (.Name x pos) (tVar i) := by
  intro pins s σ H Q I h
  obtain ⟨v, e, h⟩ := h
  obtain ⟨m, hn, hl⟩ := I.loc
  obtain ⟨u, r, l⟩ := hl i x v hN e hv
  have fin : EP X pins σ Q u s := ⟨v, H, I, r, h⟩
  rcases l with ⟨hk, hm⟩ | ⟨hk, c, hc, hcell⟩
  · exact wpAny_Name (wpAny_loadName_local I.ok.kind hk hn hm fin) hd
  · rcases hk with hk | hk
    · exact wpAny_Name (wpAny_loadName_cell I.ok.kind hk hc hcell fin) hd
    · exact wpAny_Name (wpAny_loadName_free I.ok.kind hk hc hcell fin hcd) hd
theorem pe_int {i j pos} : PE X (.Constant (.int i) j pos) (tC (.int i)) := fun _ _ _ H _ I h => wpAny_Constant_int ⟨.int i, H, I.tok _, ⟨_, rfl⟩, h⟩
theorem pe_bl {b j pos} : PE X (.Constant (.bool b) j pos) (tC (.bl b)) := fun _ _ _ H _ I h => Constant_bool ⟨.bl b, H, I, rfl, h⟩
theorem pe_non {j pos} : PE X (.Constant .none j pos) (tC .non) := fun _ _ _ H _ I h => Constant_none ⟨.non, H, I, rfl, h⟩
theorem pe_str {x j pos} : PE X (.Constant (.str x) j pos) (tC (.str x)) := fun _ _ _ H _ I h => Calls.Constant_str ⟨.str x, H, I.tok _, ⟨_, rfl⟩, h⟩

noncomputable def Gl (X : Cx) (x : Str) : Prop := X.env.kindOf x = some .globalImplicit
theorem ld_glob {E : Value → Shared → Prop} {pins : List (Addr × Obj)} {s : Shared} {σ : St} {H : Hp} {x : Str} {u : Value} {pos : Pos} {Q : Value → Shared → Prop} (I : Inv X pins σ H s) (hg : Gl X x) (hm : X.mg x = some u) (h : Q u s)
    (hd : (x == ("__debug__" : Str)) = false := by decide) : wpAny (model X.prog X.w) X.A (eval (.Name x pos) X.env) Q E s :=
  Calls.Name_function_global I.ok.kind hg (Calls.loadGlobal_global (by rw [I.ok.glob]; exact I.mod.glob.keeps I.bk) hm h) hd
theorem ld_blt {E : Value → Shared → Prop} {pins : List (Addr × Obj)} {s : Shared} {σ : St} {H : Hp} {x : Str} {u : Value} {pos : Pos} {Q : Value → Shared → Prop} (I : Inv X pins σ H s) (hg : Gl X x) (hm : X.mg x = none) (hv : bootBuiltins x = some u) (h : Q u s)
    (hn : x ≠ "__name__" := by decide) (hd : (x == ("__debug__" : Str)) = false := by decide) : wpAny (model X.prog X.w) X.A (eval (.Name x pos) X.env) Q E s := by
  obtain ⟨mb, h1, h2⟩ := I.mod.blt
  exact Calls.Name_function_global I.ok.kind hg (Calls.loadGlobal_builtin (by rw [I.ok.glob]; exact I.mod.glob.keeps I.bk) hm (by rw [I.ok.blt]; exact h1.keeps I.bk) ((h2 x hn).trans hv) h) hd
theorem pe_glob {x : Str} {v : V} {u : Value} {pos : Pos} (hg : Gl X x) (hm : X.mg x = some u) (r : RelV v u) (hd : (x == ("__debug__" : Str)) = false := by decide) : PE X (.Name x pos) (tC v) :=
  fun _ _ _ H _ I h => ld_glob I hg hm ⟨v, H, I, r, h⟩ hd
theorem pe_bltn {x : Str} {v : V} {u : Value} {pos : Pos} (hg : Gl X x) (hm : X.mg x = none) (hv : bootBuiltins x = some u) (r : RelV v u) (hn : x ≠ "__name__" := by decide) (hd : (x == ("__debug__" : Str)) = false := by decide) : PE X (.Name x pos) (tC v) :=
  fun _ _ _ H _ I h => ld_blt I hg hm hv ⟨v, H, I, r, h⟩ hn hd

variable {a b : Expr} {ta tb : TE} {pos : Pos}
noncomputable def PC (X : Cx) (op : CmpOp) (a b : Expr) (t : TE) : Prop :=
  ∀ (pins : List (Addr × Obj)) (s : Shared) (σ : St) (H : Hp) (Q : VK), Inv X pins σ H s → t σ H Q →
    wpAny (model X.prog X.w) X.A (eval a X.env) (fun v s₁ => wpAny (model X.prog X.w) X.A (eval b X.env) (fun u s₂ => wpAny (model X.prog X.w) X.A (compareOp op v u) (EP X pins σ Q) X.xe s₂) X.xe s₁) X.xe s
theorem nobehind (b : Expr) {op : CmpOp} (h : op ≠ .In) (h2 : op ≠ .NotIn) : behindInMarks op b = false := by
  have e1 : (op == CmpOp.In) = false := by cases op <;> first | rfl | exact absurd rfl h
  have e2 : (op == CmpOp.NotIn) = false := by cases op <;> first | rfl | exact absurd rfl h2
  cases b <;> simp [behindInMarks, e1, e2]
noncomputable def tNotN (ta : TE) : TE := fun σ H Q => ta σ H fun x H1 => Q (.bl (!decide (x = .non))) H1
theorem RelV.none_iff {x : V} {v : Value} (r : RelV x v) : (v == Value.none) = decide (x = .non) := by
  cases x with
  | non => cases r; rfl
  | bl _ => cases r; rfl
  | int _ => obtain ⟨t, rfl⟩ := r; rfl
  | str _ => obtain ⟨t, rfl⟩ := r; rfl
  | byt _ => obtain ⟨t, rfl⟩ := r; rfl
  | flt _ => obtain ⟨t, rfl⟩ := r; rfl
  | ref _ => cases r; rfl
  | ty _ => cases r; rfl
theorem pc_notN {j pos'} (ha : PE X a ta) : PC X .IsNot a (.Constant .none j pos') (tNotN ta) := by
  intro pins s σ H Q I h
  refine thn (ha pins s σ H _ I h) fun v s1 ⟨x, H1, I1, r1, q1⟩ => ?_
  exact Constant_none (isnot_none_gen ⟨.bl _, H1, I1, by rw [r1.none_iff]; rfl, q1⟩)
noncomputable def tB (t : TE) : TT := fun σ H Q => t σ H fun x H1 => ∃ c, x = .bl c ∧ Q c H1
theorem pt_cmp {op : CmpOp} {t : TE} (h : PC X op a b t) (h1 : behindInMarks op b = false := by first | exact nobehind _ (by decide) (by decide) | rfl) : PT X (.Compare a [op] [b] pos) (tB t) := by
  intro pins s σ H Q I hw
  refine wpAny_isTrue_Compare1 (thn (h pins s σ H _ I hw) fun v s1 h1 => thn h1 fun u s2 h2 => thn h2 fun c s3 ⟨x, H1, I1, r1, q1⟩ => ?_) h1
  obtain ⟨d, rfl, q⟩ := q1
  cases r1
  exact wpAny_truthy_bool ⟨H1, I1, q⟩
theorem pt_val {e : Expr} {t : TE} (h : PE X e t) (he : ∀ whole, isTrue e X.env whole = (do let v ← whole; standAt e.pos; holding [v] (truthy v)) := by intro _; rfl) : PT X e (tB t) := by
  intro pins s σ H Q I hw
  refine isTrue_plain (thn (h pins s σ H _ I hw) fun v s1 ⟨x, H1, I1, r1, q1⟩ => ?_) (he _)
  obtain ⟨d, rfl, q⟩ := q1
  cases r1
  exact wpAny_truthy_bool ⟨H1, I1, q⟩

variable {tA tB' : TT} {rest : List Expr}
noncomputable def tAnd (t u : TT) : TT := fun σ H Q => t σ H fun c H1 => if c = true then u σ H1 Q else Q false H1
noncomputable def tOr (t u : TT) : TT := fun σ H Q => t σ H fun c H1 => if c = true then Q true H1 else u σ H1 Q
noncomputable def tNot (t : TT) : TT := fun σ H Q => t σ H fun c H1 => Q (!c) H1
theorem pw_and1 (ha : PT X a tA) : PW X (.BoolOp .And [a] pos) tA := by
  intro wh pins s σ H Q I h
  refine isTrue_and (thn (ha pins s σ H Q I h) fun c s1 e => ?_)
  cases c with
  | true => exact isTrue_and_nil e
  | false => exact e
theorem pw_or1 (ha : PT X a tA) : PW X (.BoolOp .Or [a] pos) tA := by
  intro wh pins s σ H Q I h
  refine isTrue_or (thn (ha pins s σ H Q I h) fun c s1 e => ?_)
  cases c with
  | false => exact isTrue_or_nil e
  | true => exact e
theorem pw_and (ha : PT X a tA) (hb : PW X (.BoolOp .And (b :: rest) pos) tB') : PW X (.BoolOp .And (a :: b :: rest) pos) (tAnd tA tB') := by
  intro wh pins s σ H Q I h
  refine isTrue_and (thn (ha pins s σ H _ I h) fun c s1 ⟨H1, I1, q1⟩ => ?_)
  cases c with
  | true => exact hb wh pins s1 σ H1 Q I1 q1
  | false => exact ⟨H1, I1, q1⟩
theorem pw_or (ha : PT X a tA) (hb : PW X (.BoolOp .Or (b :: rest) pos) tB') : PW X (.BoolOp .Or (a :: b :: rest) pos) (tOr tA tB') := by
  intro wh pins s σ H Q I h
  refine isTrue_or (thn (ha pins s σ H _ I h) fun c s1 ⟨H1, I1, q1⟩ => ?_)
  cases c with
  | true => exact ⟨H1, I1, q1⟩
  | false => exact hb wh pins s1 σ H1 Q I1 q1
theorem pt_not (ha : PT X a tA) : PT X (.UnaryOp .Not a pos) (tNot tA) := by
  intro pins s σ H Q I h
  exact isTrue_not (ha pins s σ H (fun c H1 => Q (!c) H1) I h)
noncomputable def tAndV (ta tb : TE) : TE := fun σ H Q => ta σ H fun x H1 => ∃ c, x = .bl c ∧ if c = true then tb σ H1 Q else Q (.bl false) H1
theorem pe_one {op} {t : TE} (h : PE X a t) : PE X (.BoolOp op [a] pos) t := fun pins s σ H Q I hw => BoolOp_one (h pins s σ H Q I hw)
theorem pe_and (ha : PE X a ta) (hb : PE X (.BoolOp .And (b :: rest) pos) tb) : PE X (.BoolOp .And (a :: b :: rest) pos) (tAndV ta tb) := by
  intro pins s σ H Q I h
  refine BoolOp_and (thn (ha pins s σ H _ I h) fun v s1 ⟨x, H1, I1, r1, q1⟩ => ?_)
  obtain ⟨c, rfl, q1⟩ := q1
  cases r1
  refine wpAny_truthy_bool ?_
  cases c with
  | true => exact hb pins s1 σ H1 Q I1 q1
  | false => exact ⟨.bl false, H1, I1, rfl, q1⟩
end
end L2

namespace L2
open PySem PySem.Spec PyProof.Rows

noncomputable def SqL (K : PySem.W.Frag) (H : Hp) (a : Addr) (xs : List V) : Prop :=
  Rd H a (.lst xs) ∨
    ∃ (o : Obj) (its : Array Value) (n : Nat), K.lookup a = some o ∧ o.cls = .type "list" ∧ o.dict = none ∧ o.data = .seq its n ∧ its.size ≤ sizeLine ∧ Vals xs its.toList
noncomputable def SqT (K : PySem.W.Frag) (H : Hp) (a : Addr) (xs : List V) : Prop :=
  Rd H a (.tup xs) ∨
    ∃ (o : Obj) (its : Array Value) (n : Nat), K.lookup a = some o ∧ o.cls = .type "tuple" ∧ o.data = .seq its n ∧ its.size ≤ sizeLine ∧ Vals xs its.toList
noncomputable def absV : Value → Option V
  | .none => some .non
  | .bool b => some (.bl b)
  | .int i _ => some (.int i)
  | .str x _ => some (.str x)
  | .bytes b _ => some (.byt b)
  | .float b _ => some (.flt b)
  | .ref a => some (.ref a)
  | .type n => some (.ty n)
  | _ => none
theorem RelV.abs {x : V} {u : Value} (r : RelV x u) : absV u = some x := by
  cases x with
  | non => cases r; rfl
  | bl _ => cases r; rfl
  | int _ => obtain ⟨t, rfl⟩ := r; rfl
  | str _ => obtain ⟨t, rfl⟩ := r; rfl
  | byt _ => obtain ⟨t, rfl⟩ := r; rfl
  | flt _ => obtain ⟨t, rfl⟩ := r; rfl
  | ref _ => cases r; rfl
  | ty _ => cases r; rfl
theorem RelV.inj {x y : V} {u : Value} (r : RelV x u) (q : RelV y u) : x = y := Option.some.inj (r.abs.symm.trans q.abs)
theorem Vals.inj : ∀ {xs ys : List V} {us : List Value}, Vals xs us → Vals ys us → xs = ys
  | _, _, _, .nil, .nil => rfl
  | _, _, _, .cons r t, .cons r' t' => by rw [r.inj r', Vals.inj t t']
section
variable {X : Cx} {pins : List (Addr × Obj)} {σ : St} {H : Hp} {s : Shared} {a : Addr} {xs ys : List V}
theorem SqL.of {K : PySem.W.Frag} (h : H a = some (.lst xs)) : SqL K H a xs := .inl (.inl h)
theorem SqT.of {K : PySem.W.Frag} (h : H a = some (.tup xs)) : SqT K H a xs := .inl (.inl h)
theorem Inv.list (I : Inv X pins σ H s) (h : SqL X.K H a xs) : ∃ its : List Value, Vals xs its ∧ PlainL s.heap a its.toArray ∧ xs.length ≤ sizeLine := by
  rcases h with h | ⟨o, its, n, hk, hc, hd, hs, hz, r⟩
  · obtain ⟨z, its, n, r, e⟩ := h.ok I.hok
    exact ⟨its, r, ⟨_, n, e, rfl, rfl, rfl⟩, z⟩
  · refine ⟨its.toList, r, ⟨o, n, I.kIn a o hk, hc, hd, by simpa using hs⟩, ?_⟩
    have e := r.length
    simp only [Array.length_toList] at e
    omega
theorem Inv.tuple (I : Inv X pins σ H s) (h : SqT X.K H a xs) : ∃ its : List Value, Vals xs its ∧ IsTup s.heap a its.toArray ∧ xs.length ≤ sizeLine := by
  rcases h with h | ⟨o, its, n, hk, hc, hs, hz, r⟩
  · obtain ⟨z, its, r, p⟩ := h.ok I.hok
    exact ⟨its, r, p, z⟩
  · refine ⟨its.toList, r, ⟨o, I.kIn a o hk, hc, n, by simpa using hs⟩, ?_⟩
    have e := r.length
    simp only [Array.length_toList] at e
    omega
theorem Inv.list_inj (I : Inv X pins σ H s) (h : SqL X.K H a xs) (h' : SqL X.K H a ys) : xs = ys := by
  obtain ⟨its, r, ⟨o, n, e, _, _, d⟩, _⟩ := I.list h
  obtain ⟨its', r', ⟨o', n', e', _, _, d'⟩, _⟩ := I.list h'
  rw [e] at e'; cases e'
  rw [d] at d'
  injection d' with d1 _
  have : its = its' := by simpa using congrArg Array.toList d1
  subst this
  exact r.inj r'
end

noncomputable abbrev Cx.wish (X : Cx) (E : Value → Shared → Prop) : Cx := { X with xe := E }
noncomputable abbrev Cx.nox (X : Cx) : Cx := X.wish fun _ _ => False
theorem Cx.Ok.wish {X : Cx} (ok : X.Ok) (E : Value → Shared → Prop) : (X.wish E).Ok :=
  ⟨ok.mod, ok.kind, ok.glob, ok.blt, ok.above, ok.inj, ok.has, ok.cab, ok.hd, ok.frames, ok.stk, ok.exf, ok.bs, ok.bsz, ok.noex, ok.exfs, ok.funs, ok.frf⟩
theorem Cx.Ok.unwish {X : Cx} {E : Value → Shared → Prop} (ok : (X.wish E).Ok) : X.Ok :=
  ⟨ok.mod, ok.kind, ok.glob, ok.blt, ok.above, ok.inj, ok.has, ok.cab, ok.hd, ok.frames, ok.stk, ok.exf, ok.bs, ok.bsz, ok.noex, ok.exfs, ok.funs, ok.frf⟩
section
variable {X : Cx} {pins : List (Addr × Obj)} {σ : St} {H : Hp} {s : Shared} {E : Value → Shared → Prop}
theorem Inv.wish (I : Inv X pins σ H s) (E : Value → Shared → Prop) : Inv (X.wish E) pins σ H s := ⟨I.ok.wish E, I.os, I.bare, I.base, I.loc, I.cell, I.free, I.freeC, I.pin, I.hok, I.len⟩
theorem Inv.unwish (I : Inv (X.wish E) pins σ H s) : Inv X pins σ H s := ⟨I.ok.unwish, I.os, I.bare, I.base, I.loc, I.cell, I.free, I.freeC, I.pin, I.hok, I.len⟩
theorem SP.unwish {D : Ends} {f : Flow} {s' : Shared} (h : SP (X.wish E) pins D f s') : SP X pins D f s' := by
  cases f with
  | next => obtain ⟨σ', H', I, q⟩ := h; exact ⟨σ', H', I.unwish, q⟩
  | brk => obtain ⟨σ', H', I, q⟩ := h; exact ⟨σ', H', I.unwish, q⟩
  | cont => obtain ⟨σ', H', I, q⟩ := h; exact ⟨σ', H', I.unwish, q⟩
  | ret u => obtain ⟨v, σ', H', I, r, q⟩ := h; exact ⟨v, σ', H', I.unwish, r, q⟩
theorem PSs.nox {st : List Stmt} {t : TS} (h : PSs X.nox st t) : PSs X st t := fun pins s σ H D I hw =>
  wpAny_mono (h pins s σ H D (I.wish _) hw) (fun _ _ q => q.unwish) fun _ _ z => False.elim z
end

section
variable {X : Cx} {st : Stmt} {rest : List Stmt} {t u : TS} {e : Expr} {te : TE} {pos : Pos}
noncomputable def tNext : TS := fun D σ H => D.nx σ H
noncomputable def tSeq (t u : TS) : TS := fun D σ H => t { D with nx := u D } σ H
theorem pss_nil : PSs X [] tNext := fun _ _ σ H _ I h => wpAny_execs_nil ⟨σ, H, I, h⟩
theorem pss_cons (h1 : PS X st t) (h2 : PSs X rest u) : PSs X (st :: rest) (tSeq t u) := by
  intro pins s σ H D I h
  refine wpAny_execs_cons (thn (h1 pins s σ H { D with nx := u D } I h) fun f s1 q => ?_)
  cases f with
  | next =>
    obtain ⟨σ', H', I', q⟩ := q
    exact h2 pins s1 σ' H' D I' q
  | ret v => exact q
  | brk => exact q
  | cont => exact q
theorem pss_one (h1 : PS X st t) : PSs X [st] t := by
  intro pins s σ H D I h
  refine wpAny_execs_cons (thn (h1 pins s σ H D I h) fun f s1 q => ?_)
  cases f with
  | next => exact wpAny_execs_nil q
  | ret v => exact q
  | brk => exact q
  | cont => exact q
theorem Inv.quiet {pins : List (Addr × Obj)} {σ : St} {H : Hp} {s : Shared} (I : Inv X pins σ H s) : interactive X.env = false := by simp [interactive, I.ok.kind]
noncomputable def tDrop (te : TE) : TS := fun D σ H => te σ H fun _ H1 => D.nx σ H1
theorem ps_expr (he : PE X e te) (hs : swapsWith e none pos.line X.env = pure false := by rfl) : PS X (.Expr e pos) (tDrop te) := by
  intro pins s σ H D I h
  exact wpAny_Expr_any (thn (he pins s σ H _ I h) fun v s1 ⟨x, H1, I1, r1, q1⟩ => ⟨σ, H1, I1, q1⟩) I.quiet hs
noncomputable def tRet (te : TE) : TS := fun D σ H => te σ H D.rt
theorem ps_ret (he : PE X e te) : PS X (.Return (some e) pos) (tRet te) := by
  intro pins s σ H D I h
  exact wpAny_Return_some (thn (he pins s σ H _ I h) fun v s1 ⟨x, H1, I1, r1, q1⟩ => ⟨x, σ, H1, I1, r1, q1⟩)
noncomputable def tIfS (c : TT) (t u : TS) : TS := fun D σ H => c σ H fun b H1 => if b = true then t D σ H1 else u D σ H1
theorem ps_if {c : Expr} {a b : List Stmt} {tc : TT} (hc : PT X c tc) (ha : PSs X a t) (hb : PSs X b u) : PS X (.If c a b pos) (tIfS tc t u) := by
  intro pins s σ H D I h
  refine wpAny_If (thn (hc pins s σ H _ I h) fun d s1 ⟨H1, I1, q1⟩ => ?_)
  cases d with
  | true => exact ha pins s1 σ H1 D I1 q1
  | false => exact hb pins s1 σ H1 D I1 q1
end

noncomputable abbrev TG := V → St → Hp → (St → Hp → Prop) → Prop
noncomputable abbrev TGs := List V → St → Hp → (St → Hp → Prop) → Prop
noncomputable def PG (X : Cx) (target : Expr) (t : TG) : Prop :=
  ∀ (pins : List (Addr × Obj)) (s : Shared) (σ : St) (H : Hp) (v : V) (u : Value) (Q : St → Hp → Prop), Inv X pins σ H s → RelV v u → t v σ H Q →
    wpAny (model X.prog X.w) X.A (assign target X.env u) (fun _ s' => ∃ σ' H', Inv X pins σ' H' s' ∧ Q σ' H') X.xe s
noncomputable def PGs (X : Cx) (ts : List Expr) (t : TGs) : Prop :=
  ∀ (pins : List (Addr × Obj)) (s : Shared) (σ : St) (H : Hp) (vs : List V) (us : List Value) (Q : St → Hp → Prop), Inv X pins σ H s → Vals vs us → t vs σ H Q →
    wpAny (model X.prog X.w) X.A (assignInOrder ((assignEach ts X.env).map (·.2)) us) (fun _ s' => ∃ σ' H', Inv X pins σ' H' s' ∧ Q σ' H') X.xe s
noncomputable abbrev TSet := V → V → V → Hp → (Hp → Prop) → Prop
noncomputable def PSet (X : Cx) (t : TSet) : Prop :=
  ∀ (pins : List (Addr × Obj)) (s : Shared) (σ : St) (H : Hp) (o i v : V) (ov iv u : Value) (Q : Hp → Prop), Inv X pins σ H s → RelV o ov → RelV i iv → RelV v u → t o i v H Q →
    wpAny (model X.prog X.w) X.A (setItem ov iv u) (fun _ s' => ∃ H', Inv X pins σ H' s' ∧ Q H') X.xe s
section
variable {X : Cx} {pos : Pos}
noncomputable def gName (i : Nat) : TG := fun v σ H Q => Q (σ.set i (some v)) H
theorem pg_name {i : Nat} {x : Str} (hN : X.N.Nodup) (hi : X.N[i]? = some x) (hx : Loc X.env.scope x) (hf : X.fn x = true ∨ X.env.scope.names.lookup x = some .local := by first | exact .inl rfl | exact .inr rfl | assumption) : PG X (.Name x pos) (gName i) := by
  intro pins s σ H v u Q I r h
  exact wpAny_assign_Name (store_ok I hN hi hx r (fun s' I' => ⟨_, H, I', h⟩) hf)
noncomputable def gNil : TGs := fun vs σ H Q => vs = [] ∧ Q σ H
noncomputable def gCons (t : TG) (u : TGs) : TGs := fun vs σ H Q => ∃ v r, vs = v :: r ∧ t v σ H fun σ' H' => u r σ' H' Q
theorem pgs_nil : PGs X [] gNil := by
  intro pins s σ H vs us Q I r h
  obtain ⟨e, h⟩ := h
  subst e
  cases r
  exact assignInOrder_nil ⟨σ, H, I, h⟩
theorem pgs_cons {e : Expr} {es : List Expr} {t : TG} {u : TGs} (h1 : PG X e t) (h2 : PGs X es u)
    (hs : (assignEach (e :: es) X.env).map (·.2) = assign e X.env :: (assignEach es X.env).map (·.2) := by rfl) : PGs X (e :: es) (gCons t u) := by
  intro pins s σ H vs us Q I r h
  obtain ⟨v, vr, e1, h⟩ := h
  subst e1
  cases r with
  | cons r rr =>
    rw [hs]
    refine assignInOrder_cons (thn (h1 pins s σ H _ _ _ I r h) fun _ s1 ⟨σ1, H1, I1, q1⟩ => ?_)
    exact h2 pins s1 σ1 H1 _ _ Q I1 rr q1
noncomputable def gTup (K : PySem.W.Frag) (n : Nat) (t : TGs) : TG := fun v σ H Q => ∃ a xs, v = .ref a ∧ SqT K H a xs ∧ xs.length = n ∧ t xs σ H Q
theorem pg_tup {es : List Expr} {k : Nat} {t : TGs} {n : Nat} (hc : X.calm = true) (h : PGs X es t)
    (hn : (assignEach es X.env).length = n := by rfl) (hst : (assignEach es X.env).findIdx? (·.1) = none := by rfl) : PG X (.Tuple es k pos) (gTup X.K n t) := by
  intro pins s σ H v u Q I r hw
  obtain ⟨a, xs, e1, hq, hl, hw⟩ := hw
  subst e1
  cases r
  obtain ⟨its, rv, ht, hz⟩ := I.tuple hq
  refine assign_Tuple_tuple (I.ok.hd hc) ht (by simp [hn, ← hl, rv.length]) hst fun h' hx => ?_
  have I1 : Inv X pins σ H { s with heap := h' } := I.kept (t' := s.toks) fun b o e => hx b o (Nat.ne_of_lt (Heap.lt_size e)) e
  exact h pins _ σ H xs _ Q I1 (by simpa using rv) hw
noncomputable def tAsg (te : TE) (g : TG) : TS := fun D σ H => te σ H fun x H1 => g x σ H1 D.nx
theorem ps_asg {tg e : Expr} {te : TE} {g : TG} (he : PE X e te) (hg : PG X tg g) (hs : swapsWithSole [tg] e pos.line X.env = pure false := by rfl) (hw : swappedStores [tg] e X.env = pure none := by rfl)
    (h1 : (assignEach [tg] X.env).map (·.2) = [assign tg X.env] := by rfl) : PS X (.Assign [tg] e pos) (tAsg te g) := by
  intro pins s σ H D I h
  refine wpAny_Assign_stores (thn (he pins s σ H _ I h) fun v s1 ⟨x, H1, I1, r1, q1⟩ => ?_) hs hw
  rw [h1]
  exact thn (hg pins s1 σ H1 x v _ I1 r1 q1) fun _ s2 q => q
theorem ps_set {i : Nat} {x : Str} {e : Expr} {te : TE} {pos' : Pos} (hN : X.N.Nodup) (hi : X.N[i]? = some x) (hx : Loc X.env.scope x) (he : PE X e te) (hs : swapsWith e (some (.Name x pos')) pos.line X.env = pure false := by rfl) (hf : X.fn x = true ∨ X.env.scope.names.lookup x = some .local := by first | exact .inl rfl | exact .inr rfl | assumption) :
    PS X (.Assign [.Name x pos'] e pos) (tAsg te (gName i)) := by
  intro pins s σ H D I h
  refine wpAny_Assign_Name (thn (he pins s σ H _ I h) fun v s1 ⟨y, H1, I1, r1, q1⟩ => ?_) hs
  exact store_ok I1 hN hi hx r1 (fun s2 I2 => ⟨_, H1, I2, q1⟩) hf
end

section
variable {X : Cx} {pos : Pos}
noncomputable def tWhile (c : TT) (tb : TS) : TS := fun D σ H => ∃ W : Nat → St → Hp → Prop, (∃ m, W m σ H) ∧ ∀ m σ H, W m σ H →
  c σ H fun b H1 => if b = true then ∃ N : St → Hp → Prop, (∀ σ' H', N σ' H' → ∃ m', m' < m ∧ W m' σ' H') ∧ tb { D with nx := N, ct := N, bk := D.nx } σ H1 else D.nx σ H1
theorem ps_while {c : Expr} {body : List Stmt} {tc : TT} {tb : TS} (hp : PassesOwn (model X.prog X.w) X.A X.env X.xe) (hc : PT X c tc) (hb : PSs X body tb) : PS X (.While c body [] pos) (tWhile tc tb) := by
  intro pins s σ H D I h
  obtain ⟨W, ⟨m0, w0⟩, turn⟩ := h
  refine wpAny_While (codeAny_whileLoop (fun n s' => ∃ σ' H', Inv X pins σ' H' s' ∧ W n σ' H') ?_ m0 ⟨σ, H, I, w0⟩)
  rintro n s1 ⟨σ1, H1, I1, w1⟩
  refine wpAny_passesOwn hp (thn (hc pins s1 σ1 H1 _ I1 (turn n σ1 H1 w1)) fun b s2 ⟨H2, I2, q2⟩ => ?_)
  cases b with
  | true =>
    obtain ⟨N, hN, q2⟩ := q2
    rw [if_pos rfl]
    refine wpAny_passesOwn hp (thn (hb pins s2 σ1 H2 _ I2 q2) fun f s3 q3 => ?_)
    cases f with
    | next =>
      obtain ⟨σ3, H3, I3, n3⟩ := q3
      obtain ⟨m', hm, w3⟩ := hN σ3 H3 n3
      exact ⟨m', hm, σ3, H3, I3, w3⟩
    | cont =>
      obtain ⟨σ3, H3, I3, n3⟩ := q3
      obtain ⟨m', hm, w3⟩ := hN σ3 H3 n3
      exact ⟨m', hm, σ3, H3, I3, w3⟩
    | brk => exact q3
    | ret v => exact q3
  | false =>
    rw [if_neg Bool.false_ne_true]
    exact wpAny_execs_nil ⟨σ1, H2, I2, q2⟩
end

set_option genInjectivity false in
structure It where
  go : Nat → Hp → Prop
  yld : Nat → Hp → V → Hp → Prop
  stop : Nat → Hp → Prop
noncomputable def FpOk (X : Cx) (pins : List (Addr × Obj)) (H : Hp) (b : Addr) : Prop :=
  H b = none ∧ b ≠ X.env.locals ∧ b ∉ X.fs ∧ (b ∈ X.ex ∨ X.s₀.heap.objs.size ≤ b) ∧ (∀ x c, X.env.cells.lookup x = some c → c ≠ b) ∧ ∀ p ∈ X.pn ++ pins, p.1 ≠ b
theorem Inv.fpOk {X : Cx} {pins : List (Addr × Obj)} {σ : St} {H H' : Hp} {s : Shared} {b : Addr} (I : Inv X pins σ H s) (hb : s.heap.objs.size ≤ b) (hn : H' b = none) : FpOk X pins H' b := by
  refine ⟨hn, Nat.ne_of_gt (Nat.lt_of_lt_of_le I.lt hb), I.nofs hb, .inr (Nat.le_trans I.sz hb), fun x c e z => ?_, fun p hp z => ?_⟩
  · obtain ⟨v, q⟩ := I.cell x c e
    exact absurd (Nat.lt_of_lt_of_le q.lt (by rw [z]; exact hb)) (Nat.lt_irrefl _)
  · exact absurd (Nat.lt_of_lt_of_le (Heap.lt_size (I.pin p hp).1) (by rw [z]; exact hb)) (Nat.lt_irrefl _)
set_option genInjectivity false in
structure Turn (P : Program) (w : World) (K : PySem.W.Frag) (tg : Expr) (J : It) (fp : List Addr) (it : Addr) (tn : Nat → Heap → Prop) : Prop where
  mem : it ∈ fp
  obj : ∀ i h, tn i h → ∀ b ∈ fp, ∃ o, h.get? b = some o ∧ ∀ v, o.data ≠ .cell v
  keep : ∀ i h h', tn i h → (∀ b ∈ fp, ∀ o, h.get? b = some o → h'.get? b = some o) → tn i h'
  item : ∀ (X : Cx), X.prog = P → X.w = w → X.K = K → X.calm = true → ∀ (i : Nat) (pins : List (Addr × Obj)) (s : Shared) (σ : St) (H : Hp) (E : Value → Shared → Prop), Inv X pins σ H s → (∀ b ∈ fp, FpOk X pins H b) → tn i s.heap → J.go i H →
    wpAny (model P w) X.A (pyNext (.ref it)) (fun r s1 => ∃ u, r = some u ∧
      wpAny (model P w) X.A (letOwnedTupleGo tg (.ref it) u) (fun _ s2 => ∃ x H', Inv X pins σ H' s2 ∧ RelV x u ∧ J.yld i H x H' ∧ tn (i + 1) s2.heap ∧ ∀ b ∈ fp, H' b = none) E s1) E s
  done : ∀ (X : Cx), X.prog = P → X.w = w → X.K = K → X.calm = true → ∀ (i : Nat) (pins : List (Addr × Obj)) (s : Shared) (σ : St) (H : Hp) (E : Value → Shared → Prop), Inv X pins σ H s → (∀ b ∈ fp, FpOk X pins H b) → tn i s.heap → J.stop i H →
    wpAny (model P w) X.A (pyNext (.ref it)) (fun r s1 => r = none ∧ Inv X pins σ H s1) E s
  self : ∀ (A : Around) (i : Nat) (s : Shared) (Q : Value → Shared → Prop) (E : Value → Shared → Prop), tn i s.heap → Q (.ref it) s → wpAny (model P w) A (pyIter (.ref it)) Q E s
noncomputable abbrev TI := St → Hp → (It → Hp → Prop) → Prop
noncomputable def PIE (X : Cx) (pins : List (Addr × Obj)) (σ : St) (tg : Expr) (R : It → Hp → Prop) (itv : Value) (s2 : Shared) : Prop :=
  ∃ (it : Addr) (fp : List Addr) (tn : Nat → Heap → Prop) (J : It) (H' : Hp), itv = .ref it ∧ Inv X pins σ H' s2 ∧ Turn X.prog X.w X.K tg J fp it tn ∧ tn 0 s2.heap ∧ (∀ b ∈ fp, FpOk X pins H' b) ∧ R J H'
noncomputable def PI (X : Cx) (tg iter : Expr) (wi : TI) : Prop :=
  ∀ (pins : List (Addr × Obj)) (s : Shared) (σ : St) (H : Hp) (R : It → Hp → Prop), Inv X pins σ H s → wi σ H R →
    wpAny (model X.prog X.w) X.A (eval iter X.env) (fun v s1 => wpAny (model X.prog X.w) X.A (pyIter v) (PIE X pins σ tg R) X.xe s1) X.xe s

theorem go_of {M : Model} {A : Around} {E : Value → Shared → Prop} {s : Shared} {tg : Expr} {it : Addr} {u : Value} {o : Obj} {n : String} {vs : Array Value} {Q : Unit → Shared → Prop} (ho : s.heap.get? it = some o) (hc : o.cls = .type n) (hd : o.data = .fields vs)
    (hn : ["enumerate", "zip", "dict_itemiterator", "dict_reverseitemiterator", "odict_iterator", "itertools.zip_longest", "itertools.pairwise"].contains n = false) (hQ : Q () s) : wpAny M A (letOwnedTupleGo tg (.ref it) u) Q E s := by
  unfold letOwnedTupleGo
  cases tg <;> first
    | exact wpAny_pure hQ
    | (cases u <;> first
        | exact wpAny_pure hQ
        | (refine wpAny_bind (wpAny_load ho ?_)
           rw [hc, hd]
           show wpAny M A (if (["enumerate", "zip", "dict_itemiterator", "dict_reverseitemiterator", "odict_iterator", "itertools.zip_longest", "itertools.pairwise"].contains n && vs[0]? == some (rawInt _)) = true then _ else _) Q E s
           rw [if_neg (by intro h; rw [hn, Bool.false_and] at h; cases h)]
           exact wpAny_pure hQ))

noncomputable def Itl (K : PySem.W.Frag) (a : Addr) : It :=
  ⟨fun i H => ∃ xs x, SqL K H a xs ∧ xs[i]? = some x, fun i H x H' => H' = H ∧ ∀ xs, SqL K H a xs → xs[i]? = some x, fun i H => ∃ xs, SqL K H a xs ∧ xs.length ≤ i⟩
noncomputable def Itr (lo : Int) (n : Nat) : It := ⟨fun i _ => i < n, fun i H x H' => H' = H ∧ x = .int (lo + i), fun i _ => n ≤ i⟩
theorem turn_list {P : Program} {w : World} {K : PySem.W.Frag} {tg : Expr} (a it : Addr) : Turn P w K tg (Itl K a) [it] it (fun i h => h.IsListIter it a i) where
  mem := by simp
  obj := fun i h st b hb => by
    have e : b = it := by simpa using hb
    subst e
    obtain ⟨o, e, c, d⟩ := st
    exact ⟨o, e, fun v z => by rw [d] at z; cases z⟩
  keep := fun i h h' st k => st.at fun o e => k it (by simp) o e
  item := by
    intro X hP hw hK hc i pins s σ H E I hf st hg
    subst hP hw hK
    obtain ⟨xs, x, hq, hx⟩ := hg
    obtain ⟨its, rv, p, hz⟩ := I.list hq
    obtain ⟨u, hu, ru⟩ := rv.get hx
    obtain ⟨f0, f1, f2, f3, f4, f5⟩ := hf it (by simp)
    refine wpAny_pyNext_list_item st p.isList (x := u) (by simpa using hu) fun h' st' sb => ?_
    have I1 : Inv X pins σ H { s with heap := h' } := I.turned (t' := s.toks) (fun b o hb e => (sb.2 b hb).trans e) f0 f1 f3 f4 f5
    obtain ⟨o, e, c, d⟩ := id st'
    exact ⟨u, rfl, go_of (s := { s with heap := h' }) e c d (by decide) ⟨x, H, I1, ru, ⟨rfl, fun ys hy => by rw [I.list_inj hy hq]; exact hx⟩, st', fun b hb => (hf b hb).1⟩⟩
  done := by
    intro X hP hw hK hc i pins s σ H E I hf st hg
    subst hP hw hK
    obtain ⟨xs, hq, hx⟩ := hg
    obtain ⟨its, rv, p, hz⟩ := I.list hq
    obtain ⟨f0, f1, f2, f3, f4, f5⟩ := hf it (by simp)
    have hl := rv.length
    exact wpAny_pyNext_list_end (I.ok.hd hc) st p.isList (by simp; omega) fun h' eb => ⟨rfl, I.turned (t' := s.toks) (fun b o hb e => eb b o hb e) f0 f1 f3 f4 f5⟩
  self := fun _ _ _ _ _ st h => wpAny_pyIter_listiter st h
theorem turn_range {P : Program} {w : World} {K : PySem.W.Frag} {tg : Expr} (it : Addr) (lo : Int) (n : Nat) : Turn P w K tg (Itr lo n) [it] it (fun i h => IsRangeIter h it (lo + (i : Nat) * 1) ((n : Int) - (i : Nat)) 1) where
  mem := by simp
  obj := fun i h st b hb => by
    have e : b = it := by simpa using hb
    subst e
    exact ⟨_, st, fun v z => by
      have z' : Data.fields _ = Data.cell v := z
      cases z'⟩
  keep := fun i h h' st k => k it (by simp) _ st
  item := by
    intro X hP hw hK hc i pins s σ H E I hf st hg
    subst hP hw hK
    obtain ⟨f0, f1, f2, f3, f4, f5⟩ := hf it (by simp)
    have W := Walks.range (prog := X.prog) (w := X.w) (I.ok.hd hc) it lo 1 n
    refine W.item i s _ _ hg st fun v h' tk hv st' kk => ?_
    obtain ⟨t, rfl⟩ := hv
    have I1 : Inv X pins σ H { s with heap := h', toks := tk } := I.turned (fun b o hb e => kk b o (by simpa using hb) e) f0 f1 f3 f4 f5
    refine ⟨_, rfl, go_of (s := { s with heap := h', toks := tk }) (n := "range_iterator") st' rfl rfl (by decide) ⟨.int (lo + i), H, I1, ⟨t, ?_⟩, ⟨rfl, rfl⟩, st', fun b hb => (hf b hb).1⟩⟩
    rw [Int.mul_one]
  done := by
    intro X hP hw hK hc i pins s σ H E I hf st hg
    subst hP hw hK
    obtain ⟨f0, f1, f2, f3, f4, f5⟩ := hf it (by simp)
    exact wpAny_pyNext_range_end (I.ok.hd hc) st (by have : n ≤ i := hg; omega) fun h' eb => ⟨rfl, I.turned (t' := s.toks) (fun b o hb e => eb b o hb e) f0 f1 f3 f4 f5⟩
  self := fun _ _ _ _ _ st h => wpAny_pyIter_rangeiter st h
end L2

namespace L2
open PySem PySem.Spec PyProof.Rows
section
variable {X : Cx} {tg : Expr}
noncomputable def iList (K : PySem.W.Frag) (tl : TE) : TI := fun σ H R => tl σ H fun x H1 => ∃ a, x = .ref a ∧ (∃ xs, SqL K H1 a xs) ∧ R (Itl K a) H1
theorem pi_list {l : Expr} {tl : TE} (hl : PE X l tl) : PI X tg l (iList X.K tl) := by
  intro pins s σ H R I h
  refine thn (hl pins s σ H _ I h) fun v s1 ⟨x, H1, I1, r1, q1⟩ => ?_
  obtain ⟨a, e, ⟨xs, hq⟩, q⟩ := q1
  subst e
  cases r1
  obtain ⟨its, rv, p, hz⟩ := I1.list hq
  refine wpAny_pyIter_list p.isList ?_
  refine ⟨s1.heap.objs.size, [s1.heap.objs.size], _, _, H1, rfl, I1.kept (t' := s1.toks) fun b o e => Heap.get?_push_of_some _ e, turn_list a _, ⟨_, Heap.get?_push_size _ rfl, rfl, rfl⟩, fun b hb => ?_, q⟩
  have e : b = s1.heap.objs.size := by simpa using hb
  subst e
  exact I1.fpOk (Nat.le_refl _) (I1.hok.fresh (Nat.le_refl _))
theorem range_it {pins : List (Addr × Obj)} {σ : St} {H : Hp} {s : Shared} {R : It → Hp → Prop} {E : Value → Shared → Prop} {lo hi : Int} {t u v : Tok} {tk : Nat} (I : Inv X pins σ H s) (h1 : -(2 ^ 62) ≤ lo) (h2 : lo < 2 ^ 62) (h3 : -(2 ^ 62) ≤ hi) (h4 : hi < 2 ^ 62)
    (q : R (Itr lo (hi - lo).toNat) H) : wpAny (model X.prog X.w) X.A (pyIter (.ref s.heap.objs.size)) (PIE X pins σ tg R) E { s with heap := s.heap.push { cls := .type "range", data := .fields #[.int lo t, .int hi u, .int 1 v] }, toks := tk } := by
  refine wpAny_pyIter_range (IsRange.new ..) (small_one h1 h2 h3 h4) ?_
  have I1 : Inv X pins σ H { s with heap := s.heap.push { cls := .type "range", data := .fields #[.int lo t, .int hi u, .int 1 v] }, toks := tk } := I.kept fun b o e => Heap.get?_push_of_some _ e
  refine ⟨(s.heap.push { cls := .type "range", data := .fields #[.int lo t, .int hi u, .int 1 v] }).objs.size, [(s.heap.push { cls := .type "range", data := .fields #[.int lo t, .int hi u, .int 1 v] }).objs.size], _, _, H, rfl,
    I1.kept (t' := tk) fun b o e => Heap.get?_push_of_some _ e, turn_range _ lo (hi - lo).toNat, ?_, fun b hb => ?_, q⟩
  · have e1 : lo + ((0 : Nat) : Int) * 1 = lo := by simp
    have e2 : (((hi - lo).toNat : Nat) : Int) - ((0 : Nat) : Int) = Builtin.Range.rangeSize lo hi 1 := by rw [rangeSize_one]; split <;> omega
    show IsRangeIter _ _ (lo + ((0 : Nat) : Int) * 1) ((((hi - lo).toNat : Nat) : Int) - ((0 : Nat) : Int)) 1
    rw [e1, e2]
    exact Heap.get?_push_size _ rfl
  · have e : b = (s.heap.push { cls := .type "range", data := .fields #[.int lo t, .int hi u, .int 1 v] }).objs.size := by simpa using hb
    subst e
    exact I1.fpOk (Nat.le_refl _) (I1.hok.fresh (Nat.le_refl _))
noncomputable def iRng1 (ta : TA) : TI := fun σ H R => ta σ H fun vs H1 => ∃ j : Int, vs = [.int j] ∧ -(2 ^ 62) ≤ j ∧ j < 2 ^ 62 ∧ R (Itr 0 j.toNat) H1
noncomputable def iRng2 (ta : TA) : TI := fun σ H R => ta σ H fun vs H1 => ∃ i j : Int, vs = [.int i, .int j] ∧ (-(2 ^ 62) ≤ i ∧ i < 2 ^ 62 ∧ -(2 ^ 62) ≤ j ∧ j < 2 ^ 62) ∧ R (Itr i (j - i).toNat) H1
theorem pi_range1 {a : Expr} {ta : TA} {p pos : Pos} (hg : Gl X "range") (hm : X.mg "range" = none) (ha : PA X [a] ta) (hs : starEach [a] X.env = [(false, eval a X.env)] := by rfl) : PI X tg (.Call (.Name "range" p) [a] [] pos) (iRng1 ta) := by
  intro pins s σ H R I h
  refine Call_ (ld_blt I hg hm boot_range (PyProof.Rows.callWith_type1 (thn (ha pos pins s σ H _ I h) fun us s1 ⟨vs, H1, I1, r1, q1⟩ => ?_) hs rfl))
  obtain ⟨j, e, q1, q2, q⟩ := q1
  subst e
  cases r1 with
  | cons r rr =>
    cases rr
    obtain ⟨t, rfl⟩ := r
    exact call_range_1 (range_it I1 (by omega) (by omega) q1 q2 (by simpa using q))
theorem pi_range2 {a b : Expr} {ta : TA} {p pos : Pos} (hg : Gl X "range") (hm : X.mg "range" = none) (ha : PA X [a, b] ta) (hs : starEach [a, b] X.env = [(false, eval a X.env), (false, eval b X.env)] := by rfl) (hs2 : starEach [b] X.env = [(false, eval b X.env)] := by rfl) :
    PI X tg (.Call (.Name "range" p) [a, b] [] pos) (iRng2 ta) := by
  intro pins s σ H R I h
  refine Call_ (ld_blt I hg hm boot_range (PyProof.Rows.callWith_type1 (thn (ha pos pins s σ H _ I h) fun us s1 ⟨vs, H1, I1, r1, q1⟩ => ?_) (by rw [hs, hs2]) (by rw [hs2]; rfl)))
  obtain ⟨i, j, e, ⟨q1, q2, q3, q4⟩, q⟩ := q1
  subst e
  cases r1 with
  | cons r rr =>
    cases rr with
    | cons r' rr =>
      cases rr
      obtain ⟨t, rfl⟩ := r
      obtain ⟨t', rfl⟩ := r'
      exact call_range_2 (range_it I1 q1 q2 q3 q4 q)

noncomputable def tFor (wi : TI) (g : TG) (tb : TS) : TS := fun D σ H => wi σ H fun J H1 => ∃ W : Nat → Nat → St → Hp → Prop, (∃ m, W 0 m σ H1) ∧ ∀ i m σ H, W i m σ H →
  (J.stop i H ∧ D.nx σ H) ∨ (J.go i H ∧ ∃ N : St → Hp → Prop, (∀ σ' H', N σ' H' → ∃ m', m' < m ∧ W (i + 1) m' σ' H') ∧ ∀ x H', J.yld i H x H' → g x σ H' fun σ2 H2 => tb { D with nx := N, ct := N, bk := D.nx } σ2 H2)
noncomputable def pinsAt (fp : List Addr) (h : Heap) : List (Addr × Obj) := fp.filterMap fun b => (h.get? b).map fun o => (b, o)
theorem mem_pinsAt {fp : List Addr} {h : Heap} {b : Addr} {o : Obj} (hb : b ∈ fp) (e : h.get? b = some o) : (b, o) ∈ pinsAt fp h := List.mem_filterMap.mpr ⟨b, hb, by rw [e]; rfl⟩
theorem of_pinsAt {fp : List Addr} {h : Heap} {p : Addr × Obj} (hp : p ∈ pinsAt fp h) : p.1 ∈ fp ∧ h.get? p.1 = some p.2 := by
  obtain ⟨b, hb, e⟩ := List.mem_filterMap.mp hp
  cases q : h.get? b with
  | none => rw [q] at e; cases e
  | some o =>
    rw [q] at e
    have e' : (b, o) = p := Option.some.inj e
    subst e'
    exact ⟨hb, q⟩
theorem Inv.pinned {pins : List (Addr × Obj)} {σ : St} {H : Hp} {s : Shared} {fp : List Addr} (I : Inv X pins σ H s) (hf : ∀ b ∈ fp, FpOk X pins H b) (ho : ∀ b ∈ fp, ∃ o, s.heap.get? b = some o ∧ ∀ v, o.data ≠ .cell v) : Inv X (pins ++ pinsAt fp s.heap) σ H s :=
  I.pins_of fun p hp => (List.mem_append.mp hp).elim (fun z => I.pin p (List.mem_append_right _ z)) fun z => by
    obtain ⟨hb, e⟩ := of_pinsAt z
    obtain ⟨f0, f1, f2, _⟩ := hf p.1 hb
    obtain ⟨o, e', d⟩ := ho p.1 hb
    rw [e] at e'; cases e'
    exact ⟨e, f0, f1, f2, d⟩
theorem Inv.unpinned {pins pl : List (Addr × Obj)} {σ : St} {H : Hp} {s : Shared} (I : Inv X (pins ++ pl) σ H s) : Inv X pins σ H s := I.pins_of fun p hp => I.pin p (List.mem_append_right _ (List.mem_append_left _ hp))
theorem ps_for {iter : Expr} {body : List Stmt} {wi : TI} {g : TG} {tb : TS} {pos : Pos} (hp : PassesOwn (model X.prog X.w) X.A X.env X.xe) (hc : X.calm = true) (hi : PI X tg iter wi) (hg : PG X tg g) (hb : PSs X body tb)
    (hs : ∀ x, foldedSetIterable iter X.env x = pure x := by intro _; rfl) : PS X (.For tg iter body [] pos) (tFor wi g tb) := by
  intro pins s σ H D I h
  refine wpAny_For (thn (hi pins s σ H _ I h) fun v s1 h1 => thn h1 fun itv s2 h2 => ?_) hs
  obtain ⟨it, fp, tn, J, H2, e, I2, T, st2, f2, W, ⟨m0, w0⟩, turn⟩ := h2
  subst e

  have stat : ∀ {H' : Hp}, (∀ b ∈ fp, H' b = none) → ∀ b ∈ fp, FpOk X pins H' b := fun hn b hb => ⟨hn b hb, (f2 b hb).2⟩
  refine codeAny_forLoop_any (fun n s' => ∃ i σ' H', Inv X pins σ' H' s' ∧ tn i s'.heap ∧ (∀ b ∈ fp, H' b = none) ∧ W i n σ' H') ?_ m0 ⟨0, σ, H2, I2, st2, fun b hb => (f2 b hb).1, w0⟩
  rintro n s3 ⟨i, σ3, H3, I3, st3, fr3, w3⟩
  rcases turn i n σ3 H3 w3 with ⟨stop, qn⟩ | ⟨go, N, hN, step⟩
  · refine wpAny_passesOwn hp (thn (T.done X rfl rfl rfl hc i pins s3 σ3 H3 X.xe I3 (stat fr3) st3 stop) fun r s4 ⟨hr, I4⟩ => ?_)
    subst hr
    exact wpAny_execs_nil ⟨σ3, H3, I4, qn⟩
  · refine wpAny_passesOwn hp (thn (T.item X rfl rfl rfl hc i pins s3 σ3 H3 X.xe I3 (stat fr3) st3 go) fun r s4 ⟨u, hr, h4⟩ => ?_)
    subst hr
    refine wpAny_passesOwn hp (thn h4 fun _ s5 ⟨x, H5, I5, r5, y5, st5, fr5⟩ => ?_)
    have I5' := I5.pinned (stat fr5) (T.obj _ _ st5)
    refine wpAny_passesOwn hp (thn (hg _ s5 σ3 H5 x u _ I5' r5 (step x H5 y5)) fun _ s6 ⟨σ6, H6, I6, q6⟩ => ?_)
    refine wpAny_passesOwn hp (thn (hb _ s6 σ6 H6 _ I6 q6) fun f s7 q7 => ?_)
    have again : ∀ {σ7 : St} {H7 : Hp}, Inv X (pins ++ pinsAt fp s5.heap) σ7 H7 s7 → N σ7 H7 → ∃ m, m < n ∧ ∃ i σ' H', Inv X pins σ' H' s7 ∧ tn i s7.heap ∧ (∀ b ∈ fp, H' b = none) ∧ W i m σ' H' := fun {σ7 H7} I7 n7 => by
      obtain ⟨m', hm, w7⟩ := hN σ7 H7 n7
      refine ⟨m', hm, i + 1, σ7, H7, I7.unpinned, T.keep _ _ _ st5 fun b hb o e => (I7.pin (b, o) (List.mem_append_right _ (List.mem_append_right _ (mem_pinsAt hb e)))).1, fun b hb => ?_, w7⟩
      obtain ⟨o, e, d⟩ := T.obj _ _ st5 b hb
      exact (I7.pin (b, o) (List.mem_append_right _ (List.mem_append_right _ (mem_pinsAt hb e)))).2.1
    cases f with
    | next => obtain ⟨σ7, H7, I7, n7⟩ := q7; exact again I7 n7
    | cont => obtain ⟨σ7, H7, I7, n7⟩ := q7; exact again I7 n7
    | brk => obtain ⟨σ7, H7, I7, q7⟩ := q7; exact ⟨σ7, H7, I7.unpinned, q7⟩
    | ret v => obtain ⟨x7, σ7, H7, I7, r7, q7⟩ := q7; exact ⟨x7, σ7, H7, I7.unpinned, r7, q7⟩
end

theorem for_list {K : PySem.W.Frag} {a : Addr} {xs : List V} {g : TG} {tb : TS} {D : Ends} {σ : St} {H : Hp} (Pv : Nat → St → Hp → Prop) (h0 : Pv 0 σ H) (hl : ∀ i σ H, i ≤ xs.length → Pv i σ H → SqL K H a xs)
    (hs : ∀ i x σ H, xs[i]? = some x → Pv i σ H → g x σ H fun σ2 H2 => tb { D with nx := Pv (i + 1), ct := Pv (i + 1), bk := D.nx } σ2 H2) (hd : ∀ σ H, Pv xs.length σ H → D.nx σ H) :
    ∃ W : Nat → Nat → St → Hp → Prop, (∃ m, W 0 m σ H) ∧ ∀ i m σ H, W i m σ H →
      ((Itl K a).stop i H ∧ D.nx σ H) ∨ ((Itl K a).go i H ∧ ∃ N : St → Hp → Prop, (∀ σ' H', N σ' H' → ∃ m', m' < m ∧ W (i + 1) m' σ' H') ∧ ∀ x H', (Itl K a).yld i H x H' → g x σ H' fun σ2 H2 => tb { D with nx := N, ct := N, bk := D.nx } σ2 H2) := by
  refine ⟨fun i m σ H => m = xs.length - i ∧ i ≤ xs.length ∧ Pv i σ H, ⟨xs.length, by simp, Nat.zero_le _, h0⟩, ?_⟩
  rintro i m σ H ⟨rfl, hi, p⟩
  have q := hl i σ H hi p
  by_cases hlt : i < xs.length
  · refine .inr ⟨⟨xs, xs[i], q, by simp [hlt]⟩, Pv (i + 1), fun σ' H' p' => ⟨xs.length - (i + 1), by omega, rfl, hlt, p'⟩, fun x H' y => ?_⟩
    obtain ⟨e, y⟩ := y
    subst e
    exact hs i x σ _ (y xs q) p
  · have e : i = xs.length := by omega
    subst e
    exact .inl ⟨⟨xs, q, Nat.le_refl _⟩, hd σ H p⟩
theorem for_range {lo : Int} {n : Nat} {g : TG} {tb : TS} {D : Ends} {σ : St} {H : Hp} (Pv : Nat → St → Hp → Prop) (h0 : Pv 0 σ H)
    (hs : ∀ i σ H, i < n → Pv i σ H → g (.int (lo + i)) σ H fun σ2 H2 => tb { D with nx := Pv (i + 1), ct := Pv (i + 1), bk := D.nx } σ2 H2) (hd : ∀ σ H, Pv n σ H → D.nx σ H) :
    ∃ W : Nat → Nat → St → Hp → Prop, (∃ m, W 0 m σ H) ∧ ∀ i m σ H, W i m σ H →
      ((Itr lo n).stop i H ∧ D.nx σ H) ∨ ((Itr lo n).go i H ∧ ∃ N : St → Hp → Prop, (∀ σ' H', N σ' H' → ∃ m', m' < m ∧ W (i + 1) m' σ' H') ∧ ∀ x H', (Itr lo n).yld i H x H' → g x σ H' fun σ2 H2 => tb { D with nx := N, ct := N, bk := D.nx } σ2 H2) := by
  refine ⟨fun i m σ H => m = n - i ∧ i ≤ n ∧ Pv i σ H, ⟨n, by simp, Nat.zero_le _, h0⟩, ?_⟩
  rintro i m σ H ⟨rfl, hi, p⟩
  by_cases hlt : i < n
  · refine .inr ⟨hlt, Pv (i + 1), fun σ' H' p' => ⟨n - (i + 1), by omega, rfl, hlt, p'⟩, fun x H' y => ?_⟩
    obtain ⟨e, y⟩ := y
    subst e y
    exact hs i σ _ hlt p
  · have e : i = n := by omega
    subst e
    exact .inl ⟨Nat.le_refl _, hd σ H p⟩
end L2

namespace L2
open PySem PySem.Spec PyProof.Rows

noncomputable abbrev R2 := V → V → Hp → VK → Prop
noncomputable def OpR (X : Cx) (f : Value → Value → Sem Value) (r : R2) : Prop :=
  ∀ (pins : List (Addr × Obj)) (s : Shared) (σ : St) (H : Hp) (x y : V) (v u : Value) (Q : VK), Inv X pins σ H s → RelV x v → RelV y u → r x y H Q →
    wpAny (model X.prog X.w) X.A (f v u) (EP X pins σ Q) X.xe s
noncomputable def UnR (X : Cx) (f : Value → Sem Value) (r : V → Hp → VK → Prop) : Prop :=
  ∀ (pins : List (Addr × Obj)) (s : Shared) (σ : St) (H : Hp) (x : V) (v : Value) (Q : VK), Inv X pins σ H s → RelV x v → r x H Q →
    wpAny (model X.prog X.w) X.A (f v) (EP X pins σ Q) X.xe s
noncomputable def CallR (X : Cx) (f : Value) (r : List V → Hp → VK → Prop) : Prop :=
  ∀ (pins : List (Addr × Obj)) (s : Shared) (σ : St) (H : Hp) (xs : List V) (us : List Value) (Q : VK), Inv X pins σ H s → Vals xs us → r xs H Q →
    wpAny (model X.prog X.w) X.A (call f us) (EP X pins σ Q) X.xe s
noncomputable def tOp (r : R2) (ta tb : TE) : TE := fun σ H Q => ta σ H fun x H1 => tb σ H1 fun y H2 => r x y H2 Q
noncomputable def tUn (r : V → Hp → VK → Prop) (ta : TE) : TE := fun σ H Q => ta σ H fun x H1 => r x H1 Q
noncomputable def rI (C : Int → Int → Prop) (g : Int → Int → V) : R2 := fun x y H Q => ∃ i j, x = .int i ∧ y = .int j ∧ C i j ∧ Q (g i j) H
noncomputable def rI0 (g : Int → Int → V) : R2 := fun x y H Q => ∃ i j, x = .int i ∧ y = .int j ∧ Q (g i j) H
noncomputable def rU (g : Int → V) : V → Hp → VK → Prop := fun x H Q => ∃ i, x = .int i ∧ Q (g i) H

section
variable {X : Cx} {a b c : Expr} {ta tb tc : TE} {pos : Pos}

theorem binT (ha : PE X a ta) (hb : PE X b tb) {pins : List (Addr × Obj)} {s : Shared} {σ : St} {H : Hp} {R : V → V → Hp → Prop} (I : Inv X pins σ H s)
    (h : ta σ H fun x H1 => tb σ H1 fun y H2 => R x y H2) {Q : Value → Shared → Prop} {f : Value → Value → Sem Value}
    (hf : ∀ v u s2 x y H2, Inv X pins σ H2 s2 → RelV x v → RelV y u → R x y H2 → wpAny (model X.prog X.w) X.A (f v u) Q X.xe s2) :
    wpAny (model X.prog X.w) X.A (eval a X.env) (fun v s₁ => wpAny (model X.prog X.w) X.A (eval b X.env) (fun u s₂ => wpAny (model X.prog X.w) X.A (f v u) Q X.xe s₂) X.xe s₁) X.xe s := by
  refine thn (ha pins s σ H _ I h) fun v s1 ⟨x, H1, I1, r1, q1⟩ => ?_
  refine thn (hb pins s1 σ H1 _ I1 q1) fun u s2 ⟨y, H2, I2, r2, q2⟩ => ?_
  exact hf v u s2 x y H2 I2 r1 r2 q2

theorem pe_op {op : Operator} {r : R2} (ho : OpR X (binaryOp op) r) (ha : PE X a ta) (hb : PE X b tb) : PE X (.BinOp a op b pos) (tOp r ta tb) := by
  intro pins s σ H Q I h
  exact wpAny_BinOp (binT ha hb I h fun v u s2 x y H2 I2 rx ry q => ho pins s2 σ H2 x y v u Q I2 rx ry q)
theorem pe_un {op : UnaryOp} {r : V → Hp → VK → Prop} (ho : UnR X (unaryOp op) r) (ha : PE X a ta) : PE X (.UnaryOp op a pos) (tUn r ta) := by
  intro pins s σ H Q I h
  exact UnaryOp_ (thn (ha pins s σ H _ I h) fun v s1 ⟨x, H1, I1, r1, q1⟩ => ho pins s1 σ H1 x v Q I1 r1 q1)
theorem opI {f : Value → Value → Sem Value} {C : Int → Int → Prop} {g : Int → Int → Int}
    (rule : ∀ (i j : Int) (t u : Tok) (s : Shared) (Q : Value → Shared → Prop) (E : Value → Shared → Prop), C i j → Q (.int (g i j) s.toks) { s with toks := s.toks + 1 } → wpAny (model X.prog X.w) X.A (f (.int i t) (.int j u)) Q E s) :
    OpR X f (rI C fun i j => .int (g i j)) := by
  intro pins s σ H x y v u Q I rx ry h
  obtain ⟨i, j, rfl, rfl, hc, q⟩ := h
  obtain ⟨t, rfl⟩ := rx
  obtain ⟨t', rfl⟩ := ry
  exact rule i j t t' s _ _ hc ⟨.int (g i j), H, I.tok _, ⟨_, rfl⟩, q⟩
theorem opI0 {f : Value → Value → Sem Value} {g : Int → Int → Int}
    (rule : ∀ (i j : Int) (t u : Tok) (s : Shared) (Q : Value → Shared → Prop) (E : Value → Shared → Prop), Q (.int (g i j) s.toks) { s with toks := s.toks + 1 } → wpAny (model X.prog X.w) X.A (f (.int i t) (.int j u)) Q E s) :
    OpR X f (rI0 fun i j => .int (g i j)) := by
  intro pins s σ H x y v u Q I rx ry h
  obtain ⟨i, j, rfl, rfl, q⟩ := h
  obtain ⟨t, rfl⟩ := rx
  obtain ⟨t', rfl⟩ := ry
  exact rule i j t t' s _ _ ⟨.int (g i j), H, I.tok _, ⟨_, rfl⟩, q⟩
theorem opB0 {f : Value → Value → Sem Value} {g : Int → Int → Bool}
    (rule : ∀ (i j : Int) (t u : Tok) (s : Shared) (Q : Value → Shared → Prop) (E : Value → Shared → Prop), Q (.bool (g i j)) s → wpAny (model X.prog X.w) X.A (f (.int i t) (.int j u)) Q E s) :
    OpR X f (rI0 fun i j => .bl (g i j)) := by
  intro pins s σ H x y v u Q I rx ry h
  obtain ⟨i, j, rfl, rfl, q⟩ := h
  obtain ⟨t, rfl⟩ := rx
  obtain ⟨t', rfl⟩ := ry
  exact rule i j t t' s _ _ ⟨.bl (g i j), H, I, rfl, q⟩

noncomputable def CDiv (i j : Int) : Prop := 0 < j ∧ j < 1073741824
noncomputable def CPow (i j : Int) : Prop := 0 ≤ j ∧ j ≤ 1000000 ∧ i.natAbs < 2 ^ 64
noncomputable def CMul (i j : Int) : Prop := (-(2 ^ 64) < i ∧ i < 2 ^ 64) ∨ (-(2 ^ 64) < j ∧ j < 2 ^ 64)
theorem CMul.ok {i j : Int} (h : CMul i j) : IntMulOk i j := by
  rcases h with ⟨h1, h2⟩ | ⟨h1, h2⟩
  · exact .of_left (intBits_le_64 h1 h2)
  · exact .of_right (intBits_le_64 h1 h2)
theorem op_add : OpR X (binaryOp .Add) (rI0 fun i j => .int (i + j)) := opI0 fun _ _ _ _ _ _ _ q => add_int q
theorem op_sub : OpR X (binaryOp .Sub) (rI0 fun i j => .int (i - j)) := opI0 fun _ _ _ _ _ _ _ q => sub_int q
theorem op_mul : OpR X (binaryOp .Mult) (rI CMul fun i j => .int (i * j)) := opI fun _ _ _ _ _ _ _ hc q => mul_int q hc.ok
theorem op_fdiv : OpR X (binaryOp .FloorDiv) (rI CDiv fun i j => .int (i / j)) := opI fun i j _ _ _ _ _ hc q => by
  have h1 : (0 : Int) < j := hc.1
  have h2 : j < 1073741824 := hc.2
  exact floordiv_int (by omega) (by rw [Int.fdiv_eq_ediv_of_nonneg i (by omega)]; exact q) (.inl (PyProof.noPylong_small (by omega)))
theorem op_mod : OpR X (binaryOp .Mod) (rI (fun _ j => 0 < j) fun i j => .int (i % j)) := opI fun i j _ _ _ _ _ hc q => by
  have h1 : (0 : Int) < j := hc
  exact mod_int' (by omega) (by rw [Int.fmod_eq_emod_of_nonneg i (by omega)]; exact q)
theorem op_pow : OpR X (binaryOp .Pow) (rI CPow fun i j => .int (i ^ j.toNat)) := opI fun _ _ _ _ _ _ _ hc q => pow_int_small hc.1 hc.2.1 hc.2.2 q
theorem unI {f : Value → Sem Value} {g : Int → Int}
    (rule : ∀ (i : Int) (t : Tok) (s : Shared) (Q : Value → Shared → Prop) (E : Value → Shared → Prop), Q (.int (g i) s.toks) { s with toks := s.toks + 1 } → wpAny (model X.prog X.w) X.A (f (.int i t)) Q E s) :
    UnR X f (rU fun i => .int (g i)) := by
  intro pins s σ H x v Q I rx h
  obtain ⟨i, rfl, q⟩ := h
  obtain ⟨t, rfl⟩ := rx
  exact rule i t s _ _ ⟨.int (g i), H, I.tok _, ⟨_, rfl⟩, q⟩
theorem un_neg : UnR X (unaryOp .USub) (rU fun i => .int (-i)) := unI fun _ _ _ _ _ q => neg_int q
end

noncomputable def scal : V → V → Bool
  | .non, .non => true | .non, .int _ => true | .int _, .non => true | .non, .bl _ => true | .bl _, .non => true | .non, .str _ => true | .str _, .non => true
  | .int _, .int _ => true | .bl _, .bl _ => true | .str _, .str _ => true | .byt _, .byt _ => true
  | .int _, .str _ => true | .str _, .int _ => true | .bl _, .str _ => true | .str _, .bl _ => true
  | _, _ => false
noncomputable def rEq : R2 := fun x y H Q => scal x y = true ∧ Q (.bl (decide (x = y))) H
noncomputable def rNe : R2 := fun x y H Q => scal x y = true ∧ Q (.bl (!decide (x = y))) H

theorem dec_int {i j : Int} : decide (V.int i = V.int j) = (i == j) := by
  rw [Bool.eq_iff_iff]
  simp
theorem dec_bl {i j : Bool} : decide (V.bl i = V.bl j) = (i == j) := by
  rw [Bool.eq_iff_iff]
  simp
theorem dec_str {i j : Str} : decide (V.str i = V.str j) = (i == j) := by
  rw [Bool.eq_iff_iff]
  simp
theorem dec_byt {i j : Array UInt8} : decide (V.byt i = V.byt j) = (i.toList == j.toList) := by
  rw [Bool.eq_iff_iff]
  cases i
  cases j
  simp

section
variable {X : Cx} {a b c : Expr} {ta tb tc : TE} {pos : Pos}
theorem fin_bl {pins : List (Addr × Obj)} {σ : St} {H : Hp} {s : Shared} {Q : VK} {k k' : Bool} (I : Inv X pins σ H s) (q : Q (.bl k) H) (e : k = k') : EP X pins σ Q (.bool k') s := by
  subst e
  exact ⟨.bl k, H, I, rfl, q⟩
theorem op_eq : OpR X (compareOp .Eq) rEq := by
  intro pins s σ H x y v u Q I rx ry h
  obtain ⟨hs, q⟩ := h
  cases x with
  | non =>
    cases rx
    cases y with
    | non => cases ry; exact PySem.EqNone.eq_none_none (fin_bl I q (by simp))
    | bl j => cases ry; exact PySem.EqNone.eq_none_bool (fin_bl I q (by simp))
    | int j => obtain ⟨t', rfl⟩ := ry; exact PySem.EqNone.eq_none_int (fin_bl I q (by simp))
    | str j => obtain ⟨t', rfl⟩ := ry; exact PySem.EqNone.eq_none_str (fin_bl I q (by simp))
    | _ => exact absurd (show false = true from hs) Bool.false_ne_true
  | bl i =>
    cases rx
    cases y with
    | non => cases ry; exact PySem.EqNone.eq_bool_none (fin_bl I q (by simp))
    | bl j => cases ry; exact eq_bool (fin_bl I q dec_bl)
    | str j => obtain ⟨t', rfl⟩ := ry; exact PySem.EqMixed.eq_bool_str (fin_bl I q (by simp))
    | _ => exact absurd (show false = true from hs) Bool.false_ne_true
  | int i =>
    obtain ⟨t, rfl⟩ := rx
    cases y with
    | non => cases ry; exact PySem.EqNone.eq_int_none (fin_bl I q (by simp))
    | int j => obtain ⟨t', rfl⟩ := ry; exact eq_int (fin_bl I q dec_int)
    | str j => obtain ⟨t', rfl⟩ := ry; exact PySem.EqMixed.eq_int_str (fin_bl I q (by simp))
    | _ => exact absurd (show false = true from hs) Bool.false_ne_true
  | str i =>
    obtain ⟨t, rfl⟩ := rx
    cases y with
    | non => cases ry; exact PySem.EqNone.eq_str_none (fin_bl I q (by simp))
    | bl j => cases ry; exact PySem.EqMixed.eq_str_bool (fin_bl I q (by simp))
    | int j => obtain ⟨t', rfl⟩ := ry; exact PySem.EqMixed.eq_str_int (fin_bl I q (by simp))
    | str j => obtain ⟨t', rfl⟩ := ry; exact eq_str (fin_bl I q dec_str)
    | _ => exact absurd (show false = true from hs) Bool.false_ne_true
  | byt i =>
    obtain ⟨t, rfl⟩ := rx
    cases y with
    | byt j => obtain ⟨t', rfl⟩ := ry; exact PySem.W.eq_bytes (fin_bl I q dec_byt)
    | _ => exact absurd (show false = true from hs) Bool.false_ne_true
  | _ => cases y <;> exact absurd (show false = true from hs) Bool.false_ne_true
theorem op_ne : OpR X (compareOp .NotEq) rNe := by
  intro pins s σ H x y v u Q I rx ry h
  obtain ⟨hs, q⟩ := h
  cases x with
  | non =>
    cases rx
    cases y with
    | non => cases ry; exact PySem.EqNone.ne_none_none (fin_bl I q (by simp))
    | bl j => cases ry; exact PySem.EqNone.ne_none_bool (fin_bl I q (by simp))
    | int j => obtain ⟨t', rfl⟩ := ry; exact PySem.EqNone.ne_none_int (fin_bl I q (by simp))
    | str j => obtain ⟨t', rfl⟩ := ry; exact PySem.EqNone.ne_none_str (fin_bl I q (by simp))
    | _ => exact absurd (show false = true from hs) Bool.false_ne_true
  | bl i =>
    cases rx
    cases y with
    | non => cases ry; exact PySem.EqNone.ne_bool_none (fin_bl I q (by simp))
    | bl j => cases ry; exact ne_bool (fin_bl I q (congrArg not dec_bl))
    | str j => obtain ⟨t', rfl⟩ := ry; exact PySem.EqMixed.ne_bool_str (fin_bl I q (by simp))
    | _ => exact absurd (show false = true from hs) Bool.false_ne_true
  | int i =>
    obtain ⟨t, rfl⟩ := rx
    cases y with
    | non => cases ry; exact PySem.EqNone.ne_int_none (fin_bl I q (by simp))
    | int j => obtain ⟨t', rfl⟩ := ry; exact ne_int (fin_bl I q (congrArg not dec_int))
    | str j => obtain ⟨t', rfl⟩ := ry; exact PySem.EqMixed.ne_int_str (fin_bl I q (by simp))
    | _ => exact absurd (show false = true from hs) Bool.false_ne_true
  | str i =>
    obtain ⟨t, rfl⟩ := rx
    cases y with
    | non => cases ry; exact PySem.EqNone.ne_str_none (fin_bl I q (by simp))
    | bl j => cases ry; exact PySem.EqMixed.ne_str_bool (fin_bl I q (by simp))
    | int j => obtain ⟨t', rfl⟩ := ry; exact PySem.EqMixed.ne_str_int (fin_bl I q (by simp))
    | str j => obtain ⟨t', rfl⟩ := ry; exact ne_str (fin_bl I q (congrArg not dec_str))
    | _ => exact absurd (show false = true from hs) Bool.false_ne_true
  | byt i =>
    obtain ⟨t, rfl⟩ := rx
    cases y with
    | byt j => obtain ⟨t', rfl⟩ := ry; exact PySem.W.ne_bytes (fin_bl I q (congrArg not dec_byt))
    | _ => exact absurd (show false = true from hs) Bool.false_ne_true
  | _ => cases y <;> exact absurd (show false = true from hs) Bool.false_ne_true

theorem op_lt : OpR X (compareOp .Lt) (rI0 fun i j => .bl (decide (i < j))) := opB0 fun _ _ _ _ _ _ _ q => lt_int q
theorem op_le : OpR X (compareOp .LtE) (rI0 fun i j => .bl (decide (i ≤ j))) := opB0 fun _ _ _ _ _ _ _ q => le_int q
theorem op_gt : OpR X (compareOp .Gt) (rI0 fun i j => .bl (decide (j < i))) := opB0 fun _ _ _ _ _ _ _ q => gt_int q
theorem op_ge : OpR X (compareOp .GtE) (rI0 fun i j => .bl (decide (j ≤ i))) := opB0 fun _ _ _ _ _ _ _ q => ge_int q
theorem op_notin_str : OpR X (compareOp .NotIn) (fun x y H Q => ∃ i j, x = .str i ∧ y = .str j ∧ Q (.bl (!(!(Builtin.Str.occurrences j i 0 j.length 1).isEmpty))) H) := by
  intro pins s σ H x y v u Q I rx ry h
  obtain ⟨i, j, rfl, rfl, q⟩ := h
  obtain ⟨t, rfl⟩ := rx
  obtain ⟨t', rfl⟩ := ry
  exact notIn_str (fin_bl I q rfl)
theorem nomark (b : Expr) {op : CmpOp} (h : op ≠ .In := by decide) (h2 : op ≠ .NotIn := by decide) : behindInMarks op b = false := by
  have e1 : (op == CmpOp.In) = false := by cases op <;> first | rfl | exact absurd rfl h
  have e2 : (op == CmpOp.NotIn) = false := by cases op <;> first | rfl | exact absurd rfl h2
  cases b <;> simp [behindInMarks, e1, e2]
theorem pe_cmpR {op : CmpOp} {r : R2} (ho : OpR X (compareOp op) r) (ha : PE X a ta) (hb : PE X b tb) (hm : behindInMarks op b = false) : PE X (.Compare a [op] [b] pos) (tOp r ta tb) := by
  intro pins s σ H Q I h
  exact wpAny_Compare1 (binT ha hb I h fun v u s2 x y H2 I2 rx ry q => ho pins s2 σ H2 x y v u Q I2 rx ry q) hm
noncomputable def tTest (t : TE) : TT := fun σ H Q => t σ H fun x H' => ∃ k, x = .bl k ∧ Q k H'
theorem pt_cmpR {op : CmpOp} {r : R2} (ho : OpR X (compareOp op) r) (ha : PE X a ta) (hb : PE X b tb) (hm : behindInMarks op b = false) : PT X (.Compare a [op] [b] pos) (tTest (tOp r ta tb)) := by
  intro pins s σ H Q I h
  refine wpAny_isTrue_Compare1 (thn (ha pins s σ H _ I h) fun v s1 ⟨x, H1, I1, r1, q1⟩ => thn (hb pins s1 σ H1 _ I1 q1) fun u s2 ⟨y, H2, I2, r2, q2⟩ =>
    thn (ho pins s2 σ H2 x y v u _ I2 r1 r2 q2) fun c s3 ⟨z, H3, I3, r3, k, e, q3⟩ => ?_) hm
  subst e
  cases r3
  exact wpAny_truthy_bool ⟨H3, I3, q3⟩
theorem line63 : (sizeLine : Nat) < 2 ^ 63 := by rw [sizeLine_eq]; decide
theorem op_add_str : OpR X (binaryOp .Add) (fun x y H Q => ∃ i j, x = .str i ∧ y = .str j ∧ i.length + j.length ≤ sizeLine ∧ Q (.str (i ++ j)) H) := by
  intro pins s σ H x y v u Q I rx ry h
  obtain ⟨i, j, rfl, rfl, hz, q⟩ := h
  obtain ⟨t, rfl⟩ := rx
  obtain ⟨t', rfl⟩ := ry
  exact add_str (fun t' tk => ⟨.str (i ++ j), H, I.tok _, ⟨_, rfl⟩, q⟩) hz
theorem vals1 {x : V} {us : List Value} (r : Vals [x] us) : ∃ u, us = [u] ∧ RelV x u := by
  cases r with
  | cons r1 r2 => cases r2; exact ⟨_, rfl, r1⟩
theorem vals2 {x y : V} {us : List Value} (r : Vals [x, y] us) : ∃ u w', us = [u, w'] ∧ RelV x u ∧ RelV y w' := by
  cases r with
  | cons r1 r2 =>
    cases r2 with
    | cons r3 r4 => cases r4; exact ⟨_, _, rfl, r1, r3⟩
theorem call_max2 (hc : X.calm = true) : CallR X (.builtin "max") (fun xs H Q => ∃ i j, xs = [.int i, .int j] ∧ Q (.int (if j > i then j else i)) H) := by
  intro pins s σ H xs us Q I r h
  obtain ⟨i, j, rfl, q⟩ := h
  obtain ⟨u, w', rfl, ⟨t, rfl⟩, ⟨t', rfl⟩⟩ := vals2 r
  refine max_two_ints (I.ok.hd hc) fun h' tk k => ⟨_, H, I.kept k, ?_, q⟩
  by_cases hj : j > i
  · rw [if_pos hj, if_pos hj]; exact ⟨_, rfl⟩
  · rw [if_neg hj, if_neg hj]; exact ⟨_, rfl⟩
end
end L2

namespace L2
open PySem PySem.Spec PyProof.Rows

set_option genInjectivity false in
structure ObjM (h : Heap) (x dx C : Addr) (mA : Str → Option Value) : Prop where
  obj : h.get? x = some (PySem.W.instObj C dx)
  ns : h.Ns1 dx mA
  ne : dx ≠ x

theorem lookIn_ns {h : Heap} {dx : Addr} {mA : Str → Option Value} (n : h.Ns1 dx mA) : ∃ od, h.get? dx = some od ∧ ∀ name, PySem.W.lookIn name od = some (mA name) := by
  obtain ⟨o, es, ep, ho, hd, hk, _, hm⟩ := n
  refine ⟨o, ho, fun name => ?_⟩
  have e := hm name
  unfold nsFind findBy at e
  rw [← Array.find?_toList] at e
  unfold PySem.W.lookIn
  rw [hd]
  dsimp only
  split
  · rename_i y q
    rw [q] at e
    exact congrArg some e
  · rename_i q
    rw [q] at e
    have a : es.toList.any (·.refKey) = false := by
      rw [List.any_eq_false]
      intro y hy
      obtain ⟨z, t, hkey⟩ := hk y (Array.mem_toList_iff.mp hy)
      simp [DictEntry.refKey, hkey]
    have a' : ¬ es.toList.any (·.refKey) = true := by rw [a]; exact Bool.false_ne_true
    rw [if_neg a']
    exact congrArg some e

theorem ObjM.look {h : Heap} {x dx C : Addr} {mA : Str → Option Value} (I : ObjM h x dx C mA) : ∃ od, PySem.W.InstAt h x (PySem.W.instObj C dx) C (some od) ∧ ∀ name, PySem.W.lookIn name od = some (mA name) :=
  let ⟨od, ho, hl⟩ := lookIn_ns I.ns
  ⟨od, ⟨I.obj, rfl, rfl, ho⟩, hl⟩

section
variable {prog : Program} {w : World} {A : Around} {E : Value → Shared → Prop} {s : Shared} {K : PySem.W.Frag} {x dx C f : Addr} {mA : Str → Option Value} {name : Str} {v : Value}

theorem get_map {expr : Bool} {Q : Value → Shared → Prop} (X : K.In s.heap) (I : ObjM s.heap x dx C mA) (hg : PySem.W.plainGet K C name = true) (hh : PySem.W.hasDictIn K C = true)
    (ha : PySem.W.findIn K (.ref C) name = some none) (hv : mA name = some v) (hv' : PySem.W.handedIn v = true) (h : Q v { s with toks := s.toks + 1 }) :
    wpAny (model prog w) A (getAttr (.ref x) name expr) Q E s := by
  obtain ⟨od, J, hl⟩ := I.look
  exact PySem.W.get_value X J (PySem.W.plainGet_of hg).1 (PySem.W.findObj_own hh ha rfl (by rw [hl, hv])) hv' h

theorem set_map {ns : List Str} {Q : Unit → Shared → Prop} (X : K.In s.heap) (I : ObjM s.heap x dx C mA)
    (hs : PySem.W.findIn K (.ref C) "__setattr__" = some (some (.builtin "object.__setattr__"))) (hp : PySem.W.plainOver K C = true) (ht : PySem.W.takerIn K C name = some none) (hh : PySem.W.hasDictIn K C = true)
    (hw : PySem.Within mA ns) (hsz : ns.length ≤ sizeLine)
    (h : ∀ h', ObjM h' x dx C (fun y => if y = name then some v else mA y) → Heap.SameBut dx s.heap h' → Q () { s with heap := h', toks := s.toks + 2 }) :
    wpAny (model prog w) A (setAttr (.ref x) name v) Q E s := by
  obtain ⟨od, J, hl⟩ := I.look
  refine PySem.W.set_plain X J hs (PySem.W.osa_open (s := { s with toks := s.toks + 1 }) (r := none) X J hp ht fun b => ?_)
  obtain ⟨cd, hc, hd'⟩ := PySem.W.any_some hh
  have hx : s.heap.get? x = some ⟨.ref C, some dx, .plain, #[]⟩ := I.obj
  refine wpAny_bind (wpAny_pure (wpAny_bind (wpAny_bind (wpAny_loadPart hx (wpAny_bind (PySem.W.Looks.here (s := { s with toks := s.toks + 1 }) (PySem.W.looks_clsIn X hc) ?_))))))
  rw [hd']
  refine wpAny_pure (a := some dx) (wpAny_bind (wpAny_pure (wpAny_bind ?_)))
  refine wpAny_nsSet1 (s := { s with toks := s.toks + 1 }) I.ns fun h' hn2 hs2 => ?_
  obtain ⟨oD, esD, epD, hoD, hdD, hcD⟩ := hn2.count (PySem.Within.cons name v hw)
  refine wpAny_bind (wpAny_lookBehind hoD (by rw [hdD]; exact pastItsLine_dict (Nat.le_trans hcD (by rw [List.length_cons]; omega))) ?_)
  exact wpAny_pure (h _ ⟨(hs2.2 _ (Ne.symm I.ne)).trans I.obj, hn2, I.ne⟩ hs2)

theorem make_map {R : Result → Shared → Prop} {vs : List Value} {kw : List (Str × Value)} (X : K.In s.heap) (hm : PySem.W.makesIn K C = true)
    (hi : PySem.W.findIn K (.ref C) "__init__" = some (some (.ref f))) (hf : PySem.W.typeIn K (.ref f) = some (.type "function"))
    (h : codeAny (model prog w) (A.under (.builtin "type.__call__" ⟨.ref C :: vs, kw⟩)) (.call (.ref f) ⟨.ref (s.heap.objs.size + 1) :: vs, kw⟩) (PySem.W.InitBack (s.heap.objs.size + 1) R)
      { s with heap := (s.heap.push PySem.W.emptyDict).push (PySem.W.instObj C s.heap.objs.size) }) :
    codeAny (model prog w) A (.call (.ref C) ⟨vs, kw⟩) R s := by
  obtain ⟨hh, g, d, t, os⟩ := s
  exact PySem.W.make_core (PySem.W.makes_of X hm) (PySem.W.looks_findIn X hi) (fun self => PySem.W.bind_fn X self hf) (.inl rfl) h
end

noncomputable def putF (f : Str) (v : V) : List (Str × V) → List (Str × V)
  | [] => [(f, v)]
  | (g, x) :: r => if g = f then (g, v) :: r else (g, x) :: putF f v r
theorem lookup_putF (f g : Str) (v : V) : ∀ fs : List (Str × V), (putF f v fs).lookup g = if g = f then some v else fs.lookup g
  | [] => by
    show List.lookup g [(f, v)] = _
    by_cases h : g = f
    · have hb : (g == f) = true := beq_iff_eq.mpr h
      simp only [List.lookup, hb, if_pos h]
    · have hb : (g == f) = false := beq_eq_false_iff_ne.mpr h
      simp only [List.lookup, hb, if_neg h]
  | (k, x) :: r => by
    have ih := lookup_putF f g v r
    rw [show putF f v ((k, x) :: r) = (if k = f then (k, v) :: r else (k, x) :: putF f v r) from rfl]
    by_cases hk : k = f
    · rw [if_pos hk]
      by_cases h : g = k
      · have hb : (g == k) = true := beq_iff_eq.mpr h
        simp only [List.lookup, hb, if_pos (h.trans hk)]
      · have hb : (g == k) = false := beq_eq_false_iff_ne.mpr h
        simp only [List.lookup, hb, if_neg (fun e : g = f => h (e.trans hk.symm))]
    · rw [if_neg hk]
      by_cases h : g = k
      · have hb : (g == k) = true := beq_iff_eq.mpr h
        simp only [List.lookup, hb, if_neg (fun e : g = f => hk (h.symm.trans e))]
      · have hb : (g == k) = false := beq_eq_false_iff_ne.mpr h
        simp only [List.lookup, hb]
        exact ih
theorem keys_putF (f : Str) (v : V) : ∀ fs : List (Str × V), f ∈ (putF f v fs).map (·.1) ∧ ∀ g, g ∈ fs.map (·.1) → g ∈ (putF f v fs).map (·.1)
  | [] => ⟨by simp [putF], fun g h => by simp at h⟩
  | (k, x) :: r => by
    obtain ⟨i1, i2⟩ := keys_putF f v r
    rw [show putF f v ((k, x) :: r) = (if k = f then (k, v) :: r else (k, x) :: putF f v r) from rfl]
    by_cases hk : k = f
    · rw [if_pos hk]
      subst hk
      exact ⟨by simp, fun g h => by simpa using h⟩
    · rw [if_neg hk]
      refine ⟨?_, fun g h => ?_⟩
      · rw [List.map_cons]
        exact List.mem_cons_of_mem _ i1
      · rw [List.map_cons] at h ⊢
        rcases List.mem_cons.mp h with e | e
        · exact List.mem_cons.mpr (.inl e)
        · exact List.mem_cons_of_mem _ (i2 g e)
theorem length_putF (f : Str) (v : V) : ∀ fs : List (Str × V), (putF f v fs).length ≤ fs.length + 1
  | [] => by simp [putF]
  | (k, x) :: r => by
    have ih := length_putF f v r
    rw [show putF f v ((k, x) :: r) = (if k = f then (k, v) :: r else (k, x) :: putF f v r) from rfl]
    by_cases hk : k = f
    · rw [if_pos hk, List.length_cons, List.length_cons]; omega
    · rw [if_neg hk, List.length_cons, List.length_cons]; omega

theorem RelO.some_of {v : V} {o : Option Value} (r : RelO (some v) o) : ∃ u, o = some u ∧ RelV v u := by
  cases o with
  | none => exact (show False from r).elim
  | some u => exact ⟨u, rfl, r⟩
theorem handed_of {v : V} {u : Value} (r : RelV v u) : PySem.W.handedIn u = true := by
  cases v with
  | non => cases (show u = Value.none from r); rfl
  | bl b => cases (show u = Value.bool b from r); rfl
  | int i => obtain ⟨t, e⟩ := (show ∃ t, u = Value.int i t from r); cases e; rfl
  | str x => obtain ⟨t, e⟩ := (show ∃ t, u = Value.str x t from r); cases e; rfl
  | byt b => obtain ⟨t, e⟩ := (show ∃ t, u = Value.bytes b t from r); cases e; rfl
  | flt b => obtain ⟨t, e⟩ := (show ∃ t, u = Value.float b t from r); cases e; rfl
  | ref a => cases (show u = Value.ref a from r); rfl
  | ty n => cases (show u = Value.type n from r); rfl

section
variable {P : Program} {w : World} {H H' : Hp} {h h' : Heap} {a C dx : Addr} {fs fs' : List (Str × V)}
theorem ins_get (hok : HOk P w H h) (e : H a = some (.ins C dx fs)) : ∃ mA, ObjM h a dx C mA ∧ (∀ f, RelO (fs.lookup f) (mA f)) ∧ PySem.Within mA (fs.map (·.1)) ∧ fs.length ≤ 1000 ∧ H dx = some (.own a) := by
  obtain ⟨d, z, ne, ob, mA, n, r, q⟩ := (show ObjOk P w H h a (.ins C dx fs) from hok a _ e)
  exact ⟨mA, ⟨ob, n, ne⟩, r, q, z, d⟩
end

set_option genInjectivity false in
structure Cls (K : PySem.W.Frag) (C : Addr) : Prop where
  pg : PySem.W.plainGet K C Str.empty = true
  hd : PySem.W.hasDictIn K C = true
  po : PySem.W.plainOver K C = true
  sa : PySem.W.findIn K (.ref C) "__setattr__" = some (some (.builtin "object.__setattr__"))
theorem Cls.get {K : PySem.W.Frag} {C : Addr} (c : Cls K C) (f : Str) : PySem.W.plainGet K C f = true := c.pg
noncomputable def NoAttr (K : PySem.W.Frag) (C : Addr) (f : Str) : Prop := PySem.W.findIn K (.ref C) f = some none
theorem NoAttr.taker {K : PySem.W.Frag} {C : Addr} {f : Str} (n : NoAttr K C f) : PySem.W.takerIn K C f = some none := by
  unfold PySem.W.takerIn
  rw [show PySem.W.findIn K (.ref C) f = some none from n]
  rfl
section
variable {X : Cx} {pins : List (Addr × Obj)} {σ : St} {H : Hp} {s : Shared} {a C dx : Addr} {fs : List (Str × V)} {f : Str} {v : V} {A : Around} {E : Value → Shared → Prop}

theorem getattr_ok {b : Bool} {Q : Value → Shared → Prop} (I : Inv X pins σ H s) (e : H a = some (.ins C dx fs)) (c : Cls X.K C) (n : NoAttr X.K C f) (l : fs.lookup f = some v)
    (h : ∀ u s', Inv X pins σ H s' → RelV v u → Q u s') : wpAny (model X.prog X.w) A (getAttr (.ref a) f b) Q E s := by
  obtain ⟨mA, O, r, _, _, _⟩ := ins_get I.hok e
  obtain ⟨u, hu, ru⟩ := RelO.some_of (v := v) (o := mA f) (by rw [← l]; exact r f)
  exact get_map I.kIn O (c.get f) c.hd n hu (handed_of ru) (h u _ (I.tok _) ru)

theorem setattr_ok {y : V} {u : Value} {Q : Unit → Shared → Prop} (I : Inv X pins σ H s) (e : H a = some (.ins C dx fs)) (c : Cls X.K C) (n : NoAttr X.K C f) (hl : fs.length < 1000) (ry : RelV y u)
    (h : ∀ s', Inv X pins σ (upd H a (.ins C dx (putF f y fs))) s' → Q () s') : wpAny (model X.prog X.w) A (setAttr (.ref a) f u) Q E s := by
  obtain ⟨mA, O, r, wi, _, ho⟩ := ins_get I.hok e
  have hz : (fs.map (·.1)).length ≤ sizeLine := by rw [List.length_map, sizeLine_eq]; omega
  refine set_map I.kIn O c.sa c.po n.taker c.hd wi hz fun h' O' sb => h _ ?_
  have hd : ∃ o, h'.get? dx = some o := let ⟨o, _, _, e', _⟩ := O'.ns; ⟨o, e'⟩
  refine I.write (x := a) (e := dx) (by rw [e]; exact True.intro) (.inr ho) (fun b q hb z => (sb.2 b hb).trans z) hd ?_
  refine ⟨by rw [upd_ne O.ne]; exact ho, ?_, O.ne, O'.obj, _, O'.ns, fun g => ?_, fun g hg => ?_⟩
  · have := length_putF f y fs; omega
  · show RelO ((putF f y fs).lookup g) (if g = f then some u else mA g)
    rw [lookup_putF]
    by_cases q : g = f
    · rw [if_pos q, if_pos q]; exact ry
    · rw [if_neg q, if_neg q]; exact r g
  · by_cases q : g = f
    · rw [q]; exact (keys_putF f y fs).1
    · refine (keys_putF f y fs).2 g (wi g fun z => hg ?_)
      show (if g = f then some u else mA g) = none
      rw [if_neg q]; exact z

theorem Inv.made (I : Inv X pins σ H s) : Inv X pins σ (upd (upd H s.heap.objs.size (.own (s.heap.objs.size + 1))) (s.heap.objs.size + 1) (.ins C s.heap.objs.size []))
    { s with heap := (s.heap.push PySem.W.emptyDict).push (PySem.W.instObj C s.heap.objs.size) } := by
  have e1 : (s.heap.push PySem.W.emptyDict).get? s.heap.objs.size = some PySem.W.emptyDict := Heap.get?_push_size s.heap rfl
  have e2 : ((s.heap.push PySem.W.emptyDict).push (PySem.W.instObj C s.heap.objs.size)).get? (s.heap.objs.size + 1) = some (PySem.W.instObj C s.heap.objs.size) := by
    have := Heap.get?_push_size (s.heap.push PySem.W.emptyDict) (o := PySem.W.instObj C s.heap.objs.size) rfl
    rwa [Heap.size_push] at this
  have e3 : (s.heap.push PySem.W.emptyDict).Ns s.heap.objs.size (fun _ => none) := ⟨PySem.W.emptyDict, #[], _, e1, rfl, (fun e he => absurd he (by simp)), fun _ => rfl⟩
  have I1 := I.laid (a := s.heap.objs.size) (o := .own (s.heap.objs.size + 1)) (h' := s.heap.push PySem.W.emptyDict) (t' := s.toks) (fun b u q => Heap.get?_push_of_some _ q) (Nat.le_refl _) ⟨_, e1⟩
  refine I1.laid (a := s.heap.objs.size + 1) (o := .ins C s.heap.objs.size []) (t' := s.toks) (fun b u q => Heap.get?_push_of_some _ q) (Nat.le_of_eq (Heap.size_push _ _)) ?_
  have ne : s.heap.objs.size ≠ s.heap.objs.size + 1 := Nat.ne_of_lt (Nat.lt_succ_self _)
  refine ⟨by rw [upd_ne ne, upd_same], Nat.zero_le _, ne, e2, fun _ => none, (Heap.Ns1.of_empty e3).at fun o q => Heap.get?_push_of_some _ q, fun _ => True.intro, fun y hy => absurd rfl hy⟩

theorem attr_of {prog : Program} {w : World} {env : Env} {e : Expr} {f : Str} {pos : Pos} {s : Shared} {Q : Value → Shared → Prop} (hb : attributeBase e f env (eval e env) = eval e env)
    (h : wpAny (model prog w) A (eval e env) (fun o s₁ => wpAny (model prog w) A (getAttr o f true) Q E s₁) E s) : wpAny (model prog w) A (eval (.Attribute e f pos) env) Q E s :=
  Attribute_any_ h (by rw [arm_eval_Attribute, hb])
end

noncomputable def tFld (K : PySem.W.Frag) (ta : TE) (f : Str) : TE := fun σ H Q => ta σ H fun x H1 => ∃ a C dx fs v, x = .ref a ∧ H1 a = some (.ins C dx fs) ∧ Cls K C ∧ NoAttr K C f ∧ fs.lookup f = some v ∧ Q v H1
noncomputable def sFld (K : PySem.W.Frag) (ta tv : TE) (f : Str) : TS := fun D σ H => tv σ H fun y H1 => ta σ H1 fun x H2 => ∃ a C dx fs, x = .ref a ∧ H2 a = some (.ins C dx fs) ∧ Cls K C ∧ NoAttr K C f ∧ fs.length < 1000 ∧
  D.nx σ (upd H2 a (.ins C dx (putF f y fs)))
section
variable {X : Cx} {o e value : Expr} {f : Str} {pos pos' tpos : Pos} {ta tv : TE}
theorem pe_fld (he : PE X e ta) (hb : attributeBase e f X.env (eval e X.env) = eval e X.env) : PE X (.Attribute e f pos) (tFld X.K ta f) := by
  intro pins s σ H Q I h
  refine attr_of hb (thn (he pins s σ H _ I h) fun u s1 ⟨x, H1, I1, rx, a, C, dx, fs, v, ex, ea, c, n, l, q⟩ => ?_)
  subst ex
  obtain rfl : u = Value.ref a := rx
  exact getattr_ok I1 ea c n l fun u' s2 I2 ru => ⟨v, H1, I2, ru, q⟩
theorem ps_fld (ha : PE X o ta) (hv : PE X value tv) (hs : swapsWith value (some (.Attribute o f pos')) pos.line X.env = pure false) : PS X (.Assign [.Attribute o f pos'] value pos) (sFld X.K ta tv f) := by
  intro pins s σ H D I h
  refine plainObj_wpAny_Assign_Attribute (thn (hv pins s σ H _ I h) fun u s1 ⟨y, H1, I1, ry, q⟩ => thn (ha pins s1 σ H1 _ I1 q) fun ov s2 ⟨x, H2, I2, rx, a, C, dx, fs, ex, ea, c, n, l, q2⟩ => ?_) hs
  subst ex
  obtain rfl : ov = Value.ref a := rx
  exact setattr_ok I2 ea c n l ry fun s3 I3 => ⟨σ, _, I3, q2⟩
end

section
variable {X : Cx} {pins : List (Addr × Obj)} {σ : St} {H : Hp} {s : Shared} {A : Around} {E : Value → Shared → Prop} {Q : Value → Shared → Prop} {c : Value} {b : Bool}
inductive TyOf (K : PySem.W.Frag) (H : Hp) : V → Value → Prop where
  | non : TyOf K H .non (.type "NoneType")
  | bl (x : Bool) : TyOf K H (.bl x) (.type "bool")
  | int (i : Int) : TyOf K H (.int i) (.type "int")
  | str (x : Str) : TyOf K H (.str x) (.type "str")
  | flt (x : UInt64) : TyOf K H (.flt x) (.type "float")
  | lst {a : Addr} {xs : List V} (e : H a = some (.lst xs)) : TyOf K H (.ref a) (.type "list")
  | frz {a : Addr} {o : Obj} {xs : List V} (e : H a = some (.frz o (.lst xs))) : TyOf K H (.ref a) (.type "list")
  | tup {a : Addr} {xs : List V} (e : H a = some (.tup xs)) : TyOf K H (.ref a) (.type "tuple")
  | dK {a : Addr} {kvs : List (Key × V)} (e : H a = some (.dK kvs)) : TyOf K H (.ref a) (.type "dict")
  | dT {a : Addr} {kvs : List (List Key × V)} (e : H a = some (.dT kvs)) : TyOf K H (.ref a) (.type "dict")
  | ins {a C dx : Addr} {fs : List (Str × V)} (e : H a = some (.ins C dx fs)) (cl : Cls K C) (ha : PySem.W.findIn K (.ref C) "__class__" = some (some (.builtin "object.__class__")))
      (hn : PySem.W.specialIn K (.builtin "object.__class__") "__get__" = some (some (.builtin "getset_descriptor.__get__"))) (htk : PySem.W.takesIn K (.builtin "object.__class__") = some true)
      (hm : PySem.W.mroIn K C (.type "object") = some true) : TyOf K H (.ref a) (.ref C)
theorem isinst_ok {x : V} {u t : Value} (I : Inv X pins σ H s) (rx : RelV x u) (ty : TyOf X.K H x t) (e : PySem.W.kitOne X.K t c = some b) (h : ∀ tk, Q (.bool b) { s with toks := tk }) :
    wpAny (model X.prog X.w) A (call (.builtin "isinstance") [u, c]) Q E s := by
  cases ty with
  | non => cases (show u = Value.none from rx); exact PySem.W.kia_one PySem.W.kitx_none I.kIn True.intro e (fun z => nomatch z) h
  | bl y => cases (show u = Value.bool y from rx); exact PySem.W.kia_one PySem.W.kitx_bool I.kIn True.intro e (fun z => nomatch z) h
  | int i => obtain ⟨t, q⟩ := (show ∃ t, u = Value.int i t from rx); cases q; exact PySem.W.kia_one PySem.W.kitx_int I.kIn True.intro e (fun z => nomatch z) h
  | str y => obtain ⟨t, q⟩ := (show ∃ t, u = Value.str y t from rx); cases q; exact PySem.W.kia_one PySem.W.kitx_str I.kIn True.intro e (fun z => nomatch z) h
  | flt y => obtain ⟨t, q⟩ := (show ∃ t, u = Value.float y t from rx); cases q; exact PySem.W.kia_one PySem.W.kitx_float I.kIn True.intro e (fun z => nomatch z) h
  | @lst a xs ea =>
    cases (show u = Value.ref a from rx)
    obtain ⟨_, _, n, _, h1⟩ := (show ObjOk X.prog X.w H s.heap a (.lst xs) from I.hok a _ ea)
    exact PySem.W.kia_one PySem.W.kitx_list I.kIn ⟨_, h1, rfl⟩ e (fun z => nomatch z) h
  | @frz a ob xs ea =>
    cases (show u = Value.ref a from rx)
    obtain ⟨_, _, _, n, _, h1⟩ := (show ObjOk X.prog X.w H s.heap a (.frz ob (.lst xs)) from I.hok a _ ea)
    exact PySem.W.kia_one PySem.W.kitx_list I.kIn ⟨_, h1, rfl⟩ e (fun z => nomatch z) h
  | @tup a xs ea =>
    cases (show u = Value.ref a from rx)
    obtain ⟨_, _, _, p⟩ := (show ObjOk X.prog X.w H s.heap a (.tup xs) from I.hok a _ ea)
    obtain ⟨o, h1, h2, _⟩ := p
    exact PySem.W.kia_one PySem.W.kitx_tuple I.kIn ⟨o, h1, h2⟩ e (fun z => nomatch z) h
  | @dK a kvs ea =>
    cases (show u = Value.ref a from rx)
    obtain ⟨_, _, vs, _, p⟩ := (show ObjOk X.prog X.w H s.heap a (.dK kvs) from I.hok a _ ea)
    obtain ⟨o, es, ep, h1, h2, _⟩ := p
    exact PySem.W.kia_one PySem.W.kitx_dict I.kIn ⟨o, h1, h2.1⟩ e (fun z => nomatch z) h
  | @dT a kvs ea =>
    cases (show u = Value.ref a from rx)
    obtain ⟨_, _, xs, _, o, es, ep, h1, h2, _⟩ := (show ObjOk X.prog X.w H s.heap a (.dT kvs) from I.hok a _ ea)
    exact PySem.W.kia_one PySem.W.kitx_dict I.kIn ⟨o, h1, h2.1⟩ e (fun z => nomatch z) h
  | @ins a C dx fs ea cl ha hn htk hm =>
    cases (show u = Value.ref a from rx)
    obtain ⟨mA, O, _⟩ := ins_get I.hok ea
    obtain ⟨od, J, _⟩ := O.look
    exact PySem.W.kia_one (PySem.W.kitx_own (cl.get _) cl.hd ha hn htk hm) I.kIn J e (fun z => nomatch z) h
end
end L2

namespace L2
open PySem PySem.Spec PyProof.Rows

set_option genInjectivity false in
structure Room (k : Nat) (A : Around) : Prop where
  hd : A.handled = none
  dp : A.depth + 3 * k + 5 < recursionLimit
  un : A.units + 16 * k + 200 < cLine
theorem Room.mono {j k : Nat} {A : Around} (r : Room k A) (h : j ≤ k) : Room j A := ⟨r.hd, by have := r.dp; omega, by have := r.un; omega⟩
theorem Room.deeper {k : Nat} {A : Around} (r : Room (k + 1) A) (env : Env) : Room k (A.deeper env) :=
  ⟨r.hd, by have := r.dp; show A.depth + 1 + 3 * k + 5 < _; omega, by have := r.un; show A.units + 3 + 16 * k + 200 < _; omega⟩
theorem make_depth {A : Around} {C : Addr} {us : List Value} {kw : List (Str × Value)} : (A.under (.builtin "type.__call__" ⟨.ref C :: us, kw⟩)).depth = A.depth + 1 := by
  first | rfl | simp [Around.under, Code.weight, Code.isCreation, Code.isGuard, Code.isCaller, Code.frames, Code.isFrame, guardIds]
theorem make_units {A : Around} {C : Addr} {us : List Value} {kw : List (Str × Value)} : (A.under (.builtin "type.__call__" ⟨.ref C :: us, kw⟩)).units = A.units + 1 := by
  first | rfl | simp [Around.under, Code.cUnits, Code.frames, Code.isFrame]
theorem Room.make {k : Nat} {A : Around} (r : Room (k + 1) A) (C : Addr) (us : List Value) (kw : List (Str × Value)) : Room k (A.under (.builtin "type.__call__" ⟨.ref C :: us, kw⟩)) :=
  ⟨r.hd, by have := r.dp; rw [make_depth]; omega, by have := r.un; rw [make_units]; omega⟩
theorem Room.depth {k : Nat} {A : Around} (r : Room k A) : A.depth < recursionLimit := by have := r.dp; omega
theorem Room.units {k : Nat} {A : Around} (r : Room k A) : A.units + 64 < cLine := by have := r.un; omega
noncomputable def tNil : TA := fun _ H Q => Q [] H
noncomputable def tCons (ta : TE) (tr : TA) : TA := fun σ H Q => ta σ H fun x H1 => tr σ H1 fun xs H2 => Q (x :: xs) H2
section
variable {X : Cx} {e : Expr} {es : List Expr} {te : TE} {t : TA} {pos : Pos}
theorem pa_nil : PA X [] tNil := fun _ _ _ _ H Q I h => Calls.spliced_nil ⟨[], H, I, .nil, h⟩
theorem pa_cons (ha : PE X e te) (hr : PA X es t) (hs : starEach (e :: es) X.env = (false, eval e X.env) :: starEach es X.env := by rfl) : PA X (e :: es) (tCons te t) := by
  intro pos pins s σ H Q I h
  rw [hs]
  show wpAny _ _ (spliced ((false, eval e X.env) :: backTo pos (starEach es X.env))) _ _ s
  refine Calls.spliced_cons (thn (ha pins s σ H _ I h) fun u s1 ⟨x, H1, I1, r1, q1⟩ => ?_)
  exact thn (hr pos pins s1 σ H1 _ I1 q1) fun us s2 ⟨xs, H2, I2, r2, q2⟩ => ⟨x :: xs, H2, I2, .cons r1 r2, q2⟩

noncomputable def tTup (t : TA) : TE := fun σ H Q => t σ H fun xs H1 => xs.length ≤ sizeLine ∧ ∀ p, H1 p = none → Q (.ref p) (upd H1 p (.tup xs))
noncomputable def tLst (t : TA) : TE := fun σ H Q => t σ H fun xs H1 => xs.length ≤ sizeLine ∧ ∀ p, H1 p = none → Q (.ref p) (upd H1 p (.lst xs))
theorem pe_tup {x1} (h : PA X es t) : PE X (.Tuple es x1 pos) (tTup t) := by
  intro pins s σ H Q I hq
  refine wpAny_Tuple_spliced (thn (h pos pins s σ H _ I hq) fun us s1 ⟨xs, H1, I1, r, z, q⟩ => ⟨by rw [← r.length]; exact z, ?_⟩)
  have hf : H1 s1.heap.objs.size = none := I1.hok.fresh (Nat.le_refl _)
  refine ⟨.ref s1.heap.objs.size, upd H1 s1.heap.objs.size (.tup xs), I1.laid (t' := s1.toks) (fun b u e => Heap.get?_push_of_some _ e) (Nat.le_refl _) ?_, rfl, q _ hf⟩
  exact ⟨z, us, r, ⟨_, Heap.get?_push_size _ rfl, rfl, _, rfl⟩⟩
theorem pe_lst (h : PA X es t) : PE X (.List es pos) (tLst t) := by
  intro pins s σ H Q I hq
  refine wpAny_List_spliced (thn (h pos pins s σ H _ I hq) fun us s1 ⟨xs, H1, I1, r, z, q⟩ => ⟨by rw [← r.length]; exact z, ?_⟩)
  have hf : H1 s1.heap.objs.size = none := I1.hok.fresh (Nat.le_refl _)
  refine ⟨.ref s1.heap.objs.size, upd H1 s1.heap.objs.size (.lst xs), I1.laid (t' := s1.toks) (fun b u e => Heap.get?_push_of_some _ e) (Nat.le_refl _) ?_, rfl, q _ hf⟩
  exact ⟨z, us, 0, r, Heap.get?_push_size _ rfl⟩
end

noncomputable abbrev Sp := List V → Hp → VK → XK → Prop
noncomputable abbrev CXT := List Env → Hp → Shared → XK → Value → Shared → Prop

set_option genInjectivity false in
structure Env0 (P : Program) (w : World) (K : PySem.W.Frag) (mg : Str → Option Value) (base : Heap) (A : Around) (outer : List Env) (s : Shared) (H : Hp) : Prop where
  frames : A.frames = some outer
  mod : Mod K mg base
  bs : ∀ b o, base.get? b = some o → s.heap.get? b = some o ∧ H b = none
  bsz : base.objs.size ≤ s.heap.objs.size
  funs : s.heap.FunFrames base outer
  frf : ∀ b ∈ frs outer, H b = none
  hok : HOk P w H s.heap
  bare : AllBare s.gens
noncomputable def CE (outer : List Env) (P : Program) (w : World) (H : Hp) (s : Shared) (Q : VK) (u : Value) (s' : Shared) : Prop :=
  ∃ v H', s'.os = s.os ∧ AllBare s'.gens ∧ Un (frs outer) [] H H' s.heap s'.heap ∧ HOk P w H' s'.heap ∧ RelV v u ∧ Q v H'
noncomputable def CR (CX : CXT) (outer : List Env) (P : Program) (w : World) (H : Hp) (s : Shared) (Q : VK) (E : XK) (r : Result) (s' : Shared) : Prop :=
  match r with
  | .ok (.ret u) => CE outer P w H s Q u s'
  | .ok _ => False
  | .error e => CX outer H s E e s'
set_option genInjectivity false in
structure FnOk (P : Program) (w : World) (K : PySem.W.Frag) (mg : Str → Option Value) (base : Heap) (CX : CXT) (k : Nat) (f : Addr) (fd : FuncData) (ps : List Str) (sp : Sp) : Prop where
  len : ∀ vs H Q E, sp vs H Q E → vs.length = ps.length
  run : ∀ (A : Around) (outer : List Env) (s : Shared) (H : Hp) (args : Args) (us : List Value) (vs : List V) (Q : VK) (E : XK), Room k A → Env0 P w K mg base A outer s H → BindsTo s fd args (ps.zip us) → Vals vs us → sp vs H Q E →
    codeAny (model P w) A (.call (.ref f) args) (CR CX outer P w H s Q E) s
theorem Env0.make {P : Program} {w : World} {K : PySem.W.Frag} {mg : Str → Option Value} {base : Heap} {A : Around} {outer : List Env} {s : Shared} {H : Hp} (e : Env0 P w K mg base A outer s H) (C : Addr) (us : List Value) (kw : List (Str × Value)) :
    Env0 P w K mg base (A.under (.builtin "type.__call__" ⟨.ref C :: us, kw⟩)) outer s H := ⟨by first | exact e.frames | (simpa [Around.under, Code.envs, Code.isFrame, pushEnvs] using e.frames), e.mod, e.bs, e.bsz, e.funs, e.frf, e.hok, e.bare⟩
section
variable {X : Cx} {pins : List (Addr × Obj)} {σ : St} {H : Hp} {s s' : Shared}
theorem Inv.env0 (I : Inv X pins σ H s) : Env0 X.prog X.w X.K X.mg X.base X.A X.stack s H :=
  ⟨I.ok.frames, I.ok.mod, I.bs, Nat.le_trans I.ok.bsz I.sz, I.stack, I.stkFree, I.hok, I.bare⟩
theorem Inv.after {Q : VK} {u : Value} (I : Inv X pins σ H s) (h : CE X.stack X.prog X.w H s Q u s') : EP X pins σ Q u s' := by
  obtain ⟨v, H', os, bare, un, hok, r, q⟩ := h
  obtain ⟨hh, g, d, t, os'⟩ := s'
  obtain rfl : os' = s.os := os
  exact ⟨v, H', I.call (h' := hh) (g' := g) (d' := d) (t' := t) (ch := []) un hok bare (fun b z => absurd z (by simp)), r, q⟩
end

noncomputable def tCall (sp : Sp) (dvs : List V) (E : XK) (t : TA) : TE := fun σ H Q => t σ H fun vs H1 => sp (vs ++ dvs) H1 Q E
noncomputable def tMake (C : Addr) (sp : Sp) (dvs : List V) (E : XK) (t : TA) : TE := fun σ H Q => t σ H fun vs H1 => ∀ x dx, H1 x = none → H1 dx = none → dx ≠ x →
  sp (.ref x :: (vs ++ dvs)) (upd (upd H1 dx (.own x)) x (.ins C dx [])) (fun v H2 => v = .non ∧ Q (.ref x) H2) E

noncomputable def Binds (K : PySem.W.Frag) (fd : FuncData) (ps : List Str) (ds : List Value) : Prop :=
  ∀ (s : Shared) (us : List Value), K.In s.heap → (us ++ ds).length = ps.length → BindsTo s fd ⟨us, []⟩ (ps.zip (us ++ ds))
theorem Binds.all {K : PySem.W.Frag} {fd : FuncData} {ps : List Str} (h : ∀ us : List Value, us.length = ps.length → bindArgs fd ⟨us, []⟩ = pure (ps.zip us)) : Binds K fd ps [] := fun s us _ hl => by
  rw [List.append_nil] at hl ⊢
  exact .of_eq (h us hl)

noncomputable def Passes (CX : CXT) (X : Cx) (E : XK) : Prop := ∀ (pins : List (Addr × Obj)) (σ : St) (H : Hp) (s : Shared) (e : Value) (s' : Shared), Inv X pins σ H s → CX X.stack H s E e s' → X.xe e s'

section
variable {X : Cx} {CX : CXT} {k : Nat} {f C : Addr} {fd : FuncData} {ps : List Str} {sp : Sp} {dvs : List V} {ds : List Value} {E : XK} {x m : Str} {p pos apos : Pos} {e o : Expr} {es : List Expr} {ta : TE} {t : TA}

theorem run_fn {pins : List (Addr × Obj)} {σ : St} {H : Hp} {s : Shared} {Q : VK} {us : List Value} {vs : List V} (F : FnOk X.prog X.w X.K X.mg X.base CX k f fd ps sp) (hr : Room k X.A) (hb : Binds X.K fd ps ds) (hd : Vals dvs ds) (hx : Passes CX X E)
    (I : Inv X pins σ H s) (r : Vals vs us) (h : sp (vs ++ dvs) H Q E) : wpAny (model X.prog X.w) X.A (call (.ref f) us) (EP X pins σ Q) X.xe s := by
  have r2 : Vals (vs ++ dvs) (us ++ ds) := r.append hd
  have hl : (us ++ ds).length = ps.length := by rw [← r2.length]; exact F.len _ _ _ _ h
  refine wpAny_call (codeAny_mono (F.run X.A X.stack s H ⟨us, []⟩ (us ++ ds) (vs ++ dvs) Q E hr I.env0 (hb s us I.kIn hl) r2 h) fun r s' hq => ?_)
  cases r with
  | error e => exact hx pins σ H s e s' I hq
  | ok fl =>
    cases fl with
    | ret u => exact I.after hq
    | next => exact False.elim hq
    | brk => exact False.elim hq
    | cont => exact False.elim hq

theorem pe_call (F : FnOk X.prog X.w X.K X.mg X.base CX k f fd ps sp) (hr : Room k X.A) (hg : Gl X x) (hm : X.mg x = some (.ref f)) (hk : PySem.W.keepIn X.K (.ref f) = true) (hb : Binds X.K fd ps ds) (hd : Vals dvs ds) (hx : Passes CX X E)
    (ha : PA X (e :: es) t) (hdb : (x == ("__debug__" : Str)) = false := by decide) (he : starEach (e :: es) X.env = (false, eval e X.env) :: starEach es X.env := by rfl) (hpl : (backTo pos (starEach es X.env)).any (·.1) = false := by rfl) :
    PE X (.Call (.Name x p) (e :: es) [] pos) (tCall sp dvs E t) := by
  intro pins s σ H Q I h
  refine wpAny_Call_Name_kw (ld_glob I hg hm ?_ hdb)
  refine PySem.W.callWith_K (h₀ := X.base) I.ok.mod.kin hk (thn (ha pos pins s σ H _ I h) fun us s1 ⟨vs, H1, I1, r, q⟩ => ⟨I1.kIn, ?_⟩) he hpl
  exact run_fn F hr hb hd hx I1 r q
set_option genInjectivity false in
structure Mk (K : PySem.W.Frag) (C f : Addr) : Prop where
  makes : PySem.W.makesIn K C = true
  init : PySem.W.findIn K (.ref C) "__init__" = some (some (.ref f))
  fn : PySem.W.isFn K (.ref f) = true
  kp : PySem.W.keepIn K (.ref C) = true

theorem run_make {pins : List (Addr × Obj)} {σ : St} {H : Hp} {s : Shared} {Q : VK} {us : List Value} {vs : List V} (M : Mk X.K C f) (F : FnOk X.prog X.w X.K X.mg X.base CX k f fd ps sp) (hr : Room (k + 1) X.A) (hb : Binds X.K fd ps ds) (hd : Vals dvs ds)
    (hx : Passes CX X E) (I : Inv X pins σ H s) (r : Vals vs us)
    (h : ∀ x dx, H x = none → H dx = none → dx ≠ x → sp (.ref x :: (vs ++ dvs)) (upd (upd H dx (.own x)) x (.ins C dx [])) (fun v H2 => v = .non ∧ Q (.ref x) H2) E) :
    wpAny (model X.prog X.w) X.A (call (.ref C) us) (EP X pins σ Q) X.xe s := by
  have hq := h (s.heap.objs.size + 1) s.heap.objs.size (I.hok.fresh (Nat.le_succ _)) (I.hok.fresh (Nat.le_refl _)) (Nat.ne_of_lt (Nat.lt_succ_self _))
  have I2 := Inv.made (C := C) I
  have r2 : Vals (V.ref (s.heap.objs.size + 1) :: (vs ++ dvs)) (Value.ref (s.heap.objs.size + 1) :: (us ++ ds)) := .cons rfl (r.append hd)
  have hl : (Value.ref (s.heap.objs.size + 1) :: us ++ ds).length = ps.length := by
    have e := r2.length
    rw [F.len _ _ _ _ hq] at e
    exact e.symm
  refine wpAny_call (make_map (f := f) I.kIn M.makes M.init (beq_iff_eq.mp M.fn) (codeAny_mono (F.run _ X.stack _ _ ⟨Value.ref (s.heap.objs.size + 1) :: us, []⟩ (Value.ref (s.heap.objs.size + 1) :: (us ++ ds)) _ _ E (hr.make C us [])
    (I2.env0.make C us []) (hb _ (Value.ref (s.heap.objs.size + 1) :: us) I2.kIn hl) r2 hq) fun r s' hq' => ?_))
  cases r with
  | error e => exact hx pins σ _ _ e s' I2 hq'
  | ok fl =>
    cases fl with
    | ret u =>
      obtain ⟨v, H', I3, rv, ev, q3⟩ := I2.after hq'
      subst ev
      exact ⟨rv, ⟨V.ref (s.heap.objs.size + 1), H', I3, rfl, q3⟩⟩
    | next => exact False.elim hq'
    | brk => exact False.elim hq'
    | cont => exact False.elim hq'
theorem pe_make (M : Mk X.K C f) (F : FnOk X.prog X.w X.K X.mg X.base CX k f fd ps sp) (hr : Room (k + 1) X.A) (hg : Gl X x) (hm : X.mg x = some (.ref C)) (hb : Binds X.K fd ps ds) (hd : Vals dvs ds) (hx : Passes CX X E)
    (ha : PA X (e :: es) t) (hdb : (x == ("__debug__" : Str)) = false := by decide) (he : starEach (e :: es) X.env = (false, eval e X.env) :: starEach es X.env := by rfl) (hpl : (backTo pos (starEach es X.env)).any (·.1) = false := by rfl) :
    PE X (.Call (.Name x p) (e :: es) [] pos) (tMake C sp dvs E t) := by
  intro pins s σ H Q I h
  refine wpAny_Call_Name_kw (ld_glob I hg hm ?_ hdb)
  refine PySem.W.callWith_K (h₀ := X.base) I.ok.mod.kin M.kp (thn (ha pos pins s σ H _ I h) fun us s1 ⟨vs, H1, I1, r, q⟩ => ⟨I1.kIn, ?_⟩) he hpl
  exact run_make M F hr hb hd hx I1 r q
end

section
variable {X : Cx} {CX : CXT} {k : Nat} {f C : Addr} {fd : FuncData} {ps ks : List Str} {sp : Sp} {E : XK} {x m : Str} {p pos apos kpos : Pos} {e o : Expr} {es : List Expr} {kws : List Keyword} {te ta : TE} {t tk : TA} {nm : Option Str}
variable {g : List Value → List Value → List Value} {gV : List V → List V → List V}
end

set_option genInjectivity false in
structure FnScope (N P : List Str) (sc : Scope) : Prop where
  kind : sc.kind = .function
  co : sc.isCoroutine = false
  gen : sc.isGenerator = false
  nd : N.Nodup
  pre : N.take P.length = P
  par : ∀ x ∈ P, sc.names.lookup x = some .local ∨ sc.names.lookup x = some .cell
  nofree : ∀ y ∈ sc.names, y.2 ≠ .free

theorem bindL_out {kindOf : Str → Option NameKind} {x : Str} : ∀ {binds : List (Str × Value)} {m : Str → Option Value}, (∀ v, (x, v) ∉ binds) → bindL kindOf binds m x = m x
  | [], _, _ => rfl
  | (n, v) :: r, m, h => by
    unfold bindL
    rw [bindL_out fun w hw => h w (List.mem_cons_of_mem _ hw)]
    split
    · have : x ≠ n := by rintro rfl; exact h v List.mem_cons_self
      simp [this]
    · rfl
theorem bindC_out {kindOf : Str → Option NameKind} {x : Str} : ∀ {binds : List (Str × Value)} {m : Str → Option Value}, (∀ v, (x, v) ∉ binds) → bindC kindOf binds m x = m x
  | [], _, _ => rfl
  | (n, v) :: r, m, h => by
    unfold bindC
    rw [bindC_out fun w hw => h w (List.mem_cons_of_mem _ hw)]
    split
    · rfl
    · have : x ≠ n := by rintro rfl; exact h v List.mem_cons_self
      simp [this]
theorem bindL_get {kindOf : Str → Option NameKind} {x : Str} {v : Value} : ∀ {P : List Str} {vs : List Value} {i : Nat} {m : Str → Option Value}, P.Nodup → P[i]? = some x → vs[i]? = some v → kindOf x = some .local →
    bindL kindOf (P.zip vs) m x = some v
  | [], _, _, _, _, h, _, _ => by simp at h
  | _ :: _, [], _, _, _, _, h, _ => by simp at h
  | p :: P, w :: vs, 0, m, nd, h1, h2, hk => by
    simp at h1 h2; subst h1; subst h2
    show bindL kindOf ((p, w) :: P.zip vs) m p = _
    unfold bindL
    rw [bindL_out fun v hv => (List.nodup_cons.mp nd).1 (List.of_mem_zip hv).1, if_pos hk]
    simp
  | p :: P, w :: vs, i + 1, m, nd, h1, h2, hk => by
    show bindL kindOf ((p, w) :: P.zip vs) m x = _
    unfold bindL
    exact bindL_get (i := i) (List.nodup_cons.mp nd).2 (by simpa using h1) (by simpa using h2) hk
theorem bindC_get {kindOf : Str → Option NameKind} {x : Str} {v : Value} : ∀ {P : List Str} {vs : List Value} {i : Nat} {m : Str → Option Value}, P.Nodup → P[i]? = some x → vs[i]? = some v → kindOf x ≠ some .local →
    bindC kindOf (P.zip vs) m x = some v
  | [], _, _, _, _, h, _, _ => by simp at h
  | _ :: _, [], _, _, _, _, h, _ => by simp at h
  | p :: P, w :: vs, 0, m, nd, h1, h2, hk => by
    simp at h1 h2; subst h1; subst h2
    show bindC kindOf ((p, w) :: P.zip vs) m p = _
    unfold bindC
    rw [bindC_out fun v hv => (List.nodup_cons.mp nd).1 (List.of_mem_zip hv).1, if_neg hk]
    simp
  | p :: P, w :: vs, i + 1, m, nd, h1, h2, hk => by
    show bindC kindOf ((p, w) :: P.zip vs) m x = _
    unfold bindC
    exact bindC_get (i := i) (List.nodup_cons.mp nd).2 (by simpa using h1) (by simpa using h2) hk

noncomputable def start (N : List Str) (vs : List V) : St := vs.map some ++ List.replicate (N.length - vs.length) none

noncomputable def cxOf (CX : CXT) (P : Program) (w : World) (K : PySem.W.Frag) (mg : Str → Option Value) (base : Heap) (N : List Str) (qual : Str) (scope : Scope) (f : Addr) (cd : Value) (A : Around) (outer : List Env) (s : Shared) (H : Hp) (E : XK) : Cx where
  prog := P
  w := w
  K := K
  mg := mg
  base := base
  A := A.deeper (envOfC qual scope s.heap.objs.size f cd)
  N := N
  s₀ := s
  H₀ := H
  env := envOfC qual scope s.heap.objs.size f cd
  outer := outer
  stack := envOfC qual scope s.heap.objs.size f cd :: outer
  ex := []
  calm := true
  fn := fun _ => true
  pn := []
  xe := fun e s' => wpAny (model P w) (A.deeper (envOfC qual scope s.heap.objs.size f cd)) (leaving (envOfC qual scope s.heap.objs.size f cd) e) (fun _ s'' => CX outer H s E e s'') (fun e' s'' => CX outer H s E e' s'') s'

theorem cell_has {sc : Scope} {n : Nat} {x : Str} (h : sc.names.lookup x = some .cell) : ∃ c, (cellsFrom n sc.names []).lookup x = some c := by
  have q := PySem.W.cellsFrom_some sc.names n [] (.inl h)
  exact Option.isSome_iff_exists.mp q

theorem inv_start {CX : CXT} {P : Program} {w : World} {K : PySem.W.Frag} {mg : Str → Option Value} {base : Heap} {N ps : List Str} {qual : Str} {scope : Scope} {f : Addr} {cd : Value} {A : Around} {outer : List Env} {s s1 : Shared} {H : Hp} {E : XK} {us : List Value} {vs : List V}
    (S : FnScope N ps scope) (hd : A.handled = none) (e0 : Env0 P w K mg base A outer s H) (hl : vs.length = ps.length) (r : Vals vs us)
    (x : InCallC s s.heap.objs.size (bindL (envOfC qual scope s.heap.objs.size f cd).kindOf (ps.zip us) fun _ => none) (cellsFrom (s.heap.objs.size + 1) scope.names []) (bindC (envOfC qual scope s.heap.objs.size f cd).kindOf (ps.zip us) fun _ => none) s1) :
    Inv (cxOf CX P w K mg base N qual scope f cd A outer s H E) [] (start N vs) H s1 := by
  have hpl : ps.length ≤ N.length := by have := congrArg List.length S.pre; rw [List.length_take] at this; omega
  obtain ⟨h1, tk, rfl, hk⟩ := x.done
  have noA : ∀ b : Addr, b ∉ (cxOf CX P w K mg base N qual scope f cd A outer s H E).ex := fun b z => absurd (show b ∈ ([] : List Addr) from z) (by simp)
  refine ⟨⟨e0.mod, S.kind, rfl, rfl, Nat.le_refl _, fun y z c h1 h2 => ?_, fun y hy => ?_, fun y c _ h => ?_, fun _ => hd, Around.frames_deeper e0.frames, .inr ⟨rfl, rfl⟩, fun b z => absurd z (noA b), e0.bs, e0.bsz, fun b _ _ => noA b, fun b z => absurd z (noA b), e0.funs, e0.frf⟩,
    rfl, e0.bare, Un.kept hk, ⟨_, x.toInCall.ns, fun i y v h1 h2 h3 => ?_⟩, fun y c h => ⟨_, x.cell y c h⟩, e0.hok.fresh (Nat.le_refl _), fun y c h => ?_, fun p hp => absurd (show p ∈ ([] : List (Addr × Obj)) from hp) (by simp), e0.hok.kept hk, ?_⟩
  · exact name_of_addr x.apart (PySem.mem_of_lookup h1) (PySem.mem_of_lookup h2)
  · have hy : scope.names.lookup y = some .cell ∨ scope.names.lookup y = some .free := hy
    rcases hy with hy | hy
    · exact cell_has hy
    · exact absurd rfl (S.nofree _ (PySem.mem_of_lookup hy))
  · exact Nat.le_of_lt (x.above y c (PySem.mem_of_lookup h))
  · have hi : i < vs.length := by
      unfold start at h2
      by_cases hi : i < vs.length
      · exact hi
      · rw [List.getElem?_append_right (by simpa using hi)] at h2
        rw [List.getElem?_replicate] at h2
        split at h2 <;> cases h2
    have ha : vs[i]? = some v := by
      unfold start at h2
      rw [List.getElem?_append_left (by simpa using hi), List.getElem?_map] at h2
      cases e : vs[i]? with
      | none => rw [e] at h2; cases h2
      | some a => rw [e] at h2; cases h2; rfl
    obtain ⟨u, hu, rv⟩ := r.get ha
    have hp : ps[i]? = some y := by
      rw [← S.pre, List.getElem?_take_of_lt (by omega)]; exact h1
    have ndP : ps.Nodup := by rw [← S.pre]; exact S.nd.sublist (List.take_sublist _ _)
    refine ⟨u, rv, ?_⟩
    rcases S.par y (List.mem_of_getElem? hp) with k | k
    · exact .inl ⟨k, bindL_get ndP hp hu k⟩
    · obtain ⟨c, e⟩ := cell_has (n := s.heap.objs.size + 1) k
      refine .inr ⟨.inl k, c, e, ?_⟩
      have q := x.cell y c e
      rw [bindC_get ndP hp hu (by show scope.names.lookup y ≠ _; rw [k]; decide)] at q
      exact q
  · exact e0.hok.fresh (Nat.le_of_lt (x.above y c (PySem.mem_of_lookup h)))
  · unfold start
    show _ = N.length
    rw [List.length_append, List.length_map, List.length_replicate]
    omega

theorem fn_of {CX : CXT} {P : Program} {w : World} {K : PySem.W.Frag} {mg : Str → Option Value} {base : Heap} {k : Nat} {f : Addr} {name qual : Str} {params : Arguments} {body : List Stmt} {scope : Scope} {dV kV doc pm cdv ct oc : Value} {an od : Option Addr}
    {osl : Array (Option Value)} {N ps : List Str} {sp : Sp} (lk : K.lookup f = some ⟨oc, od, .func (PySem.W.fnOf name qual params body scope dV kV doc pm an cdv ct), osl⟩) (hcd : PySem.W.codeIn K cdv qual = true) (S : FnScope N ps scope)
    (len : ∀ vs H Q E, sp vs H Q E → vs.length = ps.length)
    (hbody : ∀ (A : Around) (outer : List Env) (s : Shared) (H : Hp) (vs : List V) (Q : VK) (E : XK), Room k (A.deeper (envOfC qual scope s.heap.objs.size f cdv)) → sp vs H Q E →
      ∃ t, PSs (cxOf CX P w K mg base N qual scope f cdv A outer s H E) body t ∧ t { nx := fun _ H' => Q .non H', rt := Q } (start N vs) H) :
    FnOk P w K mg base CX (k + 1) f (PySem.W.fnOf name qual params body scope dV kV doc pm an cdv ct) ps sp := by
  refine ⟨len, fun A outer s H args us vs Q E hr e0 hb r hsp => ?_⟩
  have hl := len _ _ _ _ hsp
  have KX : K.In s.heap := e0.mod.kin.keeps fun b o e => (e0.bs b o e).1
  have lim : s.heap.NoLimit := e0.mod.nolimit.keeps fun b o e => (e0.bs b o e).1
  have hkind : ∀ y ∈ ps.zip us, scope.names.lookup y.1 = some .local ∨ (scope.names.lookup y.1 = some .cell ∧ ((cellsFrom (s.heap.objs.size + 1) scope.names []).lookup y.1).isSome = true) := fun ⟨n, v⟩ hy => by
    rcases S.par n (List.of_mem_zip hy).1 with q | q
    · exact .inl q
    · exact .inr ⟨q, PySem.W.cellsFrom_some _ _ _ (.inl q)⟩
  refine codeAny_call_function hr.depth (KX _ _ lk) rfl S.co S.gen rfl (PySem.W.codeRec_of KX hcd) (hb _ _ _ _ ?_)
  refine wpAny_newFunctionEnv_cells S.kind hkind fun env he s1 x => ?_
  subst he
  refine ⟨lim.keeps x.toInCall.keep, codeAny_func ?_⟩
  obtain ⟨t, ht, hq⟩ := hbody A outer s H vs Q E (hr.deeper _) hsp
  have I : Inv (cxOf CX P w K mg base N qual scope f cdv A outer s H E) [] (start N vs) H s1 := inv_start S hr.hd e0 hl r x
  refine wpAny_mono (ht [] s1 (start N vs) H _ I hq) (fun fl s' hs => ?_) fun e s' hs => hs
  have fin : ∀ {σ' : St} {H' : Hp} {v : V} {u : Value}, Inv (cxOf CX P w K mg base N qual scope f cdv A outer s H E) [] σ' H' s' → RelV v u → Q v H' → CE outer P w H s Q u s' :=
    fun {σ' H' v u} J rv q => ⟨v, H', J.os, J.bare, J.base, J.hok, rv, q⟩
  cases fl with
  | ret u =>
    obtain ⟨v, σ', H', J, rv, q⟩ := hs
    exact fin J rv q
  | next =>
    obtain ⟨σ', H', J, q⟩ := hs
    exact fin (v := V.non) (u := Value.none) J rfl q
  | brk =>
    obtain ⟨_, _, _, q⟩ := hs
    exact False.elim q
  | cont =>
    obtain ⟨_, _, _, q⟩ := hs
    exact False.elim q
end L2

namespace L2
open PySem PySem.Spec PyProof.Rows
section
variable {X : Cx} {x : Str} {p pos : Pos} {e : Expr} {es : List Expr} {t : TA} {id T : String} {r : List V → Hp → VK → Prop}

noncomputable def tCB (r : List V → Hp → VK → Prop) (t : TA) : TE := fun σ H Q => t σ H fun vs H1 => r vs H1 Q
theorem pe_callB (hc : CallR X (.builtin id) r) (hg : Gl X x) (hm : X.mg x = none) (hv : bootBuiltins x = some (.builtin id)) (ha : PA X (e :: es) t) (hn : x ≠ "__name__" := by decide) (hdb : (x == ("__debug__" : Str)) = false := by decide)
    (he : starEach (e :: es) X.env = (false, eval e X.env) :: starEach es X.env := by rfl) (hpl : (backTo pos (starEach es X.env)).any (·.1) = false := by rfl) : PE X (.Call (.Name x p) (e :: es) [] pos) (tCB r t) := by
  intro pins s σ H Q I h
  refine wpAny_Call_Name_kw (ld_blt I hg hm hv ?_ hn hdb)
  exact PyProof.Rows.callWith_builtin1 (thn (ha pos pins s σ H _ I h) fun us s1 ⟨vs, H1, I1, r1, q1⟩ => hc pins s1 σ H1 vs us Q I1 r1 q1) he hpl
theorem pe_callTy (hc : CallR X (.type T) r) (hg : Gl X x) (hm : X.mg x = none) (hv : bootBuiltins x = some (.type T)) (ha : PA X (e :: es) t) (hn : x ≠ "__name__" := by decide) (hdb : (x == ("__debug__" : Str)) = false := by decide)
    (he : starEach (e :: es) X.env = (false, eval e X.env) :: starEach es X.env := by rfl) (hpl : (backTo pos (starEach es X.env)).any (·.1) = false := by rfl) : PE X (.Call (.Name x p) (e :: es) [] pos) (tCB r t) := by
  intro pins s σ H Q I h
  refine wpAny_Call_Name_kw (ld_blt I hg hm hv ?_ hn hdb)
  exact PyProof.Rows.callWith_type1 (thn (ha pos pins s σ H _ I h) fun us s1 ⟨vs, H1, I1, r1, q1⟩ => hc pins s1 σ H1 vs us Q I1 r1 q1) he hpl
end
end L2

namespace HT
open PySem PyProof.Rows

section
open PySem.SeqAt
open PySem.AutoSeq1 (wpAny_loadPart')
open PySem.MeetsSeq PySem.MeetsSeq2 PySem.MeetsSeq3

end

section
variable {prog : Program} {w : World} {A : Around} {E : Value → Shared → Prop} {s : Shared}

noncomputable def sIx (n d : Nat) : Option Int → Nat
  | none => d
  | some v => if v < 0 then (v + (n : Int)).toNat else min v.toNat n
theorem sIx_none (n d : Nat) : sIx n d none = d := rfl
theorem sIx_nat (n d k : Nat) : sIx n d (some (k : Int)) = min k n := by
  show (if (k : Int) < 0 then ((k : Int) + (n : Int)).toNat else min (k : Int).toNat n) = min k n
  rw [if_neg (by omega), Int.toNat_natCast]
theorem sIx_le (n d : Nat) (hd : d ≤ n) (o : Option Int) : sIx n d o ≤ n := by
  cases o with
  | none => exact hd
  | some v =>
    show (if v < 0 then (v + (n : Int)).toNat else min v.toNat n) ≤ n
    by_cases hv : v < 0
    · rw [if_pos hv]; omega
    · rw [if_neg hv]; exact Nat.min_le_right _ _
end
end HT

namespace L2
open PySem PySem.Spec PyProof.Rows

noncomputable abbrev TO := St → Hp → (Option Int → Hp → Prop) → Prop
noncomputable def PO (X : Cx) (e : Option Expr) (t : TO) : Prop :=
  ∀ (pins : List (Addr × Obj)) (s : Shared) (σ : St) (H : Hp) (Q : Option Int → Hp → Prop), Inv X pins σ H s → t σ H Q →
    wpAny (model X.prog X.w) X.A (evalPart e X.env) (fun u s' => ∃ o H', Inv X pins σ H' s' ∧ IsPart u o ∧ Q o H') X.xe s
noncomputable def tNoPart : TO := fun _ H Q => Q none H
noncomputable def tPart (t : TE) : TO := fun σ H Q => t σ H fun x H1 => ∃ i, x = .int i ∧ Q (some i) H1

theorem intsAre_of {ns : List Int} : ∀ {us : List Value}, Vals (ns.map V.int) us → IntsAre us ns := by
  induction ns with
  | nil => intro us r; rw [List.map_nil] at r; cases r; exact .nil
  | cons n ns ih =>
    intro us r
    rw [List.map_cons] at r
    cases r with
    | cons r1 r2 =>
      obtain ⟨t, e⟩ := r1
      subst e
      exact .cons n t (ih r2)

section
variable {X : Cx} {e : Expr} {te : TE} {lo hi : Option Expr} {tl th : TO} {pos p2 : Pos}

theorem po_none : PO X none tNoPart := by
  intro pins s σ H Q I h
  rw [evalPart_none]
  exact wpAny_pure ⟨none, H, I, .none, h⟩
theorem po_some (h : PE X e te) : PO X (some e) (tPart te) := by
  intro pins s σ H Q I hw
  rw [evalPart_some]
  refine thn (h pins s σ H _ I hw) fun u s1 ⟨x, H1, I1, r1, q1⟩ => ?_
  obtain ⟨i, rfl, q⟩ := q1
  obtain ⟨t, rfl⟩ := r1
  exact ⟨some i, H1, I1, .int i t, q⟩

noncomputable def SlR (X : Cx) (r : V → Option Int → Option Int → Hp → VK → Prop) : Prop :=
  ∀ (pins : List (Addr × Obj)) (s : Shared) (σ : St) (H : Hp) (x : V) (v vl vu : Value) (lo hi : Option Int) (sl : Addr) (Q : VK), Inv X pins σ H s → RelV x v → s.heap.IsSliceOf sl vl vu .none → IsPart vl lo → IsPart vu hi → r x lo hi H Q →
    ∃ T id, typeLookup (.type T) "__getitem__" = pure (some (.builtin id)) ∧ s.TypeIs v T ∧ wpAny (model X.prog X.w) X.A (getItem v (.ref sl)) (EP X pins σ Q) X.xe s
noncomputable def tSl (r : V → Option Int → Option Int → Hp → VK → Prop) (te : TE) (tl th : TO) : TE := fun σ H Q => te σ H fun x H1 => tl σ H1 fun l H2 => th σ H2 fun u H3 => r x l u H3 Q
theorem pe_slice {r : V → Option Int → Option Int → Hp → VK → Prop} (hr : SlR X r) (he : PE X e te) (hl : PO X lo tl) (hu : PO X hi th) : PE X (.Subscript e (.Slice lo hi none p2) pos) (tSl r te tl th) := by
  intro pins s σ H Q I h
  refine Subscript_ (thn (he pins s σ H _ I h) fun v s1 ⟨x, H1, I1, r1, q1⟩ => ?_)
  refine wpAny_Slice (thn (hl pins s1 σ H1 _ I1 q1) fun vl s2 ⟨l, H2, I2, pl, q2⟩ => thn (hu pins s2 σ H2 _ I2 q2) fun vu s3 ⟨u, H3, I3, pu, q3⟩ => ?_)
  rw [evalPart_none]
  refine wpAny_pure ?_
  have I4 : Inv X pins σ H3 { s3 with heap := s3.heap.push { cls := .type "slice", data := .fields #[vl, vu, .none] } } := I3.kept (t' := s3.toks) fun b ob q => Heap.get?_push_of_some _ q
  obtain ⟨T, id, hT, ht, hg⟩ := hr pins { s3 with heap := s3.heap.push { cls := .type "slice", data := .fields #[vl, vu, .none] } } σ H3 x v vl vu l u s3.heap.objs.size Q I4 r1 (Heap.IsSliceOf.new ..) pl pu q3
  show wpAny (model X.prog X.w) X.A (subscriptTail e (.Slice lo hi none p2) v (.ref s3.heap.objs.size)) (EP X pins σ Q) X.xe { s3 with heap := s3.heap.push { cls := .type "slice", data := .fields #[vl, vu, .none] } }
  exact tail_any (ops := [.ref s3.heap.objs.size, v]) ht hT hg (by with_unfolding_all rfl)

noncomputable def cutV (xs : List V) (lo hi : Option Int) : List V := (xs.drop (HT.sIx xs.length 0 lo)).take (HT.sIx xs.length xs.length hi - HT.sIx xs.length 0 lo)
theorem cutV_length (xs : List V) (lo hi : Option Int) : (cutV xs lo hi).length ≤ xs.length := by
  unfold cutV
  rw [List.length_take, List.length_drop]
  omega
end
end L2

namespace L2
open PySem PySem.Spec PyProof.Rows

noncomputable def ixN (n : Nat) (i : Int) : Option Nat := if 0 ≤ i then (if i < n then some i.toNat else none) else if -(n : Int) ≤ i then some (i + n).toNat else none
noncomputable def atI {α : Type} (xs : List α) (i : Int) : Option α := (ixN xs.length i).bind fun j => xs[j]?
theorem ixN_seq {n : Nat} {i : Int} {j : Nat} (h : ixN n i = some j) : seqIndex? i n = some j ∧ j < n ∧ -(n : Int) ≤ i ∧ i < n := by
  unfold ixN at h
  by_cases h0 : 0 ≤ i
  · rw [if_pos h0] at h
    by_cases h1 : i < n
    · rw [if_pos h1] at h
      have e : i.toNat = j := Option.some.inj h
      exact ⟨by rw [seqIndex_of h0 h1, e], by omega, by omega, h1⟩
    · rw [if_neg h1] at h; cases h
  · rw [if_neg h0] at h
    by_cases h1 : -(n : Int) ≤ i
    · rw [if_pos h1] at h
      have e : (i + n).toNat = j := Option.some.inj h
      exact ⟨by rw [seqIndex_neg (by omega) h1, e], by omega, h1, by omega⟩
    · rw [if_neg h1] at h; cases h
theorem atI_get {α : Type} {xs : List α} {i : Int} {v : α} (h : atI xs i = some v) : ∃ j, seqIndex? i xs.length = some j ∧ xs[j]? = some v ∧ j < xs.length ∧ -(xs.length : Int) ≤ i ∧ i < xs.length := by
  unfold atI at h
  cases e : ixN xs.length i with
  | none => rw [e] at h; cases h
  | some j =>
    rw [e] at h
    obtain ⟨h1, h2, h3, h4⟩ := ixN_seq e
    exact ⟨j, h1, h, h2, h3, h4⟩
theorem atI_nat {α : Type} {xs : List α} {j : Nat} {v : α} (h : xs[j]? = some v) : atI xs (j : Int) = some v := by
  have hj : j < xs.length := (List.getElem?_eq_some_iff.mp h).1
  have e : ixN xs.length (j : Int) = some j := by
    unfold ixN
    rw [if_pos (by omega), if_pos (by omega)]; simp
  unfold atI; rw [e]; exact h
noncomputable def PlainIx (b : Expr) : Prop := ∀ o i, subscripted b false o i = operate [o, i] (getItem o i)
noncomputable def IxR (X : Cx) (r : R2) : Prop :=
  ∀ (value slice : Expr) (pins : List (Addr × Obj)) (s : Shared) (σ : St) (H : Hp) (x y : V) (v u : Value) (Q : VK), Inv X pins σ H s → RelV x v → RelV y u → r x y H Q →
    subscripted slice false v u = operate [v, u] (getItem v u) → wpAny (model X.prog X.w) X.A (subscriptTail value slice v u) (EP X pins σ Q) X.xe s
noncomputable def MtR (X : Cx) (id : String) (r : V → List V → Hp → VK → Prop) : Prop :=
  ∀ (pins : List (Addr × Obj)) (s : Shared) (σ : St) (H : Hp) (x : V) (xs : List V) (v : Value) (us : List Value) (Q : VK), Inv X pins σ H s → RelV x v → Vals xs us → r x xs H Q →
    wpAny (model X.prog X.w) X.A (call (.builtin id) (v :: us)) (EP X pins σ Q) X.xe s
section
variable {X : Cx} {a b : Expr} {ta tb : TE} {pos : Pos}
theorem pe_ix {r : R2} (hr : IxR X r) (ha : PE X a ta) (hb : PE X b tb) (hs : PlainIx b) : PE X (.Subscript a b pos) (tOp r ta tb) := by
  intro pins s σ H Q I h
  exact Subscript_ (binT ha hb I h fun v u s2 x y H2 I2 rx ry q => hr a b pins s2 σ H2 x y v u Q I2 rx ry q (hs _ _))

noncomputable def rIxL (K : PySem.W.Frag) : R2 := fun x y H Q => ∃ p xs i v, x = .ref p ∧ y = .int i ∧ SqL K H p xs ∧ atI xs i = some v ∧ Q v H
noncomputable def rIxT (K : PySem.W.Frag) : R2 := fun x y H Q => ∃ p xs i v, x = .ref p ∧ y = .int i ∧ SqT K H p xs ∧ atI xs i = some v ∧ Q v H
noncomputable def rIxS : R2 := fun x y H Q => ∃ z i c, x = .str z ∧ y = .int i ∧ z.length ≤ sizeLine ∧ atI z.cps.toList i = some c ∧ Q (.str ⟨#[c]⟩) H
theorem ix_list : IxR X (rIxL X.K) := by
  intro value slice pins s σ H x y v u Q I rx ry h hs
  obtain ⟨p, xs, i, z, rfl, rfl, hq, he, q⟩ := h
  cases rx
  obtain ⟨t, rfl⟩ := ry
  obtain ⟨its, r, pl, hz⟩ := I.list hq
  obtain ⟨j, h1, h2, h3, h4, h5⟩ := atI_get he
  obtain ⟨w, ew, rw'⟩ := r.get h2
  have hl := r.length
  have hn := line63
  have fin : EP X pins σ Q w s := ⟨z, H, I, rw', q⟩
  by_cases h0 : 0 ≤ i
  · have hj : i.toNat = j := by
      rw [seqIndex_of h0 h5] at h1
      exact Option.some.inj h1
    exact item_listR pl.isList h0 (by omega) (by rw [hj]; simpa using ew) fin hs
  · have hj : (i + (its.toArray.size : Int)).toNat = j := by
      rw [seqIndex_neg (by omega) h4] at h1
      rw [List.size_toArray, ← hl]
      exact Option.some.inj h1
    exact subscriptTail_builtinR (x := w) pl.isList.typeIs slot_list_getitem.lookup
      (wpAny_getItem_list_neg (Q := fun r s' => r = w ∧ EP X pins σ Q r s') pl.isList (by omega) (by rw [List.size_toArray] <;> omega) (by omega) (by rw [hj]; simpa using ew) ⟨rfl, fin⟩) hs
theorem ix_tup : IxR X (rIxT X.K) := by
  intro value slice pins s σ H x y v u Q I rx ry h hs
  obtain ⟨p, xs, i, z, rfl, rfl, hq, he, q⟩ := h
  cases rx
  obtain ⟨t, rfl⟩ := ry
  obtain ⟨its, r, pl, hz⟩ := I.tuple hq
  obtain ⟨j, h1, h2, h3, h4, h5⟩ := atI_get he
  obtain ⟨w, ew, rw'⟩ := r.get h2
  have hl := r.length
  have hn := line63
  have fin : EP X pins σ Q w s := ⟨z, H, I, rw', q⟩
  exact subscriptTail_builtinR (x := w) pl.typeIs slot_tuple_getitem.lookup
    (getItem_tuple (j := j) (Q := fun r s' => r = w ∧ EP X pins σ Q r s') pl (by omega) (by omega) (by rw [List.size_toArray, ← hl]; exact h1) (by simpa using ew) ⟨rfl, fin⟩) hs
theorem ix_str : IxR X rIxS := by
  intro value slice pins s σ H x y v u Q I rx ry h hs
  obtain ⟨z, i, c, rfl, rfl, hz, he, q⟩ := h
  obtain ⟨t, rfl⟩ := rx
  obtain ⟨t', rfl⟩ := ry
  obtain ⟨j, h1, h2, h3, h4, h5⟩ := atI_get he
  have hl : z.cps.toList.length = z.length := by simp [Str.length]
  rw [hl] at h1 h4 h5
  have hn := line63
  exact tail_any (typeIs_str s z t) slot_str_getitem.lookup (getItem_str (c := c) (by
    have e1 : decide (i < -(2 ^ 63 : Int)) = false := decide_eq_false (by omega)
    have e2 : decide (i ≥ 2 ^ 63) = false := decide_eq_false (by omega)
    rw [e1, e2, Bool.or_false]) (by rw [h1]; simpa using h2) ⟨.str ⟨#[c]⟩, H, I.tok _, ⟨_, rfl⟩, q⟩) hs
theorem slice_bounds (lo hi : Option Int) (n : Nat) : (sliceBounds lo hi none n).1 = ((HT.sIx n 0 lo : Nat) : Int) ∧ (sliceBounds lo hi none n).2.1 = ((HT.sIx n n hi : Nat) : Int) ∧ (sliceBounds lo hi none n).2.2 = 1 := by
  refine ⟨?_, ?_, rfl⟩
  · cases lo with
    | none => simp [sliceBounds, HT.sIx]
    | some i =>
      simp only [sliceBounds, HT.sIx, Option.getD_none, show (1 : Int) > 0 by decide, if_true]
      by_cases h : i < 0
      · simp only [h, if_true] <;> omega
      · simp only [h, if_false] <;> omega
  · cases hi with
    | none => simp [sliceBounds, HT.sIx]
    | some i =>
      simp only [sliceBounds, HT.sIx, Option.getD_none, show (1 : Int) > 0 by decide, if_true]
      by_cases h : i < 0
      · simp only [h, if_true] <;> omega
      · simp only [h, if_false] <;> omega
theorem slicePick_cut (its : List Value) (lo hi : Option Int) : slicePick its.toArray lo hi none = ((its.drop (HT.sIx its.length 0 lo)).take (HT.sIx its.length its.length hi - HT.sIx its.length 0 lo)).toArray := by
  obtain ⟨h1, h2, h3⟩ := slice_bounds lo hi its.toArray.size
  unfold slicePick
  rw [h1, h2, h3]
  simp only [sliceRange_one, pick_run, List.size_toArray] <;> rfl
noncomputable def rSlL (K : PySem.W.Frag) : V → Option Int → Option Int → Hp → VK → Prop := fun x lo hi H Q => ∃ a xs, x = .ref a ∧ SqL K H a xs ∧ ∀ p, H p = none → Q (.ref p) (upd H p (.lst (cutV xs lo hi)))
theorem sl_list : SlR X (rSlL X.K) := by
  intro pins s σ H x v vl vu lo hi sl Q I rx hs pl pu h
  obtain ⟨a, xs, rfl, hx, q⟩ := h
  cases rx
  obtain ⟨its, r, ht, hz⟩ := I.list hx
  have hlen := r.length
  refine ⟨"list", _, slot_list_getitem.lookup, ht.isList.typeIs, ?_⟩
  refine wpAny_getItem_list_slice ht.isList hs pl pu .none (by simp) ?_ (by rw [List.size_toArray] <;> omega)
  rw [slicePick_cut, ← hlen]
  refine ⟨.ref s.heap.objs.size, _, I.laid (t' := s.toks) (o := .lst (cutV xs lo hi)) (fun b ob q => Heap.get?_push_of_some _ q) (Nat.le_refl _) ?_, rfl, q _ (I.hok.fresh (Nat.le_refl _))⟩
  exact ⟨Nat.le_trans (cutV_length xs lo hi) hz, _, 0, (r.drop (HT.sIx xs.length 0 lo)).take (HT.sIx xs.length xs.length hi - HT.sIx xs.length 0 lo), Heap.get?_push_size _ rfl⟩

noncomputable def flatV : V → Bool
  | .non => true
  | .bl _ => true
  | .int _ => true
  | .str _ => true
  | _ => false
noncomputable def eqV : V → V → Bool
  | .non, .non => true
  | .bl a, .bl b => a == b
  | .bl a, .int b => (if a then 1 else 0) == b
  | .int a, .bl b => a == (if b then 1 else 0)
  | .int a, .int b => a == b
  | .str a, .str b => a == b
  | _, _ => false
theorem eqAt_V {A : Around} {s : Shared} {y x : V} {u v : Value} (ry : RelV y u) (rx : RelV x v) (fy : flatV y = true) (fx : flatV x = true) : SeqAt.EqAt A s u v (eqV y x) := by
  cases y with
  | non =>
    cases ry
    cases x with
    | non => cases rx; exact SeqAt.EqAt.same _
    | bl b => cases rx; exact SeqAt.EqAt.none_bool b
    | int b => obtain ⟨t, rfl⟩ := rx; exact SeqAt.EqAt.none_int b t
    | str b => obtain ⟨t, rfl⟩ := rx; exact SeqAt.EqAt.none_str b t
    | _ => exact absurd (show false = true from fx) Bool.false_ne_true
  | bl a =>
    cases ry
    cases x with
    | non => cases rx; exact SeqAt.EqAt.bool_none a
    | bl b => cases rx; exact SeqAt.EqAt.bool_bool a b
    | int b => obtain ⟨t, rfl⟩ := rx; exact SeqAt.EqAt.bool_int a b t
    | str b => obtain ⟨t, rfl⟩ := rx; exact SeqAt.EqAt.bool_str a b t
    | _ => exact absurd (show false = true from fx) Bool.false_ne_true
  | int a =>
    obtain ⟨t', rfl⟩ := ry
    cases x with
    | non => cases rx; exact SeqAt.EqAt.int_none a t'
    | bl b => cases rx; exact SeqAt.EqAt.int_bool a t' b
    | int b => obtain ⟨t, rfl⟩ := rx; exact SeqAt.EqAt.int_int a t' b t
    | str b => obtain ⟨t, rfl⟩ := rx; exact SeqAt.EqAt.int_str a t' b t
    | _ => exact absurd (show false = true from fx) Bool.false_ne_true
  | str a =>
    obtain ⟨t', rfl⟩ := ry
    cases x with
    | non => cases rx; exact SeqAt.EqAt.str_none a t'
    | bl b => cases rx; exact SeqAt.EqAt.str_bool a t' b
    | int b => obtain ⟨t, rfl⟩ := rx; exact SeqAt.EqAt.str_int a t' b t
    | str b => obtain ⟨t, rfl⟩ := rx; exact SeqAt.EqAt.str_str a t' b t
    | _ => exact absurd (show false = true from fx) Bool.false_ne_true
  | _ => exact absurd (show false = true from fy) Bool.false_ne_true
noncomputable def eqU (x : V) (u : Value) : Bool := match u with
  | .none => eqV .non x
  | .bool b => eqV (.bl b) x
  | .int i _ => eqV (.int i) x
  | .str z _ => eqV (.str z) x
  | _ => false
theorem eqU_of {x y : V} {u : Value} (r : RelV y u) (f : flatV y = true) : eqU x u = eqV y x := by
  cases y with
  | non => cases r; rfl
  | bl b => cases r; rfl
  | int i => obtain ⟨t, rfl⟩ := r; rfl
  | str z => obtain ⟨t, rfl⟩ := r; rfl
  | _ => exact absurd (show false = true from f) Bool.false_ne_true
theorem any_eqU {x : V} : ∀ {xs : List V} {us : List Value}, Vals xs us → xs.all flatV = true → us.any (eqU x) = xs.any fun y => eqV y x
  | _, _, .nil, _ => rfl
  | y :: xs, u :: us, .cons r t, f => by
    rw [List.all_cons, Bool.and_eq_true] at f
    rw [List.any_cons, List.any_cons, eqU_of r f.1, any_eqU t f.2]
theorem mem_eqAt {A : Around} {s : Shared} {x : V} {v : Value} (rx : RelV x v) (fx : flatV x = true) : ∀ {xs : List V} {us : List Value}, Vals xs us → xs.all flatV = true → ∀ u ∈ us, SeqAt.EqAt A s u v (eqU x u)
  | _, _, .nil, _ => fun u hu => by cases hu
  | y :: xs, u :: us, .cons r t, f => fun u' hu => by
    rw [List.all_cons, Bool.and_eq_true] at f
    rcases List.mem_cons.mp hu with rfl | hu
    · rw [eqU_of r f.1]; exact eqAt_V r rx f.1 fx
    · exact mem_eqAt rx fx t f.2 u' hu
noncomputable def inV (x : V) (xs : List V) : Bool := xs.any fun y => eqV y x
noncomputable def rIn (K : PySem.W.Frag) (neg : Bool) : R2 := fun x y H Q => ∃ p xs, y = .ref p ∧ (SqL K H p xs ∨ SqT K H p xs) ∧ flatV x = true ∧ xs.all flatV = true ∧ Q (.bl (if neg then !inV x xs else inV x xs)) H
theorem op_in_seq : OpR X (compareOp .In) (rIn X.K false) := by
  intro pins s σ H x y v u Q I rx ry h
  obtain ⟨p, xs, rfl, hq, fx, fs, q⟩ := h
  cases ry
  rcases hq with hq | hq
  · obtain ⟨its, r, pl, hz⟩ := I.list hq
    refine SeqAt.in_listAt (eqU x) pl.isList (fun w hw => mem_eqAt rx fx r fs w (by simpa using hw)) ⟨.bl _, H, I, rfl, ?_⟩
    rw [show its.toArray.any (eqU x) = its.any (eqU x) by simp, any_eqU r fs]
    exact q
  · obtain ⟨its, r, pl, hz⟩ := I.tuple hq
    refine SeqAt.in_tupleAt (eqU x) pl (fun w hw => mem_eqAt rx fx r fs w (by simpa using hw)) ⟨.bl _, H, I, rfl, ?_⟩
    rw [show its.toArray.any (eqU x) = its.any (eqU x) by simp, any_eqU r fs]
    exact q
theorem op_notIn_seq : OpR X (compareOp .NotIn) (rIn X.K true) := by
  intro pins s σ H x y v u Q I rx ry h
  obtain ⟨p, xs, rfl, hq, fx, fs, q⟩ := h
  cases ry
  rcases hq with hq | hq
  · obtain ⟨its, r, pl, hz⟩ := I.list hq
    refine SeqAt.notIn_listAt (eqU x) pl.isList (fun w hw => mem_eqAt rx fx r fs w (by simpa using hw)) ⟨.bl _, H, I, rfl, ?_⟩
    rw [show its.toArray.any (eqU x) = its.any (eqU x) by simp, any_eqU r fs]
    exact q
  · obtain ⟨its, r, pl, hz⟩ := I.tuple hq
    refine SeqAt.notIn_tupleAt (eqU x) pl (fun w hw => mem_eqAt rx fx r fs w (by simpa using hw)) ⟨.bl _, H, I, rfl, ?_⟩
    rw [show its.toArray.any (eqU x) = its.any (eqU x) by simp, any_eqU r fs]
    exact q
theorem call_len_seq : CallR X (.builtin "len") (fun xs H Q => ∃ p ys, xs = [.ref p] ∧ (SqL X.K H p ys ∨ SqT X.K H p ys) ∧ Q (.int ys.length) H) := by
  intro pins s σ H xs us Q I r h
  obtain ⟨p, ys, rfl, hq, q⟩ := h
  obtain ⟨u, rfl, rx⟩ := vals1 r
  cases rx
  have hn := line63
  rcases hq with hq | hq
  · obtain ⟨its, r', pl, hz⟩ := I.list hq
    have hlen := r'.length
    exact Calls.call_len_list pl.isList (by simp only [List.size_toArray] <;> omega) ⟨.int ys.length, H, I.tok _, ⟨s.toks + 1, by rw [List.size_toArray, hlen]⟩, q⟩
  · obtain ⟨its, r', pl, hz⟩ := I.tuple hq
    have hlen := r'.length
    exact len_tuple pl (by simp only [List.size_toArray] <;> omega) ⟨.int ys.length, H, I.tok _, ⟨s.toks + 1, by rw [List.size_toArray, hlen]⟩, q⟩
theorem call_len_str : CallR X (.builtin "len") (fun xs H Q => ∃ z, xs = [.str z] ∧ z.length ≤ sizeLine ∧ Q (.int z.length) H) := by
  intro pins s σ H xs us Q I r h
  obtain ⟨z, rfl, hz, q⟩ := h
  obtain ⟨u, rfl, t, rfl⟩ := vals1 r
  have hn := line63
  exact len_str (by omega) ⟨.int z.length, H, I.tok _, ⟨_, rfl⟩, q⟩
theorem call_list_of : CallR X (.type "list") (fun xs H Q => ∃ p ys, xs = [.ref p] ∧ (SqL X.K H p ys ∨ SqT X.K H p ys) ∧ ∀ l, H l = none → Q (.ref l) (upd H l (.lst ys))) := by
  intro pins s σ H xs us Q I r h
  obtain ⟨p, ys, rfl, hq, q⟩ := h
  obtain ⟨u, rfl, rx⟩ := vals1 r
  cases rx
  have fin : ∀ (its : List Value), Vals ys its → ys.length ≤ sizeLine → ∀ (h' : Heap) (c' : Nat), (∀ b o', s.heap.get? b = some o' → h'.get? b = some o') →
      h'.get? s.heap.objs.size = some { cls := .type "list", dict := none, data := .seq its.toArray c', slots := #[] } → EP X pins σ Q (.ref s.heap.objs.size) { s with heap := h' } := fun its r' hz h' c' kp e =>
    ⟨.ref s.heap.objs.size, _, I.laid (t' := s.toks) kp (Nat.le_refl _) (show ObjOk X.prog X.w _ h' _ (.lst ys) from ⟨hz, its, c', r', e⟩), rfl, q _ (I.hok.fresh (Nat.le_refl _))⟩
  rcases hq with hq | hq
  · obtain ⟨its, r', pl, hz⟩ := I.list hq
    have hlen := r'.length
    obtain ⟨o, ho, hc, n, hd⟩ := pl.isList
    exact call_list_seq p (.inl rfl) ho hc hd (fun h' c' kp e => fin its r' hz h' c' kp e) (by simp only [List.size_toArray] <;> omega)
  · obtain ⟨its, r', pl, hz⟩ := I.tuple hq
    have hlen := r'.length
    obtain ⟨o, ho, hc, n, hd⟩ := pl
    exact call_list_seq p (.inr rfl) ho hc hd (fun h' c' kp e => fin its r' hz h' c' kp e) (by simp only [List.size_toArray] <;> omega)
theorem call_tuple_of : CallR X (.type "tuple") (fun xs H Q => ∃ p ys, xs = [.ref p] ∧ ((SqL X.K H p ys ∧ ∀ l, H l = none → Q (.ref l) (upd H l (.tup ys))) ∨ (SqT X.K H p ys ∧ Q (.ref p) H))) := by
  intro pins s σ H xs us Q I r h
  obtain ⟨p, ys, rfl, h⟩ := h
  obtain ⟨u, rfl, rx⟩ := vals1 r
  cases rx
  rcases h with ⟨hq, q⟩ | ⟨hq, q⟩
  · obtain ⟨its, r', pl, hz⟩ := I.list hq
    have hlen := r'.length
    refine call_tuple_list pl.isList (fun h' kp => ?_) (by simp only [List.size_toArray] <;> omega)
    have I1 : Inv X pins σ H { s with heap := h' } := I.kept (t' := s.toks) kp
    have I2 : Inv X pins σ (upd H h'.objs.size (.tup ys)) { s with heap := h'.push { cls := .type "tuple", data := .seq its.toArray } } :=
      I1.laid (t' := s.toks) (fun b o e => Heap.get?_push_of_some _ e) (Nat.le_refl _) (show ObjOk X.prog X.w _ _ _ (.tup ys) from ⟨hz, its, r', IsTup.new _ _⟩)
    exact ⟨.ref h'.objs.size, _, I2, rfl, q _ (I1.hok.fresh (Nat.le_refl _))⟩
  · obtain ⟨its, r', pl, hz⟩ := I.tuple hq
    exact call_tuple_same pl ⟨.ref p, H, I, rfl, q⟩

noncomputable def tyV (K : PySem.W.Frag) (T : String) (x : V) (H : Hp) : Prop := match x with
  | .str _ => T = "str"
  | .int _ => T = "int"
  | .ref p => (T = "list" ∧ ∃ xs, SqL K H p xs) ∨ (T = "tuple" ∧ ∃ o, K.lookup p = some o ∧ o.cls = .type "tuple" ∧ o.dict = none) ∨
      (T = "dict" ∧ ((∃ kvs, H p = some (.dK kvs)) ∨ ∃ kvs, H p = some (.dT kvs))) ∨ (T = "set" ∧ ∃ S n, H p = some (.set S n))
  | _ => False
theorem tyV_is {pins : List (Addr × Obj)} {σ : St} {H : Hp} {s : Shared} {T : String} {x : V} {v : Value} (I : Inv X pins σ H s) (r : RelV x v) (ty : tyV X.K T x H) :
    s.TypeIs v T ∧ ∀ a, v = .ref a → ∃ ob, s.heap.get? a = some ob ∧ ob.dict = none := by
  cases x with
  | str z =>
    obtain ⟨t, rfl⟩ := r
    cases (show T = "str" from ty)
    exact ⟨typeIs_str s z t, fun _ e => nomatch e⟩
  | int i =>
    obtain ⟨t, rfl⟩ := r
    cases (show T = "int" from ty)
    exact ⟨typeIs_int s i t, fun _ e => nomatch e⟩
  | ref p =>
    cases r
    rcases ty with ⟨rfl, xs, hq⟩ | ⟨rfl, o, hk, hc, hd⟩ | ⟨rfl, hk⟩ | ⟨rfl, S, n, hk⟩
    · obtain ⟨its, _, pl, _⟩ := I.list hq
      refine ⟨pl.isList.typeIs, fun a e => ?_⟩
      cases e
      obtain ⟨o, n, e, c, hd, _⟩ := pl
      exact ⟨o, e, hd⟩
    · refine ⟨⟨o, I.kIn p o hk, hc⟩, fun a e => ?_⟩
      cases e
      exact ⟨o, I.kIn _ o hk, hd⟩
    · have z : ∃ o, s.heap.get? p = some o ∧ o.ExactDict := by
        rcases hk with ⟨kvs, hk⟩ | ⟨kvs, hk⟩
        · obtain ⟨_, _, _, _, o, _, _, e, ex, _⟩ := I.hok p _ hk
          exact ⟨o, e, ex⟩
        · obtain ⟨_, _, _, _, o, _, _, e, ex, _⟩ := I.hok p _ hk
          exact ⟨o, e, ex⟩
      obtain ⟨o, e, ex⟩ := z
      refine ⟨⟨o, e, ex.1⟩, fun a e2 => ?_⟩
      cases e2
      exact ⟨o, e, ex.2.1⟩
    · obtain ⟨o, _, _, _, e, ex, _⟩ := I.hok p _ hk
      refine ⟨⟨o, e, ex.1⟩, fun a e2 => ?_⟩
      cases e2
      exact ⟨o, e, ex.2.1⟩
  | _ => exact False.elim ty
noncomputable def tBM (K : PySem.W.Frag) (T : String) (r : V → List V → Hp → VK → Prop) (to : TE) (t : TA) : TE := fun σ H Q => to σ H fun x H1 => tyV K T x H1 ∧ t σ H1 fun xs H2 => r x xs H2 Q
variable {o e : Expr} {es : List Expr} {to : TE} {t : TA} {name : Str} {apos cpos : Pos} {T id : String} {r : V → List V → Hp → VK → Prop}
theorem pe_bm (pa : PlainAttrs T) (slot : Slot T name id) (hty : typeOf (.builtin id) = pure (.type "method_descriptor")) (hm : MtR X id r) (ho : PE X o to) (ha : PA X (e :: es) t)
    (hbase : attributeBase o name X.env (eval o X.env) = eval o X.env := by rfl)
    (hfew : ((backTo cpos (starEach (e :: es) X.env)).all (fun x => !x.1) && (backToKw cpos (keywordEach [] X.env)).all (fun x => x.1.isSome)
      && decide ((e :: es).length + ([] : List Keyword).length + (if ([] : List Keyword).isEmpty then 0 else 1) < 30)) = true := by rfl)
    (hline : (apos.endLine == cpos.line) = true := by rfl) (hs : starEach (e :: es) X.env = (false, eval e X.env) :: starEach es X.env := by rfl) (hplain : (backTo cpos (starEach es X.env)).any (·.1) = false := by rfl) :
    PE X (.Call (.Attribute o name apos) (e :: es) [] cpos) (tBM X.K T r to t) := by
  intro pins s σ H Q I h
  refine wpAny_Call_method_late hbase hfew hline rfl (thn (ho pins s σ H _ I h) fun v s1 ⟨x, H1, I1, r1, ty, q1⟩ => ?_)
  obtain ⟨h1, h2⟩ := tyV_is I1 r1 ty
  refine ⟨T, id, pa, slot, hty, h1, h2, ?_⟩
  have hA := ha cpos pins s1 σ H1 _ I1 q1
  rw [hs] at hA ⊢
  refine Calls.callWith_builtin (by show (false || (backTo cpos (starEach es X.env)).any (·.1)) = false; rw [hplain] <;> rfl) (Calls.evalArgs_plain ?_)
  exact thn hA fun us s2 ⟨vs, H2, I2, r2, q2⟩ => hm pins s2 σ H2 x vs v us Q I2 r1 r2 q2
end
end L2

namespace L2
open PySem PySem.Spec PyProof.Rows

noncomputable def MtM (X : Cx) (id : String) (r : V → List V → Hp → VK → Prop) : Prop :=
  ∀ (pins : List (Addr × Obj)) (s : Shared) (σ : St) (H : Hp) (x : V) (xs : List V) (v : Value) (us : List Value) (Q : VK), Inv X pins σ H s → RelV x v → Vals xs us → r x xs H Q →
    wpAny (model X.prog X.w) X.A (call (.builtin id) (v :: us)) (EP X pins σ Q) X.xe s

theorem Vals.one : ∀ {x : V} {us : List Value}, Vals [x] us → ∃ u, us = [u] ∧ RelV x u
  | _, _, .cons r .nil => ⟨_, rfl, r⟩
theorem Vals.eraseIdx : ∀ {xs : List V} {us : List Value} (i : Nat), Vals xs us → Vals (xs.eraseIdx i) (us.eraseIdx i)
  | _, _, _, .nil => .nil
  | _, _, 0, .cons _ t => t
  | _, _, i + 1, .cons r t => .cons r (Vals.eraseIdx i t)
theorem len_erase {α : Type} : ∀ (l : List α) (i : Nat), (l.eraseIdx i).length ≤ l.length
  | [], _ => Nat.le_refl _
  | _ :: _, 0 => Nat.le_succ _
  | _ :: r, i + 1 => Nat.succ_le_succ (len_erase r i)
section
variable {X : Cx} {pins : List (Addr × Obj)} {σ : St} {H : Hp} {s : Shared} {l b : Addr} {xs ys zs : List V}

theorem Inv.lset {its its' : List Value} {n : Nat} {f : Array Value → Array Value} {t' : Nat} (I : Inv X pins σ H s) (hH : H l = some (.lst xs))
    (e : s.heap.get? l = some { cls := .type "list", data := .seq its.toArray n }) (hf : f its.toArray = its'.toArray) (hv : Vals ys its') (hz : ys.length ≤ sizeLine) :
    Inv X pins σ (upd H l (.lst ys)) { s with heap := s.heap.update l (Obj.mapSeq f), toks := t' } := by
  have q := PySem.IsL.update e f
  rw [hf] at q
  refine I.write (x := l) (e := l) (by rw [hH]; exact trivial) (.inl rfl) (fun b' u hb hu => (Heap.get?_update_other s.heap (Obj.mapSeq f) (Ne.symm hb)).trans hu) ⟨_, q⟩ ?_
  exact ⟨hz, its', _, hv, q⟩
theorem Inv.lnew {its : List Value} {t' : Nat} (I : Inv X pins σ H s) (hv : Vals ys its) (hz : ys.length ≤ sizeLine) :
    Inv X pins σ (upd H s.heap.objs.size (.lst ys)) { s with heap := s.heap.push { cls := .type "list", data := .seq its.toArray }, toks := t' } :=
  I.laid (fun _ _ q => Heap.get?_push_of_some _ q) (Nat.le_refl _) ⟨hz, its, 0, hv, Heap.get?_push_size _ rfl⟩
theorem Inv.fresh (I : Inv X pins σ H s) : H s.heap.objs.size = none := I.hok.fresh (Nat.le_refl _)
theorem Inv.lstM (I : Inv X pins σ H s) (hH : H l = some (.lst xs)) : xs.length ≤ sizeLine ∧ ∃ (its : List Value) (n : Nat), Vals xs its ∧ xs.length = its.length ∧ s.heap.get? l = some { cls := .type "list", data := .seq its.toArray n } := by
  obtain ⟨z, its, n, r, e⟩ := I.hok l _ hH
  exact ⟨z, its, n, r, r.length, e⟩

end

section
variable {X : Cx}

noncomputable def rAppend : V → List V → Hp → VK → Prop := fun x vs H Q => ∃ l xs y, x = .ref l ∧ vs = [y] ∧ H l = some (.lst xs) ∧ xs.length < sizeLine ∧ Q .non (upd H l (.lst (xs ++ [y])))
theorem mt_append : MtM X "list.append" rAppend := by
  intro pins s σ H x vs v us Q I rx rv h
  obtain ⟨l, xs, y, rfl, rfl, hH, hz, q⟩ := h
  cases rx
  obtain ⟨u, rfl, ru⟩ := rv.one
  obtain ⟨z, its, n, r, hl, e⟩ := I.lstM hH
  refine call_meets F.slot_list_append ⟨_, e, rfl⟩ F.entry_list_append (F.args_list_append_2 _ _) (PySem.list_append l its.toArray n u (by rw [List.size_toArray]; omega)) ⟨e, ?_⟩
  refine ⟨.non, _, I.lset (its' := its ++ [u]) hH e (by simp) (r.append (.cons ru .nil)) ?_, rfl, q⟩
  rw [List.length_append, List.length_singleton]
  omega

noncomputable def rPopAt : V → List V → Hp → VK → Prop := fun x vs H Q => ∃ l xs i k y, x = .ref l ∧ vs = [.int i] ∧ H l = some (.lst xs) ∧ -(2 ^ 63) ≤ i ∧ i < 2 ^ 63 ∧ seqIndex? i xs.length = some k ∧ xs[k]? = some y ∧ Q y (upd H l (.lst (xs.eraseIdx k)))
theorem mt_popAt : MtM X "list.pop" rPopAt := by
  intro pins s σ H x vs v us Q I rx rv h
  obtain ⟨l, xs, i, k, y, rfl, rfl, hH, h1, h2, hk, hy, q⟩ := h
  cases rx
  obtain ⟨u, rfl, ru⟩ := rv.one
  obtain ⟨t, rfl⟩ := ru
  obtain ⟨z, its, n, r, hl, e⟩ := I.lstM hH
  obtain ⟨w, hw, rw'⟩ := r.get hy
  refine call_meets F.slot_list_pop ⟨_, e, rfl⟩ F.entry_list_pop (F.args_list_pop_2 _ _)
    (MeetsSeq.list_pop_at l its.toArray n i t k w (fitsIndex_both h1 h2) (by rw [List.size_toArray, ← hl]; exact hk) (by rw [← Array.getElem?_toList]; exact hw) (by rw [List.size_toArray]; omega)) ⟨e, ?_⟩
  refine ⟨y, _, I.lset (its' := its.eraseIdx k) hH e ?_ (r.eraseIdx k) ?_, rw', q⟩
  · show its.toArray.eraseIdxIfInBounds k = (its.eraseIdx k).toArray
    rw [List.eraseIdxIfInBounds_toArray]
  · have := len_erase xs k
    omega

end

section
variable {prog : Program} {w : World} {A : Around} {E : Value → Shared → Prop} {s : Shared}
end

section
variable {X : Cx}
end
end L2

namespace Att
open PySem PySem.W PySem.Calls PyProof.Rows

theorem ints_of_wellAll {P : Params} {h : Heap} : ∀ (ns : List Int) (vs : List Value), WellAll P h vs (ns.map WData.int) → IntsAre vs ns := by
  intro ns
  induction ns with
  | nil =>
    intro vs w
    rw [List.map_nil] at w
    cases w
    exact .nil
  | cons n ns ih =>
    intro vs w
    rw [List.map_cons] at w
    cases w with
    | cons a b =>
      cases a
      exact .cons _ _ (ih _ b)

theorem script_of {l : OpenLaw} {n : Nat} (hn : l.most = some n) {P : Params} {h : Heap} {args : List WData} {vals : List Value}
    (hpre : l.row.toRowW.claim.pre args = true) (hwl : WellAll P h vals args) :
    ∃ a vs ns, vals = [Value.ref a] ∧ args = [WData.list (ns.map WData.int)] ∧ h.get? a = some { cls := .type "list", data := .seq vs.toArray } ∧ IntsAre vs ns ∧ ns.length ≤ n := by
  have hsh : WShape.hasAll [] args [.list .int] = true := (pre_splitW hpre).1
  have hc : l.pre.holds [] { args := args } = true := (pre_splitW hpre).2
  obtain ⟨d, r, rfl, h1, h2⟩ := hasAllW_cons hsh
  obtain rfl := hasAllW_nil h2
  obtain ⟨xs, rfl, h3⟩ := hasW_list h1
  obtain ⟨ns, rfl⟩ := items_int h3
  have hlen : ns.length ≤ n := by
    unfold OpenLaw.pre at hc
    have h4 : (WTm.not (.lt (.lit (.int (n : Int))) (.len (.arg 0)))).holds [] { args := [.list (ns.map .int)] } = true := by
      have h4 := (holds_andW hc).1
      rw [hn] at h4
      exact h4
    have h5 := condW_of h4 (w_not (w_lt w_lit (w_len_list (w_arg rfl))))
    rw [List.length_map] at h5
    refine Nat.le_of_not_lt fun q => ?_
    have q' : (n : Int) < ((ns.length : Nat) : Int) := by omega
    first
      | (rw [decide_eq_true q'] at h5; exact absurd h5 (by decide))
      | (simp at h5; omega)
  cases hwl with
  | cons w1 w2 =>
    cases w2
    cases w1 with
    | list ho hall => exact ⟨_, _, ns, rfl, rfl, ho, ints_of_wellAll ns _ hall, hlen⟩

theorem post_true (l : OpenLaw) (args : List WData) : l.row.toRowW.claim.post args (.bool true) args = true :=
  postW_of (r := l.row.toRowW) (X := (true == true))
    (show WShape.has [] (.bool true) .bool = true by first | rfl | decide | simp [WShape.has, WShape.arms, WShape.armsAll])
    (show (WTm.eq .res (.lit (.bool true))).value [] { args := args, res := some (.bool true), after := args } = some (.bool (true == true)) from w_eq_bool (w_res rfl) w_lit) rfl

theorem attach_call {l : OpenLaw} {n : Nat} {q : Program} {loose : List Str} {XP : (Str → Option Value) → Heap → Prop} {YP : World → Heap → Prop} {d : DefRec}
    (hn : l.most = some n) (hdf : d.params.defaults = [])
    (call : ∀ (w : World) (s₀ s₁ : Shared) (mg mb : Str → Option Value) (fa : Addr) (o : Obj) (pm cd doc : Value) (a : Addr) (vs : List Value) (ns : List Int),
      Ground q loose [] XP w s₀ mg mb s₁.heap → YP w s₁.heap →
      s₁.heap.get? fa = some o → o.data = .func (docDef d.name d.params d.body d.scope pm cd doc) → s₁.heap.CodeRec cd d.name → mg d.name = some (.ref fa) →
      s₁.heap.get? a = some { cls := .type "list", data := .seq vs.toArray } → IntsAre vs ns → ns.length ≤ n → s₁.gens = #[] →
      codeAny (model l.prog w) callerA (.call (.ref fa) ⟨[.ref a], []⟩) (fun r s' => r = .ok (.ret (.bool true)) ∧ OldK s₁.heap s'.heap ∧ s'.os = s₁.os ∧ AllBare s'.gens) s₁) :
    WalkO q loose XP YP l.row.toRowW d [] (fun f vs => PySem.call f vs) := by
  intro w s₀ s₁ mg mb G Y fa o pm cd doc dV kV ho hd hcd hD hmg hg args vals as hpre hlay hrd hwl hlo
  obtain rfl : dV = .none := Dflts.none hD hdf
  obtain rfl : kV = .none := Dflts.noKw hD
  obtain ⟨a, vs, ns, rfl, rfl, hobj, hints, hlen⟩ := script_of hn hpre hwl
  refine enter_call (codeAny_mono (call w s₀ s₁ mg mb fa o pm cd doc a vs ns G Y ho (fd_plain hd) hcd hmg hobj hints hlen hg) fun r s' hq => ?_)
  obtain ⟨rfl, h2, h3, h4⟩ := hq
  exact ⟨.inl ⟨.bool true, .bool true, [], rfl, fun _ => rfl, .bool true, post_true l _, fun _ => ⟨List.Pairwise.nil, fun _ hm => (nomatch hm)⟩⟩, h2, h3, h4⟩

section
variable {prog : Program} {w : World} {A : Around} {E : Value → Shared → Prop} {s : Shared} {K : Frag}

end
end Att

namespace L2
open PySem PySem.Spec PyProof.Rows

theorem vals_ints : ∀ {vs : List Value} {ns : List Int}, IntsAre vs ns → Vals (ns.map V.int) vs
  | _, _, .nil => .nil
  | _, _, .cons n t h => .cons ⟨t, rfl⟩ (vals_ints h)

noncomputable def Only (H : Hp) : Prop := ∀ b, H b = none ∨ ∃ o xs, H b = some (.frz o (.lst xs))

theorem law_call {P : Program} {w : World} {K : PySem.W.Frag} {mg mb : Str → Option Value} {CX : CXT} {k : Nat} {fa a : Addr} {fd : FuncData} {x : Str} {sp : Sp} {s₁ : Shared} {vs : List Value} {ns : List Int}
    (KX : K.In s₁.heap) (hns : s₁.heap.Ns mainGlobals mg) (hb : s₁.heap.Ns builtinsNs mb) (hbb : ∀ x : Str, x ≠ "__name__" → mb x = bootBuiltins x) (hlim : s₁.heap.NoLimit) (hg : s₁.gens = #[])
    (ha : s₁.heap.get? a = some { cls := .type "list", data := .seq vs.toArray }) (hi : IntsAre vs ns) (hl : ns.length ≤ sizeLine) (hr : Room k callerA)
    (F : ∀ base : Heap, K.In base → base.Ns mainGlobals mg → FnOk P w K mg base CX k fa fd [x] sp) (hbind : ∀ (s : Shared) (u : Value), BindsTo s fd ⟨[u], []⟩ [(x, u)])
    (hsp : ∀ H : Hp, Only H → SqL K H a (ns.map V.int) → sp [.ref a] H (fun v _ => v = .bl true) fun _ _ _ => False)
    (hCX : ∀ H e s', CX [] H s₁ (fun _ _ _ => False) e s' → False) :
    codeAny (model P w) callerA (.call (.ref fa) ⟨[.ref a], []⟩) (fun r s' => r = .ok (.ret (.bool true)) ∧ OldK s₁.heap s'.heap ∧ s'.os = s₁.os ∧ AllBare s'.gens) s₁ := by
  have rv := vals_ints hi
  have lenV := hi.length

  have core : ∀ H : Hp, Only H → SqL K H a (ns.map V.int) → HOk P w H s₁.heap → (∀ b, H b ≠ none → b = a) → (H a ≠ none → K.lookup a = none) →
      codeAny (model P w) callerA (.call (.ref fa) ⟨[.ref a], []⟩) (fun r s' => r = .ok (.ret (.bool true)) ∧ OldK s₁.heap s'.heap ∧ s'.os = s₁.os ∧ AllBare s'.gens) s₁ := by
    intro H hO hS hok hA hK
    have base_of : ∀ {b : Addr} {o : Obj}, s₁.heap.get? b = some o → H b = none → (hidT s₁.heap H).get? b = some o := fun e n => hidT_get e n
    have noA : ∀ {b : Addr} {o : Obj} {es : Array DictEntry} {ep : Nat}, s₁.heap.get? b = some o → o.data = .dict es ep → H b = none := fun {b o es ep} e d => by
      cases q : H b with
      | none => rfl
      | some u =>
        have e' : b = a := hA b (by rw [q]; simp)
        subst e'
        rw [ha] at e; cases e
        have d' : Data.seq vs.toArray _ = Data.dict es ep := d
        cases d'
    have nsK : ∀ {b : Addr} {m : Str → Option Value}, s₁.heap.Ns b m → (hidT s₁.heap H).Ns b m := fun {b m} ⟨o, es, ep, e, d, r⟩ => ⟨o, es, ep, base_of e (noA e d), d, r⟩
    have hKb : K.In (hidT s₁.heap H) := fun b o e => base_of (KX b o e) (by
      cases q : H b with
      | none => rfl
      | some u =>
        have e' : b = a := hA b (by rw [q]; simp)
        subst e'
        rw [hK (by rw [q]; simp)] at e; cases e)
    have hM : Mod K mg (hidT s₁.heap H) := ⟨hKb, nsK hns, ⟨mb, nsK hb, hbb⟩, let ⟨mc, h1, h2⟩ := hlim; ⟨mc, nsK h1, h2⟩⟩
    have e0 : Env0 P w K mg (hidT s₁.heap H) callerA [] s₁ H := ⟨rfl, hM, fun b o e => of_hidT e, Nat.le_of_eq (hidT_size _ _), trivial, fun b hb => absurd (show b ∈ ([] : List Addr) from hb) (by simp), hok, .of_eq hg⟩
    refine codeAny_mono ((F _ hKb (nsK hns)).run callerA [] s₁ H ⟨[.ref a], []⟩ [.ref a] [.ref a] _ _ hr e0 (hbind s₁ (.ref a)) (.cons rfl .nil) (hsp H hO hS)) fun r s' h => ?_
    cases r with
    | error e => exact (hCX H e s' h).elim
    | ok fl =>
      cases fl with
      | next => exact False.elim h
      | brk => exact False.elim h
      | cont => exact False.elim h
      | ret u =>
        obtain ⟨v, H', os, bare, un, hok', r', q⟩ := h
        have q' : v = .bl true := q
        subst q'
        obtain rfl : u = Value.bool true := r'
        refine ⟨rfl, OldK.of_keep fun b o e => ?_, os, bare⟩
        cases q : H b with
        | none => exact un.keep b o e q (by intro z; exact absurd (show b ∈ ([] : List Addr) from z) (by simp)) (by simp)
        | some u =>
          rcases hO b with z | ⟨ob, xs, z⟩
          · rw [q] at z; cases z
          · have z2 := un.frzs b ob _ z
            obtain ⟨e1, _⟩ := hok b _ z
            obtain ⟨e2, _⟩ := hok' b _ z2
            rw [e] at e1; cases e1
            exact e2
  cases hk : K.lookup a with
  | some o =>
  
    have e := KX a o hk
    rw [ha] at e
    cases e
    refine core (fun _ => none) (fun _ => .inl rfl) (.inr ⟨_, vs.toArray, _, hk, rfl, rfl, rfl, by rw [List.size_toArray, lenV]; exact hl, by simpa using rv⟩) (fun b u z => by have z' : (none : Option HO) = some u := z; cases z') (fun b z => absurd rfl z) fun z => absurd rfl z
  | none =>
    refine core (fun b => if b = a then some (.frz { cls := .type "list", data := .seq vs.toArray } (.lst (ns.map V.int))) else none) (fun b => ?_) (.inl (.inr ⟨{ cls := .type "list", data := .seq vs.toArray }, if_pos rfl⟩)) (fun b u z => ?_) (fun b z => ?_) fun _ => hk
    · by_cases hb : b = a
      · exact .inr ⟨_, _, if_pos hb⟩
      · exact .inl (if_neg hb)
    · by_cases hb : b = a
      · have z' := (if_pos hb).symm.trans z
        cases z'
        subst hb
        exact ⟨ha, by rw [List.length_map]; exact hl, vs, _, rv, ha⟩
      · have z' := (if_neg hb).symm.trans z
        cases z'
    · by_cases hb : b = a
      · exact hb
      · exact absurd (if_neg hb) z
end L2

namespace L2
open PySem PySem.Spec PyProof.Rows

theorem walk_of {l : PySem.W.OpenLaw} {n k : Nat} {q : Program} {loose : List Str} {XP : (Str → Option Value) → Heap → Prop} {YP : World → Heap → Prop} {d : DefRec} {K : Params → PySem.W.Frag} {CX : World → CXT} {sp : World → Sp} {x : Str}
    (hn : l.most = some n) (hn2 : n ≤ sizeLine) (hdf : d.params.defaults = []) (hr : Room k callerA)
    (hY : ∀ (w : World) (h : Heap), YP w h → (K w.params).In h)
    (F : ∀ (w : World) (mg : Str → Option Value) (fa : Addr) (h : Heap), (K w.params).In h → h.Ns mainGlobals mg → mg d.name = some (.ref fa) →
      ∃ fd : FuncData, (∀ (s : Shared) (u : Value), BindsTo s fd ⟨[u], []⟩ [(x, u)]) ∧
        ∀ base : Heap, (K w.params).In base → base.Ns mainGlobals mg → FnOk l.prog w (K w.params) mg base (CX w) k fa fd [x] (sp w))
    (hsp : ∀ (w : World) (H : Hp) (a : Addr) (ns : List Int), ns.length ≤ n → Only H → SqL (K w.params) H a (ns.map V.int) → sp w [.ref a] H (fun v _ => v = .bl true) fun _ _ _ => False)
    (hCX : ∀ (w : World) (H : Hp) (s : Shared) (e : Value) (s' : Shared), CX w [] H s (fun _ _ _ => False) e s' → False) :
    PySem.W.WalkO q loose XP YP l.row.toRowW d [] (fun f vs => PySem.call f vs) := by
  refine Att.attach_call hn hdf fun w s₀ s₁ mg mb fa o pm cd doc a vs ns G Y ho hd hcd hmg hobj hints hlen hg => ?_
  have KX := hY w _ Y
  obtain ⟨fd, hb, hF⟩ := F w mg fa _ KX G.T.g hmg
  exact law_call KX G.T.g G.T.b G.T.builtins G.T.nolimit hg hobj hints (Nat.le_trans hlen hn2) hr hF hb (fun H hO hS => hsp w H a ns hlen hO hS) fun H e s' => hCX w H s₁ e s'
end L2


namespace L2
open PySem PySem.Spec PyProof.Rows

noncomputable def inClass (s : Stmt) (j : Nat) : Stmt := match s with
  | .ClassDef _ _ _ body _ _ _ _ _ _ _ => body.getD j (.Pass ⟨0, 0, 0, 0⟩)
  | _ => .Pass ⟨0, 0, 0, 0⟩
noncomputable def defArgs (s : Stmt) : Arguments := match s with
  | .FunctionDef _ a _ _ _ _ _ _ _ _ => a
  | _ => { posonlyargs := [], args := [], vararg := none, kwonlyargs := [], kw_defaults := [], kwarg := none, defaults := [] }
noncomputable def defBody (s : Stmt) : List Stmt := match s with
  | .FunctionDef _ _ b _ _ _ _ _ _ _ => b
  | _ => []
noncomputable def defScope (s : Stmt) : Scope := match s with
  | .FunctionDef _ _ _ _ _ _ sc _ _ _ => sc
  | _ => { kind := .function, names := [], isGenerator := false, isCoroutine := false }

noncomputable abbrev E0 : XK := fun _ _ _ => False
set_option genInjectivity false in
structure Fun (K : PySem.W.Frag) (x qual : Str) (st : Stmt) (f : Addr) (fd : FuncData) : Prop where
  ex : ∃ (oc : Value) (od : Option Addr) (kV doc pm : Value) (an : Option Addr) (cdv ct : Value) (osl : Array (Option Value)),
    fd = PySem.W.fnOf x qual (defArgs st) (defBody st) (defScope st) .none kV doc pm an cdv ct ∧ K.lookup f = some ⟨oc, od, .func fd, osl⟩ ∧ PySem.W.codeIn K cdv qual = true
  kp : PySem.W.keepIn K (.ref f) = true
section
variable {P : Program} {w : World} {K : PySem.W.Frag} {mg : Str → Option Value} {base : Heap}
theorem Fun.binds {x qual : Str} {st : Stmt} {f : Addr} {fd : FuncData} {ps : List Str} (F : Fun K x qual st f fd)
    (h : ∀ (kV doc pm : Value) (an : Option Addr) (cdv ct : Value) (us : List Value), us.length = ps.length → bindArgs (PySem.W.fnOf x qual (defArgs st) (defBody st) (defScope st) .none kV doc pm an cdv ct) ⟨us, []⟩ = pure (ps.zip us)) : Binds K fd ps [] := by
  obtain ⟨oc, od, kV, doc, pm, an, cdv, ct, osl, rfl, lk, hcd⟩ := F.ex
  exact .all (h kV doc pm an cdv ct)
theorem fun_mk {x qual : Str} {st : Stmt} {f : Addr} {oc : Value} {od an : Option Addr} {osl : Array (Option Value)} {kV doc pm cdv ct : Value} (l : K.lookup f = some ⟨oc, od, .func (PySem.W.fnOf x qual (defArgs st) (defBody st) (defScope st) .none kV doc pm an cdv ct), osl⟩)
    (c : PySem.W.codeIn K cdv qual = true) (k : PySem.W.keepIn K (.ref f) = true) : Fun K x qual st f (PySem.W.fnOf x qual (defArgs st) (defBody st) (defScope st) .none kV doc pm an cdv ct) := ⟨⟨oc, od, kV, doc, pm, an, cdv, ct, osl, rfl, l, c⟩, k⟩
end
theorem hu_of {A : Around} {k : Nat} (hr : Room k A) : A.units + 1 < cLine := Nat.lt_of_le_of_lt (Nat.add_le_add_left (by decide : 1 ≤ 64) _) hr.units
section
variable {X : Cx}
theorem pv (i : Nat) {x : Str} {pos : Pos} (hN : X.N[i]? = some x := by rfl) (hv : Vis X.env.scope x := by first | exact Or.inl rfl | exact Or.inr (Or.inl rfl) | exact Or.inr (Or.inr rfl)) (hd : (x == ("__debug__" : Str)) = false := by decide)
    (hcd : (x == ("__classdict__" : Str)) = false := by decide) : PE X (.Name x pos) (tVar i) := pe_var hN hv hd hcd
end

theorem iteF {A B : Prop} (h : B) : if false = true then A else B := by
  rw [if_neg Bool.false_ne_true]
  exact h
theorem iteT {A B : Prop} (h : A) : if true = true then A else B := by
  rw [if_pos rfl]
  exact h
theorem ite2 {c A B : Prop} [Decidable c] (h1 : c → A) (h2 : ¬ c → B) : if c then A else B := by
  by_cases h : c
  · rw [if_pos h]
    exact h1 h
  · rw [if_neg h]
    exact h2 h
theorem iteNS {c A B : Prop} [Decidable c] (hc : c) (h : B) : if (!decide c) = true then A else B := by
  rw [decide_eq_true hc]
  exact iteF h

noncomputable def Same (H H' : Hp) : Prop := ∀ b o, H b = some o → H' b = some o
theorem Same.refl (H : Hp) : Same H H := fun _ _ h => h
theorem Same.trans {H H1 H2 : Hp} (a : Same H H1) (b : Same H1 H2) : Same H H2 := fun c o h => b c o (a c o h)
theorem Same.seq {K : PySem.W.Frag} {H H' : Hp} {a : Addr} {xs : List V} (e : Same H H') (h : SqL K H a xs) : SqL K H' a xs := by
  rcases h with (h | ⟨o, h⟩) | h
  · exact .inl (.inl (e _ _ h))
  · exact .inl (.inr ⟨o, e _ _ h⟩)
  · exact .inr h

end L2

namespace Wd
noncomputable abbrev W := List Nat
theorem lele {a b c : W} (h : ¬ b < a) (h' : ¬ c < b) : ¬ c < a := fun hc => List.not_lt.mpr (List.le_trans (List.not_lt.mp h) (List.not_lt.mp h')) hc
noncomputable def rot (k : Nat) (w : W) : W := w.drop k ++ w.take k
theorem ext_get {a b : W} (hl : a.length = b.length) (h : ∀ i, i < a.length → a[i]? = b[i]?) : a = b := by
  apply List.ext_getElem? 
  intro i
  by_cases hi : i < a.length
  · exact h i hi
  · rw [List.getElem?_eq_none (by omega), List.getElem?_eq_none (by omega)]
noncomputable def leastTo (w : W) : Nat → W
  | 0 => w
  | n + 1 => if rot (n + 1) w < leastTo w n then rot (n + 1) w else leastTo w n
noncomputable def least (w : W) : W := leastTo w (w.length - 1)
end Wd

namespace Wd
end Wd

namespace Wd
noncomputable def rep (n : Nat) (l : W) : W := (List.replicate n l).flatten
theorem rep_succ (n : Nat) (l : W) : rep (n + 1) l = l ++ rep n l := by unfold rep; rw [List.replicate_succ, List.flatten_cons]
theorem rep_zero (l : W) : rep 0 l = [] := rfl
theorem rep_one (l : W) : rep 1 l = l := by rw [rep_succ, rep_zero, List.append_nil]
theorem rep_len (n : Nat) (l : W) : (rep n l).length = n * l.length := by
  induction n with
  | zero => rw [rep_zero, Nat.zero_mul]; rfl
  | succ n ih => rw [rep_succ, List.length_append, ih, Nat.succ_mul, Nat.add_comm]
theorem rep_get {l : W} {n i : Nat} (h : i < n * l.length) : (rep n l)[i]? = l[i % l.length]? := by
  induction n generalizing i with
  | zero => rw [Nat.zero_mul] at h; omega
  | succ n ih =>
    rw [rep_succ]
    rw [Nat.succ_mul] at h
    by_cases hi : i < l.length
    · rw [List.getElem?_append_left hi, Nat.mod_eq_of_lt hi]
    · rw [List.getElem?_append_right (by omega), ih (by omega)]
      congr 1
      rw [← Nat.mod_eq_sub_mod (by omega)]
end Wd
namespace Wd
end Wd

namespace Wd
end Wd

namespace Wd
noncomputable def ringAt (t : W) (n i : Nat) : W := (List.range n).map fun k => t.getD ((i + k) % t.length) 0
theorem ringAt_len (t : W) (n i : Nat) : (ringAt t n i).length = n := by rw [ringAt, List.length_map, List.length_range]
theorem ringAt_get {t : W} {n i k : Nat} (h : k < n) (ht : 0 < t.length) : (ringAt t n i)[k]? = t[(i + k) % t.length]? := by
  rw [ringAt, List.getElem?_map, List.getElem?_range h]
  show some (t.getD ((i + k) % t.length) 0) = _
  rw [List.getD_eq_getElem?_getD, List.getElem?_eq_getElem (Nat.mod_lt _ ht)]
  rfl
theorem row_at {t : W} {n i : Nat} (h : i + n ≤ t.length) : (t.drop i).take n = ringAt t n i := by
  apply ext_get
  · rw [List.length_take, List.length_drop, ringAt_len]
    omega
  · intro k hk
    rw [List.length_take, List.length_drop] at hk
    rw [List.getElem?_take_of_lt (by omega), List.getElem?_drop, ringAt_get (by omega) (by omega), Nat.mod_eq_of_lt (by omega)]
theorem ring_at {t : W} {n i c : Nat} (h : i + n ≤ c * t.length) (ht : 0 < t.length) : ((rep c t).drop i).take n = ringAt t n i := by
  apply ext_get
  · rw [List.length_take, List.length_drop, rep_len, ringAt_len]
    omega
  · intro k hk
    rw [List.length_take, List.length_drop, rep_len] at hk
    rw [List.getElem?_take_of_lt (by omega), List.getElem?_drop, ringAt_get (by omega) ht, rep_get (by omega)]
noncomputable def rowW (t : W) (n : Nat) : List W := (List.range (t.length + 1 - n)).map (ringAt t n)
noncomputable def ringW (t : W) (n : Nat) : List W := (List.range t.length).map (ringAt t n)
noncomputable def win (t : W) (n : Nat) (b : Bool) : List W := if b = true then ringW t n else rowW t n
theorem ringW_len (t : W) (n : Nat) : (ringW t n).length = t.length := by rw [ringW, List.length_map, List.length_range]
end Wd

set_option linter.all false
namespace Wd
noncomputable def rotN {α : Type _} (t : List α) (s : Nat) : List α := t.drop s ++ t.take s
theorem rotN_len {α : Type _} (t : List α) (s : Nat) : (rotN t s).length = t.length := by
  rw [rotN, List.length_append, List.length_drop, List.length_take]; omega
theorem rotN_get {α : Type _} {t : List α} {s i : Nat} (hi : i < t.length) (hs : s < t.length) : (rotN t s)[i]? = t[(i + s) % t.length]? := by
  unfold rotN
  by_cases h : i + s < t.length
  · rw [List.getElem?_append_left (by rw [List.length_drop]; omega), List.getElem?_drop, Nat.mod_eq_of_lt h, Nat.add_comm]
  · rw [List.getElem?_append_right (by rw [List.length_drop]; omega), List.length_drop, List.getElem?_take_of_lt (by omega), Nat.mod_eq_sub_mod (by omega), Nat.mod_eq_of_lt (by omega)]
    congr 1
    omega
theorem ringAt_mod {t : W} {n i : Nat} : ringAt t n (i % t.length) = ringAt t n i := by
  unfold ringAt
  refine List.map_congr_left fun k _ => ?_
  rw [Nat.mod_add_mod]
theorem ringAt_rot {t : W} {n s i : Nat} (hs : s < t.length) : ringAt (rotN t s) n i = ringAt t n (i + s) := by
  unfold ringAt
  refine List.map_congr_left fun k _ => ?_
  have h : 0 < t.length := by omega
  rw [rotN_len, List.getD_eq_getElem?_getD, List.getD_eq_getElem?_getD, rotN_get (Nat.mod_lt _ h) hs, Nat.mod_add_mod, show i + k + s = i + s + k by omega]
theorem ringW_get {t : W} {n i : Nat} (h : i < t.length) : (ringW t n)[i]? = some (ringAt t n i) := by
  rw [ringW, List.getElem?_map, List.getElem?_range h]; rfl
theorem ringW_rot {t : W} {n s : Nat} (hs : s < t.length) : ringW (rotN t s) n = rotN (ringW t n) s := by
  have h : 0 < t.length := by omega
  apply List.ext_getElem?
  intro i
  by_cases hi : i < t.length
  · rw [ringW_get (by rw [rotN_len]; exact hi), rotN_get (by rw [ringW_len]; exact hi) (by rw [ringW_len]; exact hs), ringW_len, ringW_get (Nat.mod_lt _ h), ringAt_rot hs, ringAt_mod]
  · rw [List.getElem?_eq_none (by rw [ringW_len, rotN_len]; omega), List.getElem?_eq_none (by rw [rotN_len, ringW_len]; omega)]
theorem rotN_perm {α : Type _} (t : List α) (s : Nat) : (rotN t s).Perm t := by
  have h : (t.drop s ++ t.take s).Perm (t.take s ++ t.drop s) := List.perm_append_comm
  rw [List.take_append_drop] at h
  exact h
theorem sorted_same : ∀ {xs ys : List W}, xs.Perm ys → xs.Pairwise (fun a b => ¬ b < a) → ys.Pairwise (fun a b => ¬ b < a) → xs = ys := by
  intro xs ys h h1 h2
  refine List.Perm.eq_of_pairwise ?_ h1 h2 h
  intro a b _ _ z1 z2
  exact Std.Trichotomous.trichotomous a b z2 z1
end Wd

set_option linter.all false
namespace Hg
variable {bg en : List Nat → List Nat}
inductive Rch (bg en : List Nat → List Nat) (ms : List (List Nat)) (p : List Nat) : List Nat → Prop
  | self : Rch bg en ms p p
  | fw {w : List Nat} : w ∈ ms → Rch bg en ms p (bg w) → Rch bg en ms p (en w)
  | bw {w : List Nat} : w ∈ ms → Rch bg en ms p (en w) → Rch bg en ms p (bg w)
noncomputable def Cl (bg en : List Nat → List Nat) (ls : List (List Nat)) (w : List Nat) : Prop := bg w ∈ ls ↔ en w ∈ ls
set_option genInjectivity false in
structure Pass (bg en : List Nat → List Nat) (ms : List (List Nat)) (p : List Nat) (fs : List (List Nat)) (i : Nat) (ls : List (List Nat)) : Prop where
  nd : ls.Nodup
  pre : fs <+: ls
  rch : ∀ z ∈ ls, Rch bg en ms p z
  cl : ls.length = fs.length → ∀ w ∈ ms.take i, Cl bg en fs w
end Hg

set_option linter.all false
namespace Hg
variable {bg en : List Nat → List Nat}
noncomputable def Tr (bg en : List Nat → List Nat) : List Nat → List (List Nat) → List Nat → Prop
  | p, [], q => p = q
  | p, w :: ws, q => bg w = p ∧ Tr bg en (en w) ws q
theorem Tr.snoc {w : List Nat} : ∀ {ws : List (List Nat)} {p : List Nat}, Tr bg en p ws (bg w) → Tr bg en p (ws ++ [w]) (en w)
  | [], _, h => ⟨h.symm, rfl⟩
  | _ :: _, _, h => ⟨h.1, Tr.snoc h.2⟩
theorem Tr.mem : ∀ {ws : List (List Nat)} {p q : List Nat}, Tr bg en p ws q → ∀ w ∈ ws, bg w ∈ p :: ws.map en
  | v :: ws, p, q, h, w, hw => by
    rcases List.mem_cons.mp hw with rfl | hw
    · rw [h.1]
      exact List.mem_cons_self ..
    · exact List.mem_cons_of_mem _ (Tr.mem h.2 w hw)
end Hg

set_option linter.all false
namespace Wd
open Hg
noncomputable def beg (l : W) : W := l.take (l.length - 1)
noncomputable def fin (l : W) : W := l.drop 1
noncomputable def metL (t : W) (n : Nat) : List W := (ringW t n).map beg ++ ((ringW t n).map beg).take 1
theorem metL_len {t : W} {n : Nat} (h : 1 ≤ t.length) : (metL t n).length = t.length + 1 := by
  unfold metL
  rw [List.length_append, List.length_take, List.length_map, ringW_len]
  omega
theorem fin_ring {t : W} {n i : Nat} : fin (ringAt t n i) = beg (ringAt t n (i + 1)) := by
  unfold fin beg
  rw [ringAt_len]
  apply List.ext_getElem?
  intro k
  rw [List.getElem?_drop]
  by_cases hk : k < n - 1
  · rw [List.getElem?_take_of_lt hk]
    unfold ringAt
    rw [List.getElem?_map, List.getElem?_map, List.getElem?_range (by omega), List.getElem?_range (by omega)]
    show some (t.getD ((i + (1 + k)) % t.length) 0) = some (t.getD ((i + 1 + k) % t.length) 0)
    rw [Nat.add_assoc]
  · rw [List.getElem?_eq_none (by rw [ringAt_len]; omega), List.getElem?_eq_none (by rw [List.length_take, ringAt_len]; omega)]
theorem Tr.app {p r q : W} : ∀ {xs ys : List W} {p : W}, Tr beg fin p xs r → Tr beg fin r ys q → Tr beg fin p (xs ++ ys) q
  | [], _, _, h, g => by cases h; exact g
  | x :: xs, _, _, h, g => ⟨h.1, Tr.app (p := p) h.2 g⟩
noncomputable def seg (t : W) (n i j : Nat) : List W := (List.range' i (j - i)).map (ringAt t n)
theorem seg_len (t : W) (n i j : Nat) : (seg t n i j).length = j - i := by unfold seg; rw [List.length_map, List.length_range']
theorem seg_tr {t : W} {n : Nat} : ∀ {k i : Nat}, Tr beg fin (beg (ringAt t n i)) ((List.range' i k).map (ringAt t n)) (beg (ringAt t n (i + k)))
  | 0, i => rfl
  | k + 1, i => by
    rw [List.range'_succ, List.map_cons]
    refine ⟨rfl, ?_⟩
    rw [fin_ring, show i + (k + 1) = i + 1 + k by omega]
    exact seg_tr
theorem seg_tr' {t : W} {n i j : Nat} (h : i ≤ j) : Tr beg fin (beg (ringAt t n i)) (seg t n i j) (beg (ringAt t n j)) := by
  have := seg_tr (t := t) (n := n) (k := j - i) (i := i)
  rw [Nat.add_sub_cancel' h] at this
  exact this
theorem seg_app {t : W} {n i j k : Nat} (h : i ≤ j) (h' : j ≤ k) : seg t n i j ++ seg t n j k = seg t n i k := by
  unfold seg
  rw [← List.map_append]
  congr 1
  have e : j = i + 1 * (j - i) := by omega
  conv => lhs; rhs; rw [e]
  rw [show k - (i + 1 * (j - i)) = k - j by omega, List.range'_append]
  congr 1
  omega
theorem seg_all (t : W) (n : Nat) : seg t n 0 t.length = ringW t n := by
  unfold seg ringW
  rw [Nat.sub_zero, List.range_eq_range']
noncomputable def sl (t : W) (i j : Nat) : W := (t.drop i).take (j - i)
noncomputable def hd (w : W) : Nat := w.getD 0 0
theorem seg_hd {t : W} {n i j : Nat} (hn : 1 ≤ n) (hj : j ≤ t.length) : (seg t n i j).map hd = sl t i j := by
  unfold seg sl
  rw [List.map_map]
  apply List.ext_getElem?
  intro k
  rw [List.getElem?_map]
  by_cases hk : k < j - i
  · rw [List.getElem?_range' hk, List.getElem?_take_of_lt hk, List.getElem?_drop]
    show some (hd (ringAt t n (i + 1 * k))) = _
    unfold hd ringAt
    obtain ⟨m, rfl⟩ : ∃ m, n = m + 1 := ⟨n - 1, by omega⟩
    rw [List.getD_eq_getElem?_getD, List.getElem?_map, List.getElem?_range (by omega)]
    show some (t.getD ((i + 1 * k + 0) % t.length) 0) = _
    rw [Nat.one_mul, Nat.add_zero, Nat.mod_eq_of_lt (by omega), List.getD_eq_getElem?_getD, List.getElem?_eq_getElem (by omega)]
    rfl
  · rw [List.getElem?_eq_none (by rw [List.length_range']; omega), List.getElem?_eq_none (by rw [List.length_take]; omega)]
    rfl
theorem tr_get {p q : W} : ∀ {us : List W} {p : W} {i : Nat}, Tr beg fin p us q → i < us.length → (∃ w, us[i]? = some w ∧ fin w = if h : i + 1 < us.length then beg us[i + 1] else q) := by
  intro us
  induction us with
  | nil => intro p i _ h; exact absurd h (Nat.not_lt_zero _)
  | cons u r ih =>
    intro p' i h hi
    cases i with
    | zero =>
      refine ⟨u, rfl, ?_⟩
      cases r with
      | nil =>
        rw [dif_neg (by simp)]
        exact h.2
      | cons v r' =>
        rw [dif_pos (by simp)]
        exact h.2.1.symm
    | succ i =>
      obtain ⟨w, e1, e2⟩ := ih (i := i) h.2 (by simpa using hi)
      refine ⟨w, by rw [List.getElem?_cons_succ]; exact e1, ?_⟩
      rw [e2]
      by_cases hh : i + 1 < r.length
      · rw [dif_pos hh, dif_pos (by simpa using hh)]
        rfl
      · rw [dif_neg hh, dif_neg (by simpa using hh)]
theorem ring_tr {us : List W} {p : W} {n : Nat} (hn : 1 ≤ n) (hl : ∀ w ∈ us, w.length = n) (h : Tr beg fin p us p) : ringW (us.map hd) n = us := by
  rcases Nat.eq_zero_or_pos us.length with h0 | h0
  · rw [List.length_eq_zero_iff.mp h0]; rfl
  have nx : ∀ i, i < us.length → ∃ w v, us[i]? = some w ∧ us[(i + 1) % us.length]? = some v ∧ fin w = beg v := fun i hi => by
    obtain ⟨w, e1, e2⟩ := tr_get (p := p) h hi
    by_cases hh : i + 1 < us.length
    · rw [dif_pos hh] at e2
      exact ⟨w, _, e1, by rw [Nat.mod_eq_of_lt hh]; exact List.getElem?_eq_getElem hh, e2⟩
    · rw [dif_neg hh] at e2
      refine ⟨w, us[0], e1, by rw [show i + 1 = us.length by omega, Nat.mod_self]; exact List.getElem?_eq_getElem h0, ?_⟩
      rw [e2]
      cases us with
      | nil => exact absurd h0 (Nat.not_lt_zero _)
      | cons u r => exact h.1.symm
  have key : ∀ k i w, k < n → i < us.length → us[i]? = some w → ∃ v, us[(i + k) % us.length]? = some v ∧ w[k]? = some (hd v) := by
    intro k
    induction k with
    | zero =>
      intro i w _ hi e
      refine ⟨w, by rw [Nat.add_zero, Nat.mod_eq_of_lt hi]; exact e, ?_⟩
      have hw := hl w (List.mem_of_getElem? e)
      unfold hd
      rw [List.getD_eq_getElem?_getD, List.getElem?_eq_getElem (by omega)]
      rfl
    | succ k ih =>
      intro i w hk hi e
      obtain ⟨w', v, e1, e2, e3⟩ := nx i hi
      rw [e] at e1
      cases e1
      have hv := hl v (List.mem_of_getElem? e2)
      obtain ⟨x, g1, g2⟩ := ih ((i + 1) % us.length) v (by omega) (Nat.mod_lt _ h0) e2
      refine ⟨x, ?_, ?_⟩
      · rw [← g1, Nat.mod_add_mod, show i + 1 + k = i + (k + 1) by omega]
      · have : (fin w)[k]? = (beg v)[k]? := by rw [e3]
        unfold fin beg at this
        rw [List.getElem?_drop, List.getElem?_take_of_lt (by omega), g2, show 1 + k = k + 1 by omega] at this
        exact this
  apply List.ext_getElem?
  intro i
  by_cases hi : i < us.length
  · rw [ringW_get (by rw [List.length_map]; exact hi), List.getElem?_eq_getElem hi]
    congr 1
    have hw := hl us[i] (List.getElem_mem hi)
    apply List.ext_getElem?
    intro k
    by_cases hk : k < n
    · obtain ⟨v, g1, g2⟩ := key k i us[i] hk hi (List.getElem?_eq_getElem hi)
      rw [ringAt_get hk (by rw [List.length_map]; exact h0), List.length_map, List.getElem?_map, g1, g2]
      rfl
    · rw [List.getElem?_eq_none (by rw [ringAt_len]; omega), List.getElem?_eq_none (by omega)]
  · rw [List.getElem?_eq_none (by rw [ringW_len, List.length_map]; omega), List.getElem?_eq_none (by omega)]
theorem met_ring {t : W} {n i : Nat} (h : 1 ≤ t.length) (hi : i ≤ t.length) : (metL t n)[i]? = some (beg (ringAt t n i)) := by
  unfold metL
  rcases Nat.lt_or_eq_of_le hi with g | g
  · rw [List.getElem?_append_left (by rw [List.length_map, ringW_len]; exact g), List.getElem?_map, ringW_get g]
    rfl
  · subst g
    rw [List.getElem?_append_right (by rw [List.length_map, ringW_len]; exact Nat.le_refl _), List.length_map, ringW_len, Nat.sub_self, List.getElem?_take_of_lt (by omega), List.getElem?_map, ringW_get (by omega)]
    rw [← ringAt_mod (i := t.length), Nat.mod_self]
    rfl
set_option genInjectivity false in
structure Ex (t : W) (n a b c d : Nat) : Prop where
  a1 : 1 ≤ a
  ab : a < b
  bc : b ≤ c
  cd : c < d
  dm : d ≤ t.length
  ac : beg (ringAt t n a) = beg (ringAt t n c)
  bd : beg (ringAt t n b) = beg (ringAt t n d)
noncomputable def exW (t : W) (n a b c d : Nat) : List W := seg t n 0 a ++ (seg t n c d ++ (seg t n b c ++ (seg t n a b ++ seg t n d t.length)))
noncomputable def exT (t : W) (a b c d : Nat) : W := sl t 0 a ++ (sl t c d ++ (sl t b c ++ (sl t a b ++ sl t d t.length)))
section
variable {t : W} {n a b c d : Nat}
theorem ringAt_end : beg (ringAt t n t.length) = beg (ringAt t n 0) := by rw [← ringAt_mod (i := t.length), Nat.mod_self]
theorem exW_hd (hn : 1 ≤ n) (h : Ex t n a b c d) : (exW t n a b c d).map hd = exT t a b c d := by
  have := h.ab; have := h.bc; have := h.cd; have := h.dm
  unfold exW exT
  rw [List.map_append, List.map_append, List.map_append, List.map_append, seg_hd hn (by omega), seg_hd hn (by omega), seg_hd hn (by omega), seg_hd hn (by omega), seg_hd hn (by omega)]
theorem exW_len (h : Ex t n a b c d) : (exW t n a b c d).length = t.length := by
  have := h.ab; have := h.bc; have := h.cd; have := h.dm
  unfold exW
  simp only [List.length_append, seg_len]
  omega
theorem exW_perm (h : Ex t n a b c d) : (exW t n a b c d).Perm (ringW t n) := by
  have := h.ab; have := h.bc; have := h.cd; have := h.dm
  rw [← seg_all, ← seg_app (t := t) (n := n) (Nat.zero_le a) (by omega : a ≤ t.length), ← seg_app (t := t) (n := n) (by omega : a ≤ b) (by omega : b ≤ t.length), ← seg_app (t := t) (n := n) (by omega : b ≤ c) (by omega : c ≤ t.length), ← seg_app (t := t) (n := n) (by omega : c ≤ d) (by omega : d ≤ t.length)]
  unfold exW
  refine List.Perm.append_left _ ?_
  generalize seg t n a b = A
  generalize seg t n b c = B
  generalize seg t n c d = C
  generalize seg t n d t.length = D
  refine (List.Perm.trans ?_ (List.perm_append_comm_assoc B A (C ++ D))).trans ?_
  · refine (List.perm_append_comm_assoc C B (A ++ D)).trans (List.Perm.append_left _ ?_)
    exact List.perm_append_comm_assoc C A D
  · exact List.Perm.refl _
theorem exW_tr (h : Ex t n a b c d) : Tr beg fin (beg (ringAt t n 0)) (exW t n a b c d) (beg (ringAt t n 0)) := by
  have := h.ab; have := h.bc; have := h.cd; have := h.dm
  have s1 := seg_tr' (t := t) (n := n) (Nat.zero_le a)
  have s2 := seg_tr' (t := t) (n := n) (by omega : c ≤ d)
  have s3 := seg_tr' (t := t) (n := n) (by omega : b ≤ c)
  have s4 := seg_tr' (t := t) (n := n) (by omega : a ≤ b)
  have s5 := seg_tr' (t := t) (n := n) (by omega : d ≤ t.length)
  rw [ringAt_end] at s5
  rw [← h.ac] at s2 s3
  rw [← h.bd] at s2 s5
  exact Tr.app (p := []) s1 (Tr.app (p := []) s2 (Tr.app (p := []) s3 (Tr.app (p := []) s4 s5)))
theorem exW_all (h : Ex t n a b c d) : ∀ w ∈ exW t n a b c d, w.length = n := fun w hw => by
  have := (exW_perm h).mem_iff.mp hw
  unfold ringW at this
  obtain ⟨i, _, rfl⟩ := List.mem_map.mp this
  exact ringAt_len t n i
theorem ex_ring (hn : 1 ≤ n) (h : Ex t n a b c d) : ringW (exT t a b c d) n = exW t n a b c d := by
  rw [← exW_hd hn h]
  exact ring_tr hn (exW_all h) (exW_tr h)
theorem exT_len (hn : 1 ≤ n) (h : Ex t n a b c d) : (exT t a b c d).length = t.length := by rw [← ringW_len _ n, ex_ring hn h, exW_len h]
theorem ex_first (hn : 1 ≤ n) (h : Ex t n a b c d) : ringAt (exT t a b c d) n 0 = ringAt t n 0 := by
  have := h.a1; have := h.ab; have := h.bc; have := h.cd; have := h.dm
  have e := congrArg (·[0]?) (ex_ring hn h)
  rw [ringW_get (by rw [exT_len hn h]; omega)] at e
  unfold exW at e
  rw [List.getElem?_append_left (by rw [seg_len]; omega)] at e
  unfold seg at e
  rw [List.getElem?_map, List.getElem?_range' (by omega)] at e
  simpa using e
theorem sl_all : sl t 0 t.length = t := by unfold sl; rw [List.drop_zero, Nat.sub_zero, List.take_length]
end
end Wd

set_option linter.all false
namespace Wd
set_option genInjectivity false in
structure Two (r g : W) (n : Nat) : Prop where
  n1 : 1 ≤ n
  pos : 1 ≤ r.length
  len : g.length = r.length
  perm : (ringW g n).Perm (ringW r n)
  nd : (ringW r n).Nodup
  zero : ringAt r n 0 = ringAt g n 0
noncomputable def Agree (r g : W) (n k : Nat) : Prop := ∀ i, i < k → ringAt r n i = ringAt g n i
section
variable {r g : W} {n : Nat}
theorem Two.ndg (h : Two r g n) : (ringW g n).Nodup := h.perm.nodup_iff.mpr h.nd
theorem ringAt_inj {t : W} {i j : Nat} (hd : (ringW t n).Nodup) (hi : i < t.length) (hj : j < t.length) (e : ringAt t n i = ringAt t n j) : i = j := by
  have h1 : i < (ringW t n).length := by rw [ringW_len]; exact hi
  refine (List.getElem?_inj h1 hd).mp ?_
  rw [ringW_get hi, ringW_get hj, e]
theorem Two.find (h : Two r g n) {i : Nat} (hi : i < r.length) : ∃ j, j < r.length ∧ ringAt r n j = ringAt g n i := by
  have hm : ringAt g n i ∈ ringW g n := List.mem_of_getElem? (ringW_get (by rw [h.len]; exact hi))
  obtain ⟨j, hj, e⟩ := List.mem_map.mp (h.perm.mem_iff.mp hm)
  exact ⟨j, List.mem_range.mp hj, e⟩
theorem Two.find' (h : Two r g n) {i : Nat} (hi : i < r.length) : ∃ j, j < r.length ∧ ringAt g n j = ringAt r n i := by
  have hm : ringAt r n i ∈ ringW r n := List.mem_of_getElem? (ringW_get hi)
  obtain ⟨j, hj, e⟩ := List.mem_map.mp (h.perm.mem_iff.mpr hm)
  exact ⟨j, by rw [← h.len]; exact List.mem_range.mp hj, e⟩
theorem Two.same (h : Two r g n) (ha : Agree r g n r.length) : r = g := by
  have e : ringW r n = ringW g n := by
    unfold ringW
    rw [h.len]
    exact List.map_congr_left fun i hi => ha i (List.mem_range.mp hi)
  have hh : ∀ {t : W}, t = (ringW t n).map hd := fun {t} => by rw [← seg_all, seg_hd h.n1 (Nat.le_refl _), sl_all]
  rw [hh (t := r), e, ← hh]
theorem Two.part (h : Two r g n) (hne : r ≠ g) {k : Nat} (hk : Agree r g n k) : ∃ a, k ≤ a ∧ 1 ≤ a ∧ a < r.length ∧ Agree r g n a ∧ ringAt r n a ≠ ringAt g n a := by
  have hex : ∃ a, a < r.length ∧ ringAt r n a ≠ ringAt g n a := by
    refine Classical.byContradiction fun z => hne (h.same fun i hi => Classical.byContradiction fun c => z ⟨i, hi, c⟩)
  have hmin : ∀ m, (∃ a, a < m ∧ a < r.length ∧ ringAt r n a ≠ ringAt g n a) → ∃ a, a < r.length ∧ Agree r g n a ∧ ringAt r n a ≠ ringAt g n a := by
    intro m
    induction m with
    | zero => rintro ⟨a, h0, _⟩; omega
    | succ m ih =>
      rintro ⟨a, h0, h1, h2⟩
      by_cases c : ∃ a, a < m ∧ a < r.length ∧ ringAt r n a ≠ ringAt g n a
      · exact ih c
      · obtain rfl : a = m := by
          rcases Nat.lt_or_ge a m with q | q
          · exact absurd ⟨a, q, h1, h2⟩ c
          · omega
        exact ⟨a, h1, fun i hi => Classical.byContradiction fun z => c ⟨i, hi, by omega, z⟩, h2⟩
  obtain ⟨a0, h1, h2⟩ := hex
  obtain ⟨a, g1, g2, g3⟩ := hmin (a0 + 1) ⟨a0, by omega, h1, h2⟩
  refine ⟨a, ?_, ?_, g1, g2, g3⟩
  · rcases Nat.lt_or_ge a k with q | q
    · exact absurd (hk a q) g3
    · exact q
  · rcases Nat.eq_zero_or_pos a with rfl | q
    · exact absurd h.zero g3
    · exact q
noncomputable def pcs (t : W) (n i : Nat) : W := beg (ringAt t n i)
theorem pcs_next {t : W} {i : Nat} : fin (ringAt t n i) = pcs t n (i + 1) := fin_ring
theorem Two.there (h : Two r g n) {a c : Nat} (ha1 : 1 ≤ a) (ha : a < r.length) (hag : Agree r g n a) (hne : ringAt r n a ≠ ringAt g n a) (hc : c < r.length) (hcg : ringAt r n c = ringAt g n a) : a < c ∧ pcs r n a = pcs r n c := by
  refine ⟨?_, ?_⟩
  · rcases Nat.lt_trichotomy a c with q | q | q
    · exact q
    · subst q; exact absurd hcg hne
    · have e : ringAt g n c = ringAt g n a := (hag c q).symm.trans hcg
      have := ringAt_inj h.ndg (by rw [h.len]; exact hc) (by rw [h.len]; exact ha) e
      omega
  · have e1 : pcs r n a = fin (ringAt r n (a - 1)) := by rw [pcs_next, show a - 1 + 1 = a by omega]
    have e2 : pcs g n a = fin (ringAt g n (a - 1)) := by rw [pcs_next, show a - 1 + 1 = a by omega]
    have e3 : pcs r n c = pcs g n a := by unfold pcs; rw [hcg]
    rw [e3, e2, e1, hag (a - 1) (by omega)]
theorem Two.again (h : Two r g n) {a c : Nat} (ha1 : 1 ≤ a) (ha : a < r.length) (hag : Agree r g n a) (hne : ringAt r n a ≠ ringAt g n a) (hc : c < r.length) (hcg : ringAt r n c = ringAt g n a) : ∃ b d, a < b ∧ b ≤ c ∧ c < d ∧ d ≤ r.length ∧ pcs r n b = pcs r n d := by
  obtain ⟨hac, hpc⟩ := h.there ha1 ha hag hne hc hcg
  refine Classical.byContradiction fun z => ?_
  have hz : ∀ b d, a ≤ b → b ≤ c → c < d → d ≤ r.length → pcs r n b ≠ pcs r n d := fun b d h1 h2 h3 h4 e => by
    rcases Nat.lt_or_ge a b with q | q
    · exact z ⟨b, d, q, h2, h3, h4, e⟩
    · obtain rfl : b = a := by omega
      exact z ⟨c, d, hac, Nat.le_refl _, h3, h4, hpc.symm.trans e⟩
  obtain ⟨e, he, hea⟩ := h.find' ha
  have hae : a < e := by
    rcases Nat.lt_trichotomy a e with q | q | q
    · exact q
    · subst q; exact absurd hea.symm hne
    · have e1 : ringAt r n e = ringAt r n a := (hag e q).trans hea
      have := ringAt_inj h.nd he ha e1
      omega
  have key : ∀ k, a + 1 + k ≤ e → ∀ b, a ≤ b → b ≤ c → pcs r n b ≠ pcs g n (a + 1 + k) := by
    intro k
    induction k with
    | zero =>
      intro _ b h1 h2
      have e1 : pcs g n (a + 1) = pcs r n (c + 1) := by rw [← pcs_next, ← hcg, pcs_next]
      rw [Nat.add_zero, e1]
      exact hz b (c + 1) h1 h2 (by omega) (by omega)
    | succ k ih =>
      intro hk b h1 h2
      have hi := ih (by omega)
      obtain ⟨j, hj, ej⟩ := h.find (i := a + 1 + k) (by omega)
      have hjc : c < j := by
        rcases Nat.lt_or_ge c j with q | q
        · exact q
        · rcases Nat.lt_or_ge j a with p | p
          · have e1 : ringAt g n j = ringAt g n (a + 1 + k) := (hag j p).symm.trans ej
            have := ringAt_inj h.ndg (by rw [h.len]; exact hj) (by rw [h.len]; omega) e1
            omega
          · exact absurd (show pcs r n j = pcs g n (a + 1 + k) by unfold pcs; rw [ej]) (hi j p q)
      have e1 : pcs g n (a + 1 + (k + 1)) = pcs r n (j + 1) := by
        rw [show a + 1 + (k + 1) = a + 1 + k + 1 by omega, ← pcs_next, ← ej, pcs_next]
      rw [e1]
      exact hz b (j + 1) h1 h2 (by omega) (by omega)
  have hfin := key (e - (a + 1)) (by omega) a (Nat.le_refl _) (by omega)
  rw [show a + 1 + (e - (a + 1)) = e by omega] at hfin
  exact hfin (by unfold pcs; rw [hea])
theorem Two.ex (h : Two r g n) {a b c d : Nat} (ha1 : 1 ≤ a) (hab : a < b) (hbc : b ≤ c) (hcd : c < d) (hd : d ≤ r.length) (h1 : pcs r n a = pcs r n c) (h2 : pcs r n b = pcs r n d) : Ex r n a b c d := by
  constructor <;> first | exact ha1 | exact hab | exact hbc | exact hcd | exact hd | exact h1 | exact h2 | omega
theorem Two.more (h : Two r g n) {a b c d : Nat} (hag : Agree r g n a) (hcg : ringAt r n c = ringAt g n a) (hx : Ex r n a b c d) : Two (exT r a b c d) g n ∧ Agree (exT r a b c d) g n (a + 1) := by
  have hl := exT_len h.n1 hx
  have hw := ex_ring h.n1 hx
  have hp := exW_perm hx
  have hat : ∀ i, i ≤ a → ringAt (exT r a b c d) n i = if i < a then ringAt r n i else ringAt r n c := fun i hi => by
    have hil : i < r.length := by have := hx.2; have := exW_len hx; obtain ⟨p1, p2, p3, p4, p5, _⟩ := hx; omega
    have g1 : (exW r n a b c d)[i]? = some (ringAt (exT r a b c d) n i) := by rw [← hw]; exact ringW_get (by rw [hl]; exact hil)
    unfold exW at g1
    by_cases q : i < a
    · rw [if_pos q]
      rw [List.getElem?_append_left (by rw [seg_len]; omega)] at g1
      unfold seg at g1
      rw [List.getElem?_map, List.getElem?_range' (by omega)] at g1
      have := Option.some.inj g1
      rw [← this]
      simp
    · obtain rfl : i = a := by omega
      rw [if_neg q]
      obtain ⟨p1, p2, p3, p4, p5, _⟩ := hx
      rw [List.getElem?_append_right (by rw [seg_len]; omega), seg_len, List.getElem?_append_left (by rw [seg_len]; omega)] at g1
      unfold seg at g1
      rw [List.getElem?_map, List.getElem?_range' (by omega)] at g1
      have := Option.some.inj g1
      rw [← this]
      simp
  refine ⟨⟨h.n1, by rw [hl]; exact h.pos, by rw [hl]; exact h.len, by rw [hw]; exact h.perm.trans hp.symm, by rw [hw]; exact hp.nodup_iff.mpr h.nd, by rw [ex_first h.n1 hx]; exact h.zero⟩, fun i hi => ?_⟩
  rw [hat i (by omega)]
  by_cases q : i < a
  · rw [if_pos q]; exact hag i q
  · rw [if_neg q, show i = a by omega]; exact hcg
end
end Wd

namespace Wd
end Wd

namespace Wd
noncomputable def Okk (k : Nat) (w : W) : Prop := ∀ c ∈ w, 97 ≤ c ∧ c < 97 + k
noncomputable def Lst (w : W) : Prop := w = least w
noncomputable instance (w : W) : Decidable (Lst w) := inferInstanceAs (Decidable (w = least w))
set_option genInjectivity false in
structure LW (k n : Nat) (w : W) : Prop where
  len : w.length = n
  ok : Okk k w
  lst : Lst w
end Wd

namespace Wd
noncomputable def Nn (k : Nat) (w : W) (m : Nat) : Prop := ∀ v, LW k w.length v → ∀ p, m ≤ p → p < w.length → v.take p = w.take p → ¬ w.getD p 0 < v.getD p 0
end Wd

namespace Wd
end Wd

set_option linter.all false
namespace Wd
end Wd

namespace Wd
theorem nodup_le : ∀ (a b : List W), a.Nodup → (∀ x ∈ a, x ∈ b) → a.length ≤ b.length
  | [], b, _, _ => Nat.zero_le _
  | x :: a, b, hn, hs => by
    obtain ⟨h1, h2⟩ := List.nodup_cons.mp hn
    have hx : x ∈ b := hs x List.mem_cons_self
    have := nodup_le a (b.erase x) h2 fun y hy => (List.mem_erase_of_ne (fun e => h1 (by rw [← e]; exact hy))).mpr (hs y (List.mem_cons_of_mem _ hy))
    rw [List.length_erase_of_mem hx] at this
    have hp : 0 < b.length := List.length_pos_of_mem hx
    rw [List.length_cons]
    omega
end Wd

set_option linter.all false
namespace Wd
end Wd

set_option linter.all false
namespace Wd
section
variable {k n : Nat} {t : W}
end
end Wd

set_option linter.all false
namespace Wd
open Hg
noncomputable def lst (us : List W) : W := us.getD (us.length - 1) []
theorem lst_snoc (us : List W) (w : W) : lst (us ++ [w]) = w := by unfold lst; simp
noncomputable def ext (ws us : List W) : List (List W) := (ws.filter fun w => decide (beg w = fin (lst us)) && !decide (w ∈ us)).map fun w => us ++ [w]
section
variable {ws us : List W} {w0 w : W} {n k : Nat}
end
end Wd

set_option linter.all false
namespace Wd
open Hg
noncomputable def cnt (f : W → W) (E : List W) (v : W) : Nat := (E.filter fun w => decide (f w = v)).length
noncomputable def Bal (E : List W) (s t : W) : Prop := ∀ v, cnt beg E v + (if v = t then 1 else 0) = cnt fin E v + (if v = s then 1 else 0)
noncomputable def Conn (E : List W) (s : W) : Prop := ∀ χ : W → Prop, χ s → (∀ e ∈ E, χ (beg e) ↔ χ (fin e)) → ∀ e ∈ E, χ (beg e)
section
variable {E L us : List W} {s t v p q w : W}
theorem cnt_cons (f : W → W) (e : W) (E : List W) (v : W) : cnt f (e :: E) v = (if f e = v then 1 else 0) + cnt f E v := by
  unfold cnt
  rw [List.filter_cons]
  by_cases h : f e = v
  · rw [if_pos (decide_eq_true h), if_pos h, List.length_cons, Nat.add_comm]
  · rw [if_neg (by rw [decide_eq_false h]; exact Bool.false_ne_true), if_neg h, Nat.zero_add]
theorem cnt_app (f : W → W) (A B : List W) (v : W) : cnt f (A ++ B) v = cnt f A v + cnt f B v := by
  unfold cnt
  rw [List.filter_append, List.length_append]
theorem cnt_perm {A B : List W} (f : W → W) (h : A.Perm B) (v : W) : cnt f A v = cnt f B v := (h.filter _).length_eq
theorem Bal.perm {A B : List W} (h : Bal A s t) (hp : A.Perm B) : Bal B s t := fun v => by rw [← cnt_perm beg hp, ← cnt_perm fin hp]; exact h v
theorem Conn.perm {A B : List W} (h : Conn A s) (hp : A.Perm B) : Conn B s := fun χ hs hc e he => h χ hs (fun e he => hc e (hp.mem_iff.mp he)) e (hp.mem_iff.mpr he)
theorem tr_bal : ∀ {us : List W} {p : W}, Tr beg fin p us q → Bal us p q
  | [], p, h => fun v => by
    have h : p = q := h
    subst h
    rfl
  | w :: us, p, h => fun v => by
    have ih := tr_bal h.2 v
    have e : beg w = p := h.1
    rw [cnt_cons, cnt_cons]
    have e1 : (if v = p then 1 else 0) = (if beg w = v then 1 else 0) := by
      by_cases c : v = p
      · rw [if_pos c, if_pos (by rw [e, c])]
      · rw [if_neg c, if_neg (fun z => c (by rw [← z, e]))]
    have e2 : (if v = fin w then 1 else 0) = (if fin w = v then 1 else 0) := by
      by_cases c : v = fin w
      · rw [if_pos c, if_pos c.symm]
      · rw [if_neg c, if_neg (fun z => c z.symm)]
    omega
theorem tr_conn : ∀ {us : List W} {p : W}, Tr beg fin p us q → Conn us p
  | [], p, _ => fun χ _ _ e he => by cases he
  | w :: us, p, h => fun χ hp hc e he => by
    have hb : χ (beg w) := by rw [show beg w = p from h.1]; exact hp
    have hf := (hc w (List.mem_cons_self ..)).mp hb
    rcases List.mem_cons.mp he with rfl | he
    · exact hb
    · exact tr_conn h.2 χ hf (fun e he => hc e (List.mem_cons_of_mem _ he)) e he
theorem Bal.rest (h : Bal E s t) (hp : E.Perm (us ++ L)) (ht : Tr beg fin s us q) : Bal L q t := fun v => by
  have h1 := (h.perm hp) v
  have h2 := tr_bal ht v
  rw [cnt_app, cnt_app] at h1
  omega
theorem Bal.out (h : Bal L v t) (hne : v ≠ t) : ∃ e ∈ L, beg e = v := by
  have h1 := h v
  rw [if_neg hne, if_pos rfl] at h1
  have h2 : 0 < cnt beg L v := by omega
  obtain ⟨e, he⟩ := List.exists_mem_of_length_pos h2
  obtain ⟨g1, g2⟩ := List.mem_filter.mp he
  exact ⟨e, g1, of_decide_eq_true g2⟩
theorem Bal.go : ∀ (k : Nat) {L : List W} {v : W}, L.length = k → Bal L v t → ∃ cs R, L.Perm (cs ++ R) ∧ Tr beg fin v cs t
  | 0, L, v, hl, h => by
    by_cases c : v = t
    · exact ⟨[], L, List.Perm.refl _, c⟩
    · obtain ⟨e, he, _⟩ := h.out c
      rw [List.length_eq_zero_iff.mp hl] at he
      cases he
  | k + 1, L, v, hl, h => by
    by_cases c : v = t
    · exact ⟨[], L, List.Perm.refl _, c⟩
    · obtain ⟨e, he, hb⟩ := h.out c
      have hp := List.perm_cons_erase he
      have h2 : Bal (L.erase e) (fin e) t := h.rest (us := [e]) hp ⟨hb, rfl⟩
      have hle : (L.erase e).length = k := by rw [List.length_erase_of_mem he, hl]; rfl
      obtain ⟨cs, R, h3, h4⟩ := Bal.go k hle h2
      exact ⟨e :: cs, R, hp.trans (h3.cons e), ⟨hb, h4⟩⟩
theorem tr_split : ∀ {us : List W} {p : W}, Tr beg fin p us q → v ∈ p :: us.map fin → ∃ xs ys, us = xs ++ ys ∧ Tr beg fin p xs v ∧ Tr beg fin v ys q
  | [], p, h, hv => by
    have e : v = p := by simpa using hv
    exact ⟨[], [], rfl, e.symm, e ▸ h⟩
  | w :: us, p, h, hv => by
    by_cases c : v = p
    · exact ⟨[], w :: us, rfl, c.symm, by rw [c]; exact h⟩
    · have hv2 : v ∈ fin w :: us.map fin := (List.mem_cons.mp hv).resolve_left c
      obtain ⟨xs, ys, e, h1, h2⟩ := tr_split h.2 hv2
      exact ⟨w :: xs, ys, by rw [e]; rfl, ⟨h.1, h1⟩, h2⟩
theorem absorb : ∀ (k : Nat) {us R : List W}, R.length ≤ k → Tr beg fin s us t → Bal R t t → Conn (us ++ R) s → ∃ full, full.Perm (us ++ R) ∧ Tr beg fin s full t
  | k, us, [], _, h, _, _ => ⟨us, by rw [List.append_nil], h⟩
  | 0, us, r :: R, hl, _, _, _ => absurd hl (by simp)
  | k + 1, us, r :: R, hl, h, hb, hc => by
    have hbv : ∀ v, cnt beg (r :: R) v = cnt fin (r :: R) v := fun v => by have := hb v; omega
    have hex : ∃ e ∈ r :: R, beg e ∈ s :: us.map fin := by
      refine Classical.byContradiction fun z => ?_
      have hno : ∀ e ∈ r :: R, ¬ beg e ∈ s :: us.map fin := fun e he c => z ⟨e, he, c⟩
      have hnof : ∀ e ∈ r :: R, ¬ fin e ∈ s :: us.map fin := fun e he c => by
        have h1 : 0 < cnt fin (r :: R) (fin e) := List.length_pos_of_mem (List.mem_filter.mpr ⟨he, decide_eq_true rfl⟩)
        rw [← hbv] at h1
        obtain ⟨e', he'⟩ := List.exists_mem_of_length_pos h1
        obtain ⟨g1, g2⟩ := List.mem_filter.mp he'
        exact hno e' g1 (by rw [of_decide_eq_true g2]; exact c)
      have := hc (fun v => v ∈ s :: us.map fin) (List.mem_cons_self ..) (fun e he => ?_) r (List.mem_append_right _ (List.mem_cons_self ..))
      · exact hno r (List.mem_cons_self ..) this
      · rcases List.mem_append.mp he with he | he
        · exact ⟨fun _ => List.mem_cons_of_mem _ (List.mem_map_of_mem he), fun _ => h.mem e he⟩
        · exact ⟨fun z => absurd z (hno e he), fun z => absurd z (hnof e he)⟩
    obtain ⟨e, he, hev⟩ := hex
    obtain ⟨xs, ys, rfl, t1, t2⟩ := tr_split h hev
    have hp := List.perm_cons_erase he
    have hb1 : Bal (r :: R) (beg e) (beg e) := fun v => by have := hbv v; omega
    have hb2 : Bal ((r :: R).erase e) (fin e) (beg e) := hb1.rest (us := [e]) hp ⟨rfl, rfl⟩
    obtain ⟨cs, R', h3, h4⟩ := Bal.go _ rfl hb2
    have hpR : (r :: R).Perm ((e :: cs) ++ R') := hp.trans (h3.cons e)
    have t3 : Tr beg fin (beg e) (e :: cs) (beg e) := ⟨rfl, h4⟩
    have hb3 : Bal R' (beg e) (beg e) := hb1.rest hpR t3
    have hb4 : Bal R' t t := fun v => by have := hb3 v; omega
    have hl2 : R'.length ≤ k := by
      have := hpR.length_eq
      rw [List.length_append, List.length_cons, List.length_cons] at this
      rw [List.length_cons] at hl
      omega
    have hpall : ((xs ++ ys) ++ (r :: R)).Perm ((xs ++ ((e :: cs) ++ ys)) ++ R') := by
      refine (hpR.append_left (xs ++ ys)).trans ?_
      rw [List.append_assoc, List.append_assoc, List.append_assoc]
      refine List.Perm.append_left xs ?_
      rw [← List.append_assoc, ← List.append_assoc]
      exact List.perm_append_comm.append_right R'
    obtain ⟨full, f1, f2⟩ := absorb k hl2 (Tr.app (p := s) t1 (Tr.app (p := s) t3 t2)) hb4 (hc.perm hpall)
    exact ⟨full, f1.trans hpall.symm, f2⟩
theorem euler (hb : Bal E s t) (hc : Conn E s) : ∃ us, us.Perm E ∧ Tr beg fin s us t := by
  obtain ⟨cs, R, h1, h2⟩ := Bal.go _ rfl hb
  have hr := hb.rest h1 h2
  obtain ⟨full, f1, f2⟩ := absorb _ (Nat.le_refl _) h2 hr (hc.perm h1)
  exact ⟨full, f1.trans h1.symm, f2⟩
theorem fleury (hb : Bal E s t) (hc : Conn E s) (hne : E ≠ []) : ∃ e ∈ E, beg e = s ∧ Conn (E.erase e) (fin e) := by
  obtain ⟨us, h1, h2⟩ := euler hb hc
  match us, h1, h2 with
  | [], h1, _ => exact absurd (List.perm_nil.mp h1.symm) hne
  | e :: us, h1, h2 =>
    have he : e ∈ E := h1.mem_iff.mp (List.mem_cons_self ..)
    have hp : us.Perm (E.erase e) := by
      have := (List.perm_cons_erase he)
      exact (List.perm_cons e).mp (h1.trans this)
    exact ⟨e, he, h2.1, (tr_conn h2.2).perm hp⟩
theorem Bal.step (hb : Bal E s t) {e : W} (he : e ∈ E) (h : beg e = s) : Bal (E.erase e) (fin e) t := hb.rest (us := [e]) (List.perm_cons_erase he) ⟨h, rfl⟩
end
end Wd

set_option Elab.async false
set_option linter.all false
set_option maxRecDepth 100000
set_option maxHeartbeats 4000000

namespace L2
open PySem PySem.Spec PyProof.Rows

noncomputable def tx (l : List Nat) : Str := ⟨l.toArray⟩
noncomputable abbrev T (l : List Nat) : V := .str (tx l)
theorem tx_len (l : List Nat) : (tx l).length = l.length := by simp [tx, Str.length]
theorem tx_cps (l : List Nat) : (tx l).cps.toList = l := by simp [tx]
theorem tx_eta (x : Str) : tx x.cps.toList = x := by cases x; simp [tx]
theorem tx_inj {a b : List Nat} (h : tx a = tx b) : a = b := by
  have e := congrArg (fun x : Str => x.cps.toList) h
  simpa [tx] using e
theorem T_inj {a b : List Nat} (h : T a = T b) : a = b := tx_inj (V.str.inj h)
theorem T_dec {a b : List Nat} : decide (T a = T b) = decide (a = b) := by
  rw [Bool.eq_iff_iff, decide_eq_true_iff, decide_eq_true_iff]
  exact ⟨T_inj, fun h => by rw [h]⟩
theorem tx_app (a b : List Nat) : tx a ++ tx b = tx (a ++ b) := by
  rw [← tx_eta (tx a ++ tx b), PySem.W.KT.app_list, tx_cps, tx_cps]

section
variable {X : Cx}
theorem op_add_T : OpR X (binaryOp .Add) (fun x y H Q => ∃ a, x = T a ∧ ∃ b, y = T b ∧ a.length + b.length ≤ sizeLine ∧ Q (T (a ++ b)) H) := by
  intro pins s σ H x y v u Q I rx ry h
  obtain ⟨a, e1, b, e2, hz, q⟩ := h
  exact op_add_str pins s σ H x y v u Q I rx ry ⟨tx a, tx b, e1, e2, by rw [tx_len, tx_len]; exact hz, by rw [tx_app]; exact q⟩
theorem op_eq_T : OpR X (compareOp .Eq) (fun x y H Q => ∃ a, x = T a ∧ ∃ b, y = T b ∧ Q (.bl (decide (a = b))) H) := by
  intro pins s σ H x y v u Q I rx ry h
  obtain ⟨a, rfl, b, rfl, q⟩ := h
  exact op_eq pins s σ H _ _ v u Q I rx ry ⟨rfl, by rw [T_dec]; exact q⟩
theorem op_ne_T : OpR X (compareOp .NotEq) (fun x y H Q => ∃ a, x = T a ∧ ∃ b, y = T b ∧ Q (.bl (!decide (a = b))) H) := by
  intro pins s σ H x y v u Q I rx ry h
  obtain ⟨a, rfl, b, rfl, q⟩ := h
  exact op_ne pins s σ H _ _ v u Q I rx ry ⟨rfl, by rw [T_dec]; exact q⟩
theorem op_eq_I : OpR X (compareOp .Eq) (fun x y H Q => ∃ a, x = .int a ∧ ∃ b, y = .int b ∧ Q (.bl (decide (a = b))) H) := by
  intro pins s σ H x y v u Q I rx ry h
  obtain ⟨a, rfl, b, rfl, q⟩ := h
  exact op_eq pins s σ H _ _ v u Q I rx ry ⟨rfl, by rw [dec_int, Bool.beq_eq_decide_eq]; exact q⟩
theorem op_ne_I : OpR X (compareOp .NotEq) (fun x y H Q => ∃ a, x = .int a ∧ ∃ b, y = .int b ∧ Q (.bl (!decide (a = b))) H) := by
  intro pins s σ H x y v u Q I rx ry h
  obtain ⟨a, rfl, b, rfl, q⟩ := h
  exact op_ne pins s σ H _ _ v u Q I rx ry ⟨rfl, by rw [dec_int, Bool.beq_eq_decide_eq]; exact q⟩
noncomputable def cutL (l : List Nat) (lo hi : Option Int) : List Nat := (l.drop (HT.sIx l.length 0 lo)).take (HT.sIx l.length l.length hi - HT.sIx l.length 0 lo)
theorem cutL_length_le (l : List Nat) (lo hi : Option Int) : (cutL l lo hi).length ≤ l.length := by
  unfold cutL
  rw [List.length_take, List.length_drop]
  omega
theorem clip_sIx (v : Option Int) (n d : Nat) : (match v with | none => (d : Int) | some i => max 0 (min (if i < 0 then i + (n : Int) else i) (n : Int))) = ((HT.sIx n d v : Nat) : Int) := by
  cases v with
  | none => rfl
  | some i =>
    show max 0 (min (if i < 0 then i + (n : Int) else i) (n : Int)) = (((if i < 0 then (i + (n : Int)).toNat else min i.toNat n) : Nat) : Int)
    by_cases hi : i < 0
    · simp only [if_pos hi]; omega
    · simp only [if_neg hi]; omega
theorem indices_sIx (lo hi : Option Int) (n : Nat) : Builtin.Str.strSliceIndices lo hi 1 n = Builtin.Str.strSliceIndices (some ((HT.sIx n 0 lo : Nat) : Int)) (some ((HT.sIx n n hi : Nat) : Int)) 1 n := by
  have h1 := HT.sIx_le n 0 (Nat.zero_le _) lo
  have h2 := HT.sIx_le n n (Nat.le_refl _) hi
  have c1 := clip_sIx lo n 0
  have c2 := clip_sIx hi n n
  have d1 := clip_sIx (some ((HT.sIx n 0 lo : Nat) : Int)) n 0
  have d2 := clip_sIx (some ((HT.sIx n n hi : Nat) : Int)) n n
  rw [HT.sIx_nat, Nat.min_eq_left h1] at d1
  rw [HT.sIx_nat, Nat.min_eq_left h2] at d2
  unfold Builtin.Str.strSliceIndices
  simp only [show ((1 : Int) > 0) from by decide, if_true]
  have g : ∀ a b c d : Int, a = c → b = d → sliceRange a b 1 = sliceRange c d 1 := fun a b c d h1 h2 => by rw [h1, h2]
  exact g _ _ _ _ (c1.trans d1.symm) (c2.trans d2.symm)
theorem slice_tx (l : List Nat) (lo hi : Option Int) : Txt.slice (tx l) lo hi = tx (cutL l lo hi) := by
  have h1 := HT.sIx_le l.length 0 (Nat.zero_le _) lo
  have h2 := HT.sIx_le l.length l.length (Nat.le_refl _) hi
  unfold Txt.slice
  rw [tx_len, indices_sIx]
  by_cases hab : HT.sIx l.length 0 lo ≤ HT.sIx l.length l.length hi
  · have e := StrLaws.sliceText_nat (tx l) hab (by rw [tx_len]; exact h2)
    unfold StrLaws.sliceText at e
    rw [tx_len, tx_cps] at e
    exact e
  · have e0 : Builtin.Str.strSliceIndices (some ((HT.sIx l.length 0 lo : Nat) : Int)) (some ((HT.sIx l.length l.length hi : Nat) : Int)) 1 l.length = [] := by
      unfold Builtin.Str.strSliceIndices sliceRange
      have n1 : ¬ (((HT.sIx l.length 0 lo : Nat) : Int) < 0) := by omega
      have n2 : ¬ (((HT.sIx l.length l.length hi : Nat) : Int) < 0) := by omega
      simp only [show ((1 : Int) > 0) from by decide, if_true, if_neg n1, if_neg n2]
      have n3 : ¬ (max (0 : Int) (min ((HT.sIx l.length 0 lo : Nat) : Int) (l.length : Int)) < max (0 : Int) (min ((HT.sIx l.length l.length hi : Nat) : Int) (l.length : Int))) := by omega
      simp [n3]
    have e1 : cutL l lo hi = [] := by
      unfold cutL
      rw [show HT.sIx l.length l.length hi - HT.sIx l.length 0 lo = 0 by omega, List.take_zero]
    rw [e0, e1]
    cases l with
    | nil => rfl
    | cons c r => rfl
theorem sl_T : SlR X (fun x lo hi H Q => ∃ a, x = T a ∧ a.length ≤ sizeLine ∧ Q (T (cutL a lo hi)) H) := by
  intro pins s σ H x v vl vu lo hi sl Q I rx hs pl pu h
  obtain ⟨a, rfl, hz, q⟩ := h
  obtain ⟨t, rfl⟩ := rx
  obtain ⟨l, hl1, hl2⟩ : ∃ l : Option (Int × Tok), partValue l = vl ∧ l.map (·.1) = lo := by
    cases pl with
    | none => exact ⟨none, rfl, rfl⟩
    | int i t => exact ⟨some (i, t), rfl, rfl⟩
  obtain ⟨u, hu1, hu2⟩ : ∃ u : Option (Int × Tok), partValue u = vu ∧ u.map (·.1) = hi := by
    cases pu with
    | none => exact ⟨none, rfl, rfl⟩
    | int i t => exact ⟨some (i, t), rfl, rfl⟩
  refine ⟨"str", _, F.slot_str_getitem.lookup, typeIs_str _ _ _, ?_⟩
  have hsl : s.heap.IsSlice sl l u none := by
    obtain ⟨o, ho, hc, hd⟩ := hs
    exact ⟨o, ho, hc, by rw [hl1, hu1]; exact hd⟩
  refine wpAny_getItem_str_slice hsl rfl ?_
  have key : (if ((1 : Int) == 1 && (Builtin.Str.strSliceIndices lo hi 1 (tx a).length).length == (tx a).length) = true then (tx a) else ⟨((Builtin.Str.strSliceIndices lo hi 1 (tx a).length).filterMap ((tx a).cps[·]?)).toArray⟩) = tx (cutL a lo hi) := slice_tx a lo hi
  unfold sliceMade slicePicked
  rw [hl2, hu2]
  refine post_val_or_str ⟨?_, fun t' k => ?_⟩
  · show (Txt.slice (tx a) lo hi).length ≤ sizeLine
    exact Nat.le_trans (Txt.slice_le _ _ _) (by rw [tx_len]; exact hz)
  · refine ⟨T (cutL a lo hi), H, I.tok _, ⟨t', ?_⟩, q⟩
    exact congrArg (fun z => Value.str z t') key

theorem rep_length (n : Nat) (l : List Nat) : (Wd.rep n l).length = n * l.length := Wd.rep_len n l
theorem foldl_cps (n : Nat) (c : Array Nat) : ∀ acc : Array Nat, (List.replicate n c).foldl (· ++ ·) acc = acc ++ (Wd.rep n c.toList).toArray := by
  induction n with
  | zero => intro acc; simp [Wd.rep]
  | succ n ih =>
    intro acc
    rw [List.replicate_succ, List.foldl_cons, ih]
    rw [Wd.rep_succ, Array.append_assoc]
    congr 1
    apply Array.ext'
    simp
theorem mul_tx (n : Nat) (l : List Nat) : Txt.mul (tx l) (n : Int) = tx (Wd.rep n l) := by
  unfold Txt.mul
  by_cases h1 : (n : Int) < 1
  · have e : n = 0 := by omega
    subst e
    rw [if_pos h1]
    rfl
  · rw [if_neg h1]
    by_cases h2 : ((n : Int) == 1 || (tx l).length == 0) = true
    · rw [if_pos h2]
      rw [Bool.or_eq_true, beq_iff_eq, beq_iff_eq, tx_len] at h2
      rcases h2 with h2 | h2
      · have e : n = 1 := by omega
        subst e
        rw [Wd.rep_one]
      · have e : l = [] := List.length_eq_zero_iff.mp h2
        subst e
        have : Wd.rep n [] = [] := List.length_eq_zero_iff.mp (by rw [rep_length]; simp)
        rw [this]
    · rw [if_neg h2, Int.toNat_natCast, foldl_cps]
      simp [tx]
theorem op_mul_T : OpR X (binaryOp .Mult) (fun x y H Q => ∃ a, x = T a ∧ ∃ n : Nat, y = .int n ∧ (n ≤ sizeLine ∧ n * a.length ≤ sizeLine) ∧ Q (T (Wd.rep n a)) H) := by
  intro pins s σ H x y v u Q I rx ry h
  obtain ⟨a, rfl, n, rfl, ⟨h1, h2⟩, q⟩ := h
  obtain ⟨t, rfl⟩ := rx
  obtain ⟨t', rfl⟩ := ry
  have hs : sizeLine = 16777216 := sizeLine_eq
  refine SB.mul ⟨?_, ?_, ?_⟩ fun t' k => ⟨T (Wd.rep n a), H, I.tok _, ⟨t', by rw [mul_tx]⟩, q⟩
  · have e1 : decide ((n : Int) < -(2 ^ 63 : Int)) = false := decide_eq_false (by omega)
    have e2 : decide ((n : Int) ≥ 2 ^ 63) = false := decide_eq_false (by omega)
    rw [e1, e2]
    rfl
  · intro hn _
    rw [tx_len]
    have h3 : n * a.length ≤ 16777216 := by omega
    intro hc
    have h4 : ((n * a.length : Nat) : Int) ≤ 16777216 := by omega
    have hn' : (0 : Int) < n := by omega
    have h5 : ((2 ^ 63 - 1) / (n : Int)) * n ≤ 2 ^ 63 - 1 := Int.ediv_mul_le _ (by omega)
    have h6 : (2 ^ 63 - 1 : Int) < ((2 ^ 63 - 1) / (n : Int) + 1) * n := Int.lt_ediv_add_one_mul_self _ hn'
    have h7 : ((2 ^ 63 - 1) / (n : Int) + 1) * n ≤ (a.length : Int) * n := Int.mul_le_mul_of_nonneg_right (by omega) (by omega)
    have h8 : ((n * a.length : Nat) : Int) = (a.length : Int) * n := by rw [Int.natCast_mul, Int.mul_comm]
    omega
  · intro hn _
    rw [tx_len, Int.toNat_natCast, Nat.mul_comm]
    unfold Builtin.Str.tooLong
    exact decide_eq_false (by omega)

theorem strsAre_T : ∀ {ls : List (List Nat)} {us : List Value}, Vals (ls.map T) us → StrsAre us (ls.map tx)
  | [], us, r => by
    cases r
    exact .nil
  | l :: ls, us, r => by
    rw [List.map_cons] at r
    cases r with
    | cons r1 r2 =>
      obtain ⟨t, rfl⟩ := r1
      exact .cons _ _ (strsAre_T r2)
theorem glued_empty : ∀ (ls : List (List Nat)) (acc : Array Nat), (ls.map tx).foldl (fun acc p => acc ++ (tx []).cps ++ p.cps) acc = acc ++ ls.flatten.toArray
  | [], acc => by simp
  | l :: ls, acc => by
    rw [List.map_cons, List.foldl_cons, glued_empty ls]
    simp [tx]
theorem join_tx (ls : List (List Nat)) : Txt.join (tx []) (ls.map tx) = tx ls.flatten := by
  unfold Txt.join Builtin.Str.glued
  cases ls with
  | nil => rfl
  | cons l ls =>
    rw [List.map_cons, List.drop_succ_cons, List.drop_zero, List.headD_cons, glued_empty]
    simp [tx]
theorem sum_len_tx (ls : List (List Nat)) : ((ls.map tx).map (·.length)).sum = ls.flatten.length := by
  induction ls with
  | nil => rfl
  | cons l ls ih => rw [List.map_cons, List.map_cons, List.sum_cons, ih, List.flatten_cons, List.length_append, tx_len]
theorem mt_join : MtR X "str.join" (fun x xs H Q => x = T [] ∧ ∃ (p : Addr) (ls : List (List Nat)), xs = [.ref p] ∧ SqL X.K H p (ls.map T) ∧ ls.flatten.length ≤ sizeLine ∧ Q (T ls.flatten) H) := by
  intro pins s σ H x xs v us Q I rx rs h
  obtain ⟨rfl, p, ls, rfl, hq, hz, q⟩ := h
  obtain ⟨t, rfl⟩ := rx
  obtain ⟨u, rfl, ru⟩ := vals1 rs
  cases ru
  obtain ⟨its, r, pl, _⟩ := I.list hq
  have hs : sizeLine = 16777216 := sizeLine_eq
  refine join_list pl.isList (ys := ls.map tx) (by simpa using strsAre_T r) ?_ fun t' k => ⟨T ls.flatten, H, I.tok _, ⟨t', by rw [join_tx]⟩, q⟩
  rw [sum_len_tx, tx_len, List.length_nil, Nat.mul_zero]
  omega
end
end L2
namespace L2
theorem cutL_from {w : List Nat} {k : Nat} (h : k ≤ w.length) : cutL w (some (k : Int)) none = w.drop k := by
  unfold cutL
  rw [HT.sIx_nat, HT.sIx_none, Nat.min_eq_left h]
  exact List.take_of_length_le (by rw [List.length_drop]; omega)
theorem cutL_to {w : List Nat} {k : Nat} (h : k ≤ w.length) : cutL w none (some (k : Int)) = w.take k := by
  unfold cutL
  rw [HT.sIx_nat, HT.sIx_none, Nat.min_eq_left h, List.drop_zero, Nat.sub_zero]
theorem cutL_mid {w : List Nat} {a b : Nat} (hb : b ≤ w.length) (hab : a ≤ b) : cutL w (some (a : Int)) (some (b : Int)) = (w.drop a).take (b - a) := by
  unfold cutL
  rw [HT.sIx_nat, HT.sIx_nat, Nat.min_eq_left hb, Nat.min_eq_left (show a ≤ w.length by omega)]
end L2

set_option Elab.async false
set_option linter.all false
set_option maxRecDepth 100000
set_option maxHeartbeats 4000000

namespace L2
open PySem PySem.Spec PyProof.Rows

set_option genInjectivity false in
structure CompSc (N N' : List Str) (sc scope : Scope) (x : Str) : Prop where
  kind : scope.kind = .function
  cell : ∀ y ∈ scope.names, y.2 ≠ .cell
  names : ∀ y ∈ scope.names, y.2 = .local → scope.names.lookup y.1 = some .local
  var : scope.names.lookup x = some .local
  ok : ∀ y ∈ scope.names, y.2 = .free → sc.names.lookup y.1 = some .cell ∨ sc.names.lookup y.1 = some .free
  hd : N'[0]? = some x
  len : N'.length = N.length + 1
  sub : ∀ i, i < N.length → N'[i + 1]? = N[i]? ∨ N'[i + 1]? = some ("" : Str)
  noe : scope.names.lookup ("" : Str) = none
  nol : ∀ y ∈ N'.tail, scope.names.lookup y ≠ some .local
  nd : N'.Nodup

noncomputable def closOf (cells : List (Str × Addr)) : List (Str × NameKind) → List (Str × Addr) → List (Str × Addr)
  | [], acc => acc
  | (n, k) :: r, acc => closOf cells r (if k == .free then (n, (cells.lookup n).getD 0) :: acc else acc)
theorem clos_sound {cells : List (Str × Addr)} {y : Str} {c : Addr} : ∀ (names : List (Str × NameKind)) (acc : List (Str × Addr)), (∀ z ∈ names, z.2 = .free → ∃ c, cells.lookup z.1 = some c) →
    (acc.lookup y = some c → cells.lookup y = some c) → (closOf cells names acc).lookup y = some c → cells.lookup y = some c
  | [], acc, _, ha, h => ha h
  | (n, k) :: r, acc, hz, ha, h => by
    unfold closOf at h
    refine clos_sound r _ (fun z hm => hz z (List.mem_cons_of_mem _ hm)) (fun q => ?_) h
    split at q
    · rename_i hk
      obtain ⟨c', e⟩ := hz (n, k) List.mem_cons_self (by simpa using hk)
      rw [List.lookup_cons] at q
      split at q
      · rename_i he
        have : y = n := by simpa using he
        subst this
        rw [e] at q
        rw [e]
        exact q
      · exact ha q
    · exact ha q
theorem clos_acc {cells : List (Str × Addr)} {y : Str} : ∀ (names : List (Str × NameKind)) (acc : List (Str × Addr)), (∃ c, acc.lookup y = some c) → ∃ c, (closOf cells names acc).lookup y = some c
  | [], acc, h => h
  | (n, k) :: r, acc, ⟨c, h⟩ => by
    unfold closOf
    refine clos_acc r _ ?_
    split
    · rw [List.lookup_cons]
      split
      · exact ⟨_, rfl⟩
      · exact ⟨c, h⟩
    · exact ⟨c, h⟩
theorem clos_has {cells : List (Str × Addr)} {y : Str} : ∀ (names : List (Str × NameKind)) (acc : List (Str × Addr)), (y, NameKind.free) ∈ names → ∃ c, (closOf cells names acc).lookup y = some c
  | (n, k) :: r, acc, h => by
    unfold closOf
    rcases List.mem_cons.mp h with e | h
    · cases e
      refine clos_acc r _ ⟨(cells.lookup y).getD 0, ?_⟩
      simp
    · exact clos_has r _ h
theorem clos_eq {scope : Scope} {env : Env} (h : ∀ z ∈ scope.names, z.2 = .free → ∃ c, env.cells.lookup z.1 = some c) : closureFor scope env = pure (closOf env.cells scope.names []) := by
  have gen : ∀ (names : List (Str × NameKind)) (acc : List (Str × Addr)), (∀ z ∈ names, z.2 = .free → ∃ c, env.cells.lookup z.1 = some c) →
      (forIn names acc fun (x : Str × NameKind) (r : List (Str × Addr)) => (if (x.2 == NameKind.free) = true then (do let a ← cellOf env x.1; pure (ForInStep.yield ((x.1, a) :: r))) else pure (ForInStep.yield r) : Sem (ForInStep (List (Str × Addr))))) = (pure (closOf env.cells names acc) : Sem (List (Str × Addr))) := by
    intro names
    induction names with
    | nil => intro acc _; rfl
    | cons z r ih =>
      intro acc hz
      obtain ⟨n, k⟩ := z
      rw [List.forIn_cons]
      unfold closOf
      by_cases hk : (k == NameKind.free) = true
      · obtain ⟨c, e⟩ := hz (n, k) List.mem_cons_self (by simpa using hk)
        have e' : env.cells.lookup n = some c := e
        simp only [hk, if_true, cellOf, e', pure_bind, Option.getD_some]
        exact ih _ fun z hm => hz z (List.mem_cons_of_mem _ hm)
      · simp only [hk, Bool.false_eq_true, if_false, pure_bind]
        exact ih _ fun z hm => hz z (List.mem_cons_of_mem _ hm)
  have g := gen scope.names [] h
  unfold closureFor
  refine Eq.trans ?_ (congrArg (fun (m : Sem (List (Str × Addr))) => m >>= fun cs => pure cs) g)
  rfl
theorem relabel_lookup (scope : Scope) (env : Env) (y : Str) : (relabel scope env).names.lookup y = (scope.names.lookup y).map fun k => if (k == NameKind.free && env.scope.kind == .function && env.kindOf y == some .cell) = true then NameKind.cell else k := by
  unfold relabel
  show List.lookup y (scope.names.map fun (n, k) => if (k == NameKind.free && env.scope.kind == .function && env.kindOf n == some .cell) = true then (n, NameKind.cell) else (n, k)) = _
  induction scope.names with
  | nil => rfl
  | cons z r ih =>
    obtain ⟨n, k⟩ := z
    rw [List.map_cons]
    by_cases hy : (y == n) = true
    · have e : y = n := by simpa using hy
      subst e
      by_cases hc : (k == NameKind.free && env.scope.kind == .function && env.kindOf y == some .cell) = true
      · simp only [hc, if_true, List.lookup_cons, beq_self_eq_true, Option.map_some]
      · simp only [hc, if_false, List.lookup_cons, beq_self_eq_true, Option.map_some, Bool.false_eq_true]
    · have hy' : (y == n) = false := by simpa using hy
      by_cases hc : (k == NameKind.free && env.scope.kind == .function && env.kindOf n == some .cell) = true
      · simp only [hc, if_true, List.lookup_cons, hy']
        exact ih
      · simp only [hc, if_false, List.lookup_cons, hy', Bool.false_eq_true]
        exact ih
theorem lookup_mem {κ : Type} : ∀ {l : List (Str × κ)} {y : Str} {k : κ}, l.lookup y = some k → (y, k) ∈ l := fun h => PySem.mem_of_lookup h

noncomputable abbrev cxComp (X : Cx) (N' : List Str) (scope : Scope) (cl : List (Str × Addr)) (C : Addr) (s : Shared) (H : Hp) (fp : List Addr) : Cx :=
  { X with env := compEnvC scope cl C X.env, N := N', s₀ := s, H₀ := H, outer := X.stack, stack := X.stack, ex := fp, fn := fun _ => false, xe := fun _ _ => False }

noncomputable abbrev tstF (cds : List Expr) (env : Env) : Sem Bool := forIn cds true fun c r => if r = true then do let ok ← isTrue c env (eval c env); pure (ForInStep.yield ok) else pure (ForInStep.yield r)
noncomputable def PTL (X : Cx) (cds : List Expr) (t : TT) : Prop :=
  ∀ (pins : List (Addr × Obj)) (s : Shared) (σ : St) (H : Hp) (Q : Bool → Hp → Prop), Inv X pins σ H s → t σ H Q → wpAny (model X.prog X.w) X.A (tstF cds X.env) (TP X pins σ Q) X.xe s
theorem ptl_nil {X : Cx} : PTL X [] (fun _ H k => k true H) := fun pins s σ H Q I q => wpAny_tests_nil ⟨H, I, q⟩
theorem ptl_one {X : Cx} {cd : Expr} {tc : TT} (h : PT X cd tc) : PTL X [cd] tc := fun pins s σ H Q I q => wpAny_tests_one (h pins s σ H Q I q)
theorem codeAny_compLoop_ts {prog : Program} {w : World} {A : Around} {R : Result → Shared → Prop} {s : Shared} {elt target iter : Expr} {cds : List Expr} {scope : Scope} {pos : Pos} {it acc : Value} {env : Env} (I : Nat → Shared → Prop)
    (turn : ∀ n s, I n s → wpAny (model prog w) A (pyNext it) (fun r s₁ => match r with
      | none => R (.ok .next) s₁
      | some v => wpAny (model prog w) A (letOwnedTupleGo target it v) (fun _ s₁' => wpAny (model prog w) A (assign target env v) (fun _ s₂ => wpAny (model prog w) A (tstF cds env) (fun ok s₂' =>
          if ok = true then wpAny (model prog w) A (eval elt env) (fun x s₃ =>
            wpAny (model prog w) A (call (.builtin "list.append") [acc, x]) (fun _ s₄ => ∃ m, m < n ∧ I m s₄) (fun _ _ => False) s₃) (fun _ _ => False) s₂'
          else ∃ m, m < n ∧ I m s₂') (fun _ _ => False) s₂) (fun _ _ => False) s₁') (fun _ _ => False) s₁) (fun _ _ => False) s)
    (n : Nat) (h : I n s) :
    codeAny (model prog w) A (.compLoop (.ListComp elt [⟨target, iter, cds, 0⟩] scope pos) 0 it acc env) R s := by
  refine codeAny_loop rfl I (fun n s hI => ?_) n h
  show wpAny _ A ((compTurn (.ListComp elt [⟨target, iter, cds, 0⟩] scope pos) 0 it acc env).onRaise (fun x => do noteFrame x env; theTreesLotGoes x)) _ _ s
  refine wpAny_noted ?_
  rw [compTurn_list]
  refine wpAny_bind (wpAny_standAt (wpAny_bind (wpAny_mono (turn n s hI) (fun r s₁ h₁ => ?_) fun _ _ h' => h'.elim)))
  cases r with
  | none => exact wpAny_pure h₁
  | some v =>
    refine wpAny_bind (wpAny_mono h₁ (fun _ s₀ h₀ => ?_) fun _ _ h' => h'.elim)
    refine wpAny_bind (wpAny_mono h₀ (fun _ s₂ h₂ => ?_) fun _ _ h' => h'.elim)
    refine wpAny_bind ((wpAny_mono h₂ (fun ok s₃ h₃ => ?_) fun _ _ h' => h'.elim))
    cases ok with
    | false => exact wpAny_pure ⟨rfl, by simpa using h₃⟩
    | true =>
      have h₃' := h₃
      simp only [if_true] at h₃'
      exact wpAny_bind (wpAny_bind (wpAny_mono h₃' (fun x s₄ h₄ => wpAny_bind (wpAny_mono h₄ (fun _ s₅ h₅ => wpAny_pure (wpAny_pure ⟨rfl, h₅⟩)) fun _ _ h' => h'.elim)) fun _ _ h' => h'.elim))
noncomputable def compAt (te : TE) (σ : St) (Q : VK) (J : It) (H1 : Hp) : Prop := ∀ D, H1 D = none → ∃ W : Nat → Nat → List V → Hp → Prop, (∃ m, W 0 m [] (upd H1 D (.lst []))) ∧ ∀ i m ys H2, W i m ys H2 →
  (J.stop i H2 ∧ Q (.ref D) H2) ∨ (J.go i H2 ∧ ys.length < sizeLine ∧ ∃ N : V → Hp → Prop, (∀ v H', N v H' → H' D = some (.lst ys) ∧ ∃ m', m' < m ∧ W (i + 1) m' (ys ++ [v]) (upd H' D (.lst (ys ++ [v])))) ∧
    ∀ y H', J.yld i H2 y H' → te (some y :: σ) H' N)
noncomputable def tComp (wi : TI) (te : TE) : TE := fun σ H Q => wi σ H (compAt te σ Q)

noncomputable def compAtF (tc : TT) (te : TE) (σ : St) (Q : VK) (J : It) (H1 : Hp) : Prop := ∀ D, H1 D = none → ∃ W : Nat → Nat → List V → Hp → Prop, (∃ m, W 0 m [] (upd H1 D (.lst []))) ∧ ∀ i m ys H2, W i m ys H2 →
  (J.stop i H2 ∧ Q (.ref D) H2) ∨ (J.go i H2 ∧ ys.length < sizeLine ∧ ∃ N : V → Hp → Prop, (∀ v H', N v H' → H' D = some (.lst ys) ∧ ∃ m', m' < m ∧ W (i + 1) m' (ys ++ [v]) (upd H' D (.lst (ys ++ [v])))) ∧
    ∃ Nn : Hp → Prop, (∀ H', Nn H' → ∃ m', m' < m ∧ W (i + 1) m' ys H') ∧
    ∀ y H', J.yld i H2 y H' → tc (some y :: σ) H' fun b H'' => if b = true then te (some y :: σ) H'' N else Nn H'')
noncomputable def tCompF (wi : TI) (tc : TT) (te : TE) : TE := fun σ H Q => wi σ H (compAtF tc te σ Q)

section
variable {X : Cx} {N' : List Str} {scope : Scope} {x : Str} {px : Pos} {elt iter : Expr} {cds : List Expr} {pos : Pos} {te : TE} {tc : TT} {wi : TI}

theorem compx_core (S : CompSc X.N N' X.env.scope scope x) (hc : X.calm = true) (ht : ∀ cl C s H fp, PTL (cxComp X N' scope cl C s H fp) cds tc) (he : ∀ cl C s H fp, PE (cxComp X N' scope cl C s H fp) elt te)
    {pins : List (Addr × Obj)} {σ : St} {H : Hp} {s : Shared} {Q : VK} {E : Value → Shared → Prop} {RR : Value → Addr → Result → Shared → Prop} {it : Addr} {fp : List Addr} {tn : Nat → Heap → Prop} {J : It}
    (I : Inv X pins σ H s) (T : Turn X.prog X.w X.K (.Name x px) J fp it tn) (st : tn 0 s.heap) (f2 : ∀ b ∈ fp, FpOk X pins H b)
    (hw : compAtF tc te σ Q J H)
    (hRR : ∀ D C s' H', Inv X pins σ H' s' → (∃ m, s'.heap.Ns C m) → C ≠ X.env.locals → (∀ y c, X.env.cells.lookup y = some c → c ≠ C) → H' C = none → X.s₀.heap.objs.size ≤ C → (∀ p ∈ X.pn ++ pins, p.1 ≠ C) → Q (.ref D) H' → RR (.ref D) C (.ok .next) s') :
    ∃ cl, closureFor scope X.env = pure cl ∧ wpAny (model X.prog X.w) X.A (newList []) (fun acc s₃ => wpAny (model X.prog X.w) X.A (newFunctionEnv scope X.env.globals cl [] X.env.qual none .none (some X.env)) (fun cenv s₄ =>
      codeAny (model X.prog X.w) X.A (.compStart (.ListComp elt [⟨.Name x px, iter, cds, 0⟩] scope pos) 0 (.ref it) acc { cenv with scope := relabel scope X.env }) (RR acc cenv.locals) s₄) E s₃) E s := by
  have hfree : ∀ z ∈ scope.names, z.2 = .free → ∃ c, X.env.cells.lookup z.1 = some c := fun z hz hk => by
    rcases S.ok z hz hk with q | q
    · exact I.ok.has z.1 (.inl q)
    · exact I.ok.has z.1 (.inr q)
  refine ⟨_, clos_eq hfree, ?_⟩
  have clS : ∀ y c, (closOf X.env.cells scope.names []).lookup y = some c → X.env.cells.lookup y = some c := fun y c => clos_sound scope.names [] hfree fun q => by cases q
  generalize hcl : closOf X.env.cells scope.names [] = cl at clS
  have clH : ∀ y, scope.names.lookup y = some .free → ∃ c, cl.lookup y = some c := fun y hy => by
    rw [← hcl]
    exact clos_has scope.names [] (lookup_mem hy)
  refine wpAny_newObj_type (wpAny_newFunctionEnv S.cell (by intro y hy; simp at hy) (fun h₁ hns₁ hsb₁ => ?_) S.kind)
  have I3 : Inv X pins σ (upd H s.heap.objs.size (.lst [])) { s with heap := s.heap.push { cls := .type "list", data := .seq ([] : List Value).toArray } } := I.lnew (t' := s.toks) .nil (Nat.zero_le _)
  obtain ⟨W, ⟨m0, w0⟩, turn⟩ := hw s.heap.objs.size I.fresh
  dsimp only at hns₁ hsb₁ ⊢
  generalize hs3 : ({ s with heap := s.heap.push { cls := .type "list", data := .seq ([] : List Value).toArray } } : Shared) = s3 at I3
  have hh3 : s3.heap = s.heap.push { cls := .type "list", data := .seq ([] : List Value).toArray } := by rw [← hs3]
  have hsz3 : s3.heap.objs.size = s.heap.objs.size + 1 := by rw [hh3, Heap.size_push]
  rw [← hh3] at hns₁ hsb₁ ⊢
  have old : ∀ b o, s3.heap.get? b = some o → h₁.get? b = some o := fun b o e => hsb₁.extBut b o (by have := Heap.lt_size e; exact Nat.ne_of_lt this) (Heap.get?_push_of_some _ e)
  have old0 : ∀ b o, s.heap.get? b = some o → h₁.get? b = some o := fun b o e => old b o (by rw [hh3]; exact Heap.get?_push_of_some _ e)
  have CneL : s3.heap.objs.size ≠ X.env.locals := Nat.ne_of_gt I3.lt
  have CneC : ∀ y c, X.env.cells.lookup y = some c → c ≠ s3.heap.objs.size := fun y c e z => by
    obtain ⟨v, q⟩ := I3.cell y c e
    have := q.lt
    rw [z] at this
    exact absurd this (Nat.lt_irrefl _)
  have CneP : ∀ p ∈ X.pn ++ pins, p.1 ≠ s3.heap.objs.size := fun p hp z => by
    have := Heap.lt_size (I3.pin p hp).1
    rw [z] at this
    exact absurd this (Nat.lt_irrefl _)
  have CfreeH : ∀ b o, s3.heap.get? b = some o → b < s3.heap.objs.size := fun b o e => by have := Heap.lt_size e; exact this
  have fpLt : ∀ b ∈ fp, b < s3.heap.objs.size := fun b hb => by
    obtain ⟨o, e, _⟩ := T.obj 0 s.heap st b hb
    rw [hsz3]
    exact Nat.lt_succ_of_lt (Heap.lt_size e)
  have fpD : ∀ b ∈ fp, b ≠ s.heap.objs.size := fun b hb => by
    obtain ⟨o, e, _⟩ := T.obj 0 s.heap st b hb
    exact Nat.ne_of_lt (Heap.lt_size e)

  have ok' : (cxComp X N' scope cl s3.heap.objs.size s3 (upd H s.heap.objs.size (.lst [])) fp).Ok := by
    refine ⟨I3.ok.mod, ?_, I3.ok.glob, I3.ok.blt, Nat.le_refl _, fun y z c h1 h2 => I3.ok.inj y z c (clS y c h1) (clS z c h2), fun y hy => ?_, fun y c hf => (by cases hf), I3.ok.hd, I3.ok.frames, .inl rfl, fun b hb => ⟨Nat.ne_of_lt (fpLt b hb), fun y c e => (f2 b hb).2.2.2.2.1 y c (clS y c e)⟩,
      fun b o e => I3.bs b o e, Nat.le_trans I3.ok.bsz I3.sz, fun b o e hb => ?_, fun b hb z => ?_, I3.stack, I3.stkFree⟩
    · show (relabel scope X.env).kind = .function
      exact S.kind
    · have hy' : (relabel scope X.env).names.lookup y = some .cell ∨ (relabel scope X.env).names.lookup y = some .free := hy
      rw [relabel_lookup] at hy'
      cases q : scope.names.lookup y with
      | none => rw [q] at hy'; rcases hy' with z | z <;> cases z
      | some k =>
        have hm := lookup_mem q
        cases k with
        | free => exact clH y q
        | cell => exact absurd rfl (S.cell _ hm)
        | «local» => rw [q] at hy'; rcases hy' with z | z <;> simp at z
        | globalExplicit => rw [q] at hy'; rcases hy' with z | z <;> simp at z
        | globalImplicit => rw [q] at hy'; rcases hy' with z | z <;> simp at z
    · rcases (f2 b hb).2.2.2.1 with z | z
      · exact I.ok.noex b o e z
      · exact absurd (Nat.lt_of_lt_of_le (Heap.lt_size e) (Nat.le_trans I.ok.bsz z)) (Nat.lt_irrefl _)
    · rcases List.mem_cons.mp (I3.stkSub b z) with q | q
      · exact (f2 b hb).2.1 q
      · exact (f2 b hb).2.2.1 q
  have fpOk' : ∀ {H' : Hp}, (∀ b ∈ fp, H' b = none) → ∀ b ∈ fp, FpOk (cxComp X N' scope cl s3.heap.objs.size s3 (upd H s.heap.objs.size (.lst [])) fp) pins H' b := fun hn b hb =>
    ⟨hn b hb, Nat.ne_of_lt (fpLt b hb), fun z => by
      rcases List.mem_cons.mp (I3.stkSub b z) with q | q
      · exact (f2 b hb).2.1 q
      · exact (f2 b hb).2.2.1 q, .inl hb, fun y c e => (f2 b hb).2.2.2.2.1 y c (clS y c e), (f2 b hb).2.2.2.2.2⟩
  have I4 : Inv (cxComp X N' scope cl s3.heap.objs.size s3 (upd H s.heap.objs.size (.lst [])) fp) pins (none :: σ) (upd H s.heap.objs.size (.lst [])) { s3 with heap := h₁, toks := s3.toks + ([] : List (Str × Value)).length } := by
    refine ⟨ok', rfl, I3.bare, Un.kept old, ⟨_, hns₁, fun i y v e1 e2 vis => ?_⟩, fun y c e => ?_, ?_, fun y c e => I3.freeC y c (clS y c e), fun p hp => ?_, I3.hok.kept old, ?_⟩
    · cases i with
      | zero => cases e2
      | succ i =>
        have e2' : σ[i]? = some (some v) := by simpa using e2
        have hi : i < X.N.length := by rw [← I3.len]; exact (List.getElem?_eq_some_iff.mp e2').1
        have vis' : (relabel scope X.env).names.lookup y = some .local ∨ (relabel scope X.env).names.lookup y = some .cell ∨ (relabel scope X.env).names.lookup y = some .free := vis
        have e1' : N'[i + 1]? = some y := e1
        rcases S.sub i hi with q | q
        · rw [e1'] at q
          have hy : X.N[i]? = some y := q.symm
          have hmem : y ∈ N'.tail := by
            rw [List.mem_iff_getElem?]
            exact ⟨i, by rw [List.getElem?_tail]; exact e1'⟩
          have hfr : scope.names.lookup y = some .free := by
            rw [relabel_lookup] at vis'
            cases q2 : scope.names.lookup y with
            | none => rw [q2] at vis'; rcases vis' with z | z | z <;> cases z
            | some k =>
              cases k with
              | free => rfl
              | cell => exact absurd rfl (S.cell _ (lookup_mem q2))
              | «local» => exact absurd q2 (S.nol y hmem)
              | globalExplicit => rw [q2] at vis'; rcases vis' with z | z | z <;> simp at z
              | globalImplicit => rw [q2] at vis'; rcases vis' with z | z | z <;> simp at z
          have hok := S.ok (y, .free) (lookup_mem hfr) rfl
          obtain ⟨m, hn, hl⟩ := I3.loc
          have visX : Vis X.env.scope y := by
            rcases hok with z | z
            · exact .inr (.inl z)
            · exact .inr (.inr z)
          obtain ⟨u, r, l⟩ := hl i y v hy e2' visX
          refine ⟨u, r, .inr ⟨?_, ?_⟩⟩
          · show (relabel scope X.env).names.lookup y = some .cell ∨ (relabel scope X.env).names.lookup y = some .free
            rw [relabel_lookup, hfr, Option.map_some]
            by_cases hcnd : (NameKind.free == NameKind.free && X.env.scope.kind == .function && X.env.kindOf y == some .cell) = true
            · left
              rw [if_pos hcnd]
            · right
              rw [if_neg hcnd]
          · rcases l with ⟨k, _⟩ | ⟨k, c, e, z⟩
            · have k' : X.env.scope.names.lookup y = some .local := k
              have hok' : X.env.scope.names.lookup y = some .cell ∨ X.env.scope.names.lookup y = some .free := hok
              rw [k'] at hok'
              rcases hok' with z | z <;> cases z
            · obtain ⟨c', e'⟩ := clH y hfr
              have e3 := clS y c' e'
              rw [e] at e3
              cases e3
              obtain ⟨o, ho, hd⟩ := z
              exact ⟨c, e', o, old c o ho, hd⟩
        · rw [e1'] at q
          cases q
          rw [relabel_lookup, S.noe] at vis'
          rcases vis' with z | z | z <;> cases z
    · obtain ⟨v, o, ho, hd⟩ := I3.cell y c (clS y c e)
      exact ⟨v, o, old c o ho, hd⟩
    · show upd H s.heap.objs.size (.lst []) s3.heap.objs.size = none
      exact I3.hok.fresh (Nat.le_refl _)
    · obtain ⟨e, n, ne, nf, d⟩ := I3.pin p hp
      refine ⟨old _ _ e, n, CneP p hp, fun z => ?_, d⟩
      rcases List.mem_cons.mp (I3.stkSub p.1 z) with q | q
      · exact ne q
      · exact nf q
    · show (none :: σ).length = N'.length
      rw [S.len, List.length_cons, I3.len]
  have st4 : tn 0 h₁ := T.keep 0 s.heap h₁ st fun b _ o e => old0 b o e

  have loop : ∀ s₄ : Shared, s₄ = { s3 with heap := h₁, toks := s3.toks + ([] : List (Str × Value)).length } →
      codeAny (model X.prog X.w) X.A (.compLoop (.ListComp elt [⟨.Name x px, iter, cds, 0⟩] scope pos) 0 (.ref it) (.ref s.heap.objs.size) (compEnvC scope cl s3.heap.objs.size X.env)) (RR (.ref s.heap.objs.size) s3.heap.objs.size) s₄ := by
    rintro s₄ rfl
    refine codeAny_compLoop_ts (fun n s' => ∃ i v0 ys H', Inv (cxComp X N' scope cl s3.heap.objs.size s3 (upd H s.heap.objs.size (.lst [])) fp) pins (v0 :: σ) H' s' ∧ tn i s'.heap ∧ (∀ b ∈ fp, H' b = none) ∧ W i n ys H') ?_ m0
      ⟨0, none, [], _, I4, st4, fun b hb => by rw [upd_ne (fpD b hb)]; exact (f2 b hb).1, w0⟩
    rintro n s5 ⟨i, v0, ys, H5, I5, st5, fr5, w5⟩
    rcases turn i n ys H5 w5 with ⟨stop, qn⟩ | ⟨go, hz, N, hN, Nn, hNn, step⟩
    · refine thn (T.done (cxComp X N' scope cl s3.heap.objs.size s3 (upd H s.heap.objs.size (.lst [])) fp) rfl rfl rfl hc i pins s5 (v0 :: σ) H5 (fun _ _ => False) I5 (fpOk' fr5) st5 stop) fun r s6 ⟨hr, I6⟩ => ?_
      subst hr
      have hch : ∀ b ∈ fp, (b ∈ X.ex ∨ X.s₀.heap.objs.size ≤ b) ∧ b ≠ X.env.locals ∧ (∀ x c, X.env.cells.lookup x = some c → c ≠ b) ∧ ∀ p ∈ X.pn ++ pins, p.1 ≠ b := fun b hb =>
        ⟨(f2 b hb).2.2.2.1, (f2 b hb).2.1, (f2 b hb).2.2.2.2.1, (f2 b hb).2.2.2.2.2⟩
      have I7 : Inv X pins σ H5 s6 := I3.call' (ch := fp) I6.os I6.base I6.hok I6.bare hch
      obtain ⟨m, hm, _⟩ := I6.loc
      exact hRR s.heap.objs.size s3.heap.objs.size s6 H5 I7 ⟨m, hm⟩ CneL CneC I6.free (Nat.le_trans I3.sz (Nat.le_refl _)) CneP qn
    · refine thn (T.item (cxComp X N' scope cl s3.heap.objs.size s3 (upd H s.heap.objs.size (.lst [])) fp) rfl rfl rfl hc i pins s5 (v0 :: σ) H5 (fun _ _ => False) I5 (fpOk' fr5) st5 go) fun r s6 ⟨u, hr, h6⟩ => ?_
      subst hr
      refine thn h6 fun _ s7 ⟨y, H7, I7, r7, y7, st7, fr7⟩ => ?_
      have I7' := I7.pinned (fpOk' fr7) (T.obj _ _ st7)
      refine wpAny_assign_Name (store_ok (i := 0) (v := y) I7' S.nd S.hd (.inl (lookup_relabel_local S.var)) r7 (fun s8 I8 => ?_) (.inr (lookup_relabel_local S.var)))
      have I8' : Inv (cxComp X N' scope cl s3.heap.objs.size s3 (upd H s.heap.objs.size (.lst [])) fp) (pins ++ pinsAt fp s7.heap) (some y :: σ) H7 s8 := I8
      refine thn (ht cl s3.heap.objs.size s3 (upd H s.heap.objs.size (.lst [])) fp _ s8 (some y :: σ) H7 (fun b H'' => if b = true then te (some y :: σ) H'' N else Nn H'') I8' (step y H7 y7)) fun okb s8 ⟨H8, I8, q8⟩ => ?_
      cases okb with
      | false =>
        have q8' : Nn H8 := by simpa using q8
        obtain ⟨m', hm, w9⟩ := hNn H8 q8'
        refine ⟨m', hm, i + 1, some y, ys, _, I8.unpinned, T.keep _ _ _ st7 fun b hb o e => (I8.pin (b, o) (List.mem_append_right _ (List.mem_append_right _ (mem_pinsAt hb e)))).1, fun b hb => ?_, w9⟩
        obtain ⟨o, e, d⟩ := T.obj _ _ st7 b hb
        exact (I8.pin (b, o) (List.mem_append_right _ (List.mem_append_right _ (mem_pinsAt hb e)))).2.1
      | true =>
        refine thn (he cl s3.heap.objs.size s3 (upd H s.heap.objs.size (.lst [])) fp _ s8 (some y :: σ) H8 N I8 (by simpa using q8)) fun w s9 ⟨v, H9, I9, r9, q9⟩ => ?_
        obtain ⟨hD9, m', hm, w9⟩ := hN v H9 q9
        refine thn (mt_append _ s9 (some y :: σ) H9 (.ref s.heap.objs.size) [v] (.ref s.heap.objs.size) [w] (fun z H10 => z = .non ∧ H10 = upd H9 s.heap.objs.size (.lst (ys ++ [v]))) I9 rfl (.cons r9 .nil) ⟨s.heap.objs.size, ys, v, rfl, rfl, hD9, hz, rfl, rfl⟩) fun _ s10 ⟨z, H10, I10, _, ez, e10⟩ => ?_
        subst e10
        refine ⟨m', hm, i + 1, some y, ys ++ [v], _, I10.unpinned, T.keep _ _ _ st7 fun b hb o e => (I10.pin (b, o) (List.mem_append_right _ (List.mem_append_right _ (mem_pinsAt hb e)))).1, fun b hb => ?_, w9⟩
        obtain ⟨o, e, d⟩ := T.obj _ _ st7 b hb
        exact (I10.pin (b, o) (List.mem_append_right _ (List.mem_append_right _ (mem_pinsAt hb e)))).2.1
  exact codeAny_compStart_list (loop _ (by rw [← hs3])) (T.self X.A 0 _ _ _ st4 (loop _ (by rw [← hs3])))
theorem compAt.toF {te : TE} {σ : St} {Q : VK} {J : It} {H : Hp} (hw : compAt te σ Q J H) : compAtF (fun _ H k => k true H) te σ Q J H := fun D hD => by
  obtain ⟨W, h0, hW⟩ := hw D hD
  refine ⟨W, h0, fun i m ys H2 hw2 => ?_⟩
  rcases hW i m ys H2 hw2 with g | ⟨g1, g2, N, g3, g4⟩
  · exact .inl g
  · exact .inr ⟨g1, g2, N, g3, fun _ => False, fun _ z => z.elim, fun y H' hy => iteT (g4 y H' hy)⟩
theorem pe_compx {at' : St → VK → It → Hp → Prop} (S : CompSc X.N N' X.env.scope scope x) (hc : X.calm = true) (hi : PI X (.Name x px) iter wi) (ht : ∀ cl C s H fp, PTL (cxComp X N' scope cl C s H fp) cds tc) (he : ∀ cl C s H fp, PE (cxComp X N' scope cl C s H fp) elt te) (cv : ∀ σ Q J H, at' σ Q J H → compAtF tc te σ Q J H)
    (hs : ∀ x, foldedSetIterable iter X.env x = pure x := by intro _; rfl) : PE X (.ListComp elt [⟨.Name x px, iter, cds, 0⟩] scope pos) (fun σ H Q => wi σ H (at' σ Q)) := by
  intro pins s σ H Q I h
  rw [eval_ListComp]
  have hfree : ∀ z ∈ scope.names, z.2 = .free → ∃ c, X.env.cells.lookup z.1 = some c := fun z hz hk => by
    rcases S.ok z hz hk with q | q
    · exact I.ok.has z.1 (.inl q)
    · exact I.ok.has z.1 (.inr q)
  refine wpAny_comprehension_free (use := none) rfl hs (clos_eq hfree) S.kind S.names (thn (hi pins s σ H _ I h) fun xv s1 h1 => thn h1 fun itv s2 h2 => ?_)
  obtain ⟨it, fp, tn, J, H2, e, I2, T, st2, f2, hw⟩ := h2
  subst e
  obtain ⟨cl, hcl, hrun⟩ := compx_core (tc := tc) (cds := cds) (elt := elt) (iter := iter) (pos := pos) (px := px) (E := X.xe) (RR := fun acc C => compPost (model X.prog X.w) X.A X.xe none (EP X pins σ Q) acc C) S hc ht he I2 T st2 f2 (cv _ _ _ _ hw) (fun D C s' H' I' ⟨m, hm⟩ n1 n2 n3 n4 n5 q =>
    ⟨m, hm, fun h' hsb => ⟨.ref D, H', I'.turned (it := C) (t' := s'.toks) (fun b o hb e => (hsb.2 b hb).trans e) n3 n1 (.inr n4) n2 n5, rfl, q⟩⟩)
  have ecl : (pure (closOf X.env.cells scope.names []) : Sem (List (Str × Addr))) = pure cl := (clos_eq hfree).symm.trans hcl
  have ecl' : closOf X.env.cells scope.names [] = cl := by
    injection ecl
  rw [ecl']
  exact hrun
theorem ps_setCompx {at' : St → VK → It → Hp → Prop} {i : Nat} {y : Str} {py spos : Pos} (S : CompSc X.N N' X.env.scope scope x) (hc : X.calm = true) (hi : PI X (.Name x px) iter wi) (ht : ∀ cl C s H fp, PTL (cxComp X N' scope cl C s H fp) cds tc) (he : ∀ cl C s H fp, PE (cxComp X N' scope cl C s H fp) elt te) (cv : ∀ σ Q J H, at' σ Q J H → compAtF tc te σ Q J H)
    (hN : X.N.Nodup) (hy : X.N[i]? = some y) (hyl : X.env.scope.names.lookup y = some .local)
    (hsw : swapsWith (.ListComp elt [⟨.Name x px, iter, cds, 0⟩] scope pos) (some (.Name y py)) spos.line X.env = pure true := by rfl)
    (hs : ∀ x, foldedSetIterable iter X.env x = pure x := by intro _; rfl) : PS X (.Assign [.Name y py] (.ListComp elt [⟨.Name x px, iter, cds, 0⟩] scope pos) spos) (tAsg (fun σ H Q => wi σ H (at' σ Q)) (gName i)) := by
  intro pins s σ H D0 I h
  have hfree : ∀ z ∈ scope.names, z.2 = .free → ∃ c, X.env.cells.lookup z.1 = some c := fun z hz hk => by
    rcases S.ok z hz hk with q | q
    · exact I.ok.has z.1 (.inl q)
    · exact I.ok.has z.1 (.inr q)
  rw [exec_Assign_Name_used _ _ _ _ hsw]
  refine wpAny_bind (wpAny_standAt (wpAny_bind ?_))
  show wpAny _ X.A (do let _ ← comprehension (.ListComp elt [⟨.Name x px, iter, cds, 0⟩] scope pos) scope X.env _ (newList []) false (eval iter X.env) (some (assign (.Name y py) X.env))) _ _ s
  refine wpAny_bind (wpAny_mono (wpAny_comprehension_free (use := some (assign (.Name y py) X.env)) (Q := fun _ s' => SP X pins D0 .next s') rfl hs (clos_eq hfree) S.kind S.names
    (thn (hi pins s σ H _ I h) fun xv s1 h1 => thn h1 fun itv s2 h2 => ?_)) (fun _ s' hq => wpAny_pure (wpAny_pure hq)) fun _ _ e => e)
  obtain ⟨it, fp, tn, J, H2, e, I2, T, st2, f2, hw⟩ := h2
  subst e
  obtain ⟨cl, hcl, hrun⟩ := compx_core (tc := tc) (cds := cds) (elt := elt) (iter := iter) (pos := pos) (px := px) (E := X.xe) (Q := fun x H1 => gName i x σ H1 D0.nx) (RR := fun acc C => compPost (model X.prog X.w) X.A X.xe (some (assign (.Name y py) X.env)) (fun _ s' => SP X pins D0 .next s') acc C) S hc ht he I2 T st2 f2 (cv _ _ _ _ hw) (fun D C s' H' I' ⟨m, hm⟩ n1 n2 n3 n4 n5 q => by
    show wpAny _ X.A (assign (.Name y py) X.env (.ref D)) _ _ _
    refine wpAny_assign_Name (store_ok2 (i := i) (v := .ref D) I' hN hy (.inl hyl) rfl (fun s'' I'' ⟨a, hsa, hwa⟩ => ?_) (.inr hyl))
    have haC : C ≠ a := by
      rcases hwa with z | z
      · rw [z]; exact n1
      · intro z2
        exact n2 y a z z2.symm
    refine ⟨m, hm.sameBut hsa haC, fun h' hsb => ?_⟩
    exact ⟨_, H', I''.turned (it := C) (t' := s''.toks) (fun b o hb e => (hsb.2 b hb).trans e) n3 n1 (.inr n4) n2 n5, q⟩)
  have ecl : (pure (closOf X.env.cells scope.names []) : Sem (List (Str × Addr))) = pure cl := (clos_eq hfree).symm.trans hcl
  have ecl' : closOf X.env.cells scope.names [] = cl := by
    injection ecl
  rw [ecl']
  exact hrun
theorem pe_comp (S : CompSc X.N N' X.env.scope scope x) (hc : X.calm = true) (hi : PI X (.Name x px) iter wi) (he : ∀ cl C s H fp, PE (cxComp X N' scope cl C s H fp) elt te)
    (hs : ∀ x, foldedSetIterable iter X.env x = pure x := by intro _; rfl) : PE X (.ListComp elt [⟨.Name x px, iter, [], 0⟩] scope pos) (tComp wi te) :=
  pe_compx (at' := fun σ Q => compAt te σ Q) S hc hi (fun _ _ _ _ _ => ptl_nil) he (fun _ _ _ _ h => h.toF) hs
theorem ps_setComp {i : Nat} {y : Str} {py spos : Pos} (S : CompSc X.N N' X.env.scope scope x) (hc : X.calm = true) (hi : PI X (.Name x px) iter wi) (he : ∀ cl C s H fp, PE (cxComp X N' scope cl C s H fp) elt te)
    (hN : X.N.Nodup) (hy : X.N[i]? = some y) (hyl : X.env.scope.names.lookup y = some .local)
    (hsw : swapsWith (.ListComp elt [⟨.Name x px, iter, [], 0⟩] scope pos) (some (.Name y py)) spos.line X.env = pure true := by rfl)
    (hs : ∀ x, foldedSetIterable iter X.env x = pure x := by intro _; rfl) : PS X (.Assign [.Name y py] (.ListComp elt [⟨.Name x px, iter, [], 0⟩] scope pos) spos) (tAsg (tComp wi te) (gName i)) :=
  ps_setCompx (at' := fun σ Q => compAt te σ Q) S hc hi (fun _ _ _ _ _ => ptl_nil) he (fun _ _ _ _ h => h.toF) hN hy hyl hsw hs
end

theorem comp_range {lo : Int} {n : Nat} {te : TE} {σ : St} {H : Hp} {Q : VK} (f : Nat → V) (hn : n ≤ sizeLine)
    (he : ∀ i H', i < n → Same H H' → ∀ N : V → Hp → Prop, (∀ H'', Same H' H'' → N (f i) H'') → te (some (.int (lo + i)) :: σ) H' N)
    (hq : ∀ D H', H D = none → Same H H' → H' D = some (.lst ((List.range n).map f)) → Q (.ref D) H') :
    compAt te σ Q (Itr lo n) H := by
  intro D hD
  refine ⟨fun i m ys H2 => m = n - i ∧ i ≤ n ∧ ys = (List.range i).map f ∧ Same H H2 ∧ H2 D = some (.lst ys), ⟨n, rfl, Nat.zero_le _, rfl, fun b o e => ?_, upd_same⟩, ?_⟩
  · rw [upd_ne (ne_of_none e hD)]
    exact e
  · rintro i m ys H2 ⟨rfl, hi, rfl, hs, hd⟩
    by_cases hlt : i < n
    · refine .inr ⟨hlt, by rw [List.length_map, List.length_range]; omega, fun v H' => v = f i ∧ Same H2 H', fun v H' ⟨ev, hs'⟩ => ⟨hs' D _ hd, n - (i + 1), by omega, rfl, hlt, ?_, fun b o e => ?_, upd_same⟩, fun y H' hy => ?_⟩
      · rw [ev, List.range_succ, List.map_append]
        rfl
      · rw [upd_ne (ne_of_none e hD)]
        exact hs' b o (hs b o e)
      · obtain ⟨e1, e2⟩ := hy
        subst e1 e2
        exact he i _ hlt hs _ fun H'' h'' => ⟨rfl, h''⟩
    · have e : i = n := by omega
      subst e
      exact .inl ⟨Nat.le_refl _, hq D H2 hD hs hd⟩
theorem comp_list {K : PySem.W.Frag} {a : Addr} {xs : List V} {te : TE} {σ : St} {H : Hp} {Q : VK} (f : Nat → V) (hl : SqL K H a xs) (hn : xs.length ≤ sizeLine)
    (he : ∀ i x H', xs[i]? = some x → Same H H' → ∀ N : V → Hp → Prop, (∀ H'', Same H' H'' → N (f i) H'') → te (some x :: σ) H' N)
    (hq : ∀ D H', H D = none → Same H H' → H' D = some (.lst ((List.range xs.length).map f)) → Q (.ref D) H') :
    compAt te σ Q (Itl K a) H := by
  intro D hD
  refine ⟨fun i m ys H2 => m = xs.length - i ∧ i ≤ xs.length ∧ ys = (List.range i).map f ∧ Same H H2 ∧ H2 D = some (.lst ys), ⟨xs.length, rfl, Nat.zero_le _, rfl, fun b o e => ?_, upd_same⟩, ?_⟩
  · rw [upd_ne (ne_of_none e hD)]
    exact e
  · rintro i m ys H2 ⟨rfl, hi, rfl, hs, hd⟩
    by_cases hlt : i < xs.length
    · refine .inr ⟨⟨xs, xs[i], hs.seq hl, by simp [hlt]⟩, by rw [List.length_map, List.length_range]; omega, fun v H' => v = f i ∧ Same H2 H', fun v H' ⟨ev, hs'⟩ => ⟨hs' D _ hd, xs.length - (i + 1), by omega, rfl, hlt, ?_, fun b o e => ?_, upd_same⟩, fun y H' hy => ?_⟩
      · rw [ev, List.range_succ, List.map_append]
        rfl
      · rw [upd_ne (ne_of_none e hD)]
        exact hs' b o (hs b o e)
      · obtain ⟨e1, e2⟩ := hy
        subst e1
        exact he i y _ (e2 xs (hs.seq hl)) hs _ fun H'' h'' => ⟨rfl, h''⟩
    · have e : i = xs.length := by omega
      subst e
      exact .inl ⟨⟨xs, hs.seq hl, Nat.le_refl _⟩, hq D H2 hD hs hd⟩
end L2

set_option Elab.async false
set_option linter.all false
set_option maxRecDepth 100000
set_option maxHeartbeats 4000000

namespace L2
open PySem PySem.Spec PyProof.Rows

set_option genInjectivity false in
structure Cal (P : Program) (w : World) (K : PySem.W.Frag) (mg : Str → Option Value) (base : Heap) (CX : CXT) (x : Str) (k : Nat) (ps : List Str) (sp : Sp) : Prop where
  ex : ∃ (f : Addr) (fd : FuncData), FnOk P w K mg base CX k f fd ps sp ∧ mg x = some (.ref f) ∧ PySem.W.keepIn K (.ref f) = true ∧ Binds K fd ps []
section
variable {X : Cx}
theorem pe_cal {CX : CXT} {x : Str} {j k : Nat} {ps : List Str} {sp : Sp} {E : XK} {e : Expr} {es : List Expr} {t : TA} {p pos : Pos} (c : Cal X.prog X.w X.K X.mg X.base CX x j ps sp) (hr : Room k X.A) (hx : Passes CX X E) (ha : PA X (e :: es) t)
    (hjk : j ≤ k := by decide) (hg : Gl X x := by rfl) (hdb : (x == ("__debug__" : Str)) = false := by decide) (he : starEach (e :: es) X.env = (false, eval e X.env) :: starEach es X.env := by rfl) (hpl : (backTo pos (starEach es X.env)).any (·.1) = false := by rfl) :
    PE X (.Call (.Name x p) (e :: es) [] pos) (tCall sp [] E t) := by
  obtain ⟨f, fd, F, hm, hk, hb⟩ := c.ex
  exact pe_call F (hr.mono hjk) hg hm hk hb .nil hx ha hdb he hpl

theorem pe_strT (l : List Nat) {x : Str} {j pos} (h : x = tx l) : PE X (.Constant (.str x) j pos) (tC (T l)) := by
  subst h
  exact pe_str
theorem call_len_T : CallR X (.builtin "len") (fun xs H Q => ∃ (l : List Nat), xs = [T l] ∧ l.length ≤ sizeLine ∧ Q (.int (l.length : Nat)) H) := by
  intro pins s σ H xs us Q I r h
  obtain ⟨l, e, hz, q⟩ := h
  exact call_len_str pins s σ H xs us Q I r ⟨tx l, e, by rw [tx_len]; exact hz, by rw [tx_len]; exact q⟩
theorem ix_T : IxR X (fun x y H Q => ∃ (l : List Nat), x = T l ∧ ∃ (i : Int), y = .int i ∧ l.length ≤ sizeLine ∧ ∃ c, atI l i = some c ∧ Q (T [c]) H) := by
  intro value slice pins s σ H x y v u Q I rx ry h hs
  obtain ⟨l, e1, i, e2, hz, c, hc, q⟩ := h
  exact ix_str value slice pins s σ H x y v u Q I rx ry ⟨tx l, i, c, e1, e2, by rw [tx_len]; exact hz, by rw [tx_cps]; exact hc, q⟩ hs

theorem call_isinst : CallR X (.builtin "isinstance") (fun xs H Q => ∃ (x : V) (c : String) (t : Value) (b : Bool), xs = [x, .ty c] ∧ TyOf X.K H x t ∧ PySem.W.kitOne X.K t (.type c) = some b ∧ Q (.bl b) H) := by
  intro pins s σ H xs us Q I r h
  obtain ⟨x, c, t, b, rfl, ty, e, q⟩ := h
  obtain ⟨u, w', rfl, ru, rw'⟩ := vals2 r
  cases (show w' = Value.type c from rw')
  exact isinst_ok I ru ty e fun tk => ⟨.bl b, H, I.tok tk, rfl, q⟩
theorem kit_same {K : PySem.W.Frag} (T : String) : PySem.W.kitOne K (.type T) (.type T) = some true := by
  unfold PySem.W.kitOne
  rw [if_pos (by simp)]
theorem op_catL : OpR X (binaryOp .Add) (fun x y H Q => ∃ (l b : Addr) (xs zs : List V), x = .ref l ∧ y = .ref b ∧ SqL X.K H l xs ∧ SqL X.K H b zs ∧ xs.length + zs.length ≤ sizeLine ∧ ∀ p, H p = none → Q (.ref p) (upd H p (.lst (xs ++ zs)))) := by
  intro pins s σ H x y v u Q I rx ry h
  obtain ⟨l, b, xs, zs, rfl, rfl, hH, hB, hz, q⟩ := h
  cases rx
  cases ry
  obtain ⟨its, r, ⟨⟨cls, dd, data, sl⟩, n, ho, hc, hdd, hd⟩, _⟩ := I.list hH
  obtain ⟨its2, r2, ⟨⟨cls2, dd2, data2, sl2⟩, n2, ho2, hc2, hdd2, hd2⟩, _⟩ := I.list hB
  simp only at hc hd hc2 hd2
  subst hc hd hc2 hd2
  have e : its.toArray ++ its2.toArray = (its ++ its2).toArray := by simp
  refine concat_meets ⟨_, ho, rfl⟩ ⟨_, ho2, rfl⟩ noFill_list_add seq_list_add PySem.F.slot_list_add PySem.F.entry_list_add (PySem.F.args_list_add_2 _ _) (list_addW l b its.toArray its2.toArray n n2 dd dd2 sl sl2 (by rw [List.size_toArray, List.size_toArray, ← r.length, ← r2.length]; exact hz)) ⟨ho, ho2, ?_⟩
  rw [e]
  exact ⟨.ref _, _, I.lnew (t' := s.toks) (r.append r2) (by rw [List.length_append]; exact hz), rfl, q _ I.fresh⟩

theorem eqU_T {ls : List (List Nat)} {us : List Value} {a : List Nat} (r : Vals (ls.map T) us) {i : Nat} {l : List Nat} {u : Value} (h : ls[i]? = some l) (hu : us[i]? = some u) : eqU (T a) u = decide (l = a) := by
  obtain ⟨u', h1, h2⟩ := r.get (i := i) (x := T l) (by rw [List.getElem?_map, h]; rfl)
  rw [hu] at h1
  cases h1
  rw [eqU_of h2 rfl]
  show (tx l == tx a) = decide (l = a)
  rw [Bool.eq_iff_iff, beq_iff_eq, decide_eq_true_iff]
  exact ⟨tx_inj, fun h => by rw [h]⟩
theorem all_flat (ls : List (List Nat)) : (ls.map T).all flatV = true := by
  rw [List.all_map, List.all_eq_true]
  intro l _
  rfl
theorem mt_index : MtR X "list.index" (fun x xs H Q => ∃ (p : Addr) (ls : List (List Nat)) (a : List Nat) (j : Nat), x = .ref p ∧ xs = [T a] ∧ SqL X.K H p (ls.map T) ∧ ls[j]? = some a ∧ (∀ i, i < j → ls[i]? ≠ some a) ∧ Q (.int (j : Nat)) H) := by
  intro pins s σ H x xs v us Q I rx rs h
  obtain ⟨p, ls, a, j, rfl, rfl, hq, hj, hno, q⟩ := h
  cases rx
  obtain ⟨u, rfl, ru⟩ := vals1 rs
  obtain ⟨its, r, ⟨⟨cls, dd, data, sl⟩, n, ho, hc, hdd, hd⟩, hz⟩ := I.list hq
  simp only at hc hd
  subst hc hd
  have hlen : ls.length = its.length := by have := r.length; rw [List.length_map] at this; exact this
  have hjl : j < ls.length := (List.getElem?_eq_some_iff.mp hj).1
  have hs : sizeLine = 16777216 := sizeLine_eq
  rw [List.length_map] at hz
  refine call_meets PySem.F.slot_list_index ⟨_, ho, rfl⟩ PySem.F.entry_list_index (PySem.F.args_list_index_2 _ _) (SeqAt.list_indexAt p its.toArray n dd sl u (eqU (T a)) j (by rw [List.size_toArray]; omega) (by omega) ?_ ?_)
    ⟨ho, fun y hy => mem_eqAt ru rfl r (all_flat ls) y (by simpa using hy), ⟨.int (j : Nat), H, I.tok _, ⟨_, rfl⟩, q⟩⟩
  · have hu : its[j]? = some its.toArray[j] := by simp
    rw [eqU_T r hj hu]
    exact decide_eq_true rfl
  · intro m hm hmj
    rw [List.size_toArray] at hm
    have hu : its[m]? = some its.toArray[m] := by simp
    have hl : ls[m]? = some ls[m] := List.getElem?_eq_getElem (by omega)
    rw [eqU_T r hl hu]
    refine decide_eq_false fun e => hno m hmj ?_
    rw [hl, e]

theorem eqAt_T {ls ms : List (List Nat)} {us ws : List Value} (r : Vals (ls.map T) us) (r' : Vals (ms.map T) ws) {A : Around} {s : Shared} {j : Nat} {u w : Value} (hu : us[j]? = some u) (hw : ws[j]? = some w) : SeqAt.EqAt A s u w (decide (ls[j]? = ms[j]?)) := by
  have h1 : j < ls.length := by have := r.length; rw [List.length_map] at this; rw [this]; exact (List.getElem?_eq_some_iff.mp hu).1
  have h2 : j < ms.length := by have := r'.length; rw [List.length_map] at this; rw [this]; exact (List.getElem?_eq_some_iff.mp hw).1
  obtain ⟨u', e1, q1⟩ := r.get (i := j) (x := T ls[j]) (by rw [List.getElem?_map, List.getElem?_eq_getElem h1]; rfl)
  obtain ⟨w', e2, q2⟩ := r'.get (i := j) (x := T ms[j]) (by rw [List.getElem?_map, List.getElem?_eq_getElem h2]; rfl)
  rw [hu] at e1
  cases e1
  rw [hw] at e2
  cases e2
  have e := eqAt_V (A := A) (s := s) q1 q2 rfl rfl
  have ee : eqV (T ls[j]) (T ms[j]) = decide (ls[j]? = ms[j]?) := by
    show (tx ls[j] == tx ms[j]) = _
    rw [Bool.eq_iff_iff, beq_iff_eq, decide_eq_true_iff, List.getElem?_eq_getElem h1, List.getElem?_eq_getElem h2]
    exact ⟨fun h => by rw [tx_inj h], fun h => by rw [Option.some.inj h]⟩
  rw [ee] at e
  exact e
theorem all_range_eq {ls ms : List (List Nat)} (h : ls.length = ms.length) : (List.range ls.length).all (fun j => decide (ls[j]? = ms[j]?)) = decide (ls = ms) := by
  rw [Bool.eq_iff_iff, List.all_eq_true, decide_eq_true_iff]
  constructor
  · intro g
    apply List.ext_getElem?
    intro i
    by_cases hi : i < ls.length
    · exact of_decide_eq_true (g i (List.mem_range.mpr hi))
    · rw [List.getElem?_eq_none (by omega), List.getElem?_eq_none (by omega)]
  · intro g j _
    rw [g]
    exact decide_eq_true rfl
theorem op_eq_LT (hu : X.A.units < cLine) : OpR X (compareOp .Eq) (fun x y H Q => ∃ (p b : Addr) (ls ms : List (List Nat)), x = .ref p ∧ y = .ref b ∧ SqL X.K H p (ls.map T) ∧ SqL X.K H b (ms.map T) ∧ Q (.bl (decide (ls = ms))) H) := by
  intro pins s σ H x y v u Q I rx ry h
  obtain ⟨p, b, ls, ms, rfl, rfl, h1, h2, q⟩ := h
  cases rx
  cases ry
  obtain ⟨its, r, pl, _⟩ := I.list h1
  obtain ⟨its2, r2, pl2, _⟩ := I.list h2
  have l1 := r.length
  have l2 := r2.length
  rw [List.length_map] at l1 l2
  by_cases hl : ls.length = ms.length
  · refine SeqAt.eq_listAt (e := fun j => decide (ls[j]? = ms[j]?)) pl.isList pl2.isList (by rw [List.size_toArray, List.size_toArray]; omega) hu (fun j g1 g2 => eqAt_T r r2 (by simp) (by simp)) ?_
    rw [List.size_toArray, ← l1, all_range_eq hl]
    exact ⟨.bl _, H, I, rfl, q⟩
  · refine SeqAt.eq_list_lengthsAt pl.isList pl2.isList (by rw [List.size_toArray, List.size_toArray, bne_iff_ne]; omega) hu ?_
    have e : decide (ls = ms) = false := decide_eq_false fun z => hl (by rw [z])
    rw [e] at q
    exact ⟨.bl _, H, I, rfl, q⟩


theorem call_sum (hc : X.calm = true) : CallR X (.builtin "sum") (fun xs H Q => ∃ (p : Addr) (ns : List Int), xs = [.ref p] ∧ SqL X.K H p (ns.map V.int) ∧ ∀ r : Int, Q (.int r) H) := by
  intro pins s σ H xs us Q I r h
  obtain ⟨p, ns, rfl, hq, q⟩ := h
  obtain ⟨u, rfl, ru⟩ := vals1 r
  cases ru
  obtain ⟨its, rv, pl, _⟩ := I.list hq
  obtain ⟨xs, hx⟩ := (intsAre_of rv).allInts.items
  have hl := pl.isList
  rw [hx] at hl
  exact sum_intListG (I.ok.hd hc) hl fun h' tk t' hk => ⟨.int _, H, I.kept hk, ⟨_, rfl⟩, q _⟩
end
end L2

set_option Elab.async false
set_option linter.all false
set_option maxRecDepth 100000
set_option maxHeartbeats 4000000

namespace L2
open PySem PySem.Spec PyProof.Rows

set_option genInjectivity false in
structure Fly (P : Program) (w : World) (outer : List Env) (H : Hp) (s : Shared) (a : Addr) (cls : Value) (H' : Hp) (s' : Shared) : Prop where
  os : s'.os = s.os
  bare : AllBare s'.gens
  ex : ∃ (B : Heap) (t : Addr), Heap.FlyingW B outer a cls (.ref t) s'.heap ∧ HOk P w H' B ∧ (∀ b o, s.heap.get? b = some o → H b = none → b ∉ frs outer → B.get? b = some o) ∧
    ∀ b o, s.heap.get? b = some o → b ∉ frs outer → ∃ o', B.get? b = some o'
  slot : ∀ b o, s.heap.get? b = some o → H b = none → b ∈ frs outer → ∃ sl, s'.heap.get? b = some { o with slots := sl }
  free : ∀ b o, s.heap.get? b = some o → H b = none → H' b = none
  tups : ∀ b xs, H b = some (.tup xs) → H' b = some (.tup xs)
  frzs : ∀ b o u, H b = some (.frz o u) → H' b = some (.frz o u)
  tbls : ∀ b ps, H b = some (.tbl ps) → ∃ more, H' b = some (.tbl (ps ++ more))
noncomputable def CX1 (P : Program) (w : World) : CXT := fun outer H s E e s' => ∃ a cls H', e = .ref a ∧ Fly P w outer H s a cls H' s' ∧ E cls none H'

section
variable {X : Cx} {pins : List (Addr × Obj)} {σ : St} {H H' : Hp} {s s' : Shared} {a : Addr} {cls : Value} {E : Value → Shared → Prop}

set_option genInjectivity false in
structure Own (X : Cx) : Prop where
  stk : X.stack = X.env :: X.outer
  fr : X.env.frame = some X.env.locals
  ex : X.ex = []
theorem Own.frs (O : Own X) {b : Addr} : b ∈ frs X.stack ↔ b = X.env.locals ∨ b ∈ frs X.outer := by
  unfold L2.frs
  rw [O.stk, List.filterMap_cons, O.fr]
  exact List.mem_cons
theorem Inv.oldNe (I : Inv X pins σ H s) {b : Addr} {o : Obj} (e : X.s₀.heap.get? b = some o) : b ≠ X.env.locals := Nat.ne_of_lt (Nat.lt_of_lt_of_le (Heap.lt_size e) I.ok.above)
theorem Inv.hidHok (I : Inv X pins σ H s) : HOk X.prog X.w H (PySem.W.hideAll s.heap (L2.frs X.stack)) := fun b u e =>
  (I.hok b u e).stay (fun c v hc q => PySem.W.hideAll_get _ q fun hm => by
    have n := I.stkFree c hm
    rcases hc with z | z
    · rw [z, e] at n
      cases n
    · rw [z] at n
      cases n) (fun _ q => q) fun _ _ q => q
theorem Fly.raised {args : List Value} {h : Heap} (I : Inv X pins σ H s) (O : Own X) (hx : Heap.MadeExcOf s.heap h a cls args) :
    wpAny (model X.prog X.w) X.A (leaving X.env (.ref a)) (fun _ s'' => Fly X.prog X.w X.outer X.H₀ X.s₀ a cls H s'') E { s with heap := h } := by
  have hst := I.stack
  have hin : ∀ env ∈ X.stack, ∀ b, env.frame = some b → b ∈ L2.frs X.stack := fun env he b hb => List.mem_filterMap.mpr ⟨env, he, hb⟩
  have hl := PySem.W.funFrames_hide hst hin
  rw [O.stk] at hl
  have hfr := I.ok.frames
  rw [O.stk] at hfr
  have noEx : ∀ b, b ∉ X.ex := fun b z => by
    rw [O.ex] at z
    cases z
  refine wpAny_leaves_madeW (s := { s with heap := h }) hfr O.fr (fun b o q => PySem.W.of_hideAll _ q) hl hx fun h' t x1 x2 x3 x4 => ?_
  have notIn : ∀ b o, X.s₀.heap.get? b = some o → b ∉ L2.frs X.outer → b ∉ L2.frs (X.env :: X.outer) := fun b o e nb z => by
    rw [← O.stk] at z
    rcases O.frs.mp z with q | q
    · exact I.oldNe e q
    · exact nb q
  have hokB := I.hidHok
  rw [O.stk] at hokB
  refine ⟨I.os, I.bare, ⟨_, t, x1, hokB, fun b o e n nb => ?_, fun b o e nb => ?_⟩, fun b o e n hb => ?_, fun b o e n => I.base.free b o e n (noEx b), I.base.tups, I.base.frzs, I.base.tbls⟩
  · exact PySem.W.hideAll_get _ (I.base.keep b o e n nb (noEx b)) (notIn b o e nb)
  · obtain ⟨o', e'⟩ := I.base.there b o e (noEx b)
    exact ⟨o', PySem.W.hideAll_get _ e' (notIn b o e nb)⟩
  · obtain ⟨sl, e1⟩ := I.base.slot b o e n hb (noEx b)
    obtain ⟨_, o2, e2, hd⟩ := I.funs.mem hb
    rw [e1] at e2
    cases e2
    obtain ⟨sl2, e3⟩ := x4 b _ (hx.keeps b _ e1) hd
    exact ⟨sl2, e3⟩
theorem Fly.on (I : Inv X pins σ H s) (O : Own X) (Y : Fly X.prog X.w X.stack H s a cls H' s') :
    wpAny (model X.prog X.w) X.A (leaving X.env (.ref a)) (fun _ s'' => Fly X.prog X.w X.outer X.H₀ X.s₀ a cls H' s'') E s' := by
  obtain ⟨B, t, hfl, hokB, kp, th⟩ := Y.ex
  have hfr := I.ok.frames
  rw [O.stk] at hfr hfl
  have noEx : ∀ b, b ∉ X.ex := fun b z => by
    rw [O.ex] at z
    cases z
  have notIn : ∀ b o, X.s₀.heap.get? b = some o → b ∉ L2.frs X.outer → b ∉ L2.frs X.stack := fun b o e nb z => by
    rcases O.frs.mp z with q | q
    · exact I.oldNe e q
    · exact nb q
  refine wpAny_leaves_onW hfr O.fr hfl fun h' x1 x2 => ?_
  refine ⟨Y.os.trans I.os, Y.bare, ⟨B, t, x1, hokB, fun b o e n nb => kp b o (I.base.keep b o e n nb (noEx b)) (I.base.free b o e n (noEx b)) (notIn b o e nb), fun b o e nb => ?_⟩, fun b o e n hb => ?_, fun b o e n => ?_,
    fun b xs q => Y.tups b xs (I.base.tups b xs q), fun b o u q => Y.frzs b o u (I.base.frzs b o u q), fun b ps q => ?_⟩
  · obtain ⟨o', e'⟩ := I.base.there b o e (noEx b)
    exact th b o' e' (notIn b o e nb)
  · obtain ⟨sl, e1⟩ := I.base.slot b o e n hb (noEx b)
    obtain ⟨_, o2, e2, hd⟩ := I.funs.mem hb
    rw [e1] at e2
    cases e2
    obtain ⟨sl2, e3⟩ := Y.slot b _ e1 (I.base.free b o e n (noEx b)) (O.frs.mpr (.inr hb))
    obtain ⟨sl3, e4⟩ := x2 b _ e3 hd
    exact ⟨sl3, e4⟩
  · obtain ⟨o', e'⟩ := I.base.there b o e (noEx b)
    exact Y.free b o' e' (I.base.free b o e n (noEx b))
  · obtain ⟨m1, e1⟩ := I.base.tbls b ps q
    obtain ⟨m2, e2⟩ := Y.tbls b _ e1
    exact ⟨m1 ++ m2, by rw [e2, Array.append_assoc]⟩
end

noncomputable abbrev bmVE : List Value := [.type "ValueError", .type "Exception", .type "BaseException", .type "object"]
set_option genInjectivity false in
structure Exc (K : PySem.W.Frag) (mg : Str → Option Value) (x : Str) (C : Addr) : Prop where
  mg : mg x = some (.ref C)
  is : PySem.W.excIn K C bmVE "ValueError.__new__" = true
theorem Exc.own {K : PySem.W.Frag} {mg : Str → Option Value} {x : Str} {C : Addr} {h : Heap} (c : Exc K mg x C) (X : K.In h) : OwnCls x C bmVE "ValueError.__new__" mg h := by
  refine ⟨c.mg, ?_⟩
  have q := c.is
  unfold PySem.W.excIn at q
  split at q
  · rename_i dd cd sl ho
    split at q
    · rename_i C' bm k0 k1 k2 k3 n k5 hm hs
      simp only [beq_iff_eq, Bool.not_eq_true', Bool.and_eq_true] at q
      obtain ⟨⟨⟨⟨⟨g1, g2⟩, g3⟩, g4⟩, g5⟩, g6⟩ := q
      subst g1 g2
      obtain ⟨nm, bs, mro, ns, qn, hd, sn, sub, ab, col, del⟩ := cd
      have hsl : sl = #[k0, k1, k2, k3, some (.builtin "ValueError.__new__"), k5] := by
        cases sl with
        | mk l =>
          have hs' : l = _ := hs
          rw [hs']
      have hm' : mro = _ := hm
      have g3' : del = false := g3
      subst hsl hm' g3'
      refine ⟨bm, ns, nm, qn, bs, hd, sn, sub, ab, col, dd, k0, k1, k2, k3, k5, h.nsMap ns, X _ _ ho, ?_, ?_, ?_⟩
      · exact .of_isNs (PySem.W.isNs_of_in X g5)
      · exact PySem.W.nsMap_none_of_in X g5 g6
      · exact PySem.W.tail_of_in X g4
    · cases q
  · cases q
noncomputable def tRaise (E : Value → Hp → Prop) (C : Addr) (t : TA) : TS := fun _ σ H => t σ H fun vs H1 => vs.length ≤ sizeLine ∧ E (.ref C) H1
theorem ps_raise {x : Str} {C : Addr} {e₀ : Expr} {rest : List Expr} {np cpos pos : Pos} {t : TA} {E : Value → Hp → Prop} (c : Exc X.K X.mg x C) (hc : X.calm = true)
    (hE : ∀ (pins : List (Addr × Obj)) (σ : St) (H : Hp) (s : Shared) (h : Heap) (a : Addr) (args : List Value), Inv X pins σ H s → Heap.MadeExcOf s.heap h a (.ref C) args → E (.ref C) H → X.xe (.ref a) { s with heap := h })
    (ha : PA X (e₀ :: rest) t) (hg : Gl X x := by rfl) (hd : (x == ("__debug__" : Str)) = false := by decide)
    (he : starEach (e₀ :: rest) X.env = (false, eval e₀ X.env) :: starEach rest X.env := by rfl) (hpl : (backTo cpos (starEach rest X.env)).any (·.1) = false := by rfl) :
    PS X (.Raise (some (.Call (.Name x np) (e₀ :: rest) [] cpos)) none pos) (tRaise E C t) := by
  intro pins s σ H D I h
  have O := c.own I.mod.kin
  obtain ⟨tl, N, nm, q, bs, hdct, sn, sub, ab, col, dd, k0, k1, k2, k3, k5, mN, hC, hN, hni, T⟩ := O.obj
  refine wpAny_Raise_call_subT (C := C) (nm := nm) (q := q) (N := N) (bs := bs) (bm := tl) (hdct := hdct) (sn := sn) (sub := sub) (ab := ab) (col := col) (dd := dd) (k0 := k0) (k1 := k1) (k2 := k2) (k3 := k3) (k5 := k5) PySem.F.excBase_ValueError (mN := mN)
    (T.hasType (by decide +kernel)) (I.ok.hd hc) (by rw [he]; show (false || (backTo cpos (starEach rest X.env)).any (·.1)) = false; rw [hpl]; rfl) hni (ld_glob I hg c.mg ⟨rfl, ?_⟩ hd)
  have hA := ha cpos pins s σ H _ I h
  rw [he] at hA ⊢
  refine Calls.evalArgs_plain (thn hA fun us s2 ⟨vs, H2, I2, r2, hz, q2⟩ => ?_)
  exact ⟨rfl, by rw [← r2.length]; exact hz, I2.bk _ _ hC, hN.keeps I2.bk, T.keeps I2.bk, fun h' e hx => hE pins σ H2 s2 h' e us I2 hx q2⟩

section
variable {P : Program} {w : World} {K : PySem.W.Frag} {mg : Str → Option Value} {base : Heap} {N : List Str} {qual : Str} {scope : Scope} {f : Addr} {cdv : Value} {A : Around} {outer : List Env} {s : Shared} {H : Hp} {E : XK}
theorem ownX {CX : CXT} : Own (cxOf CX P w K mg base N qual scope f cdv A outer s H E) := ⟨rfl, rfl, rfl⟩
theorem passX : Passes (CX1 P w) (cxOf (CX1 P w) P w K mg base N qual scope f cdv A outer s H E) E := fun pins σ H1 s1 e s' I h => by
  obtain ⟨a, cls, H', rfl, Y, q⟩ := h
  exact thn (Fly.on I ownX Y) fun _ s'' Z => ⟨a, cls, H', rfl, Z, q⟩
theorem raiseX {C : Addr} {pins : List (Addr × Obj)} {σ : St} {H1 : Hp} {s1 : Shared} {h : Heap} {a : Addr} {args : List Value} (I : Inv (cxOf (CX1 P w) P w K mg base N qual scope f cdv A outer s H E) pins σ H1 s1) (hx : Heap.MadeExcOf s1.heap h a (.ref C) args) (q : E (.ref C) none H1) :
    (cxOf (CX1 P w) P w K mg base N qual scope f cdv A outer s H E).xe (.ref a) { s1 with heap := h } := thn (Fly.raised I ownX hx) fun _ s'' Z => ⟨a, .ref C, H1, rfl, Z, q⟩
theorem pass1 {X : Cx} : Passes (CX1 P w) X E0 := fun _ _ _ _ _ _ _ h => by
  obtain ⟨_, _, _, _, _, q⟩ := h
  exact q.elim
theorem Fun.okX {x qual : Str} {st : Stmt} {f : Addr} {fd : FuncData} {N ps : List Str} {k : Nat} {sp : Sp} (F : Fun K x qual st f fd) (S : FnScope N ps (defScope st)) (len : ∀ vs H Q E, sp vs H Q E → vs.length = ps.length)
    (hbody : ∀ (cdv : Value) (A : Around) (outer : List Env) (s : Shared) (H : Hp) (vs : List V) (Q : VK) (E : XK), Room k (A.deeper (envOfC qual (defScope st) s.heap.objs.size f cdv)) → sp vs H Q E →
      ∃ t, PSs (cxOf (CX1 P w) P w K mg base N qual (defScope st) f cdv A outer s H E) (defBody st) t ∧ t { nx := fun _ H' => Q .non H', rt := Q } (start N vs) H) : FnOk P w K mg base (CX1 P w) (k + 1) f fd ps sp := by
  obtain ⟨oc, od, kV, doc, pm, an, cdv, ct, osl, rfl, lk, hcd⟩ := F.ex
  exact fn_of lk hcd S len fun A outer s H vs Q E hr hsp => hbody cdv A outer s H vs Q E hr hsp
end
end L2

set_option Elab.async false
set_option linter.all false
set_option maxRecDepth 100000
set_option maxHeartbeats 4000000

namespace L2
open PySem PySem.Spec PyProof.Rows

noncomputable def XP (X : Cx) (pins : List (Addr × Obj)) (R : St → Value → Hp → Prop) (e : Value) (s' : Shared) : Prop :=
  ∃ a cls σ' H s1 H', e = .ref a ∧ Inv X pins σ' H s1 ∧ Fly X.prog X.w X.stack H s1 a cls H' s' ∧ R σ' cls H'
noncomputable abbrev TTy := Ends → (St → Value → Hp → Prop) → St → Hp → Prop
noncomputable def PTy (X : Cx) (st : List Stmt) (t : TTy) : Prop :=
  ∀ (pins : List (Addr × Obj)) (s : Shared) (σ : St) (H : Hp) (D : Ends) (R : St → Value → Hp → Prop), Inv X pins σ H s → t D R σ H → wpAny (model X.prog X.w) X.A (execs st X.env) (SP X pins D) (XP X pins R) s
section
variable {X : Cx}
noncomputable abbrev TH := Ends → St → Value → Hp → Prop
noncomputable def PH (X : Cx) (hs : List ExceptHandler) (t : TH) : Prop :=
  ∀ (pins : List (Addr × Obj)) (σ : St) (H : Hp) (s : Shared) (a : Addr) (cls : Value) (H' : Hp) (s' : Shared) (D : Ends), Inv X pins σ H s → Fly X.prog X.w X.stack H s a cls H' s' → t D σ cls H' →
    wpAny (model X.prog X.w) X.A (handleBy (.ref a) X.env hs) (SP X pins D) X.xe s'
end
end L2

set_option Elab.async false
set_option linter.all false
set_option maxRecDepth 100000
set_option maxHeartbeats 4000000

namespace L2
open PySem PySem.Spec PyProof.Rows

namespace RV
section
variable {prog : Program} {w : World} {A : Around} {E : Value → Shared → Prop} {s : Shared}
end
end RV

section
variable {X : Cx}
theorem rising_pw : ∀ (x : List Nat) (ls : List (List Nat)), risingS (tx x) (ls.map tx) = true → (∀ y ∈ ls, ¬ y < x) ∧ ls.Pairwise (fun a b => ¬ b < a)
  | x, [], _ => ⟨fun _ h => (by cases h), .nil⟩
  | x, y :: ls, h => by
    have h' : (!ltCps (tx y).cps.toList (tx x).cps.toList && risingS (tx y) (ls.map tx)) = true := h
    rw [Bool.and_eq_true, tx_cps, tx_cps, ltCps_eq] at h'
    obtain ⟨a, b⟩ := rising_pw y ls h'.2
    have h1 : ¬ y < x := by simpa using h'.1
    refine ⟨fun z hz => ?_, List.pairwise_cons.mpr ⟨a, b⟩⟩
    rcases List.mem_cons.mp hz with rfl | hz
    · exact h1
    · exact Wd.lele h1 (a z hz)
theorem sorted_pw : ∀ (ls : List (List Nat)), sortedS (ls.map tx) = true → ls.Pairwise (fun a b => ¬ b < a)
  | [], _ => .nil
  | x :: ls, h => List.pairwise_cons.mpr (rising_pw x ls h)
theorem strs_back : ∀ {us : List Value} {ss : List Str}, StrsAre us ss → Vals ((ss.map fun x => x.cps.toList).map T) us
  | _, _, .nil => .nil
  | _, _, .cons x t h => .cons ⟨t, by show Value.str x t = Value.str (tx x.cps.toList) t; rw [tx_eta]⟩ (strs_back h)
end
end L2

set_option Elab.async false
set_option linter.all false
set_option maxRecDepth 100000
set_option maxHeartbeats 4000000

namespace L2
open PySem PySem.Spec PyProof.Rows

noncomputable def nub : List (List Nat) → List (List Nat) → List (List Nat)
  | acc, [] => acc
  | acc, l :: ls => if l ∈ acc then nub acc ls else nub (acc ++ [l]) ls
noncomputable def nubTo (ls : List (List Nat)) : Nat → List (List Nat)
  | 0 => []
  | i + 1 => if ls.getD i [] ∈ nubTo ls i then nubTo ls i else nubTo ls i ++ [ls.getD i []]
theorem nubTo_len (ls : List (List Nat)) : ∀ i, (nubTo ls i).length ≤ i
  | 0 => Nat.le_refl _
  | i + 1 => by
    have h := nubTo_len ls i
    rw [nubTo]
    split
    · omega
    · rw [List.length_append, List.length_singleton]
      omega
theorem nubTo_nodup (ls : List (List Nat)) : ∀ i, (nubTo ls i).Nodup
  | 0 => List.nodup_nil
  | i + 1 => by
    have h := nubTo_nodup ls i
    rw [nubTo]
    split
    · exact h
    · rename_i hn
      refine List.nodup_append.mpr ⟨h, by simp, fun a ha b hb e => ?_⟩
      have hb' : b = ls.getD i [] := by simpa using hb
      rw [e, hb'] at ha
      exact hn ha
theorem nubTo_mem (ls : List (List Nat)) (x : List Nat) : ∀ i, i ≤ ls.length → (x ∈ nubTo ls i ↔ x ∈ ls.take i)
  | 0, _ => by simp [nubTo]
  | i + 1, hi => by
    have h := nubTo_mem ls x i (by omega)
    have e : ls.take (i + 1) = ls.take i ++ [ls.getD i []] := by
      rw [List.take_add_one, List.getD_eq_getElem?_getD, List.getElem?_eq_getElem (by omega)]
      rfl
    rw [e, List.mem_append, nubTo]
    split
    · rename_i hm
      rw [h]
      constructor
      · exact .inl
      · rintro (q | q)
        · exact q
        · have q' : x = ls.getD i [] := by simpa using q
          rw [q', ← nubTo_mem ls _ i (by omega)]
          exact hm
    · rw [List.mem_append, h]
noncomputable def uniq (ls : List (List Nat)) : List (List Nat) := nubTo ls ls.length
theorem uniq_nodup (ls : List (List Nat)) : (uniq ls).Nodup := nubTo_nodup ls _
theorem uniq_mem (ls : List (List Nat)) (x : List Nat) : x ∈ uniq ls ↔ x ∈ ls := by
  rw [uniq, nubTo_mem ls x _ (Nat.le_refl _), List.take_length]

namespace SE
section
variable {prog : Program} {w : World} {A : Around} {R : Result → Shared → Prop} {J : Addr} {fp wr : List Addr} {G : Array GenState → Array GenState → Prop} {n : Nat} {P : Nat → Value → Prop} {St : Nat → Shared → Prop}
noncomputable abbrev Has (prog : Program) (w : World) (h : Heap) (D : Addr) (ms : List (List Nat)) : Prop := h.SetOf (PySem.strKind prog w) D (fun x => decide (x.cps.toList ∈ ms)) ms.length
theorem Has.at {h h' : Heap} {D : Addr} {ms : List (List Nat)} (x : Has prog w h D ms) (k : ∀ o, h.get? D = some o → h'.get? D = some o) : Has prog w h' D ms := by
  obtain ⟨o, es, ep, tb, ho, r⟩ := x
  exact ⟨o, es, ep, tb, k o ho, r⟩
theorem loop (W : WalksS prog w A.in1 J fp wr G n P St) {D : Addr} (hD : D ∉ fp) (ls : List (List Nat)) (hv : ∀ i v, P i v → ∃ t, v = Value.str (tx (ls.getD i [])) t) (hn : n + 1 < scanBound) :
    ∀ (k i : Nat) (s : Shared), n - i = k → i ≤ n → St i s → Has prog w s.heap D (nubTo ls i) →
      (∀ s', Moved (D :: wr) G s s' → Has prog w s'.heap D (nubTo ls n) → R (.ok (.ret .none)) s') → codeAny (model prog w) A (.builtin "set.update.loop" ⟨[.ref D, .ref J], []⟩) R s := by
  have hDw : D ∉ wr := fun z => hD (W.sub _ z)
  have up : ∀ b ∈ wr, b ∈ D :: wr := fun b hb => .tail _ hb
  intro k
  induction k with
  | zero =>
    intro i s hk hi st hs hR
    obtain rfl : i = n := by omega
    refine codeAny_builtin PyProof.Rows.F.entry_set_update_loop ?_
    rw [Around.under_plainId PyProof.Rows.F.plain_set_update_loop]
    refine wpAny_bind (m := pyNext (.ref J)) (W.done s _ _ st fun s2 mv => ?_)
    exact (show wpAny _ A.in1 (ret Value.none) _ _ s2 from wpAny_pure (hR s2 (mv.mono up) (hs.at fun o e => mv.heap D o hDw e)))
  | succ k ih =>
    intro i s hk hi st hs hR
    have hlt : i < n := by omega
    refine codeAny_builtin PyProof.Rows.F.entry_set_update_loop ?_
    rw [Around.under_plainId PyProof.Rows.F.plain_set_update_loop]
    refine wpAny_bind (m := pyNext (.ref J)) (W.item i s _ _ hlt st fun v s2 pv st2 mv => ?_)
    obtain ⟨t, rfl⟩ := hv i v pv
    have hs2 := hs.at fun o e => mv.heap D o hDw e
    refine wpAny_bind (m := holding [Value.str (tx (ls.getD i [])) t] (setAdd D (.str (tx (ls.getD i [])) t))) (wpAny_holding ?_)
    unfold setAdd
    refine wpAny_holding (wpAny_bind ((PySem.strKind prog w).pyHash (k := tx (ls.getD i [])) (strKind_is _ _ _ _) ?_))
    have hl := nubTo_len ls i
    refine wpAny_setAddHashed_of (knd := PySem.strKind prog w) (s := { s2 with toks := s2.toks + 1 }) (strKind_is _ _ _ _) rfl hs2 (by omega) fun h3 sb x3 => ?_
    have x4 : Has prog w h3 D (nubTo ls (i + 1)) := by
      refine PyProof.Rows.SetOf_congr x3 (fun y => ?_) ?_
      · rw [nubTo]
        split
        · rename_i hm
          rw [Bool.eq_iff_iff, Bool.or_eq_true, decide_eq_true_iff, decide_eq_true_iff]
          constructor
          · rintro (q | q)
            · exact q
            · rw [q, tx_cps]
              exact hm
          · exact .inl
        · rw [Bool.eq_iff_iff, Bool.or_eq_true, decide_eq_true_iff, decide_eq_true_iff, decide_eq_true_iff, List.mem_append, List.mem_singleton]
          constructor
          · rintro (q | q)
            · exact .inl q
            · right
              rw [q, tx_cps]
          · rintro (q | q)
            · exact .inl q
            · right
              rw [← q, tx_eta]
      · rw [tx_cps, nubTo]
        by_cases hm : ls.getD i [] ∈ nubTo ls i
        · rw [if_pos hm, if_pos (decide_eq_true hm)]
        · rw [if_neg hm, if_neg (by rw [decide_eq_false hm]; exact Bool.false_ne_true), List.length_append]
          rfl
    refine wpAny_pure ⟨plainId_quiet PyProof.Rows.F.plain_set_update_loop _, ih (i + 1) _ (by omega) hlt (W.frame _ s2 _ _ st2 (Nat.le_succ _) fun b hb o e => (sb.2 b fun z => hD (z ▸ hb)).trans e) x4 fun s5 m5 x5 => ?_⟩
    refine hR s5 (Moved.trans W.gtrans ((mv.mono up).then_heap (Nat.le_succ _) fun b o hb e => (sb.2 b fun z => hb (z ▸ .head _)).trans e) m5) x5

variable {E : Value → Shared → Prop} {s : Shared}
theorem call_of {l : Addr} {its : Array Value} {ls : List (List Nat)} {Q : Value → Shared → Prop} (hh : A.handled = none) (hl : s.heap.IsList l its) (hv : ∀ i v, its[i]? = some v → ∃ t, v = Value.str (tx (ls.getD i [])) t) (hn : its.size + 1 < scanBound)
    (h : ∀ (h' : Heap) (tk : Nat), Has prog w h' s.heap.objs.size (nubTo ls its.size) → (∀ b o, s.heap.get? b = some o → h'.get? b = some o) → Q (.ref s.heap.objs.size) { s with heap := h', toks := tk }) :
    wpAny (model prog w) A (call (.type "set") [.ref l]) Q E s := by
  obtain ⟨mc, mt, f0⟩ := F.called_set.mro
  have f1 := F.called_set.made; have f2 := F.called_set.sub; have f3 := F.called_set.notType; have f4 := F.called_set.canCreate; have f5 := F.typeCall_set_1 (.ref l)
  refine wpAny_call (codeAny_of_tree (show wpAny _ _ (callAny (.type "set") _) _ _ _ from wpAny_pure ⟨Code.quiet_builtin _ (by decide +kernel), codeAny_builtin F.entry_type_call ?_⟩))
  rw [Around.under_plain (weight_type_call_type "set" [.ref l] []) rfl]
  repeat (any_goals (first | wp_step | assumption))
  refine codeAny_mono (code_set_new_1 (.ref l) (E := E) (Q₁ := fun ob s1 => ∃ b : Bool, ob = .ref s.heap.objs.size ∧ s1 = { s with heap := s.heap.push { cls := .type "set", dict := none, data := .set #[] 0 (.fresh 0 0 b) } }) fun b => ⟨b, rfl, rfl⟩) fun r s1 hr => ?_
  cases r with
  | error e => exact hr
  | ok fl =>
    cases fl with
    | ret ob =>
      obtain ⟨b, rfl, rfl⟩ := hr
      generalize hob : ({ cls := .type "set", dict := none, data := .set #[] 0 (.fresh 0 0 b) } : Obj) = ob
      have hD : (s.heap.push ob).get? s.heap.objs.size = some ob := Heap.get?_push_size _ (by rw [← hob]; rfl)
      have hT : Shared.TypeIs { s with heap := s.heap.push ob } (.ref s.heap.objs.size) "set" := ⟨_, hD, by rw [← hob]⟩
      have f6 := F.called_set.init.lookup; have f7 := F.called_set.init.bind (.ref s.heap.objs.size)
      repeat (any_goals (first | wp_step | assumption))
      refine codeAny_mono (codeAny_call_builtin (R := wants (fun r s2 => r = .none ∧ ∃ h' tk, s2 = { s with heap := h', toks := tk } ∧ Has prog w h' s.heap.objs.size (nubTo ls its.size) ∧ ∀ b o, s.heap.get? b = some o → h'.get? b = some o) E)
        F.called_set.init.plain F.entry_set_init (check_set_init_1 hT ?_)) fun r2 s2 hr2 => ?_
      · obtain ⟨⟨oc, od, odt, osl⟩, hol, hcl, nl, hdl⟩ := id hl
        simp only at hcl hdl
        subst hcl hdl
        have hol' : (s.heap.push ob).get? l = some { cls := .type "list", dict := od, data := .seq its nl, slots := osl } := Heap.get?_push_of_some _ hol
        have f8 := F.sub_list_set; have f9 := F.sub_list_frozenset
        have f10 : (Value.type "list" == Value.type "dict") = false := by decide
        have hl1 : (s.heap.push ob).IsList l its := ⟨_, hol', rfl, nl, rfl⟩
        subst hob
        unfold Builtin.«set.__init__» noKeywords Builtin.Frozenset.updateFrom
        generalize hPI : pyIter = PI
        wp_walk
        subst hPI
        refine wpAny_pyIter_list hl1 ?_
        refine wpAny_bind (wpAny_runValue ?_)
        have hlt : l < s.heap.objs.size := Heap.lt_size hol
        have hh3 : A.in1.in1.in1.handled = none := by simp [hh]
        have hsz : (s.heap.push { cls := .type "set", dict := none, data := .set #[] 0 (.fresh 0 0 b) }).objs.size = s.heap.objs.size + 1 := Heap.size_push _ _
        have hne : l ≠ (s.heap.push { cls := .type "set", dict := none, data := .set #[] 0 (.fresh 0 0 b) }).objs.size := by rw [hsz]; exact Nat.ne_of_lt (Nat.lt_succ_of_lt hlt)
        have hfp : s.heap.objs.size ∉ [(s.heap.push { cls := .type "set", dict := none, data := .set #[] 0 (.fresh 0 0 b) }).objs.size, l] := by
          rw [hsz]
          intro z
          rcases List.mem_cons.mp z with e | e
          · exact Nat.ne_of_lt (Nat.lt_succ_self _) e
          · exact Nat.ne_of_gt hlt (List.mem_singleton.mp e)
        refine loop ((Walks.list hh3 _ l hne its).toS) (D := s.heap.objs.size) hfp ls hv hn (its.size - 0) 0 _ (by omega) (Nat.zero_le _) ⟨⟨_, Heap.get?_push_size _ rfl, rfl, rfl⟩, hl1.push _⟩ ?_ fun s3 mv x3 => ?_
        · have hg : ((s.heap.push { cls := .type "set", dict := none, data := .set #[] 0 (.fresh 0 0 b) }).push { cls := .type "list_iterator", data := .fields #[.ref l, .int 0 0] }).get? s.heap.objs.size = some { cls := .type "set", dict := none, data := .set #[] 0 (.fresh 0 0 b) } := Heap.get?_push_of_some _ hD
          exact PyProof.Rows.SetOf_congr ((PyProof.Rows.setObjOf_fresh (knd := PySem.strKind prog w) b).setOf hg (by unfold scanBound; omega)) (fun _ => rfl) rfl
        · obtain ⟨h3, g3, d3, tk3, os3⟩ := s3
          obtain rfl : g3 = s.gens := mv.gens
          obtain rfl : d3 = s.drawn := mv.drawn
          obtain rfl : os3 = s.os := mv.os
          refine wpAny_pure (show wpAny _ _ (ret Value.none) _ _ _ from wpAny_pure ⟨rfl, h3, tk3, rfl, x3, fun c o e => ?_⟩)
          have hc := Heap.lt_size e
          exact mv.heap c o (show c ∉ [s.heap.objs.size, (s.heap.push { cls := .type "set", dict := none, data := .set #[] 0 (.fresh 0 0 b) }).objs.size] by
            rw [hsz]
            intro z
            rcases List.mem_cons.mp z with e | e
            · exact Nat.ne_of_lt hc e
            · exact Nat.ne_of_lt (Nat.lt_succ_of_lt hc) (List.mem_singleton.mp e)) (Heap.get?_push_of_some _ (Heap.get?_push_of_some _ e))
      · cases r2 with
        | error e => exact hr2
        | ok fl2 =>
          cases fl2 with
          | ret r =>
            obtain ⟨rfl, h3, tk, rfl, x3, k3⟩ := hr2
            repeat (any_goals (first | wp_step | assumption))
            exact h _ _ x3 k3
          | _ => exact hr2.elim
    | _ => exact hr.elim
end
end SE

noncomputable def SetT (P : Program) (w : World) (D : Addr) (ms : List (List Nat)) : HO := .ext fun h => SE.Has P w h D ms
section
variable {X : Cx}
theorem str_at {ls : List (List Nat)} {us : List Value} (r : Vals (ls.map T) us) {i : Nat} {v : Value} (h : us[i]? = some v) : ∃ t, v = Value.str (tx (ls.getD i [])) t := by
  have hl := r.length
  rw [List.length_map] at hl
  have hi : i < ls.length := by have := (List.getElem?_eq_some_iff.mp h).1; omega
  obtain ⟨u, h1, h2⟩ := r.get (i := i) (x := T ls[i]) (by rw [List.getElem?_map, List.getElem?_eq_getElem hi]; rfl)
  rw [h] at h1
  cases h1
  rw [List.getD_eq_getElem?_getD, List.getElem?_eq_getElem hi]
  exact h2
theorem call_setT (hc : X.calm = true) : CallR X (.type "set") (fun xs H Q => ∃ (p : Addr) (ls : List (List Nat)), xs = [.ref p] ∧ SqL X.K H p (ls.map T) ∧ ls.length + 1 < 4096 ∧ ∀ D, H D = none → Q (.ref D) (upd H D (SetT X.prog X.w D (uniq ls)))) := by
  intro pins s σ H xs us Q I r h
  obtain ⟨p, ls, rfl, hq, hz, q⟩ := h
  obtain ⟨u, rfl, ru⟩ := vals1 r
  cases ru
  obtain ⟨its, rv, pl, _⟩ := I.list hq
  have hlen := rv.length
  rw [List.length_map] at hlen
  refine SE.call_of (I.ok.hd hc) pl.isList (ls := ls) (fun i v e => str_at rv (by simpa using e)) (by rw [List.size_toArray]; unfold scanBound; omega) fun h' tk x k => ?_
  have e : nubTo ls its.toArray.size = uniq ls := by rw [List.size_toArray, ← hlen]; rfl
  rw [e] at x
  have hf : H s.heap.objs.size = none := I.hok.fresh (Nat.le_refl _)
  refine ⟨.ref s.heap.objs.size, _, I.laid (t' := tk) k (Nat.le_refl _) (o := SetT X.prog X.w s.heap.objs.size (uniq ls)) ?_, rfl, q _ hf⟩
  refine ⟨x, ?_, fun h1 h2 x1 kk => x1.at kk⟩
  obtain ⟨o, _, _, _, ho, _⟩ := x
  exact ⟨o, ho⟩
theorem call_lenS : CallR X (.builtin "len") (fun xs H Q => ∃ (D : Addr) (ms : List (List Nat)), xs = [.ref D] ∧ H D = some (SetT X.prog X.w D ms) ∧ Q (.int (ms.length : Nat)) H) := by
  intro pins s σ H xs us Q I r h
  obtain ⟨D, ms, rfl, hD, q⟩ := h
  obtain ⟨u, rfl, ru⟩ := vals1 r
  cases ru
  obtain ⟨⟨o, es, ep, tb, ho, hex, hd, _, _, hb, hf, hn⟩, _⟩ := (show ObjOk X.prog X.w H s.heap D (SetT X.prog X.w D ms) from I.hok D _ hD)
  have hb' : es.size < 4096 := hb
  exact call_len_set ho hex hd hf (by omega) ⟨.int (ms.length : Nat), H, I.tok _, ⟨s.toks + 1, by rw [← hn]⟩, q⟩

end
end L2

set_option Elab.async false
set_option linter.all false
set_option maxRecDepth 100000
set_option maxHeartbeats 4000000

namespace L2
open PySem PySem.Spec PyProof.Rows
section
variable {X : Cx}
namespace LM
end LM
theorem ix_list_K (K : PySem.W.Frag) (hK : X.K = K) : IxR X (rIxL K) := by
  subst hK
  exact ix_list
end
end L2

set_option Elab.async false
set_option linter.all false
set_option maxRecDepth 100000
set_option maxHeartbeats 4000000

namespace L2
open PySem PySem.Spec PyProof.Rows

noncomputable def Itx (l : List Nat) : It := ⟨fun i _ => i < l.length, fun i H x H' => H' = H ∧ ∃ c, l[i]? = some c ∧ x = T [c], fun i _ => l.length ≤ i⟩
theorem turn_text {P : Program} {w : World} {K : PySem.W.Frag} {tg : Expr} {it : Addr} {ty : String} {l : List Nat} {t : Tok} (hty : ty = "str_ascii_iterator" ∨ ty = "str_iterator")
    (W : ∀ A : Around, A.handled = none → Walks P w A it [it] [it] (tx l).cps.size (SignAt (tx l)) (fun i h => h.IsStrIter it ty (tx l) t i)) : Turn P w K tg (Itx l) [it] it (fun i h => h.IsStrIter it ty (tx l) t i) where
  mem := by simp
  obj := fun i h st b hb => by
    have e : b = it := by simpa using hb
    subst e
    obtain ⟨o, e, c, d⟩ := st
    exact ⟨o, e, fun v z => by rw [d] at z; cases z⟩
  keep := fun i h h' st k => by
    obtain ⟨o, e, r⟩ := st
    exact ⟨o, k it (by simp) o e, r⟩
  item := by
    intro X hP hw hK hc i pins s σ H E I hf st hg
    subst hP hw hK
    obtain ⟨f0, f1, f2, f3, f4, f5⟩ := hf it (by simp)
    refine (W X.A (I.ok.hd hc)).item i s _ _ (by have : i < l.length := hg; simpa [tx] using this) st fun v h' tk hv st' kk => ?_
    obtain ⟨c, u, hcu, rfl⟩ := hv
    have I1 : Inv X pins σ H { s with heap := h', toks := tk } := I.turned (fun b o hb e => kk b o (by simpa using hb) e) f0 f1 f3 f4 f5
    obtain ⟨o, e, cl, d⟩ := id st'
    refine ⟨_, rfl, go_of (s := { s with heap := h', toks := tk }) (n := ty) e cl d (by rcases hty with rfl | rfl <;> decide) ⟨T [c], H, I1, ⟨u, rfl⟩, ⟨rfl, c, ?_, rfl⟩, st', fun b hb => (hf b hb).1⟩⟩
    simpa [tx] using hcu
  done := by
    intro X hP hw hK hc i pins s σ H E I hf st hg
    subst hP hw hK
    obtain ⟨f0, f1, f2, f3, f4, f5⟩ := hf it (by simp)
    have hn : l.length ≤ i := hg
    obtain ⟨o, e, cl, d⟩ := id st
    rcases hty with rfl | rfl
    · exact wpAny_pyNext_ascii_end (I.ok.hd hc) st (by simpa [tx] using hn) fun h' eb => ⟨rfl, I.turned (t' := s.toks) (fun b o hb e => eb b o hb e) f0 f1 f3 f4 f5⟩
    · exact wpAny_pyNext_wide_end (I.ok.hd hc) st (by simpa [tx] using hn) fun h' eb => ⟨rfl, I.turned (t' := s.toks) (fun b o hb e => eb b o hb e) f0 f1 f3 f4 f5⟩
  self := fun A i s Q E st h => by
    rcases hty with rfl | rfl
    · exact wpAny_pyIter_striter_ascii st h
    · exact wpAny_pyIter_striter_wide st h
noncomputable def iStr (tl : TE) : TI := fun σ H R => tl σ H fun x H1 => ∃ l, x = T l ∧ R (Itx l) H1
section
variable {X : Cx} {tg : Expr}
theorem pi_str {e : Expr} {tl : TE} (hl : PE X e tl) : PI X tg e (iStr tl) := by
  intro pins s σ H R I h
  refine thn (hl pins s σ H _ I h) fun v s1 ⟨x, H1, I1, r1, q1⟩ => ?_
  obtain ⟨l, rfl, q⟩ := q1
  obtain ⟨t, rfl⟩ := r1
  have fin : ∀ (ty : String) (o : Obj), (ty = "str_ascii_iterator" ∨ ty = "str_iterator") → (∀ A : Around, A.handled = none → Walks X.prog X.w A s1.heap.objs.size [s1.heap.objs.size] [s1.heap.objs.size] (tx l).cps.size (SignAt (tx l)) (fun i h => h.IsStrIter s1.heap.objs.size ty (tx l) t i)) →
      (s1.heap.push o).IsStrIter s1.heap.objs.size ty (tx l) t 0 → PIE X pins σ tg R (.ref s1.heap.objs.size) { s1 with heap := s1.heap.push o } := fun ty o hty W st => by
    refine ⟨s1.heap.objs.size, [s1.heap.objs.size], _, _, H1, rfl, I1.kept (t' := s1.toks) fun b o e => Heap.get?_push_of_some _ e, turn_text hty W, st, fun b hb => ?_, q⟩
    have e : b = s1.heap.objs.size := by simpa using hb
    subst e
    exact I1.fpOk (Nat.le_refl _) (I1.hok.fresh (Nat.le_refl _))
  cases ha : (tx l).cps.all (· < 128)
  · exact wpAny_pyIter_wide ha (fin "str_iterator" _ (.inr rfl) (fun A hA => Walks.strWide hA _ (tx l) t) ⟨_, Heap.get?_push_size _ rfl, rfl, rfl⟩)
  · exact wpAny_pyIter_ascii ha (fin "str_ascii_iterator" _ (.inl rfl) (fun A hA => Walks.strAscii hA _ (tx l) t) ⟨_, Heap.get?_push_size _ rfl, rfl, rfl⟩)
end
theorem for_text {l : List Nat} {g : TG} {tb : TS} {D : Ends} {σ : St} {H : Hp} (Pv : Nat → St → Hp → Prop) (h0 : Pv 0 σ H)
    (hs : ∀ i c σ H, l[i]? = some c → Pv i σ H → g (T [c]) σ H fun σ2 H2 => tb { D with nx := Pv (i + 1), ct := Pv (i + 1), bk := D.nx } σ2 H2) (hd : ∀ σ H, Pv l.length σ H → D.nx σ H) :
    ∃ W : Nat → Nat → St → Hp → Prop, (∃ m, W 0 m σ H) ∧ ∀ i m σ H, W i m σ H →
      ((Itx l).stop i H ∧ D.nx σ H) ∨ ((Itx l).go i H ∧ ∃ N : St → Hp → Prop, (∀ σ' H', N σ' H' → ∃ m', m' < m ∧ W (i + 1) m' σ' H') ∧ ∀ x H', (Itx l).yld i H x H' → g x σ H' fun σ2 H2 => tb { D with nx := N, ct := N, bk := D.nx } σ2 H2) := by
  refine ⟨fun i m σ H => m = l.length - i ∧ i ≤ l.length ∧ Pv i σ H, ⟨l.length, by simp, Nat.zero_le _, h0⟩, ?_⟩
  rintro i m σ H ⟨rfl, hi, p⟩
  by_cases hlt : i < l.length
  · refine .inr ⟨hlt, Pv (i + 1), fun σ' H' p' => ⟨l.length - (i + 1), by omega, rfl, hlt, p'⟩, fun x H' y => ?_⟩
    obtain ⟨rfl, c, hc, rfl⟩ := y
    exact hs i c σ _ hc p
  · obtain rfl : i = l.length := by omega
    exact .inl ⟨Nat.le_refl _, hd σ H p⟩

section
variable {X : Cx}
theorem op_notin_sT : OpR X (compareOp .NotIn) (fun x y H Q => ∃ c, x = T [c] ∧ ∃ l, y = T l ∧ Q (.bl (!decide (c ∈ l))) H) := by
  intro pins s σ H x y v u Q I rx ry h
  obtain ⟨c, e1, l, e2, q⟩ := h
  exact op_notin_str pins s σ H x y v u Q I rx ry ⟨tx [c], tx l, e1, e2, by rw [show tx [c] = ⟨#[c]⟩ from rfl, StrLaws.found_one, tx_cps]; exact q⟩
namespace RV
variable {prog : Program} {w : World} {A : Around} {E : Value → Shared → Prop} {s : Shared}
end RV
end
end L2

set_option Elab.async false
set_option linter.all false
set_option maxRecDepth 100000
set_option maxHeartbeats 4000000

namespace L2
open PySem PySem.Spec PyProof.Rows

section
variable {P : Program} {w : World} {K : PySem.W.Frag} {mg : Str → Option Value} {base : Heap}
theorem Fun.okN {x qual : Str} {st : Stmt} {f : Addr} {fd : FuncData} {N ps : List Str} {k : Nat} {sp : Sp} (F : Fun K x qual st f fd) (S : FnScope N ps (defScope st)) (len : ∀ vs H Q E, sp vs H Q E → vs.length = ps.length)
    (hbody : ∀ (cdv : Value) (A : Around) (outer : List Env) (s : Shared) (H : Hp) (vs : List V) (Q : VK) (E : XK), Room k (A.deeper (envOfC qual (defScope st) s.heap.objs.size f cdv)) → sp vs H Q E →
      ∃ t, PSs (cxOf (CX1 P w) P w K mg base N qual (defScope st) f cdv A outer s H E).nox (defBody st) t ∧ t { nx := fun _ H' => Q .non H', rt := Q } (start N vs) H) : FnOk P w K mg base (CX1 P w) (k + 1) f fd ps sp := by
  obtain ⟨oc, od, kV, doc, pm, an, cdv, ct, osl, rfl, lk, hcd⟩ := F.ex
  refine fn_of lk hcd S len fun A outer s H vs Q E hr hsp => ?_
  obtain ⟨t, h, q⟩ := hbody cdv A outer s H vs Q E hr hsp
  exact ⟨t, h.nox, q⟩
end

open PySem.W in
set_option genInjectivity false in
structure Knd (K : PySem.W.Frag) (C : Addr) : Prop where
  ga : findIn K (.ref C) "__getattribute__" = some (some (.builtin "BaseException.__getattribute__"))
  hk : findIn K (.ref C) "__getattr__" = some none
  ha : findIn K (.ref C) "__class__" = some (some (.builtin "object.__class__"))
  hn : specialIn K (.builtin "object.__class__") "__get__" = some (some (.builtin "getset_descriptor.__get__"))
  htk : takesIn K (.builtin "object.__class__") = some true
  hm : mroIn K C (.type "object") = some true
  hb : mroIn K C (.type "BaseException") = some true
  cl : (clsIn K C).isSome = true
namespace EX
open PySem.W PySem.Calls PySem.Builtin PySem.Builtin.ObjectAttr PySem.Builtin.Getset_descriptor
variable {prog : Program} {w : World} {A : Around} {E : Value → Shared → Prop} {s : Shared} {K : PySem.W.Frag} {a C : Addr}
end EX
section
variable {X : Cx}
theorem vals_refs : ∀ {cs : List Addr} {us : List Value}, Vals (cs.map V.ref) us → us = cs.map Value.ref
  | [], _, r => by cases r; rfl
  | c :: cs, us, r => by
    rw [List.map_cons] at r
    cases r with
    | cons r1 r2 =>
      cases r1
      rw [vals_refs r2]
      rfl
end
end L2

set_option Elab.async false
set_option linter.all false
set_option maxRecDepth 100000
set_option maxHeartbeats 4000000

namespace L2
open PySem PySem.Spec PyProof.Rows
section
variable {X : Cx} {es : List Expr} {te : TE} {t : TA}
end
end L2

set_option Elab.async false
set_option linter.all false
set_option maxRecDepth 100000
set_option maxHeartbeats 4000000

namespace L2
open PySem PySem.Spec PyProof.Rows
section
variable {X : Cx} {tg : Expr}
end
end L2

set_option Elab.async false
set_option linter.all false
set_option maxRecDepth 100000
namespace L2
open PySem
section
variable {X : Cx} {N' : List Str} {scope : Scope} {x : Str} {px : Pos} {elt iter cd : Expr} {pos : Pos} {te : TE} {tc : TT} {wi : TI}

theorem pe_compf (S : CompSc X.N N' X.env.scope scope x) (hc : X.calm = true) (hi : PI X (.Name x px) iter wi) (ht : ∀ cl C s H fp, PT (cxComp X N' scope cl C s H fp) cd tc) (he : ∀ cl C s H fp, PE (cxComp X N' scope cl C s H fp) elt te)
    (hs : ∀ x, foldedSetIterable iter X.env x = pure x := by intro _; rfl) : PE X (.ListComp elt [⟨.Name x px, iter, [cd], 0⟩] scope pos) (tCompF wi tc te) :=
  pe_compx (at' := fun σ Q => compAtF tc te σ Q) S hc hi (fun cl C s H fp => ptl_one (ht cl C s H fp)) he (fun _ _ _ _ h => h) hs
theorem ps_setCompf {i : Nat} {y : Str} {py spos : Pos} (S : CompSc X.N N' X.env.scope scope x) (hc : X.calm = true) (hi : PI X (.Name x px) iter wi) (ht : ∀ cl C s H fp, PT (cxComp X N' scope cl C s H fp) cd tc) (he : ∀ cl C s H fp, PE (cxComp X N' scope cl C s H fp) elt te)
    (hN : X.N.Nodup) (hy : X.N[i]? = some y) (hyl : X.env.scope.names.lookup y = some .local)
    (hsw : swapsWith (.ListComp elt [⟨.Name x px, iter, [cd], 0⟩] scope pos) (some (.Name y py)) spos.line X.env = pure true := by rfl)
    (hs : ∀ x, foldedSetIterable iter X.env x = pure x := by intro _; rfl) : PS X (.Assign [.Name y py] (.ListComp elt [⟨.Name x px, iter, [cd], 0⟩] scope pos) spos) (tAsg (tCompF wi tc te) (gName i)) :=
  ps_setCompx (at' := fun σ Q => compAtF tc te σ Q) S hc hi (fun cl C s H fp => ptl_one (ht cl C s H fp)) he (fun _ _ _ _ h => h) hN hy hyl hsw hs
end

section
variable {X : Cx}
end
theorem take_filter {α : Type} (p : α → Bool) (l : List α) (i : Nat) (v : α) (h : l[i]? = some v) : (l.take (i + 1)).filter p = (l.take i).filter p ++ (if p v then [v] else []) := by
  rw [List.take_add_one, h, List.filter_append]
  cases hp : p v <;> simp [hp]
theorem filter_take_len {α : Type} (p : α → Bool) (l : List α) (i : Nat) : ((l.take i).filter p).length ≤ i := by
  have h1 := List.length_filter_le p (l.take i)
  rw [List.length_take] at h1
  omega
end L2

set_option autoImplicit false
set_option linter.all false
set_option maxRecDepth 100000
namespace SR
open PySem PyProof.Rows
noncomputable def LtR (prog : Program) (w : World) (A : Around) (E : Value → Shared → Prop) (s : Shared) (κ : KeyKind) (kd : SortKind) : Prop :=
  ∀ (st : SortSt) (x y : Keyed) (a b : κ.α) (Q : Option Bool → SortSt → Prop), kindOf st = kd → κ.keyOf x.1 = some a → κ.keyOf y.1 = some b → Q (some (κ.blt a b)) st → wpS (model prog w) A E s (lt' x y) Q st
theorem ltR_of {prog : Program} {w : World} {A : Around} {E : Value → Shared → Prop} {s : Shared} {κ : KeyKind} {kd : SortKind}
    (h : ∀ (E : Value → Shared → Prop) (x y : Value) (a b : κ.α) (Q : Bool → Shared → Prop), κ.keyOf x = some a → κ.keyOf y = some b → Q (κ.blt a b) s → wpAny (model prog w) A (keyLt' kd x y) Q E s) : LtR prog w A E s κ kd := by
  intro st x y a b Q hk ha hb hq
  rw [lt'_eq]; refine wpS_bind (wpS_get ?_); rw [hk]
  exact wpS_bind (wpS_lift (wpAny_attempt (h _ x.1 y.1 a b _ ha hb ⟨rfl, wpS_pure hq⟩)))
theorem ltR_one {prog : Program} {w : World} {A : Around} {E : Value → Shared → Prop} {s : Shared} {κ : KeyKind} (hO : κ.OneLt) : LtR prog w A E s κ oneType' :=
  ltR_of fun E x y a b Q ha hb hq => by rw [keyLt'_oneType]; exact hO prog w A E s x y a b ha hb hq
set_option genInjectivity false in
structure SB (kd : SortKind) (z : Array Keyed) (st : SortSt) : Prop where
  prm : (arrOf st).Perm z
  knd : kindOf st = kd
  ffl : failedOf st = none
theorem SB.sz {kd : SortKind} {z : Array Keyed} {st : SortSt} (h : SB kd z st) : (arrOf st).size = z.size := h.prm.size_eq
theorem SB.put {kd : SortKind} {z : Array Keyed} {st : SortSt} (h : SB kd z st) {xs : Array Keyed} (hp : xs.Perm (arrOf st)) : SB kd z (setArr st xs) := ⟨hp.trans h.prm, h.knd, h.ffl⟩
noncomputable def Up (κ : KeyKind) (xs : Array Keyed) (l r : Nat) : Prop := ∀ i j, l ≤ i → i ≤ j → j < r → κ.kle (KK κ xs i) (KK κ xs j)
noncomputable def Dn (κ : KeyKind) (xs : Array Keyed) (l r : Nat) : Prop := ∀ i j, l ≤ i → i ≤ j → j < r → κ.kle (KK κ xs j) (KK κ xs i)
set_option genInjectivity false in
structure Kp (lo : Nat) (st st' : SortSt) : Prop where
  low : ∀ k, k < lo → (arrOf st')[k]? = (arrOf st)[k]?
  pen : pendingOf st' = pendingOf st
theorem Kp.rfl' {lo : Nat} {st : SortSt} : Kp lo st st := ⟨fun _ _ => rfl, rfl⟩
theorem Kp.tr {lo : Nat} {a b c : SortSt} (h : Kp lo a b) (h' : Kp lo b c) : Kp lo a c := ⟨fun k hk => (h'.low k hk).trans (h.low k hk), h'.pen.trans h.pen⟩
theorem kp_mirror {lo i j : Nat} {st : SortSt} (hj : j ≤ (arrOf st).size) (hi : lo ≤ i) : Kp lo st (setArr st (mirror (arrOf st) i j ((j - i) / 2))) := ⟨fun k hk => by
  show (mirror (arrOf st) i j ((j - i) / 2))[k]? = _
  rw [getElem?_mirror_all hj, if_neg (by omega)], rfl⟩
section
variable {prog : Program} {w : World} {A : Around} {E : Value → Shared → Prop} {s : Shared} {z : Array Keyed} {κ : KeyKind} {kd : SortKind}
theorem SB.key {st : SortSt} (h : SB kd z st) (hz : KeysOf κ z) {i : Nat} (hi : i < z.size) : ∃ x p a, (arrOf st)[i]? = some (x, p) ∧ κ.keyOf x = some a ∧ KK κ (arrOf st) i = a := by
  have hi' : i < (arrOf st).size := by rw [h.sz]; exact hi
  have hm : (arrOf st)[i] ∈ z.toList := (Array.perm_iff_toList_perm.mp h.prm).mem_iff.mp (by simp)
  obtain ⟨a, ha⟩ := hz _ hm
  have e : (arrOf st)[i]? = some (arrOf st)[i] := getElem?_pos _ i hi'
  exact ⟨(arrOf st)[i].1, (arrOf st)[i].2, a, by rw [e], ha, by unfold KK; rw [e]; simp [ha]⟩
theorem w_lt {st : SortSt} {i j : Nat} {Q : Option Bool → SortSt → Prop} (hO : LtR prog w A E s κ kd) (hB : SB kd z st) (hz : KeysOf κ z) (hi : i < z.size) (hj : j < z.size)
    (h : Q (some (κ.blt (KK κ (arrOf st) i) (KK κ (arrOf st) j))) st) : wpS (model prog w) A E s (ltAt' i j) Q st := by
  obtain ⟨x, p, a, e1, ha, ka⟩ := hB.key hz hi
  obtain ⟨y, q, b, e2, hb, kb⟩ := hB.key hz hj
  rw [ka, kb] at h
  rw [ltAt'_eq]; refine wpS_bind (wpS_get ?_); dsimp only
  rw [elem'_eq, elem'_eq, e1, e2]; refine wpS_bind (wpS_pure (wpS_bind (wpS_pure ?_)))
  exact hO st (x, p) (y, q) a b Q hB.knd ha hb h
noncomputable def upL (lo a m : Nat) : StateT SortSt Sem AscSt :=
  forIn [a:m] ((none, a) : AscSt) fun _ c => do
    let o ← ltAt' (lo + c.snd) (lo + c.snd - 1)
    match o with
    | some t => if t = true then pure (ForInStep.done (none, c.snd)) else pure (ForInStep.yield (none, c.snd + 1))
    | _ => pure (ForInStep.done (some none, c.snd))
noncomputable def endL (lo n m : Nat) : StateT SortSt Sem (Option Nat) := do
  reverseSlice' lo (lo + n)
  let c ← upL lo n m
  match c.fst with
  | some r => pure r
  | none => pure (some c.snd)
noncomputable def dnL (lo n m : Nat) : StateT SortSt Sem DescSt :=
  forIn [n:m] ((none, n, 0) : DescSt) fun _ c => do
    let o ← ltAt' (lo + c.snd.fst) (lo + c.snd.fst - 1)
    match o with
    | some t =>
      if t = true then
        if c.snd.snd > 0 then do
          reverseSlice' (lo + c.snd.fst - (c.snd.snd + 1)) (lo + c.snd.fst)
          pure (ForInStep.yield (none, c.snd.fst + 1, 0))
        else pure (ForInStep.yield (none, c.snd.fst + 1, 0))
      else do
        let o ← ltAt' (lo + c.snd.fst - 1) (lo + c.snd.fst)
        match o with
        | some t => if t = true then pure (ForInStep.done (none, c.snd.fst, c.snd.snd)) else pure (ForInStep.yield (none, c.snd.fst + 1, c.snd.snd + 1))
        | _ => pure (ForInStep.done (some none, c.snd.fst, c.snd.snd))
    | _ => pure (ForInStep.done (some none, c.snd.fst, c.snd.snd))
noncomputable def dnP (lo n m : Nat) : StateT SortSt Sem (Option Nat) := do
  liftM (rule "list.sort.descending-run")
  let c ← dnL lo (n + 1) m
  match c.fst with
  | some r => pure r
  | none =>
    if c.snd.snd > 0 then do
      reverseSlice' (lo + c.snd.fst - (c.snd.snd + 1)) (lo + c.snd.fst)
      endL lo c.snd.fst m
    else endL lo c.snd.fst m
theorem bnd {α β : Type} {x y : StateT SortSt Sem α} {f g : α → StateT SortSt Sem β} (h : x = y) (h' : ∀ a, f a = g a) : (x >>= f) = (y >>= g) := by
  rw [h, show f = g from funext h']
theorem run_eq (lo m : Nat) : countRun' lo m = (do
    let c ← upL lo 1 m
    match c.fst with
    | some r => pure r
    | none =>
      if (c.snd == m) = true then pure (some c.snd)
      else if c.snd > 1 then do
        let o ← ltAt' lo (lo + c.snd - 1)
        match o with
        | some t => if t = true then pure (some c.snd) else do
            reverseSlice' lo (lo + c.snd)
            dnP lo c.snd m
        | _ => pure none
      else dnP lo c.snd m) := by
  rw [countRun'_eq]
  unfold dnP endL dnL upL
  refine bnd rfl fun c => ?_
  obtain ⟨r, n⟩ := c
  cases r with
  | some r => rfl
  | none =>
    dsimp only
    split
    · rfl
    · split
      · refine bnd rfl fun x => ?_
        cases x with
        | none => rfl
        | some t =>
          dsimp only
          split
          · rfl
          · refine bnd rfl fun _r => ?_
            refine bnd rfl fun _u => ?_
            refine bnd rfl fun s2 => ?_
            obtain ⟨r2, n2, q2⟩ := s2
            cases r2 with
            | some r2 => rfl
            | none =>
              dsimp only
              split
              · refine bnd rfl fun _v => ?_
                (refine bnd rfl fun _w => ?_; refine bnd rfl fun s3 => ?_; obtain ⟨r3, n3⟩ := s3; cases r3 <;> rfl)
              · (refine bnd rfl fun _w => ?_; refine bnd rfl fun s3 => ?_; obtain ⟨r3, n3⟩ := s3; cases r3 <;> rfl)
      · refine bnd rfl fun _u => ?_
        refine bnd rfl fun s2 => ?_
        obtain ⟨r2, n2, q2⟩ := s2
        cases r2 with
        | some r2 => rfl
        | none =>
          dsimp only
          split
          · refine bnd rfl fun _v => ?_
            (refine bnd rfl fun _w => ?_; refine bnd rfl fun s3 => ?_; obtain ⟨r3, n3⟩ := s3; cases r3 <;> rfl)
          · (refine bnd rfl fun _w => ?_; refine bnd rfl fun s3 => ?_; obtain ⟨r3, n3⟩ := s3; cases r3 <;> rfl)
theorem up_one {xs : Array Keyed} {l : Nat} : Up κ xs l (l + 1) := fun i j h1 h2 h3 => by
  obtain rfl : i = j := by omega
  exact KeyOrd.kle_refl _
theorem up_snoc {xs : Array Keyed} {l r : Nat} (hr : l < r) (h : Up κ xs l r) (hl : κ.kle (KK κ xs (r - 1)) (KK κ xs r)) : Up κ xs l (r + 1) := fun i j h1 h2 h3 => by
  by_cases hj : j < r
  · exact h i j h1 h2 hj
  · obtain rfl : j = r := by omega
    by_cases hi : i = j
    · subst hi; exact KeyOrd.kle_refl _
    · exact KeyOrd.kle_trans (h i (j - 1) h1 (by omega) (by omega)) hl
theorem dn_snoc {xs : Array Keyed} {l r : Nat} (hr : l < r) (h : Dn κ xs l r) (hl : κ.kle (KK κ xs r) (KK κ xs (r - 1))) : Dn κ xs l (r + 1) := fun i j h1 h2 h3 => by
  by_cases hj : j < r
  · exact h i j h1 h2 hj
  · obtain rfl : j = r := by omega
    by_cases hi : i = j
    · subst hi; exact KeyOrd.kle_refl _
    · exact KeyOrd.kle_trans hl (h i (j - 1) h1 (by omega) (by omega))
theorem w_up {st : SortSt} {lo a m : Nat} {Q : AscSt → SortSt → Prop} (hO : LtR prog w A E s κ kd) (hz : KeysOf κ z) (hm : lo + m ≤ z.size) (ha : 1 ≤ a) (ham : a ≤ m) (hB : SB kd z st) (hs : Up κ (arrOf st) lo (lo + a))
    (h : ∀ n, a ≤ n → n ≤ m → Up κ (arrOf st) lo (lo + n) → (n = m ∨ κ.klt (KK κ (arrOf st) (lo + n)) (KK κ (arrOf st) (lo + n - 1))) → Q (none, n) st) : wpS (model prog w) A E s (upL lo a m) Q st := by
  unfold upL
  refine wpS_forRange (I := fun x c st' => st' = st ∧ c = (none, x) ∧ Up κ (arrOf st) lo (lo + x)) ?sp ?fi ⟨rfl, rfl, hs⟩
  case fi =>
    rintro c st' ⟨rfl, rfl, hu⟩
    rw [show max a m = m by omega] at hu ⊢
    exact h m ham (Nat.le_refl _) hu (.inl rfl)
  case sp =>
    rintro x c st' hax hxm ⟨rfl, rfl, hu⟩
    dsimp only
    refine wpS_bind (w_lt hO hB hz (by omega) (by omega) ?_)
    cases hq : κ.blt (KK κ (arrOf st') (lo + x)) (KK κ (arrOf st') (lo + x - 1)) with
    | true =>
      simp only [if_true]
      exact wpS_pure (h x hax (by omega) hu (.inr hq))
    | false =>
      simp only [Bool.false_eq_true, if_false]
      exact wpS_pure ⟨rfl, rfl, up_snoc (r := lo + x) (by omega) hu hq⟩
theorem w_end {st : SortSt} {lo n m : Nat} {Q : Option Nat → SortSt → Prop} (hO : LtR prog w A E s κ kd) (hz : KeysOf κ z) (hm : lo + m ≤ z.size) (h1 : 1 ≤ n) (hn : n ≤ m) (hB : SB kd z st) (hs : Dn κ (arrOf st) lo (lo + n))
    (h : ∀ k st', SB kd z st' → Kp lo st st' → 1 ≤ k → k ≤ m → Up κ (arrOf st') lo (lo + k) → Q (some k) st') : wpS (model prog w) A E s (endL lo n m) Q st := by
  unfold endL
  have hsz : lo + n ≤ (arrOf st).size := by rw [hB.sz]; omega
  refine wpS_bind (wpS_reverse ?_)
  have hB' : SB kd z (setArr st (mirror (arrOf st) lo (lo + n) ((lo + n - lo) / 2))) := hB.put (mirror_perm _ _ _ _)
  refine wpS_bind (w_up hO hz hm h1 hn hB' ?_ fun k hk1 hk2 hu _ => wpS_pure (h k _ hB' (kp_mirror hsz (Nat.le_refl _)) (by omega) hk2 hu))
  intro i j hi hij hj
  show κ.kle (KK κ (mirror (arrOf st) lo (lo + n) ((lo + n - lo) / 2)) i) (KK κ (mirror (arrOf st) lo (lo + n) ((lo + n - lo) / 2)) j)
  rw [KK_mirror hsz, KK_mirror hsz, if_pos ⟨by omega, by omega⟩, if_pos ⟨by omega, by omega⟩]
  exact hs _ _ (by omega) (by omega) (by omega)
theorem w_dn {st : SortSt} {lo n m : Nat} {Q : DescSt → SortSt → Prop} (hO : LtR prog w A E s κ kd) (hz : KeysOf κ z) (hm : lo + m ≤ z.size) (h1 : 1 ≤ n) (hn : n ≤ m) (hB : SB kd z st) (hs : Dn κ (arrOf st) lo (lo + n))
    (h : ∀ k e st', SB kd z st' → Kp lo st st' → n ≤ k → k ≤ m → Dn κ (arrOf st') lo (lo + k) → e + 1 ≤ k → (∀ i, lo + k - (e + 1) ≤ i → i < lo + k → KK κ (arrOf st') i = KK κ (arrOf st') (lo + k - 1)) → Q (none, k, e) st') :
    wpS (model prog w) A E s (dnL lo n m) Q st := by
  unfold dnL
  refine wpS_forRange (I := fun x c st' => ∃ e, c = (none, x, e) ∧ SB kd z st' ∧ Kp lo st st' ∧ Dn κ (arrOf st') lo (lo + x) ∧ e + 1 ≤ x ∧ (∀ i, lo + x - (e + 1) ≤ i → i < lo + x → KK κ (arrOf st') i = KK κ (arrOf st') (lo + x - 1))) ?sp ?fi
    ⟨0, rfl, hB, Kp.rfl', hs, by omega, fun i g1 g2 => by rw [show i = lo + n - 1 by omega]⟩
  case fi =>
    rintro c st' ⟨e, rfl, hB', hk', hd, he, hq⟩
    rw [show max n m = m by omega] at hd he hq ⊢
    exact h m e st' hB' hk' hn (Nat.le_refl _) hd he hq
  case sp =>
    rintro x c st' hax hxm ⟨e, rfl, hB', hk', hd, he, hq⟩
    dsimp only
    have hsz : lo + x ≤ (arrOf st').size := by rw [hB'.sz]; omega
    refine wpS_bind (w_lt hO hB' hz (by omega) (by omega) ?_)
    cases hl : κ.blt (KK κ (arrOf st') (lo + x)) (KK κ (arrOf st') (lo + x - 1)) with
    | true =>
      simp only [if_true]
      have hstep : ∀ xs : Array Keyed, (∀ k, KK κ xs k = KK κ (arrOf st') k) → Dn κ xs lo (lo + (x + 1)) := fun xs hk => by
        have h2 := dn_snoc (r := lo + x) (by omega) hd (KeyOrd.kle_of_klt hl)
        intro i j g1 g2 g3
        rw [hk, hk]
        exact h2 i j g1 g2 (by omega)
      by_cases he0 : e > 0
      · rw [if_pos he0]
        exact wpS_bind (wpS_reverse (wpS_pure ⟨0, rfl, hB'.put (mirror_perm _ _ _ _), hk'.tr (kp_mirror hsz (by omega)), hstep _ (KK_mirror_equal hsz hq), by omega, fun i g1 g2 => by rw [show i = lo + (x + 1) - 1 by omega]⟩))
      · rw [if_neg he0]
        exact wpS_pure ⟨0, rfl, hB', hk', hstep _ (fun _ => rfl), by omega, fun i g1 g2 => by rw [show i = lo + (x + 1) - 1 by omega]⟩
    | false =>
      simp only [Bool.false_eq_true, if_false]
      refine wpS_bind (w_lt hO hB' hz (by omega) (by omega) ?_)
      cases hg : κ.blt (KK κ (arrOf st') (lo + x - 1)) (KK κ (arrOf st') (lo + x)) with
      | true =>
        simp only [if_true]
        exact wpS_pure (h x e st' hB' hk' hax (by omega) hd he hq)
      | false =>
        simp only [Bool.false_eq_true, if_false]
        have hx : KK κ (arrOf st') (lo + x) = KK κ (arrOf st') (lo + x - 1) := KeyOrd.kle_antisymm hg hl
        refine wpS_pure ⟨e + 1, rfl, hB', hk', dn_snoc (r := lo + x) (by omega) hd hg, by omega, fun i g1 g2 => ?_⟩
        rw [show lo + (x + 1) - 1 = lo + x by omega]
        by_cases hi : i = lo + x
        · rw [hi]
        · rw [hx]; exact hq i (by omega) (by omega)
theorem w_dnP {st : SortSt} {lo n m : Nat} {Q : Option Nat → SortSt → Prop} (hO : LtR prog w A E s κ kd) (hz : KeysOf κ z) (hm : lo + m ≤ z.size) (hn : n + 1 ≤ m) (hB : SB kd z st) (hs : Dn κ (arrOf st) lo (lo + (n + 1)))
    (h : ∀ k st', SB kd z st' → Kp lo st st' → 1 ≤ k → k ≤ m → Up κ (arrOf st') lo (lo + k) → Q (some k) st') : wpS (model prog w) A E s (dnP lo n m) Q st := by
  unfold dnP
  refine wpS_bind (wpS_lift (wpAny_rule ⟨rfl, ?_⟩))
  refine wpS_bind (w_dn hO hz hm (by omega) hn hB hs fun k e st' hB' hk' hk1 hk2 hd he hq => ?_)
  dsimp only
  have hsz : lo + k ≤ (arrOf st').size := by rw [hB'.sz]; omega
  by_cases he0 : e > 0
  · rw [if_pos he0]
    refine wpS_bind (wpS_reverse (w_end hO hz hm (by omega) hk2 (hB'.put (mirror_perm _ _ _ _)) ?_ fun j st2 b1 b2 b3 b4 b5 => h j st2 b1 ((hk'.tr (kp_mirror hsz (by omega))).tr b2) b3 b4 b5))
    intro i j hi hij hj
    show κ.kle (KK κ (mirror (arrOf st') _ _ _) j) (KK κ (mirror (arrOf st') _ _ _) i)
    rw [KK_mirror_equal hsz hq, KK_mirror_equal hsz hq]
    exact hd i j hi hij hj
  · rw [if_neg he0]
    exact w_end hO hz hm (by omega) hk2 hB' hd fun j st2 b1 b2 b3 b4 b5 => h j st2 b1 (hk'.tr b2) b3 b4 b5
theorem w_run {st : SortSt} {lo m : Nat} {Q : Option Nat → SortSt → Prop} (hO : LtR prog w A E s κ kd) (hz : KeysOf κ z) (hm : lo + m ≤ z.size) (h1 : 1 ≤ m) (hB : SB kd z st)
    (h : ∀ k st', SB kd z st' → Kp lo st st' → 1 ≤ k → k ≤ m → Up κ (arrOf st') lo (lo + k) → Q (some k) st') : wpS (model prog w) A E s (countRun' lo m) Q st := by
  rw [run_eq]
  refine wpS_bind (w_up hO hz hm (Nat.le_refl 1) h1 hB up_one fun n hn1 hn2 hu hor => ?_)
  dsimp only
  by_cases hnm : n = m
  · rw [if_pos (by simpa using hnm)]
    exact wpS_pure (h n st hB Kp.rfl' hn1 hn2 hu)
  · rw [if_neg (by simpa using hnm)]
    have hlt := hor.resolve_left hnm
    by_cases hgt : n > 1
    · rw [if_pos hgt]
      refine wpS_bind (w_lt hO hB hz (by omega) (by omega) ?_)
      cases hr : κ.blt (KK κ (arrOf st) lo) (KK κ (arrOf st) (lo + n - 1)) with
      | true =>
        simp only [if_true]
        exact wpS_pure (h n st hB Kp.rfl' hn1 hn2 hu)
      | false =>
        simp only [Bool.false_eq_true, if_false]
        have hsz : lo + n ≤ (arrOf st).size := by rw [hB.sz]; omega
        have hall : ∀ k, lo ≤ k → k < lo + n → KK κ (arrOf st) k = KK κ (arrOf st) (lo + n - 1) := fun k k1 k2 =>
          KeyOrd.kle_antisymm (hu k (lo + n - 1) k1 (by omega) (by omega)) (KeyOrd.kle_trans hr (hu lo k (Nat.le_refl _) k1 k2))
        refine wpS_bind (wpS_reverse (w_dnP hO hz hm (by omega) (hB.put (mirror_perm _ _ _ _)) ?_ fun j st2 b1 b2 b3 b4 b5 => h j st2 b1 ((kp_mirror hsz (Nat.le_refl _)).tr b2) b3 b4 b5))
        have hd : Dn κ (arrOf st) lo (lo + n) := fun i j g1 g2 g3 => by rw [hall i (by omega) (by omega), hall j (by omega) (by omega)]; exact KeyOrd.kle_refl _
        have hd2 := dn_snoc (by omega) hd (KeyOrd.kle_of_klt hlt)
        intro i j g1 g2 g3
        show κ.kle (KK κ (mirror (arrOf st) _ _ _) j) (KK κ (mirror (arrOf st) _ _ _) i)
        rw [KK_mirror_equal hsz hall, KK_mirror_equal hsz hall]
        exact hd2 i j g1 g2 (by omega)
    · rw [if_neg hgt]
      obtain rfl : n = 1 := by omega
      refine w_dnP hO hz hm (by omega) hB ?_ h
      refine dn_snoc (by omega) (fun i j g1 g2 g3 => ?_) (KeyOrd.kle_of_klt hlt)
      obtain rfl : i = j := by omega
      exact KeyOrd.kle_refl _
theorem w_ins {st : SortSt} {lo n ok : Nat} {Q : Bool → SortSt → Prop} (hO : LtR prog w A E s κ kd) (hz : KeysOf κ z) (hn : lo + n ≤ z.size) (h1 : 1 ≤ ok) (hok : ok ≤ n) (hB : SB kd z st) (hs : Up κ (arrOf st) lo (lo + ok))
    (h : ∀ st', SB kd z st' → Kp lo st st' → Up κ (arrOf st') lo (lo + n) → Q true st') : wpS (model prog w) A E s (binarySort' lo n ok) Q st := by
  rw [binarySort'_eq]
  refine wpS_bind (wpS_mono (wpS_forRange (I := fun k c st' => c = (none, ()) ∧ SB kd z st' ∧ Kp lo st st' ∧ Up κ (arrOf st') lo (lo + k)) (Q := fun c st' => c = (none, ()) ∧ SB kd z st' ∧ Kp lo st st' ∧ Up κ (arrOf st') lo (lo + n)) ?sp ?fi ?ini) ?po)
  case po =>
    rintro c st' ⟨rfl, hB', hk', hu⟩
    exact wpS_pure (h st' hB' hk' hu)
  case ini =>
    rw [Nat.max_eq_left h1]
    exact ⟨rfl, hB, Kp.rfl', hs⟩
  case fi =>
    rintro c st' ⟨hc, hB', hk', hu⟩
    rw [Nat.max_eq_left h1, Nat.max_eq_right hok] at hu
    exact ⟨hc, hB', hk', hu⟩
  case sp =>
    rintro k c st' hak hkn ⟨rfl, hB', hk', hu⟩
    have hk : lo + k < z.size := by omega
    refine wpS_bind (wpS_mono (wpS_forRange (I := fun x c st2 => st2 = st' ∧ ∃ l r, c = (none, l, r) ∧ l ≤ r ∧ r ≤ k ∧ r - l ≤ k - x ∧ (∀ i, i < l → κ.kle (KK κ (arrOf st') (lo + i)) (KK κ (arrOf st') (lo + k))) ∧ (∀ i, r ≤ i → i < k → κ.klt (KK κ (arrOf st') (lo + k)) (KK κ (arrOf st') (lo + i))))
      (Q := fun c st2 => st2 = st' ∧ ∃ l r, c = (none, l, r) ∧ l ≤ k ∧ (∀ i, i < l → κ.kle (KK κ (arrOf st') (lo + i)) (KK κ (arrOf st') (lo + k))) ∧ (∀ i, l ≤ i → i < k → κ.klt (KK κ (arrOf st') (lo + k)) (KK κ (arrOf st') (lo + i)))) ?isp ?ifi ?iini) ?ipo)
    case iini => exact ⟨rfl, 0, k, rfl, Nat.zero_le _, Nat.le_refl _, by omega, fun i g => absurd g (Nat.not_lt_zero i), fun i g1 g2 => absurd g2 (Nat.not_lt.mpr g1)⟩
    case ifi =>
      rintro c st2 ⟨rfl, l, r, rfl, hlr, hrk, hx, hlo, hhi⟩
      obtain rfl : l = r := by omega
      exact ⟨rfl, l, l, rfl, hrk, hlo, hhi⟩
    case isp =>
      rintro x c st2 _ hxk ⟨rfl, l, r, rfl, hlr, hrk, hx, hlo, hhi⟩
      dsimp only
      by_cases hge : l ≥ r
      · rw [if_pos hge]
        obtain rfl : l = r := by omega
        exact wpS_pure ⟨rfl, l, l, rfl, hrk, hlo, hhi⟩
      · rw [if_neg hge]
        refine wpS_bind (w_lt hO hB' hz hk (by omega) ?_)
        cases hl : κ.blt (KK κ (arrOf st2) (lo + k)) (KK κ (arrOf st2) (lo + (l + r) / 2)) with
        | true =>
          simp only [if_true]
          exact wpS_pure ⟨rfl, l, (l + r) / 2, rfl, by omega, by omega, by omega, hlo, fun i g1 g2 => KeyOrd.klt_of_klt_of_kle hl (hu _ _ (by omega) (by omega) (by omega))⟩
        | false =>
          simp only [Bool.false_eq_true, if_false]
          exact wpS_pure ⟨rfl, (l + r) / 2 + 1, r, rfl, by omega, by omega, by omega, fun i g => KeyOrd.kle_trans (hu (lo + i) (lo + (l + r) / 2) (by omega) (by omega) (by omega)) hl, hhi⟩
    case ipo =>
      rintro c st2 ⟨rfl, l, r, rfl, hlk, hlo, hhi⟩
      show wpS _ _ _ _ (do moveDown' (lo + k) (lo + l); pure (ForInStep.yield (none, ()))) _ _
      rw [moveDown'_eq]
      have hks : lo + k < (arrOf st2).size := by rw [hB'.sz]; exact hk
      refine wpS_bind (wpS_modify (wpS_pure ⟨rfl, hB'.put (bubble_perm _ _ _), hk'.tr ⟨fun i hi => ?_, rfl⟩, ?_⟩))
      · show (bubble (arrOf st2) (lo + k) (lo + k - (lo + l)))[i]? = _
        rw [getElem?_bubble hks _ (by omega), if_neg (by omega), if_neg (by omega)]
      intro i j g1 g2 g3
      show κ.kle (KK κ (bubble (arrOf st2) (lo + k) (lo + k - (lo + l))) i) (KK κ (bubble (arrOf st2) (lo + k) (lo + k - (lo + l))) j)
      rw [KK_bubble hks (by omega), KK_bubble hks (by omega), Nat.sub_sub_self (Nat.add_le_add_left hlk lo)]
      have hlo' : ∀ i, lo ≤ i → i < lo + l → κ.kle (KK κ (arrOf st2) i) (KK κ (arrOf st2) (lo + k)) := fun i g1 g2 => by
        have := hlo (i - lo) (by omega)
        rwa [Nat.add_sub_cancel' g1] at this
      have hhi' : ∀ i, lo + l ≤ i → i < lo + k → κ.klt (KK κ (arrOf st2) (lo + k)) (KK κ (arrOf st2) i) := fun i g1 g2 => by
        have := hhi (i - lo) (by omega) (by omega)
        rwa [Nat.add_sub_cancel' (Nat.le_trans (Nat.le_add_right lo l) g1)] at this
      repeat' split
      all_goals first
        | (exfalso; omega)
        | exact KeyOrd.kle_refl _
        | exact hlo' _ (by omega) (by omega)
        | exact KeyOrd.kle_of_klt (hhi' _ (by omega) (by omega))
        | exact hu _ _ (by omega) (by omega) (by omega)
end
end SR

set_option autoImplicit false
set_option linter.all false
set_option maxRecDepth 100000
namespace SR
open PySem PyProof.Rows
noncomputable def gal' : Bool → Keyed → Array Keyed → Nat → Nat → Nat → StateT SortSt Sem (Option Nat) := sortPriv% PySem.Builtin.gallop
noncomputable def bq (left : Bool) (key : Keyed) (arr : Array Keyed) (base : Nat) (i : Nat) : StateT SortSt Sem (Option Bool) := do
  let x ← elem' arr (base + i)
  if left then lt' x key else return (← lt' key x).map (!·)
theorem gal'_eq (left : Bool) (key : Keyed) (arr : Array Keyed) (base n hint : Nat) : gal' left key arr base n hint = (do
  let mut la := 0
  let mut po := 1
  let mut l := 0
  let mut h := 0
  let some r0 ← bq left key arr base hint | return none
  if r0 then
    let mx := n - hint
    for _ in [0:n] do
      if po ≥ mx then break
      let some mo ← bq left key arr base (hint + po) | return none
      if !mo then break
      la := po
      po := 2 * po + 1
    l := hint + la + 1
    h := hint + min po mx
  else
    let mx := hint + 1
    for _ in [0:n] do
      if po ≥ mx then break
      let some mo ← bq left key arr base (hint - po) | return none
      if mo then break
      la := po
      po := 2 * po + 1
    l := hint + 1 - min po mx
    h := hint - la
  for _ in [0:n] do
    if l ≥ h then break
    let m := l + (h - l) / 2
    let some mo ← bq left key arr base m | return none
    if mo then l := m + 1 else h := m
  return some h) := rfl
section
variable {prog : Program} {w : World} {A : Around} {E : Value → Shared → Prop} {s : Shared} {z : Array Keyed} {κ : KeyKind} {kd : SortKind}
theorem w_eq {α : Type} {m m' : StateT SortSt Sem α} {Q : α → SortSt → Prop} {st : SortSt} (e : m = m') (h : wpS (model prog w) A E s m' Q st) : wpS (model prog w) A E s m Q st := e ▸ h
theorem w_lt2 {st : SortSt} {x y : Keyed} {a b : κ.α} {Q : Option Bool → SortSt → Prop} (hO : LtR prog w A E s κ kd) (hk : kindOf st = kd) (ha : κ.keyOf x.1 = some a) (hb : κ.keyOf y.1 = some b) (h : Q (some (κ.blt a b)) st) :
    wpS (model prog w) A E s (lt' x y) Q st := hO st x y a b Q hk ha hb h
theorem w_bq {st : SortSt} {left : Bool} {key x : Keyed} {arr : Array Keyed} {base i : Nat} {a b : κ.α} {Q : Option Bool → SortSt → Prop} (hO : LtR prog w A E s κ kd) (hk : kindOf st = kd) (hx : arr[base + i]? = some x) (ha : κ.keyOf x.1 = some a) (hb : κ.keyOf key.1 = some b)
    (h : Q (some (if left = true then κ.blt a b else !κ.blt b a)) st) : wpS (model prog w) A E s (bq left key arr base i) Q st := by
  unfold bq
  rw [elem'_eq, hx]
  refine wpS_bind (wpS_pure ?_)
  cases left with
  | true => exact w_lt2 hO hk ha hb (by simpa using h)
  | false =>
    simp only [Bool.false_eq_true, if_false] at h ⊢
    exact wpS_bind (w_lt2 hO hk hb ha (wpS_pure h))
noncomputable def srch (left : Bool) (key : Keyed) (arr : Array Keyed) (base n l h : Nat) : StateT SortSt Sem (Option Nat) := do
  let c ← forIn [0:n] ((none, l, h) : Option (Option Nat) × Nat × Nat) fun _ c =>
    if c.snd.fst ≥ c.snd.snd then pure (ForInStep.done (none, c.snd.fst, c.snd.snd))
    else do
      let o ← bq left key arr base (c.snd.fst + (c.snd.snd - c.snd.fst) / 2)
      match o with
      | some mo => if mo = true then pure (ForInStep.yield (none, c.snd.fst + (c.snd.snd - c.snd.fst) / 2 + 1, c.snd.snd)) else pure (ForInStep.yield (none, c.snd.fst, c.snd.fst + (c.snd.snd - c.snd.fst) / 2))
      | _ => pure (ForInStep.done (some none, c.snd.fst, c.snd.snd))
  match c.fst with
  | some r => pure r
  | none => pure (some c.snd.snd)
theorem w_srch {st : SortSt} {left : Bool} {key : Keyed} {arr : Array Keyed} {base n l h : Nat} {b : Nat → Bool} {Q : Option Nat → SortSt → Prop}
    (hb : ∀ i (R : Option Bool → SortSt → Prop), i < n → R (some (b i)) st → wpS (model prog w) A E s (bq left key arr base i) R st)
    (hm : ∀ i j, i ≤ j → j < n → b j = true → b i = true) (hlh : l ≤ h) (hn : h ≤ n) (h1 : ∀ i, i < l → b i = true) (h2 : ∀ i, h ≤ i → i < n → b i = false)
    (hq : ∀ k, k ≤ n → (∀ i, i < k → b i = true) → (∀ i, k ≤ i → i < n → b i = false) → Q (some k) st) : wpS (model prog w) A E s (srch left key arr base n l h) Q st := by
  unfold srch
  refine wpS_bind (wpS_mono (wpS_forRange (I := fun x c st2 => st2 = st ∧ ∃ l h, c = (none, l, h) ∧ l ≤ h ∧ h ≤ n ∧ h - l ≤ n - x ∧ (∀ i, i < l → b i = true) ∧ ∀ i, h ≤ i → i < n → b i = false)
    (Q := fun c st2 => st2 = st ∧ ∃ k, c.1 = none ∧ c.2.2 = k ∧ k ≤ n ∧ (∀ i, i < k → b i = true) ∧ ∀ i, k ≤ i → i < n → b i = false) ?sp ?fi ⟨rfl, l, h, rfl, hlh, hn, by omega, h1, h2⟩) ?po)
  case po =>
    rintro ⟨o, x, y⟩ st2 ⟨rfl, k, e1, rfl, g1, g2, g3⟩
    dsimp only at e1 g1 g2 g3 ⊢
    subst e1
    exact wpS_pure (hq y g1 g2 g3)
  case fi =>
    rintro c st2 ⟨rfl, l, h, rfl, g1, g2, g3, g4, g5⟩
    obtain rfl : l = h := by omega
    exact ⟨rfl, l, rfl, rfl, g2, g4, g5⟩
  case sp =>
    rintro x c st2 _ hx ⟨rfl, l, h, rfl, g1, g2, g3, g4, g5⟩
    dsimp only
    by_cases hge : l ≥ h
    · rw [if_pos hge]
      obtain rfl : l = h := by omega
      exact wpS_pure ⟨rfl, l, rfl, rfl, g2, g4, g5⟩
    · rw [if_neg hge]
      refine wpS_bind (hb (l + (h - l) / 2) _ (by omega) ?_)
      dsimp only
      cases hq2 : b (l + (h - l) / 2) with
      | true =>
        simp only [if_true]
        exact wpS_pure ⟨rfl, l + (h - l) / 2 + 1, h, rfl, by omega, by omega, by omega, fun i hi => hm i (l + (h - l) / 2) (by omega) (by omega) hq2, g5⟩
      | false =>
        simp only [Bool.false_eq_true, if_false]
        refine wpS_pure ⟨rfl, l, l + (h - l) / 2, rfl, by omega, by omega, by omega, g4, fun i hi hi2 => ?_⟩
        cases hbi : b i with
        | false => rfl
        | true => rw [hm _ i hi hi2 hbi] at hq2; cases hq2
theorem w_gal {st : SortSt} {left : Bool} {key : Keyed} {arr : Array Keyed} {base n hint : Nat} {b : Nat → Bool} {Q : Option Nat → SortSt → Prop} (hh : hint < n)
    (hb : ∀ i (R : Option Bool → SortSt → Prop), i < n → R (some (b i)) st → wpS (model prog w) A E s (bq left key arr base i) R st)
    (hm : ∀ i j, i ≤ j → j < n → b j = true → b i = true)
    (h : ∀ k, k ≤ n → (∀ i, i < k → b i = true) → (∀ i, k ≤ i → i < n → b i = false) → Q (some k) st) : wpS (model prog w) A E s (gal' left key arr base n hint) Q st := by
  rw [gal'_eq]
  dsimp only
  refine wpS_bind (hb hint _ hh ?_)
  dsimp only
  cases h0 : b hint with
  | true =>
    rw [if_pos rfl]
    refine wpS_bind (wpS_mono (wpS_forRange (I := fun x c st2 => st2 = st ∧ ∃ la po, c = (none, la, po) ∧ la < po ∧ x + 1 ≤ po ∧ hint + la < n ∧ b (hint + la) = true)
      (Q := fun c st2 => st2 = st ∧ ∃ la po, c = (none, la, po) ∧ la < po ∧ hint + la < n ∧ b (hint + la) = true ∧ (n - hint ≤ po ∨ (hint + po < n ∧ b (hint + po) = false))) ?sp ?fi ⟨rfl, 0, 1, rfl, by omega, by omega, hh, h0⟩) ?po)
    case fi =>
      rintro c st2 ⟨rfl, la, po, rfl, g1, g2, g3, g4⟩
      exact ⟨rfl, la, po, rfl, g1, g3, g4, .inl (by omega)⟩
    case sp =>
      rintro x c st2 _ hx ⟨rfl, la, po, rfl, g1, g2, g3, g4⟩
      dsimp only
      by_cases hge : po ≥ n - hint
      · rw [if_pos hge]
        exact wpS_pure ⟨rfl, la, po, rfl, g1, g3, g4, .inl hge⟩
      · rw [if_neg hge]
        refine wpS_bind (hb (hint + po) _ (by omega) ?_)
        dsimp only
        cases hq2 : b (hint + po) with
        | true =>
          simp only [Bool.not_true, Bool.false_eq_true, if_false]
          exact wpS_pure ⟨rfl, po, 2 * po + 1, rfl, by omega, by omega, by omega, hq2⟩
        | false =>
          simp only [Bool.not_false, if_true]
          exact wpS_pure ⟨rfl, la, po, rfl, g1, g3, g4, .inr ⟨by omega, hq2⟩⟩
    case po =>
      rintro c st2 ⟨rfl, la, po, rfl, g1, g3, g4, g5⟩
      dsimp only
      refine w_eq (m' := srch left key arr base n (hint + la + 1) (hint + min po (n - hint))) (bnd rfl fun c => by obtain ⟨r, x, y⟩ := c; cases r <;> rfl) ?_
      refine w_srch hb hm (by omega) (by omega) (fun i hi => hm i (hint + la) (by omega) g3 g4) (fun i hi hi2 => ?_) h
      rcases g5 with g5 | ⟨g5, g6⟩
      · omega
      · cases hbi : b i with
        | false => rfl
        | true => rw [hm (hint + po) i (by omega) hi2 hbi] at g6; cases g6
  | false =>
    rw [if_neg Bool.false_ne_true]
    refine wpS_bind (wpS_mono (wpS_forRange (I := fun x c st2 => st2 = st ∧ ∃ la po, c = (none, la, po) ∧ la < po ∧ x + 1 ≤ po ∧ la ≤ hint ∧ b (hint - la) = false)
      (Q := fun c st2 => st2 = st ∧ ∃ la po, c = (none, la, po) ∧ la < po ∧ la ≤ hint ∧ b (hint - la) = false ∧ (hint + 1 ≤ po ∨ (po ≤ hint ∧ b (hint - po) = true))) ?sp ?fi ⟨rfl, 0, 1, rfl, by omega, by omega, by omega, h0⟩) ?po)
    case fi =>
      rintro c st2 ⟨rfl, la, po, rfl, g1, g2, g3, g4⟩
      exact ⟨rfl, la, po, rfl, g1, g3, g4, .inl (by omega)⟩
    case sp =>
      rintro x c st2 _ hx ⟨rfl, la, po, rfl, g1, g2, g3, g4⟩
      dsimp only
      by_cases hge : po ≥ hint + 1
      · rw [if_pos hge]
        exact wpS_pure ⟨rfl, la, po, rfl, g1, g3, g4, .inl hge⟩
      · rw [if_neg hge]
        refine wpS_bind (hb (hint - po) _ (by omega) ?_)
        dsimp only
        cases hq2 : b (hint - po) with
        | true =>
          simp only [if_true]
          exact wpS_pure ⟨rfl, la, po, rfl, g1, g3, g4, .inr ⟨by omega, hq2⟩⟩
        | false =>
          simp only [Bool.false_eq_true, if_false]
          exact wpS_pure ⟨rfl, po, 2 * po + 1, rfl, by omega, by omega, by omega, hq2⟩
    case po =>
      rintro c st2 ⟨rfl, la, po, rfl, g1, g3, g4, g5⟩
      dsimp only
      refine w_eq (m' := srch left key arr base n (hint + 1 - min po (hint + 1)) (hint - la)) (bnd rfl fun c => by obtain ⟨r, x, y⟩ := c; cases r <;> rfl) ?_
      refine w_srch hb hm (by omega) (by omega) (fun i hi => ?_) (fun i hi hi2 => ?_) h
      · rcases g5 with g5 | ⟨g5, g6⟩
        · omega
        · exact hm i (hint - po) (by omega) (by omega) g6
      · cases hbi : b i with
        | false => rfl
        | true => rw [hm (hint - la) i (by omega) hi2 hbi] at g4; cases g4
end
end SR

set_option autoImplicit false
set_option linter.all false
set_option maxRecDepth 100000
namespace SR
open PySem PyProof.Rows
set_option genInjectivity false in
structure MI (R : Keyed → Keyed → Prop) (Z o ra rb : List Keyed) : Prop where
  so : o.Pairwise R
  be : ∀ x ∈ o, ∀ y, y ∈ ra ∨ y ∈ rb → R x y
  pm : (o ++ (ra ++ rb)).Perm Z
  sa : ra.Pairwise R
  sb : rb.Pairwise R
theorem MI.sw {R : Keyed → Keyed → Prop} {Z o ra rb : List Keyed} (h : MI R Z o ra rb) : MI R Z o rb ra :=
  ⟨h.so, fun x hx y hy => h.be x hx y hy.symm, ((List.perm_append_comm (l₁ := rb) (l₂ := ra)).append_left o).trans h.pm, h.sb, h.sa⟩
theorem MI.blk {R : Keyed → Keyed → Prop} {Z o u ra rb : List Keyed} (h : MI R Z o (u ++ ra) rb) (hu : ∀ x ∈ u, ∀ y ∈ rb, R x y) : MI R Z (o ++ u) ra rb := by
  obtain ⟨s1, s2, s3⟩ := List.pairwise_append.mp h.sa
  refine ⟨List.pairwise_append.mpr ⟨h.so, s1, fun x hx y hy => h.be x hx y (.inl (List.mem_append_left _ hy))⟩, fun x hx y hy => ?_, ?_, s2, h.sb⟩
  · rcases List.mem_append.mp hx with g | g
    · exact h.be x g y (hy.imp_left (List.mem_append_right _))
    · rcases hy with hy | hy
      · exact s3 x g y hy
      · exact hu x g y hy
  · have := h.pm
    rw [List.append_assoc] at this ⊢
    exact this
noncomputable def Fi (R : Keyed → Keyed → Prop) (Z : List Keyed) (r : Array Keyed) : Prop := r.toList.Perm Z ∧ r.toList.Pairwise R
theorem MI.fin {R : Keyed → Keyed → Prop} {Z o ra : List Keyed} (h : MI R Z o ra []) : (o ++ ra).Perm Z ∧ (o ++ ra).Pairwise R := by
  refine ⟨?_, List.pairwise_append.mpr ⟨h.so, h.sa, fun x hx y hy => h.be x hx y (.inl hy)⟩⟩
  have := h.pm
  rw [List.append_nil] at this
  exact this
theorem ext_from (a : Array Keyed) (i : Nat) : (a.extract i a.size).toList = a.toList.drop i := by
  rw [Array.toList_extract, List.extract_eq_take_drop]
  exact List.take_of_length_le (by rw [List.length_drop, Array.length_toList]; exact Nat.le_refl _)
theorem ext_mid (a : Array Keyed) (i k : Nat) : (a.extract i (i + k)).toList = (a.toList.drop i).take k := by
  rw [Array.toList_extract, List.extract_eq_take_drop, Nat.add_sub_cancel_left]
theorem drop_cons {a : Array Keyed} {i : Nat} (h : i < a.size) : a.toList.drop i = a[i] :: a.toList.drop (i + 1) := by
  rw [List.drop_eq_getElem_cons (by rw [Array.length_toList]; exact h), Array.getElem_toList]
theorem split_at (a : Array Keyed) (i k : Nat) : a.toList.drop i = (a.toList.drop i).take k ++ a.toList.drop (i + k) := by
  rw [← List.drop_drop, List.take_append_drop]
theorem MI.pushA {R : Keyed → Keyed → Prop} {Z : List Keyed} {o a : Array Keyed} {i : Nat} {rb : List Keyed} (h : MI R Z o.toList (a.toList.drop i) rb) (hi : i < a.size) (hu : ∀ y ∈ rb, R a[i] y) : MI R Z (o.push a[i]).toList (a.toList.drop (i + 1)) rb := by
  rw [drop_cons hi, ← List.singleton_append] at h
  have := h.blk fun x hx y hy => by rw [List.mem_singleton.mp hx]; exact hu y hy
  rw [Array.toList_push]
  exact this
theorem MI.blkA {R : Keyed → Keyed → Prop} {Z : List Keyed} {o a : Array Keyed} {i k : Nat} {rb : List Keyed} (h : MI R Z o.toList (a.toList.drop i) rb) (hu : ∀ x ∈ (a.toList.drop i).take k, ∀ y ∈ rb, R x y) : MI R Z (o ++ a.extract i (i + k)).toList (a.toList.drop (i + k)) rb := by
  rw [split_at a i k] at h
  rw [Array.toList_append, ext_mid]
  exact h.blk hu
theorem MI.doneA {R : Keyed → Keyed → Prop} {Z : List Keyed} {o a b : Array Keyed} {i j : Nat} (h : MI R Z o.toList (a.toList.drop i) (b.toList.drop j)) (hj : b.size ≤ j) : Fi R Z (o ++ a.extract i a.size ++ b.extract j b.size) := by
  unfold Fi
  rw [List.drop_eq_nil_of_le (as := b.toList) (by rw [Array.length_toList]; exact hj)] at h
  rw [Array.toList_append, Array.toList_append, ext_from, ext_from, List.drop_eq_nil_of_le (as := b.toList) (by rw [Array.length_toList]; exact hj), List.append_nil]
  exact h.fin
theorem MI.doneB {R : Keyed → Keyed → Prop} {Z : List Keyed} {o a b : Array Keyed} {i j : Nat} (h : MI R Z o.toList (a.toList.drop i) (b.toList.drop j)) (hi : a.size ≤ i) : Fi R Z (o ++ a.extract i a.size ++ b.extract j b.size) := by
  unfold Fi
  rw [List.drop_eq_nil_of_le (as := a.toList) (by rw [Array.length_toList]; exact hi)] at h
  rw [Array.toList_append, Array.toList_append, ext_from, ext_from, List.drop_eq_nil_of_le (as := a.toList) (by rw [Array.length_toList]; exact hi), List.append_nil]
  exact h.sw.fin
theorem MI.lastA {R : Keyed → Keyed → Prop} {Z : List Keyed} {o a b : Array Keyed} {i j : Nat} (h : MI R Z o.toList (a.toList.drop i) (b.toList.drop j)) (hi : i + 1 = a.size) (hl : ∀ y ∈ b.toList, ∀ x, a.toList.getLast? = some x → R y x) : Fi R Z (o ++ b.extract j b.size ++ a.extract i a.size) := by
  unfold Fi
  have e : a.toList.drop i = [a[i]'(by omega)] := by
    rw [drop_cons (by omega), List.drop_eq_nil_of_le (by rw [Array.length_toList]; omega)]
  have el : a.toList.getLast? = some (a[i]'(by omega)) := by
    rw [List.getLast?_eq_getElem?, Array.length_toList, show a.size - 1 = i by omega, Array.getElem?_toList, getElem?_pos a i (by omega)]
  rw [Array.toList_append, Array.toList_append, ext_from, ext_from]
  have h2 : MI R Z (o.toList ++ b.toList.drop j) (a.toList.drop i) [] := by
    have h3 := h.sw
    rw [show b.toList.drop j = b.toList.drop j ++ [] from (List.append_nil _).symm] at h3
    refine (h3.blk fun x hx y hy => ?_).sw
    rw [e, List.mem_singleton] at hy
    rw [hy]
    exact hl x (List.mem_of_mem_drop hx) _ el
  exact h2.fin
noncomputable def setG (g : Nat) : StateT SortSt Sem Unit := modify fun s => SortSt.mk' (kindOf s) (arrOf s) (pendingOf s) g (failedOf s)
noncomputable def mLo' : Array Keyed → Array Keyed → StateT SortSt Sem (Array Keyed) := sortPriv% PySem.Builtin.mergeLo
theorem ex4 {α β γ δ ε : Type} {P : ε → Prop} {f : α → β → γ → δ → ε} {A : Prop} {R L : α → β → γ → δ → Prop} (h : ∀ a b c d, A → R a b c d → L a b c d → P (f a b c d)) : ∀ e, (A ∧ ∃ a b c d, e = f a b c d ∧ R a b c d ∧ L a b c d) → P e := by
  rintro e ⟨x, a, b, c, d, rfl, r, l⟩
  exact h a b c d x r l
theorem ex5 {α β γ δ ζ ε : Type} {P : ε → Prop} {f : α → β → γ → δ → ζ → ε} {A : Prop} {R L : α → β → γ → δ → ζ → Prop} (h : ∀ a b c d z, A → R a b c d z → L a b c d z → P (f a b c d z)) : ∀ e, (A ∧ ∃ a b c d z, e = f a b c d z ∧ R a b c d z ∧ L a b c d z) → P e := by
  rintro e ⟨x, a, b, c, d, z, rfl, r, l⟩
  exact h a b c d z x r l
theorem ex6 {α β γ δ ζ η ε : Type} {P : ε → Prop} {f : α → β → γ → δ → ζ → η → ε} {A : Prop} {R L : α → β → γ → δ → ζ → η → Prop} (h : ∀ a b c d z y, A → R a b c d z y → L a b c d z y → P (f a b c d z y)) : ∀ e, (A ∧ ∃ a b c d z y, e = f a b c d z y ∧ R a b c d z y ∧ L a b c d z y) → P e := by
  rintro e ⟨x, a, b, c, d, z, y, rfl, r, l⟩
  exact h a b c d z y x r l
theorem or6 {α β γ δ ρ : Type} {P : Option α × β × γ × δ × ρ → Prop} {A : Prop} {F : α → Prop} (G L : β → γ → δ → Prop) (h1 : ∀ r b c d e, A → F r → P (some r, b, c, d, e)) (h2 : ∀ b c d e, A → G b c d → L b c d → P (none, b, c, d, e)) :
    ∀ x, (A ∧ ((∃ r, x.1 = some r ∧ F r) ∨ (x.1 = none ∧ G x.2.1 x.2.2.1 x.2.2.2.1 ∧ L x.2.1 x.2.2.1 x.2.2.2.1))) → P x := by
  rintro ⟨o, b, c, d, e⟩ ⟨x, ⟨r, e1, f⟩ | ⟨e1, g, l⟩⟩
  · obtain rfl : o = some r := e1
    exact h1 r b c d e x f
  · obtain rfl : o = none := e1
    exact h2 b c d e x g l
noncomputable def mLoT (a b o : Array Keyed) (i j : Nat) : StateT SortSt Sem (Array Keyed) := do
  let tot := a.size + b.size
  let dn (o : Array Keyed) (i j : Nat) := o ++ a.extract i a.size ++ b.extract j b.size
  let la (o : Array Keyed) (i j : Nat) := o ++ b.extract j b.size ++ a.extract i a.size
  let mut o := o
  let mut i := i
  let mut j := j
  let mut g := gallopOf (← get)
  for _ in [0:tot] do
    let mut p := 0
    let mut q := 0
    for _ in [0:tot] do
      let some t ← lt' (← elem' b j) (← elem' a i) | return dn o i j
      if t then
        o := o.push (← elem' b j); j := j + 1; q := q + 1; p := 0
        if j == b.size then return dn o i j
        if q ≥ g then break
      else
        o := o.push (← elem' a i); i := i + 1; p := p + 1; q := 0
        if i + 1 == a.size then return la o i j
        if p ≥ g then break
    rule "list.sort.gallop"
    g := g + 1
    for _ in [0:tot] do
      if g > 1 then g := g - 1
      setG g
      let some k ← gal' false (← elem' b j) a i (a.size - i) 0 | return dn o i j
      p := k
      if k > 0 then
        o := o ++ a.extract i (i + k); i := i + k
        if i + 1 == a.size then return la o i j
        if i == a.size then return dn o i j
      o := o.push (← elem' b j); j := j + 1
      if j == b.size then return dn o i j
      let some k ← gal' true (← elem' a i) b j (b.size - j) 0 | return dn o i j
      q := k
      if k > 0 then
        o := o ++ b.extract j (j + k); j := j + k
        if j == b.size then return dn o i j
      o := o.push (← elem' a i); i := i + 1
      if i + 1 == a.size then return la o i j
      if p < 7 && q < 7 then break
    g := g + 1
    setG g
  unsupported "internal:list.sort.merge-bound"
theorem mLo'_eq (a b : Array Keyed) : mLo' a b = (do
  rule "list.sort.merge-lo"
  let x ← elem' b 0
  if 1 == b.size then return #[x] ++ a.extract 0 a.size ++ b.extract 1 b.size
  if 0 + 1 == a.size then return #[x] ++ b.extract 1 b.size ++ a.extract 0 a.size
  mLoT a b #[x] 0 1) := rfl
noncomputable def kf (κ : KeyKind) (p : Keyed) : κ.α := (κ.keyOf p.1).getD κ.dflt
noncomputable def Le (κ : KeyKind) (x y : Keyed) : Prop := κ.kle (kf κ x) (kf κ y)
noncomputable def Hk (κ : KeyKind) (x : Keyed) : Prop := ∃ c, κ.keyOf x.1 = some c
set_option genInjectivity false in
structure Ev (st st' : SortSt) : Prop where
  knd : kindOf st' = kindOf st
  arr : arrOf st' = arrOf st
  pen : pendingOf st' = pendingOf st
  ffl : failedOf st' = failedOf st
theorem Ev.r {st : SortSt} : Ev st st := ⟨rfl, rfl, rfl, rfl⟩
theorem Ev.t {a b c : SortSt} (h : Ev a b) (h' : Ev b c) : Ev a c := ⟨h'.knd.trans h.knd, h'.arr.trans h.arr, h'.pen.trans h.pen, h'.ffl.trans h.ffl⟩
section
variable {prog : Program} {w : World} {A : Around} {E : Value → Shared → Prop} {s : Shared} {z : Array Keyed} {κ : KeyKind} {kd : SortKind}
theorem w_el {st : SortSt} {a : Array Keyed} {i : Nat} {Q : Keyed → SortSt → Prop} (hi : i < a.size) (h : Q a[i] st) : wpS (model prog w) A E s (elem' a i) Q st := by
  rw [elem'_eq, getElem?_pos a i hi]
  exact wpS_pure h
theorem w_setG {st : SortSt} {g : Nat} {Q : Unit → SortSt → Prop} (h : ∀ st', Ev st st' → Q () st') : wpS (model prog w) A E s (setG g) Q st := by
  unfold setG
  exact wpS_modify (h _ ⟨rfl, rfl, rfl, rfl⟩)
theorem kf_some {x : Keyed} {c : κ.α} (h : κ.keyOf x.1 = some c) : kf κ x = c := by unfold kf; rw [h]; rfl
theorem w_lt3 {st : SortSt} {x y : Keyed} {Q : Option Bool → SortSt → Prop} (hO : LtR prog w A E s κ kd) (hk : kindOf st = kd) (hx : Hk κ x) (hy : Hk κ y) (h : Q (some (κ.blt (kf κ x) (kf κ y))) st) : wpS (model prog w) A E s (lt' x y) Q st := by
  obtain ⟨c, hc⟩ := hx
  obtain ⟨d, hd⟩ := hy
  rw [kf_some hc, kf_some hd] at h
  exact w_lt2 hO hk hc hd h
theorem w_galR {st : SortSt} {key : Keyed} {a : Array Keyed} {i n hint : Nat} {Q : Option Nat → SortSt → Prop} (hO : LtR prog w A E s κ kd) (hk : kindOf st = kd) (hin : i + n ≤ a.size) (hh : hint < n) (hka : ∀ x ∈ a.toList, Hk κ x) (hkk : Hk κ key) (hs : ((a.toList.drop i).take n).Pairwise (Le κ))
    (h : ∀ k, k ≤ n → (∀ x ∈ (a.toList.drop i).take k, Le κ x key) → (∀ x ∈ (a.toList.drop (i + k)).take (n - k), Le κ key x) → Q (some k) st) : wpS (model prog w) A E s (gal' false key a i n hint) Q st := by
  have get : ∀ t, t < n → ((a.toList.drop i).take n)[t]? = a[i + t]? := fun t ht => by
    rw [List.getElem?_take_of_lt ht, List.getElem?_drop, Array.getElem?_toList]
  have hsz : ∀ t, t < n → i + t < a.size := fun t ht => by omega
  have hmem : ∀ t (ht : t < n), Hk κ (a[i + t]'(hsz t ht)) := fun t ht => hka _ (by simp)
  have hpw : ∀ p q (hq : q < n) (hpq : p ≤ q), Le κ (a[i + p]'(hsz p (by omega))) (a[i + q]'(hsz q hq)) := fun p q hq hpq => by
    rcases Nat.lt_or_eq_of_le hpq with g | g
    · rw [List.pairwise_iff_getElem] at hs
      have hl : ((a.toList.drop i).take n).length = n := by rw [List.length_take, List.length_drop, Array.length_toList]; omega
      have := hs p q (by omega) (by omega) g
      simpa using this
    · subst g; exact KeyOrd.kle_refl _
  refine w_gal (b := fun t => if ht : t < n then !κ.blt (kf κ key) (kf κ (a[i + t]'(hsz t ht))) else false) hh (fun t R ht hR => ?_) (fun p q hpq hq hb => ?_) (fun k hkn h1 h2 => h k hkn (fun x hx => ?_) (fun x hx => ?_))
  · obtain ⟨c, hc⟩ := hmem t ht
    obtain ⟨d, hd⟩ := hkk
    refine w_bq hO hk (getElem?_pos a (i + t) (hsz t ht)) hc hd ?_
    simp only [Bool.false_eq_true, if_false]
    rw [dif_pos ht, kf_some hc, kf_some hd] at hR
    exact hR
  · rw [dif_pos hq] at hb
    rw [dif_pos (by omega)]
    have h3 : κ.kle (kf κ (a[i + q]'(hsz q hq))) (kf κ key) := by simpa [KeyOrd.kle] using hb
    have h4 := KeyOrd.kle_trans (hpw p q hq hpq) h3
    simpa [KeyOrd.kle] using h4
  · obtain ⟨t, ht⟩ := List.mem_iff_getElem?.mp hx
    have htk : t < k := by
      have := (List.getElem?_eq_some_iff.mp ht).1
      rw [List.length_take] at this; omega
    rw [List.getElem?_take_of_lt htk, List.getElem?_drop, Array.getElem?_toList, getElem?_pos a (i + t) (hsz t (by omega))] at ht
    have h3 := h1 t htk
    rw [dif_pos (by omega)] at h3
    rw [← Option.some.inj ht]
    show κ.kle _ _
    simpa [KeyOrd.kle] using h3
  · obtain ⟨t, ht⟩ := List.mem_iff_getElem?.mp hx
    have htk : t < n - k := by
      have := (List.getElem?_eq_some_iff.mp ht).1
      rw [List.length_take] at this; omega
    rw [List.getElem?_take_of_lt htk, List.getElem?_drop, Array.getElem?_toList, show i + k + t = i + (k + t) by omega, getElem?_pos a (i + (k + t)) (hsz (k + t) (by omega))] at ht
    have h3 := h2 (k + t) (by omega) (by omega)
    rw [dif_pos (by omega)] at h3
    rw [← Option.some.inj ht]
    exact KeyOrd.kle_of_klt (by simpa [KeyOrd.klt] using h3)
theorem w_galL {st : SortSt} {key : Keyed} {a : Array Keyed} {i n hint : Nat} {Q : Option Nat → SortSt → Prop} (hO : LtR prog w A E s κ kd) (hk : kindOf st = kd) (hin : i + n ≤ a.size) (hh : hint < n) (hka : ∀ x ∈ a.toList, Hk κ x) (hkk : Hk κ key) (hs : ((a.toList.drop i).take n).Pairwise (Le κ))
    (h : ∀ k, k ≤ n → (∀ x ∈ (a.toList.drop i).take k, Le κ x key) → (∀ x ∈ (a.toList.drop (i + k)).take (n - k), Le κ key x) → Q (some k) st) : wpS (model prog w) A E s (gal' true key a i n hint) Q st := by
  have hsz : ∀ t, t < n → i + t < a.size := fun t ht => by omega
  have hmem : ∀ t (ht : t < n), Hk κ (a[i + t]'(hsz t ht)) := fun t ht => hka _ (by simp)
  have hpw : ∀ p q (hq : q < n) (hpq : p ≤ q), Le κ (a[i + p]'(hsz p (by omega))) (a[i + q]'(hsz q hq)) := fun p q hq hpq => by
    rcases Nat.lt_or_eq_of_le hpq with g | g
    · rw [List.pairwise_iff_getElem] at hs
      have hl : ((a.toList.drop i).take n).length = n := by rw [List.length_take, List.length_drop, Array.length_toList]; omega
      have := hs p q (by omega) (by omega) g
      simpa using this
    · subst g; exact KeyOrd.kle_refl _
  refine w_gal (b := fun t => if ht : t < n then κ.blt (kf κ (a[i + t]'(hsz t ht))) (kf κ key) else false) hh (fun t R ht hR => ?_) (fun p q hpq hq hb => ?_) (fun k hkn h1 h2 => h k hkn (fun x hx => ?_) (fun x hx => ?_))
  · obtain ⟨c, hc⟩ := hmem t ht
    obtain ⟨d, hd⟩ := hkk
    refine w_bq hO hk (getElem?_pos a (i + t) (hsz t ht)) hc hd ?_
    simp only [if_true]
    rw [dif_pos ht, kf_some hc, kf_some hd] at hR
    exact hR
  · rw [dif_pos hq] at hb
    rw [dif_pos (by omega)]
    exact KeyOrd.klt_of_kle_of_klt (hpw p q hq hpq) hb
  · obtain ⟨t, ht⟩ := List.mem_iff_getElem?.mp hx
    have htk : t < k := by
      have := (List.getElem?_eq_some_iff.mp ht).1
      rw [List.length_take] at this; omega
    rw [List.getElem?_take_of_lt htk, List.getElem?_drop, Array.getElem?_toList, getElem?_pos a (i + t) (hsz t (by omega))] at ht
    have h3 := h1 t htk
    rw [dif_pos (by omega)] at h3
    rw [← Option.some.inj ht]
    exact KeyOrd.kle_of_klt h3
  · obtain ⟨t, ht⟩ := List.mem_iff_getElem?.mp hx
    have htk : t < n - k := by
      have := (List.getElem?_eq_some_iff.mp ht).1
      rw [List.length_take] at this; omega
    rw [List.getElem?_take_of_lt htk, List.getElem?_drop, Array.getElem?_toList, show i + k + t = i + (k + t) by omega, getElem?_pos a (i + (k + t)) (hsz (k + t) (by omega))] at ht
    have h3 := h2 (k + t) (by omega) (by omega)
    rw [dif_pos (by omega)] at h3
    rw [← Option.some.inj ht]
    exact h3
end
end SR

set_option autoImplicit false
set_option linter.all false
set_option maxRecDepth 100000
namespace SR
open PySem PyProof.Rows
section
variable {prog : Program} {w : World} {A : Around} {E : Value → Shared → Prop} {s : Shared} {κ : KeyKind} {kd : SortKind}
theorem Le.tr {x y t : Keyed} (h : Le κ x y) (h' : Le κ y t) : Le κ x t := KeyOrd.kle_trans h h'
theorem head_le {l : List Keyed} {x : Keyed} (h : (x :: l).Pairwise (Le κ)) : ∀ y ∈ x :: l, Le κ x y := fun y hy => by
  rcases List.mem_cons.mp hy with g | g
  · rw [g]; exact KeyOrd.kle_refl _
  · exact (List.pairwise_cons.mp h).1 y g
theorem le_drop {a : Array Keyed} {i : Nat} (hi : i < a.size) (h : (a.toList.drop i).Pairwise (Le κ)) : ∀ y ∈ a.toList.drop i, Le κ a[i] y := by
  rw [drop_cons hi] at h ⊢
  exact head_le h
set_option genInjectivity false in
structure GL (κ : KeyKind) (a b o : Array Keyed) (i j : Nat) : Prop where
  mi : MI (Le κ) (a.toList ++ b.toList) o.toList (a.toList.drop i) (b.toList.drop j)
  hi : i + 1 < a.size
  hj : j < b.size
noncomputable abbrev LoSt := Option (Array Keyed) × Array Keyed × Nat × Nat × Nat × Nat × Nat
noncomputable def lo3 (a b o : Array Keyed) (i j g p q : Nat) : StateT SortSt Sem (ForInStep LoSt) := do
  let x ← elem' a i
  if (i + 1 + 1 == a.size) = true then pure (ForInStep.done (some (o.push x ++ b.extract j b.size ++ a.extract (i + 1) a.size), o.push x, i + 1, j, g, p, q))
  else if (decide (p < 7) && decide (q < 7)) = true then pure (ForInStep.done (none, o.push x, i + 1, j, g, p, q)) else pure (ForInStep.yield (none, o.push x, i + 1, j, g, p, q))
noncomputable def lo2 (a b o : Array Keyed) (i j g p q : Nat) : StateT SortSt Sem (ForInStep LoSt) := do
  let x ← elem' b j
  if (j + 1 == b.size) = true then pure (ForInStep.done (some (o.push x ++ a.extract i a.size ++ b.extract (j + 1) b.size), o.push x, i, j + 1, g, p, q))
  else do
    let u ← elem' a i
    let z ← gal' true u b (j + 1) (b.size - (j + 1)) 0
    match z with
    | some k =>
      if k > 0 then
        if (j + 1 + k == b.size) = true then pure (ForInStep.done (some (o.push x ++ b.extract (j + 1) (j + 1 + k) ++ a.extract i a.size ++ b.extract (j + 1 + k) b.size), o.push x ++ b.extract (j + 1) (j + 1 + k), i, j + 1 + k, g, p, k))
        else lo3 a b (o.push x ++ b.extract (j + 1) (j + 1 + k)) i (j + 1 + k) g p k
      else lo3 a b (o.push x) i (j + 1) g p k
    | _ => pure (ForInStep.done (some (o.push x ++ a.extract i a.size ++ b.extract (j + 1) b.size), o.push x, i, j + 1, g, p, q))
noncomputable abbrev LoR (κ : KeyKind) (a b : Array Keyed) (st : SortSt) (m : Nat) : ForInStep LoSt → SortSt → Prop := fun r st' => match r with
  | .yield c => Ev st st' ∧ ∃ o i j g p q, c = (none, o, i, j, g, p, q) ∧ GL κ a b o i j ∧ m ≤ i + j
  | .done c => Ev st st' ∧ ((∃ r, c.1 = some r ∧ Fi (Le κ) (a.toList ++ b.toList) r) ∨ (c.1 = none ∧ GL κ a b c.2.1 c.2.2.1 c.2.2.2.1 ∧ m ≤ c.2.2.1 + c.2.2.2.1))
theorem w_lo3 {st st4 : SortSt} {a b o7 : Array Keyed} {i j g p q m : Nat} (he5 : Ev st st4) (hi : i + 1 < a.size) (hj : j < b.size) (hl : ∀ y ∈ b.toList, ∀ x, a.toList.getLast? = some x → Le κ y x) (m3 : MI (Le κ) (a.toList ++ b.toList) o7.toList (a.toList.drop i) (b.toList.drop j)) (e2' : ∀ x ∈ b.toList.drop j, Le κ (a[i]'(by omega)) x) (hm : m ≤ i + 1 + j) :
    wpS (model prog w) A E s (lo3 a b o7 i j g p q) (LoR κ a b st m) st4 := by
  unfold lo3
  refine wpS_bind (w_el (by omega) ?_)
  have m4 := m3.pushA (by omega) fun y hy => e2' y hy
  by_cases ha4 : i + 1 + 1 = a.size
  · rw [if_pos (by simpa using ha4)]
    exact wpS_pure ⟨he5, .inl ⟨_, rfl, m4.lastA ha4 hl⟩⟩
  rw [if_neg (by simpa using ha4)]
  split
  · exact wpS_pure ⟨he5, .inr ⟨rfl, ⟨m4, by dsimp only; omega, hj⟩, hm⟩⟩
  · exact wpS_pure ⟨he5, _, _, _, _, _, _, rfl, ⟨m4, by omega, hj⟩, hm⟩
theorem w_lo2 {st st4 : SortSt} {a b o5 : Array Keyed} {i j g p q m : Nat} (hO : LtR prog w A E s κ kd) (hk : kindOf st4 = kd) (hka : ∀ x ∈ a.toList, Hk κ x) (hkb : ∀ x ∈ b.toList, Hk κ x) (hl : ∀ y ∈ b.toList, ∀ x, a.toList.getLast? = some x → Le κ y x)
    (he5 : Ev st st4) (hi : i + 1 < a.size) (hj : j < b.size) (m1 : MI (Le κ) (a.toList ++ b.toList) o5.toList (a.toList.drop i) (b.toList.drop j)) (k2' : ∀ x ∈ a.toList.drop i, Le κ b[j] x) (hm : m ≤ i + j) :
    wpS (model prog w) A E s (lo2 a b o5 i j g p q) (LoR κ a b st m) st4 := by
  unfold lo2
  refine wpS_bind (w_el hj ?_)
  have m2 := (m1.sw.pushA hj fun y hy => k2' y hy).sw
  by_cases hb2 : j + 1 = b.size
  · rw [if_pos (by simpa using hb2)]
    exact wpS_pure ⟨he5, .inl ⟨_, rfl, m2.doneA (by omega)⟩⟩
  rw [if_neg (by simpa using hb2)]
  generalize o5.push b[j] = o6 at m2 ⊢
  refine wpS_bind (w_el (by omega) ?_)
  refine wpS_bind (w_galL hO hk (show j + 1 + (b.size - (j + 1)) ≤ b.size by omega) (by omega) hkb (hka _ (by simp)) (m2.sb.sublist (List.take_sublist _ _)) fun e hen e1 e2 => ?_)
  dsimp only
  have e2' : ∀ x ∈ b.toList.drop (j + 1 + e), Le κ (a[i]'(by omega)) x := fun x hx => e2 x (by rw [List.take_of_length_le (by rw [List.length_drop, Array.length_toList]; omega)]; exact hx)
  have m3 := (m2.sw.blkA (k := e) fun x hx y hy => Le.tr (e1 x hx) (le_drop (by omega) m2.sa y hy)).sw
  by_cases hep : e > 0
  · rw [if_pos hep]
    by_cases hb3 : j + 1 + e = b.size
    · rw [if_pos (by simpa using hb3)]
      exact wpS_pure ⟨he5, .inl ⟨_, rfl, m3.doneA (by omega)⟩⟩
    rw [if_neg (by simpa using hb3)]
    exact w_lo3 he5 hi (by omega) hl m3 e2' (by omega)
  · rw [if_neg hep]
    obtain rfl : e = 0 := by omega
    exact w_lo3 he5 hi (by omega) hl m2 e2' (by omega)
theorem w_mLo {st : SortSt} {a b : Array Keyed} {Q : Array Keyed → SortSt → Prop} (hO : LtR prog w A E s κ kd) (hk : kindOf st = kd) (ha : 0 < a.size) (hb : 0 < b.size) (hka : ∀ x ∈ a.toList, Hk κ x) (hkb : ∀ x ∈ b.toList, Hk κ x)
    (sa : a.toList.Pairwise (Le κ)) (sb : b.toList.Pairwise (Le κ)) (h0 : ∀ y ∈ a.toList, Le κ b[0] y) (hl : ∀ y ∈ b.toList, ∀ x, a.toList.getLast? = some x → Le κ y x)
    (h : ∀ r st', Ev st st' → Fi (Le κ) (a.toList ++ b.toList) r → Q r st') : wpS (model prog w) A E s (mLo' a b) Q st := by
  rw [mLo'_eq]
  refine wpS_bind (wpS_lift (wpAny_rule ⟨rfl, ?_⟩))
  refine wpS_bind (w_el hb ?_)
  have m0 : MI (Le κ) (a.toList ++ b.toList) #[b[0]].toList (a.toList.drop 0) (b.toList.drop 1) := by
    have m : MI (Le κ) (a.toList ++ b.toList) (#[] : Array Keyed).toList (b.toList.drop 0) (a.toList.drop 0) := (⟨List.Pairwise.nil, fun x hx => (nomatch hx), List.Perm.refl _, by simpa using sa, by simpa using sb⟩ : MI (Le κ) (a.toList ++ b.toList) [] (a.toList.drop 0) (b.toList.drop 0)).sw
    exact (m.pushA hb (fun y hy => h0 y (List.mem_of_mem_drop hy))).sw
  have mema : ∀ {i : Nat} (g : i < a.size), Hk κ a[i] := fun g => hka _ (by simp)
  have memb : ∀ {i : Nat} (g : i < b.size), Hk κ b[i] := fun g => hkb _ (by simp)
  by_cases hb1 : 1 = b.size
  · rw [if_pos (by simpa using hb1)]
    exact wpS_pure (h _ st Ev.r (m0.doneA (by omega)))
  rw [if_neg (by simpa using hb1)]
  by_cases ha1 : 0 + 1 = a.size
  · rw [if_pos (by simpa using ha1)]
    exact wpS_pure (h _ st Ev.r (m0.lastA ha1 hl))
  rw [if_neg (by simpa using ha1)]
  unfold mLoT
  dsimp only
  refine wpS_bind (wpS_get ?_)
  refine wpS_bind (wpS_mono (wpS_forRange (I := fun x c st' => Ev st st' ∧ ∃ o i j g, c = (none, o, i, j, g) ∧ GL κ a b o i j ∧ x ≤ i + j)
    (Q := fun c st' => Ev st st' ∧ ∃ r, c.1 = some r ∧ Fi (Le κ) (a.toList ++ b.toList) r) ?sp ?fi ⟨Ev.r, _, 0, 1, _, rfl, ⟨m0, by omega, by omega⟩, by omega⟩) ?po)
  case po =>
    rintro ⟨o, rest⟩ st' ⟨he, r, e1, hf⟩
    dsimp only at e1 ⊢
    subst e1
    exact wpS_pure (h r st' he hf)
  case fi =>
    rintro c st' ⟨he, o, i, j, g, rfl, hg, hx⟩
    have := hg.hi
    have := hg.hj
    omega
  case sp =>
    intro x c st1 _ hx
    revert c
    refine ex4 fun o0 i0 j0 g0 he1 hg0 hxx => ?_
    dsimp only
    refine wpS_bind (wpS_mono (wpS_forRange (I := fun x c st' => Ev st st' ∧ ∃ o i j p q, c = (none, o, i, j, p, q) ∧ GL κ a b o i j ∧ i0 + j0 + x ≤ i + j)
      (Q := fun c st' => Ev st st' ∧ ((∃ r, c.1 = some r ∧ Fi (Le κ) (a.toList ++ b.toList) r) ∨ (c.1 = none ∧ GL κ a b c.2.1 c.2.2.1 c.2.2.2.1 ∧ i0 + j0 + 1 ≤ c.2.2.1 + c.2.2.2.1))) ?sp1 ?fi1 ⟨he1, o0, i0, j0, 0, 0, rfl, hg0, by omega⟩) ?po1)
    case fi1 =>
      rintro c st' ⟨he, o, i, j, p, q, rfl, hg, hx2⟩
      exact ⟨he, .inr ⟨rfl, hg, by dsimp only; omega⟩⟩
    case sp1 =>
      intro x1 c st2 _ hx1
      revert c
      refine ex5 fun o i j p q he2 hg hx2 => ?_
      have hi := hg.hi
      have hj := hg.hj
      dsimp only
      refine wpS_bind (w_el hj (wpS_bind (w_el (by omega) ?_)))
      refine wpS_bind (w_lt3 hO (he2.knd.trans hk) (memb hj) (mema (by omega)) ?_)
      dsimp only
      cases ht : κ.blt (kf κ b[j]) (kf κ (a[i]'(by omega))) with
      | true =>
        rw [if_pos rfl]
        refine wpS_bind (w_el hj ?_)
        have m1 := (hg.mi.sw.pushA hj fun y hy => Le.tr (KeyOrd.kle_of_klt ht) (le_drop (by omega) hg.mi.sa y hy)).sw
        by_cases hb2 : j + 1 = b.size
        · rw [if_pos (by simpa using hb2)]
          exact wpS_pure ⟨he2, .inl ⟨_, rfl, m1.doneA (by omega)⟩⟩
        · rw [if_neg (by simpa using hb2)]
          have g1 : GL κ a b (o.push b[j]) i (j + 1) := ⟨m1, hi, by omega⟩
          split
          · exact wpS_pure ⟨he2, .inr ⟨rfl, g1, by dsimp only; omega⟩⟩
          · exact wpS_pure ⟨he2, _, _, _, _, _, rfl, g1, by omega⟩
      | false =>
        rw [if_neg Bool.false_ne_true]
        refine wpS_bind (w_el (by omega) ?_)
        have m1 := hg.mi.pushA (by omega) fun y hy => Le.tr (show Le κ _ b[j] from ht) (le_drop hj hg.mi.sb y hy)
        by_cases ha2 : i + 1 + 1 = a.size
        · rw [if_pos (by simpa using ha2)]
          exact wpS_pure ⟨he2, .inl ⟨_, rfl, m1.lastA ha2 hl⟩⟩
        · rw [if_neg (by simpa using ha2)]
          have g1 : GL κ a b (o.push (a[i]'(by omega))) (i + 1) j := ⟨m1, by omega, hj⟩
          split
          · exact wpS_pure ⟨he2, .inr ⟨rfl, g1, by dsimp only; omega⟩⟩
          · exact wpS_pure ⟨he2, _, _, _, _, _, rfl, g1, by omega⟩
    case po1 =>
      intro c st2
      revert c
      refine or6 (fun o i j => GL κ a b o i j) (fun o i j => i0 + j0 + 1 ≤ i + j) (fun r o1 i1 j1 e he2 hf => ?_) (fun o1 i1 j1 e he2 hg1 hx2 => ?_)
      · exact wpS_pure ⟨he2, r, rfl, hf⟩
      · dsimp only
        refine wpS_bind (wpS_lift (wpAny_rule ⟨rfl, ?_⟩))
        refine wpS_bind (wpS_mono (wpS_forRange (I := fun x c st' => Ev st st' ∧ ∃ o i j g p q, c = (none, o, i, j, g, p, q) ∧ GL κ a b o i j ∧ i1 + j1 ≤ i + j)
          (Q := fun c st' => Ev st st' ∧ ((∃ r, c.1 = some r ∧ Fi (Le κ) (a.toList ++ b.toList) r) ∨ (c.1 = none ∧ GL κ a b c.2.1 c.2.2.1 c.2.2.2.1 ∧ i1 + j1 ≤ c.2.2.1 + c.2.2.2.1))) ?sp2 ?fi2 ⟨he2, o1, i1, j1, _, _, _, rfl, hg1, by omega⟩) ?po2)
        case fi2 =>
          rintro c st' ⟨he, o, i, j, g, p, q, rfl, hg, hx2⟩
          exact ⟨he, .inr ⟨rfl, hg, hx2⟩⟩
        case po2 =>
          intro c st3
          revert c
          refine or6 (fun o i j => GL κ a b o i j) (fun o i j => i1 + j1 ≤ i + j) (fun r o2 i2 j2 e he3 hf => ?_) (fun o2 i2 j2 e he3 hg2 hx3 => ?_)
          · exact wpS_pure ⟨he3, r, rfl, hf⟩
          · dsimp only
            exact wpS_bind (w_setG fun st4 he4 => wpS_pure ⟨he3.t he4, o2, i2, j2, _, rfl, hg2, by omega⟩)
        case sp2 =>
          intro x2 c st3 _ hx3
          revert c
          refine ex6 fun o i j g p q he3 hg hxx2 => ?_
          have hi := hg.hi
          have hj := hg.hj
          dsimp only
          refine have key : ∀ g1 : Nat, wpS (model prog w) A E s ((?F : Nat → StateT SortSt Sem ?α) g1) ?QQ st3 := ?key; ?main
          case main =>
            by_cases hgg : g > 1
            · rw [if_pos hgg]; generalize g - 1 = g1; exact key g1
            · rw [if_neg hgg]; generalize g = g1; exact key g1
          case key =>
            intro g1
            refine wpS_bind (w_setG fun st4 he4 => ?_)
            have he5 := he3.t he4
            refine wpS_bind (w_el hj ?_)
            refine wpS_bind (w_galR hO (he5.knd.trans hk) (show i + (a.size - i) ≤ a.size by omega) (by omega) hka (memb hj) (hg.mi.sa.sublist (List.take_sublist _ _)) fun k hkn k1 k2 => ?_)
            dsimp only
            have k2' : ∀ x ∈ a.toList.drop (i + k), Le κ b[j] x := fun x hx => k2 x (by rw [List.take_of_length_le (by rw [List.length_drop, Array.length_toList]; omega)]; exact hx)
            have m1 := hg.mi.blkA (k := k) fun x hx y hy => Le.tr (k1 x hx) (le_drop hj hg.mi.sb y hy)
            by_cases hkp : k > 0
            · rw [if_pos hkp]
              by_cases ha2 : i + k + 1 = a.size
              · rw [if_pos (by simpa using ha2)]
                exact wpS_pure ⟨he5, .inl ⟨_, rfl, m1.lastA ha2 hl⟩⟩
              rw [if_neg (by simpa using ha2)]
              by_cases ha3 : i + k = a.size
              · rw [if_pos (by simpa using ha3)]
                exact wpS_pure ⟨he5, .inl ⟨_, rfl, m1.doneB (by omega)⟩⟩
              rw [if_neg (by simpa using ha3)]
              refine w_eq (m' := lo2 a b (o ++ a.extract i (i + k)) (i + k) j g1 k q) rfl ?_
              exact wpS_mono (w_lo2 (m := i1 + j1) hO (he5.knd.trans hk) hka hkb hl he5 (by omega) hj m1 k2' (by omega)) fun r st' hr => by cases r <;> exact hr
            · rw [if_neg hkp]
              obtain rfl : k = 0 := by omega
              refine w_eq (m' := lo2 a b o i j g1 0 q) rfl ?_
              exact wpS_mono (w_lo2 (m := i1 + j1) hO (he5.knd.trans hk) hka hkb hl he5 hi hj hg.mi k2' (by omega)) fun r st' hr => by cases r <;> exact hr
end
end SR

set_option autoImplicit false
set_option linter.all false
set_option maxRecDepth 100000
namespace SR
open PySem PyProof.Rows
noncomputable def Ge (κ : KeyKind) (x y : Keyed) : Prop := Le κ y x
noncomputable def rt (a : Array Keyed) (n : Nat) : List Keyed := (a.toList.take n).reverse
theorem rt_cons {a : Array Keyed} {n : Nat} (h : n < a.size) : rt a (n + 1) = a[n] :: rt a n := by
  unfold rt
  rw [List.take_add_one, Array.getElem?_toList, getElem?_pos a n h]
  simp
theorem rt_split {a : Array Keyed} {k n : Nat} (h : k ≤ n) : rt a n = ((a.toList.drop k).take (n - k)).reverse ++ rt a k := by
  unfold rt
  rw [← List.reverse_append]
  congr 1
  rw [show n = k + (n - k) by omega, List.take_add, Nat.add_sub_cancel_left]
theorem ext_rev {a : Array Keyed} {k n : Nat} : (a.extract k n).reverse.toList = ((a.toList.drop k).take (n - k)).reverse := by
  rw [Array.toList_reverse, Array.toList_extract, List.extract_eq_take_drop]
theorem MI.pushT {R : Keyed → Keyed → Prop} {Z : List Keyed} {o a : Array Keyed} {n : Nat} {rb : List Keyed} (h : MI R Z o.toList (rt a (n + 1)) rb) (hn : n < a.size) (hu : ∀ y ∈ rb, R a[n] y) : MI R Z (o.push a[n]).toList (rt a n) rb := by
  rw [rt_cons hn, ← List.singleton_append] at h
  have := h.blk fun x hx y hy => by rw [List.mem_singleton.mp hx]; exact hu y hy
  rw [Array.toList_push]
  exact this
theorem MI.blkT {R : Keyed → Keyed → Prop} {Z : List Keyed} {o a : Array Keyed} {k n : Nat} {rb : List Keyed} (h : MI R Z o.toList (rt a n) rb) (hk : k ≤ n) (hu : ∀ x ∈ (a.toList.drop k).take (n - k), ∀ y ∈ rb, R x y) : MI R Z (o ++ (a.extract k n).reverse).toList (rt a k) rb := by
  rw [rt_split hk] at h
  rw [Array.toList_append, ext_rev]
  exact h.blk fun x hx y hy => hu x (List.mem_reverse.mp hx) y hy
theorem fi_rev {κ : KeyKind} {Z : List Keyed} {r : Array Keyed} {l : List Keyed} (e : r.toList.reverse = l) (h : l.Perm Z ∧ l.Pairwise (Ge κ)) : Fi (Le κ) Z r := by
  have e2 : r.toList = l.reverse := by rw [← e, List.reverse_reverse]
  unfold Fi
  rw [e2]
  exact ⟨(List.reverse_perm l).trans h.1, List.pairwise_reverse.mpr h.2⟩
theorem ext_to (a : Array Keyed) (n : Nat) : (a.extract 0 n).toList = a.toList.take n := by
  rw [Array.toList_extract, List.extract_eq_take_drop, List.drop_zero, Nat.sub_zero]
theorem MI.doneT {κ : KeyKind} {Z : List Keyed} {o a b : Array Keyed} {m : Nat} (h : MI (Ge κ) Z o.toList (rt a 0) (rt b m)) : Fi (Le κ) Z (a.extract 0 0 ++ b.extract 0 m ++ o.reverse) := by
  refine fi_rev (l := o.toList ++ rt b m) ?_ ?_
  · rw [Array.toList_append, Array.toList_append, ext_to, ext_to, Array.toList_reverse]
    simp [rt]
  · have h2 : MI (Ge κ) Z o.toList [] (rt b m) := h
    exact h2.sw.fin
theorem MI.doneT2 {κ : KeyKind} {Z : List Keyed} {o a b : Array Keyed} {n : Nat} (h : MI (Ge κ) Z o.toList (rt a n) (rt b 0)) : Fi (Le κ) Z (a.extract 0 n ++ b.extract 0 0 ++ o.reverse) := by
  refine fi_rev (l := o.toList ++ rt a n) ?_ ?_
  · rw [Array.toList_append, Array.toList_append, ext_to, ext_to, Array.toList_reverse]
    simp [rt]
  · have h2 : MI (Ge κ) Z o.toList (rt a n) [] := h
    exact h2.fin
theorem MI.firstT {κ : KeyKind} {Z : List Keyed} {o a b : Array Keyed} {n : Nat} (hb : 0 < b.size) (h : MI (Ge κ) Z o.toList (rt a n) (rt b 1)) (h0 : ∀ y ∈ a.toList, Le κ b[0] y) : Fi (Le κ) Z (b.extract 0 1 ++ a.extract 0 n ++ o.reverse) := by
  refine fi_rev (l := o.toList ++ rt a n ++ rt b 1) ?_ ?_
  · rw [Array.toList_append, Array.toList_append, ext_to, ext_to, Array.toList_reverse]
    simp [rt]
  · have e1 : rt b 1 = [b[0]] := by rw [rt_cons hb]; rfl
    rw [show rt a n = rt a n ++ [] from (List.append_nil _).symm] at h
    have h2 := (h.blk fun x hx y hy => by
      rw [e1, List.mem_singleton] at hy
      rw [hy]
      exact h0 x (List.mem_of_mem_take (List.mem_reverse.mp hx))).sw
    exact h2.fin
noncomputable def mHi' : Array Keyed → Array Keyed → StateT SortSt Sem (Array Keyed) := sortPriv% PySem.Builtin.mergeHi
noncomputable def mHiT (a b o : Array Keyed) (i j : Nat) : StateT SortSt Sem (Array Keyed) := do
  let tot := a.size + b.size
  let dn (o : Array Keyed) (i j : Nat) := a.extract 0 i ++ b.extract 0 j ++ o.reverse
  let fb (o : Array Keyed) (i j : Nat) := b.extract 0 j ++ a.extract 0 i ++ o.reverse
  let mut i := i
  let mut j := j
  let mut o := o
  let mut g := gallopOf (← get)
  for _ in [0:tot] do
    let mut p := 0
    let mut q := 0
    for _ in [0:tot] do
      let some t ← lt' (← elem' b (j - 1)) (← elem' a (i - 1)) | return dn o i j
      if t then
        i := i - 1; o := o.push (← elem' a i); p := p + 1; q := 0
        if i == 0 then return dn o i j
        if p ≥ g then break
      else
        j := j - 1; o := o.push (← elem' b j); q := q + 1; p := 0
        if j == 1 then return fb o i j
        if q ≥ g then break
    rule "list.sort.gallop"
    g := g + 1
    for _ in [0:tot] do
      if g > 1 then g := g - 1
      setG g
      let some y ← gal' false (← elem' b (j - 1)) a 0 i (i - 1) | return dn o i j
      let k := i - y
      p := k
      if k > 0 then
        o := o ++ (a.extract y i).reverse; i := y
        if i == 0 then return dn o i j
      j := j - 1; o := o.push (← elem' b j)
      if j == 1 then return fb o i j
      let some y ← gal' true (← elem' a (i - 1)) b 0 j (j - 1) | return dn o i j
      let k := j - y
      q := k
      if k > 0 then
        o := o ++ (b.extract y j).reverse; j := y
        if j == 1 then return fb o i j
        if j == 0 then return dn o i j
      i := i - 1; o := o.push (← elem' a i)
      if i == 0 then return dn o i j
      if p < 7 && q < 7 then break
    g := g + 1
    setG g
  unsupported "internal:list.sort.merge-bound"
theorem mHi'_eq (a b : Array Keyed) : mHi' a b = (do
  rule "list.sort.merge-hi"
  let x ← elem' a (a.size - 1)
  if a.size - 1 == 0 then return a.extract 0 (a.size - 1) ++ b.extract 0 b.size ++ #[x].reverse
  if b.size == 1 then return b.extract 0 b.size ++ a.extract 0 (a.size - 1) ++ #[x].reverse
  mHiT a b #[x] (a.size - 1) b.size) := rfl
section
variable {prog : Program} {w : World} {A : Around} {E : Value → Shared → Prop} {s : Shared} {κ : KeyKind} {kd : SortKind}
set_option genInjectivity false in
structure GH (κ : KeyKind) (a b o : Array Keyed) (i j : Nat) : Prop where
  mi : MI (Ge κ) (a.toList ++ b.toList) o.toList (rt a i) (rt b j)
  hi : 1 ≤ i ∧ i ≤ a.size
  hj : 2 ≤ j ∧ j ≤ b.size
theorem ge_rt {a : Array Keyed} {i : Nat} (hi : i < a.size) (h : (rt a (i + 1)).Pairwise (Ge κ)) : ∀ y ∈ rt a (i + 1), Ge κ a[i] y := by
  rw [rt_cons hi] at h ⊢
  intro y hy
  rcases List.mem_cons.mp hy with g | g
  · rw [g]; exact KeyOrd.kle_refl _
  · exact (List.pairwise_cons.mp h).1 y g
theorem rt_mem {a : Array Keyed} {k : Nat} {x : Keyed} (h : x ∈ rt a k) : x ∈ (a.toList.drop 0).take k := by
  rw [List.drop_zero]; exact List.mem_reverse.mp h
noncomputable abbrev HiSt := Option (Array Keyed) × Nat × Nat × Array Keyed × Nat × Nat × Nat
noncomputable def hi3 (a b o : Array Keyed) (i j g p q : Nat) : StateT SortSt Sem (ForInStep HiSt) := do
  let x ← elem' a (i - 1)
  if (i - 1 == 0) = true then pure (ForInStep.done (some (a.extract 0 (i - 1) ++ b.extract 0 j ++ (o.push x).reverse), i - 1, j, o.push x, g, p, q))
  else if (decide (p < 7) && decide (q < 7)) = true then pure (ForInStep.done (none, i - 1, j, o.push x, g, p, q)) else pure (ForInStep.yield (none, i - 1, j, o.push x, g, p, q))
noncomputable def hi2 (a b o : Array Keyed) (i j g p q : Nat) : StateT SortSt Sem (ForInStep HiSt) := do
  let x ← elem' b j
  if (j == 1) = true then pure (ForInStep.done (some (b.extract 0 j ++ a.extract 0 i ++ (o.push x).reverse), i, j, o.push x, g, p, q))
  else do
    let u ← elem' a (i - 1)
    let z ← gal' true u b 0 j (j - 1)
    match z with
    | some y =>
      if j - y > 0 then
        if (y == 1) = true then pure (ForInStep.done (some (b.extract 0 y ++ a.extract 0 i ++ (o.push x ++ (b.extract y j).reverse).reverse), i, y, o.push x ++ (b.extract y j).reverse, g, p, j - y))
        else if (y == 0) = true then pure (ForInStep.done (some (a.extract 0 i ++ b.extract 0 y ++ (o.push x ++ (b.extract y j).reverse).reverse), i, y, o.push x ++ (b.extract y j).reverse, g, p, j - y))
        else hi3 a b (o.push x ++ (b.extract y j).reverse) i y g p (j - y)
      else hi3 a b (o.push x) i j g p (j - y)
    | _ => pure (ForInStep.done (some (a.extract 0 i ++ b.extract 0 j ++ (o.push x).reverse), i, j, o.push x, g, p, q))
noncomputable abbrev HiR (κ : KeyKind) (a b : Array Keyed) (st : SortSt) (m : Nat) : ForInStep HiSt → SortSt → Prop := fun r st' => match r with
  | .yield c => Ev st st' ∧ ∃ o i j g p q, c = (none, i, j, o, g, p, q) ∧ GH κ a b o i j ∧ i + j ≤ m
  | .done c => Ev st st' ∧ ((∃ r, c.1 = some r ∧ Fi (Le κ) (a.toList ++ b.toList) r) ∨ (c.1 = none ∧ GH κ a b c.2.2.2.1 c.2.1 c.2.2.1 ∧ c.2.1 + c.2.2.1 ≤ m))
theorem w_hi3 {st st4 : SortSt} {a b o7 : Array Keyed} {y e5 g p q5 m : Nat} (he5 : Ev st st4) (hya : y < a.size) (m3 : MI (Ge κ) (a.toList ++ b.toList) o7.toList (rt a (y + 1)) (rt b e5)) (e1' : ∀ x ∈ rt b e5, Le κ x a[y]) (h2 : 2 ≤ e5 ∧ e5 ≤ b.size) (hm : y + e5 ≤ m) :
    wpS (model prog w) A E s (hi3 a b o7 (y + 1) e5 g p q5) (HiR κ a b st m) st4 := by
  unfold hi3
  simp only [Nat.add_sub_cancel]
  refine wpS_bind (w_el hya ?_)
  have m4 := m3.pushT hya fun u hu => e1' u hu
  by_cases ha4 : y = 0
  · rw [if_pos (by simpa using ha4)]
    subst ha4
    exact wpS_pure ⟨he5, .inl ⟨_, rfl, m4.doneT⟩⟩
  rw [if_neg (by simpa using ha4)]
  split
  · exact wpS_pure ⟨he5, .inr ⟨rfl, ⟨m4, by dsimp only; omega, h2⟩, hm⟩⟩
  · exact wpS_pure ⟨he5, _, _, _, _, _, _, rfl, ⟨m4, by omega, h2⟩, hm⟩
theorem w_hi2 {st st4 : SortSt} {a b o5 : Array Keyed} {y j g p q m : Nat} (hO : LtR prog w A E s κ kd) (hk : kindOf st4 = kd) (hb : 0 < b.size) (hka : ∀ x ∈ a.toList, Hk κ x) (hkb : ∀ x ∈ b.toList, Hk κ x) (sb : b.toList.Pairwise (Le κ)) (h0 : ∀ y ∈ a.toList, Le κ b[0] y)
    (he5 : Ev st st4) (hya : y < a.size) (hj : 1 ≤ j ∧ j < b.size) (m1 : MI (Ge κ) (a.toList ++ b.toList) o5.toList (rt a (y + 1)) (rt b (j + 1))) (k1' : ∀ x ∈ rt a (y + 1), Le κ x b[j]) (hm : y + j ≤ m) :
    wpS (model prog w) A E s (hi2 a b o5 (y + 1) j g p q) (HiR κ a b st m) st4 := by
  unfold hi2
  refine wpS_bind (w_el hj.2 ?_)
  have m2 := (m1.sw.pushT hj.2 fun u hu => k1' u hu).sw
  by_cases hb2 : j = 1
  · rw [if_pos (by simpa using hb2)]
    subst hb2
    exact wpS_pure ⟨he5, .inl ⟨_, rfl, m2.firstT hb h0⟩⟩
  rw [if_neg (by simpa using hb2)]
  generalize o5.push b[j] = o6 at m2 ⊢
  simp only [Nat.add_sub_cancel]
  refine wpS_bind (w_el hya ?_)
  refine wpS_bind (w_galL hO hk (show 0 + j ≤ b.size by omega) (by omega) hkb (hka _ (by simp)) (by rw [List.drop_zero]; exact sb.sublist (List.take_sublist _ _)) fun e hen e1 e2 => ?_)
  dsimp only
  rw [Nat.zero_add] at e2
  have m3 := (m2.sw.blkT hen fun x hx u hu => Le.tr (ge_rt hya m2.sa u hu) (e2 x hx)).sw
  have e1' : ∀ x ∈ rt b e, Le κ x a[y] := fun x hx => e1 x (rt_mem hx)
  by_cases hep : j - e > 0
  · rw [if_pos hep]
    by_cases hb3 : e = 1
    · rw [if_pos (by simpa using hb3)]
      subst hb3
      exact wpS_pure ⟨he5, .inl ⟨_, rfl, m3.firstT hb h0⟩⟩
    rw [if_neg (by simpa using hb3)]
    by_cases hb4 : e = 0
    · rw [if_pos (by simpa using hb4)]
      subst hb4
      exact wpS_pure ⟨he5, .inl ⟨_, rfl, m3.doneT2⟩⟩
    rw [if_neg (by simpa using hb4)]
    exact w_hi3 he5 hya m3 e1' (by omega) (by omega)
  · rw [if_neg hep]
    obtain rfl : e = j := by omega
    exact w_hi3 he5 hya m2 e1' (by omega) hm
theorem w_mHi {st : SortSt} {a b : Array Keyed} {Q : Array Keyed → SortSt → Prop} (hO : LtR prog w A E s κ kd) (hk : kindOf st = kd) (ha : 0 < a.size) (hb : 0 < b.size) (hka : ∀ x ∈ a.toList, Hk κ x) (hkb : ∀ x ∈ b.toList, Hk κ x)
    (sa : a.toList.Pairwise (Le κ)) (sb : b.toList.Pairwise (Le κ)) (h0 : ∀ y ∈ a.toList, Le κ b[0] y) (hl : ∀ y ∈ b.toList, ∀ x, a.toList.getLast? = some x → Le κ y x)
    (h : ∀ r st', Ev st st' → Fi (Le κ) (a.toList ++ b.toList) r → Q r st') : wpS (model prog w) A E s (mHi' a b) Q st := by
  rw [mHi'_eq]
  refine wpS_bind (wpS_lift (wpAny_rule ⟨rfl, ?_⟩))
  refine wpS_bind (w_el (by omega) ?_)
  have pr : ∀ (l : Array Keyed), l.toList.Pairwise (Le κ) → (rt l l.size).Pairwise (Ge κ) := fun l hl => by
    unfold rt
    rw [List.take_of_length_le (by rw [Array.length_toList]; exact Nat.le_refl _)]
    exact List.pairwise_reverse.mpr hl
  have m0 : MI (Ge κ) (a.toList ++ b.toList) #[a[a.size - 1]'(by omega)].toList (rt a (a.size - 1)) (rt b b.size) := by
    have m : MI (Ge κ) (a.toList ++ b.toList) (#[] : Array Keyed).toList (rt a (a.size - 1 + 1)) (rt b b.size) := by
      refine ⟨List.Pairwise.nil, fun x hx => (nomatch hx), ?_, by rw [show a.size - 1 + 1 = a.size by omega]; exact pr a sa, pr b sb⟩
      rw [show a.size - 1 + 1 = a.size by omega]
      show (rt a a.size ++ rt b b.size).Perm _
      unfold rt
      rw [List.take_of_length_le (by rw [Array.length_toList]; exact Nat.le_refl _), List.take_of_length_le (by rw [Array.length_toList]; exact Nat.le_refl _)]
      exact (List.reverse_perm _).append (List.reverse_perm _)
    refine m.pushT (by omega) fun y hy => ?_
    refine hl y (List.mem_of_mem_take (List.mem_reverse.mp hy)) _ ?_
    rw [List.getLast?_eq_getElem?, Array.length_toList, Array.getElem?_toList, getElem?_pos a (a.size - 1) (by omega)]
  generalize #[a[a.size - 1]'(by omega)] = o0 at m0 ⊢
  have mema : ∀ {i : Nat} (g : i < a.size), Hk κ a[i] := fun g => hka _ (by simp)
  have memb : ∀ {i : Nat} (g : i < b.size), Hk κ b[i] := fun g => hkb _ (by simp)
  by_cases ha1 : a.size - 1 = 0
  · rw [if_pos (by simpa using ha1)]
    refine wpS_pure (h _ st Ev.r ?_)
    rw [ha1] at m0 ⊢
    exact m0.doneT
  rw [if_neg (by simpa using ha1)]
  by_cases hb1 : b.size = 1
  · rw [if_pos (by simpa using hb1)]
    refine wpS_pure (h _ st Ev.r ?_)
    rw [hb1] at m0 ⊢
    exact m0.firstT hb h0
  rw [if_neg (by simpa using hb1)]
  unfold mHiT
  dsimp only
  refine wpS_bind (wpS_get ?_)
  refine wpS_bind (wpS_mono (wpS_forRange (I := fun x c st' => Ev st st' ∧ ∃ o i j g, c = (none, i, j, o, g) ∧ GH κ a b o i j ∧ i + j + x ≤ a.size + b.size)
    (Q := fun c st' => Ev st st' ∧ ∃ r, c.1 = some r ∧ Fi (Le κ) (a.toList ++ b.toList) r) ?sp ?fi ⟨Ev.r, _, _, _, _, rfl, ⟨m0, by omega, by omega⟩, by omega⟩) ?po)
  case po =>
    rintro ⟨o, rest⟩ st' ⟨he, r, e1, hf⟩
    dsimp only at e1 ⊢
    subst e1
    exact wpS_pure (h r st' he hf)
  case fi =>
    rintro c st' ⟨he, o, i, j, g, rfl, hg, hx⟩
    have := hg.hi
    have := hg.hj
    omega
  case sp =>
    intro x c st1 _ hx
    revert c
    refine ex4 fun o0 i0 j0 g0 he1 hg0 hxx => ?_
    dsimp only
    refine wpS_bind (wpS_mono (wpS_forRange (I := fun x c st' => Ev st st' ∧ ∃ o i j p q, c = (none, i, j, o, p, q) ∧ GH κ a b o i j ∧ i + j + x ≤ i0 + j0)
      (Q := fun c st' => Ev st st' ∧ ((∃ r, c.1 = some r ∧ Fi (Le κ) (a.toList ++ b.toList) r) ∨ (c.1 = none ∧ GH κ a b c.2.2.2.1 c.2.1 c.2.2.1 ∧ c.2.1 + c.2.2.1 + 1 ≤ i0 + j0))) ?sp1 ?fi1 ⟨he1, o0, i0, j0, 0, 0, rfl, hg0, by omega⟩) ?po1)
    case fi1 =>
      rintro c st' ⟨he, o, i, j, p, q, rfl, hg, hx2⟩
      exact ⟨he, .inr ⟨rfl, hg, by dsimp only; omega⟩⟩
    case sp1 =>
      intro x1 c st2 _ hx1
      revert c
      refine ex5 fun o i j p q he2 hg hx2 => ?_
      obtain ⟨i, rfl⟩ : ∃ i', i = i' + 1 := ⟨i - 1, by have := hg.hi; omega⟩
      obtain ⟨j, rfl⟩ : ∃ j', j = j' + 1 := ⟨j - 1, by have := hg.hj; omega⟩
      have hi := hg.hi
      have hj := hg.hj
      dsimp only
      simp only [Nat.add_sub_cancel]
      refine wpS_bind (w_el (by omega) (wpS_bind (w_el (by omega) ?_)))
      refine wpS_bind (w_lt3 hO (he2.knd.trans hk) (memb (by omega)) (mema (by omega)) ?_)
      dsimp only
      cases ht : κ.blt (kf κ (b[j]'(by omega))) (kf κ (a[i]'(by omega))) with
      | true =>
        rw [if_pos rfl]
        refine wpS_bind (w_el (by omega) ?_)
        have m1 := hg.mi.pushT (by omega) fun y hy => Le.tr (ge_rt (by omega) hg.mi.sb y hy) (KeyOrd.kle_of_klt ht)
        by_cases ha2 : i = 0
        · rw [if_pos (by simpa using ha2)]
          subst ha2
          exact wpS_pure ⟨he2, .inl ⟨_, rfl, m1.doneT⟩⟩
        · rw [if_neg (by simpa using ha2)]
          have g1 : GH κ a b (o.push (a[i]'(by omega))) i (j + 1) := ⟨m1, by omega, by omega⟩
          split
          · exact wpS_pure ⟨he2, .inr ⟨rfl, g1, by dsimp only; omega⟩⟩
          · exact wpS_pure ⟨he2, _, _, _, _, _, rfl, g1, by omega⟩
      | false =>
        rw [if_neg Bool.false_ne_true]
        refine wpS_bind (w_el (by omega) ?_)
        have m1 := (hg.mi.sw.pushT (by omega) fun y hy => Le.tr (ge_rt (by omega) hg.mi.sa y hy) (show Le κ _ _ from ht)).sw
        by_cases hb2 : j = 1
        · rw [if_pos (by simpa using hb2)]
          subst hb2
          exact wpS_pure ⟨he2, .inl ⟨_, rfl, m1.firstT hb h0⟩⟩
        · rw [if_neg (by simpa using hb2)]
          have g1 : GH κ a b (o.push (b[j]'(by omega))) (i + 1) j := ⟨m1, by omega, by omega⟩
          split
          · exact wpS_pure ⟨he2, .inr ⟨rfl, g1, by dsimp only; omega⟩⟩
          · exact wpS_pure ⟨he2, _, _, _, _, _, rfl, g1, by omega⟩
    case po1 =>
      intro c st2
      revert c
      refine or6 (fun i j o => GH κ a b o i j) (fun i j o => i + j + 1 ≤ i0 + j0) (fun r i1 j1 o1 e he2 hf => ?_) (fun i1 j1 o1 e he2 hg1 hx2 => ?_)
      · exact wpS_pure ⟨he2, r, rfl, hf⟩
      · dsimp only
        refine wpS_bind (wpS_lift (wpAny_rule ⟨rfl, ?_⟩))
        refine wpS_bind (wpS_mono (wpS_forRange (I := fun x c st' => Ev st st' ∧ ∃ o i j g p q, c = (none, i, j, o, g, p, q) ∧ GH κ a b o i j ∧ i + j ≤ i1 + j1)
          (Q := fun c st' => Ev st st' ∧ ((∃ r, c.1 = some r ∧ Fi (Le κ) (a.toList ++ b.toList) r) ∨ (c.1 = none ∧ GH κ a b c.2.2.2.1 c.2.1 c.2.2.1 ∧ c.2.1 + c.2.2.1 ≤ i1 + j1))) ?sp2 ?fi2 ⟨he2, o1, i1, j1, _, _, _, rfl, hg1, by omega⟩) ?po2)
        case fi2 =>
          rintro c st' ⟨he, o, i, j, g, p, q, rfl, hg, hx2⟩
          exact ⟨he, .inr ⟨rfl, hg, hx2⟩⟩
        case po2 =>
          intro c st3
          revert c
          refine or6 (fun i j o => GH κ a b o i j) (fun i j o => i + j ≤ i1 + j1) (fun r i2 j2 o2 e he3 hf => ?_) (fun i2 j2 o2 e he3 hg2 hx3 => ?_)
          · exact wpS_pure ⟨he3, r, rfl, hf⟩
          · dsimp only
            exact wpS_bind (w_setG fun st4 he4 => wpS_pure ⟨he3.t he4, o2, i2, j2, _, rfl, hg2, by omega⟩)
        case sp2 =>
          intro x2 c st3 _ hx3
          revert c
          refine ex6 fun o i j g p q he3 hg hxx2 => ?_
          obtain ⟨j, rfl⟩ : ∃ j', j = j' + 1 := ⟨j - 1, by have := hg.hj; omega⟩
          have hi := hg.hi
          have hj := hg.hj
          dsimp only
          simp only [Nat.add_sub_cancel]
          refine have key : ∀ g1 : Nat, wpS (model prog w) A E s ((?F : Nat → StateT SortSt Sem ?α) g1) ?QQ st3 := ?key; ?main
          case main =>
            by_cases hgg : g > 1
            · rw [if_pos hgg]; generalize g - 1 = g1; exact key g1
            · rw [if_neg hgg]; generalize g = g1; exact key g1
          case key =>
            intro g1
            refine wpS_bind (w_setG fun st4 he4 => ?_)
            have he5 := he3.t he4
            refine wpS_bind (w_el (by omega) ?_)
            refine wpS_bind (w_galR hO (he5.knd.trans hk) (show 0 + i ≤ a.size by omega) (by omega) hka (memb (by omega)) (by rw [List.drop_zero]; exact sa.sublist (List.take_sublist _ _)) fun y hyn k1 k2 => ?_)
            dsimp only
            rw [Nat.zero_add] at k2
            have m1 := hg.mi.blkT hyn fun x hx u hu => Le.tr (ge_rt (by omega) hg.mi.sb u hu) (k2 x hx)
            have k1' : ∀ x ∈ rt a y, Le κ x (b[j]'(by omega)) := fun x hx => k1 x (rt_mem hx)
            by_cases hkp : i - y > 0
            · rw [if_pos hkp]
              by_cases ha2 : y = 0
              · rw [if_pos (by simpa using ha2)]
                subst ha2
                exact wpS_pure ⟨he5, .inl ⟨_, rfl, m1.doneT⟩⟩
              rw [if_neg (by simpa using ha2)]
              obtain ⟨y, rfl⟩ : ∃ y', y = y' + 1 := ⟨y - 1, by omega⟩
              refine w_eq (m' := hi2 a b (o ++ (a.extract (y + 1) i).reverse) (y + 1) j g1 (i - (y + 1)) q) rfl ?_
              exact wpS_mono (w_hi2 (m := i1 + j1) hO (he5.knd.trans hk) hb hka hkb sb h0 he5 (by omega) (by omega) m1 k1' (by omega)) fun r st' hr => by cases r <;> exact hr
            · rw [if_neg hkp]
              obtain rfl : y = i := by omega
              obtain ⟨y, rfl⟩ : ∃ y', y = y' + 1 := ⟨y - 1, by omega⟩
              refine w_eq (m' := hi2 a b o (y + 1) j g1 (y + 1 - (y + 1)) q) rfl ?_
              exact wpS_mono (w_hi2 (m := i1 + j1) hO (he5.knd.trans hk) hb hka hkb sb h0 he5 (by omega) (by omega) hg.mi k1' (by omega)) fun r st' hr => by cases r <;> exact hr
end
end SR

set_option autoImplicit false
set_option linter.all false
set_option maxRecDepth 100000
namespace SR
open PySem PyProof.Rows
theorem fold_get (base : Nat) : ∀ (l : List Keyed) (n : Nat) (a : Array Keyed) (t : Nat), base + n + l.length ≤ a.size →
    ((l.zipIdx n).foldl (fun a (p, j) => a.setIfInBounds (base + j) p) a)[t]? = if base + n ≤ t ∧ t < base + n + l.length then l[t - (base + n)]? else a[t]?
  | [], n, a, t, h => by
    rw [if_neg (by simp only [List.length_nil]; omega)]
    rfl
  | p :: l, n, a, t, h => by
    rw [List.length_cons] at h ⊢
    rw [List.zipIdx_cons, List.foldl_cons]
    have ih := fold_get base l (n + 1) (a.setIfInBounds (base + n) p) t (by rw [Array.size_setIfInBounds]; omega)
    rw [show (List.foldl (fun a x => a.setIfInBounds (base + x.2) x.1) (a.setIfInBounds (base + n) p) (l.zipIdx (n + 1)))[t]? = _ from ih, Array.getElem?_setIfInBounds]
    by_cases h1 : t = base + n
    · subst h1
      rw [if_neg (by omega), if_pos rfl, if_pos (by omega), if_pos (by omega), Nat.sub_self]
      rfl
    · by_cases h2 : base + n ≤ t ∧ t < base + n + (l.length + 1)
      · rw [if_pos (by omega), if_pos h2, show t - (base + n) = t - (base + (n + 1)) + 1 by omega]
        rfl
      · rw [if_neg (by omega), if_neg (by omega), if_neg h2]
theorem fold_list (base : Nat) (l : List Keyed) (a : Array Keyed) (h : base + l.length ≤ a.size) :
    (l.zipIdx.foldl (fun a (p, j) => a.setIfInBounds (base + j) p) a).toList = a.toList.take base ++ (l ++ a.toList.drop (base + l.length)) := by
  apply List.ext_getElem?
  intro t
  have e := fold_get base l 0 a t (by omega)
  rw [Array.getElem?_toList, show (l.zipIdx.foldl (fun a (p, j) => a.setIfInBounds (base + j) p) a)[t]? = _ from e]
  have hl : (a.toList.take base).length = base := by rw [List.length_take, Array.length_toList]; omega
  by_cases h1 : t < base
  · rw [if_neg (by omega), List.getElem?_append_left (by omega), List.getElem?_take_of_lt h1, Array.getElem?_toList]
  · rw [List.getElem?_append_right (by omega), hl]
    by_cases h2 : t < base + l.length
    · rw [if_pos (by omega), List.getElem?_append_left (by omega)]
      rfl
    · rw [if_neg (by omega), List.getElem?_append_right (by omega), List.getElem?_drop, Array.getElem?_toList]
      congr 1
      omega
noncomputable def sg (xs : Array Keyed) (l n : Nat) : List Keyed := (xs.toList.drop l).take n
section
variable {κ : KeyKind} {kd : SortKind}
theorem KK_kf {xs : Array Keyed} {i : Nat} (h : i < xs.size) : KK κ xs i = kf κ xs[i] := by
  unfold KK kf
  rw [getElem?_pos xs i h]
theorem sg_get {xs : Array Keyed} {l n t : Nat} (h : l + n ≤ xs.size) (ht : t < n) : (sg xs l n)[t]? = some (xs[l + t]'(by omega)) := by
  unfold sg
  rw [List.getElem?_take_of_lt ht, List.getElem?_drop, Array.getElem?_toList, getElem?_pos xs (l + t) (by omega)]
theorem sg_len {xs : Array Keyed} {l n : Nat} (h : l + n ≤ xs.size) : (sg xs l n).length = n := by
  unfold sg
  rw [List.length_take, List.length_drop, Array.length_toList]
  omega
theorem up_sg {xs : Array Keyed} {l n : Nat} (h : l + n ≤ xs.size) : Up κ xs l (l + n) ↔ (sg xs l n).Pairwise (Le κ) := by
  rw [List.pairwise_iff_getElem]
  constructor
  · intro hu i j hi hj hij
    rw [sg_len h] at hi hj
    have e1 := sg_get h hi
    have e2 := sg_get h hj
    rw [List.getElem?_eq_getElem (by rw [sg_len h]; omega)] at e1 e2
    rw [Option.some.inj e1, Option.some.inj e2]
    have := hu (l + i) (l + j) (by omega) (by omega) (by omega)
    rw [KK_kf (by omega), KK_kf (by omega)] at this
    exact this
  · intro hp i j h1 h2 h3
    rw [KK_kf (by omega), KK_kf (by omega)]
    rcases Nat.lt_or_eq_of_le h2 with g | g
    · have := hp (i - l) (j - l) (by rw [sg_len h]; omega) (by rw [sg_len h]; omega) (by omega)
      have e1 := sg_get h (t := i - l) (by omega)
      have e2 := sg_get h (t := j - l) (by omega)
      rw [List.getElem?_eq_getElem (by rw [sg_len h]; omega)] at e1 e2
      rw [Option.some.inj e1, Option.some.inj e2] at this
      simp only [show l + (i - l) = i by omega, show l + (j - l) = j by omega] at this
      exact this
    · subst g; exact KeyOrd.kle_refl _
theorem sg_app {xs : Array Keyed} {l m n : Nat} : sg xs l (m + n) = sg xs l m ++ sg xs (l + m) n := by
  unfold sg
  rw [List.take_add, List.drop_drop]
theorem ext_sg {xs : Array Keyed} {l n : Nat} : (xs.extract l (l + n)).toList = sg xs l n := ext_mid xs l n
theorem merged {xs ys : Array Keyed} {sa k nx ny nr : Nat} {M : List Keyed} (hsz : sa + k + nx + ny + nr ≤ xs.size) (hy : ys.toList = xs.toList.take (sa + k) ++ (M ++ xs.toList.drop (sa + k + nx + ny)))
    (hM : M.Perm (sg xs (sa + k) nx ++ sg xs (sa + k + nx) ny)) (hMs : M.Pairwise (Le κ)) (hA : (sg xs sa (k + nx)).Pairwise (Le κ)) (hB : (sg xs (sa + k + nx) (ny + nr)).Pairwise (Le κ))
    (h1 : ∀ x ∈ sg xs sa k, ∀ y ∈ sg xs (sa + k + nx) ny, Le κ x y) (h1b : ∀ x ∈ sg xs sa k, ∀ y ∈ sg xs (sa + k + nx + ny) nr, Le κ x y) (h2 : ∀ x ∈ sg xs (sa + k) nx, ∀ y ∈ sg xs (sa + k + nx + ny) nr, Le κ x y) :
    ys.Perm xs ∧ Up κ ys sa (sa + (k + nx + ny + nr)) ∧ ∀ t, t < sa ∨ sa + k + nx + ny + nr ≤ t → ys[t]? = xs[t]? := by
  have hMl : M.length = nx + ny := by
    rw [hM.length_eq, List.length_append, sg_len (by omega), sg_len (by omega)]
  have ex : xs.toList = xs.toList.take (sa + k) ++ ((sg xs (sa + k) nx ++ sg xs (sa + k + nx) ny) ++ xs.toList.drop (sa + k + nx + ny)) := by
    have e1 : xs.toList.drop (sa + k) = sg xs (sa + k) (nx + ny) ++ xs.toList.drop (sa + k + (nx + ny)) := split_at xs (sa + k) (nx + ny)
    rw [← sg_app, show sa + k + nx + ny = sa + k + (nx + ny) by omega, ← e1, List.take_append_drop]
  have hper : ys.Perm xs := by
    rw [Array.perm_iff_toList_perm, hy]
    conv => rhs; rw [ex]
    exact (hM.append_right _).append_left _
  have hys : ys.size = xs.size := hper.size_eq
  have hlt : (xs.toList.take (sa + k)).length = sa + k := by rw [List.length_take, Array.length_toList]; omega
  have low : ∀ t, t < sa + k → ys[t]? = xs[t]? := fun t ht => by
    rw [← Array.getElem?_toList, hy, List.getElem?_append_left (by omega), List.getElem?_take_of_lt ht, Array.getElem?_toList]
  have high : ∀ t, sa + k + nx + ny ≤ t → ys[t]? = xs[t]? := fun t ht => by
    rw [← Array.getElem?_toList, hy, List.getElem?_append_right (by omega), hlt, List.getElem?_append_right (by omega), hMl, List.getElem?_drop, Array.getElem?_toList]
    congr 1
    omega
  refine ⟨hper, ?_, fun t ht => ?_⟩
  · rw [up_sg (by omega)]
    have e2 : sg ys sa (k + nx + ny + nr) = sg xs sa k ++ (M ++ sg xs (sa + k + nx + ny) nr) := by
      apply List.ext_getElem?
      intro t
      have hk1 : (sg xs sa k).length = k := sg_len (by omega)
      by_cases hT : t < k + nx + ny + nr
      · have eL : (sg ys sa (k + nx + ny + nr))[t]? = ys[sa + t]? := by
          unfold sg
          rw [List.getElem?_take_of_lt hT, List.getElem?_drop, Array.getElem?_toList]
        rw [eL]
        by_cases t1 : t < k
        · rw [low _ (by omega), List.getElem?_append_left (by omega)]
          unfold sg
          rw [List.getElem?_take_of_lt t1, List.getElem?_drop, Array.getElem?_toList]
        · rw [List.getElem?_append_right (by omega), hk1]
          by_cases t2 : t < k + nx + ny
          · rw [List.getElem?_append_left (by omega), ← Array.getElem?_toList, hy, List.getElem?_append_right (by omega), hlt, List.getElem?_append_left (by omega)]
            congr 1
            omega
          · rw [high _ (by omega), List.getElem?_append_right (by omega), hMl]
            unfold sg
            rw [List.getElem?_take_of_lt (by omega), List.getElem?_drop, Array.getElem?_toList]
            congr 1
            omega
      · rw [List.getElem?_eq_none (by rw [sg_len (by omega)]; omega), List.getElem?_eq_none]
        rw [List.length_append, List.length_append, hk1, hMl, sg_len (by omega)]
        omega
    rw [e2]
    rw [sg_app] at hA hB
    obtain ⟨a1, a2, a3⟩ := List.pairwise_append.mp hA
    obtain ⟨b1, b2, b3⟩ := List.pairwise_append.mp hB
    refine List.pairwise_append.mpr ⟨a1, List.pairwise_append.mpr ⟨hMs, b2, fun x hx y hyy => ?_⟩, fun x hx y hyy => ?_⟩
    · rcases List.mem_append.mp (hM.mem_iff.mp hx) with g | g
      · exact h2 x g y hyy
      · exact b3 x g y hyy
    · rcases List.mem_append.mp hyy with g | g
      · rcases List.mem_append.mp (hM.mem_iff.mp g) with g | g
        · exact a3 x hx y g
        · exact h1 x hx y g
      · exact h1b x hx y g
  · rcases ht with g | g
    · exact low t (by omega)
    · exact high t (by omega)
end
end SR

set_option autoImplicit false
set_option linter.all false
set_option maxRecDepth 100000
namespace SR
open PySem PyProof.Rows
theorem mAt_eq (i : Nat) : mergeAt' i = (do
  let s ← get
  let (some (sa, na, pw), some (sb, nb, _)) := ((pendingOf s)[i]?, (pendingOf s)[i + 1]?) | unsupported "internal:list.sort.pending"
  set (setPending s (((pendingOf s).setIfInBounds i (sa, na + nb, pw)).eraseIdxIfInBounds (i + 1)))
  let some k ← gal' false (← elem' (arrOf s) sb) (arrOf s) sa na 0 | return false
  let (sa, na) := (sa + k, na - k)
  if na == 0 then return true
  let some nb ← gal' true (← elem' (arrOf s) (sa + na - 1)) (arrOf s) sb nb (nb - 1) | return false
  if nb == 0 then return true
  let x := (arrOf s).extract sa sb
  let y := (arrOf s).extract sb (sb + nb)
  let m ← if na ≤ nb then mLo' x y else mHi' x y
  modify fun s => setArr s (m.toList.zipIdx.foldl (fun a (p, j) => a.setIfInBounds (sa + j) p) (arrOf s))
  return (failedOf (← get)).isNone) := rfl
section
variable {prog : Program} {w : World} {A : Around} {E : Value → Shared → Prop} {s : Shared} {z : Array Keyed} {κ : KeyKind} {kd : SortKind}
theorem w_set {st st2 : SortSt} {Q : PUnit → SortSt → Prop} (h : Q ⟨⟩ st2) : wpS (model prog w) A E s (set st2 : StateT SortSt Sem PUnit) Q st := by
  unfold wpS; rw [StateT.run_set]; exact wpAny_pure ⟨rfl, h⟩
theorem w_mAt {st : SortSt} {i sa na pw sb nb pv : Nat} {Q : Bool → SortSt → Prop} (hO : LtR prog w A E s κ kd) (hz : KeysOf κ z) (hB : SB kd z st) (e1 : (pendingOf st)[i]? = some (sa, na, pw)) (e2 : (pendingOf st)[i + 1]? = some (sb, nb, pv))
    (hab : sb = sa + na) (hn : sb + nb ≤ z.size) (hna : 1 ≤ na) (hnb : 1 ≤ nb) (ua : Up κ (arrOf st) sa (sa + na)) (ub : Up κ (arrOf st) sb (sb + nb))
    (h : ∀ st', SB kd z st' → pendingOf st' = ((pendingOf st).setIfInBounds i (sa, na + nb, pw)).eraseIdxIfInBounds (i + 1) → Up κ (arrOf st') sa (sa + (na + nb)) → (∀ t, t < sa ∨ sa + (na + nb) ≤ t → (arrOf st')[t]? = (arrOf st)[t]?) → Q true st') :
    wpS (model prog w) A E s (mergeAt' i) Q st := by
  rw [mAt_eq]
  refine wpS_bind (wpS_get ?_)
  rw [e1, e2]
  dsimp only
  have hsz : (arrOf st).size = z.size := hB.sz
  have hK : ∀ x ∈ (arrOf st).toList, Hk κ x := fun x hx => hz x ((Array.perm_iff_toList_perm.mp hB.prm).mem_iff.mp hx)
  have hkn : kindOf st = kd := hB.knd
  have hfl : failedOf st = none := hB.ffl
  generalize hP : ((pendingOf st).setIfInBounds i (sa, na + nb, pw)).eraseIdxIfInBounds (i + 1) = P at h ⊢
  refine wpS_bind (w_set ?_)
  subst hab
  have pa := (up_sg (κ := κ) (xs := arrOf st) (l := sa) (n := na) (by omega)).mp ua
  have pb := (up_sg (κ := κ) (xs := arrOf st) (l := sa + na) (n := nb) (by omega)).mp ub
  have hSB : ∀ ys : Array Keyed, ys.Perm (arrOf st) → ∀ st2 : SortSt, kindOf st2 = kd → failedOf st2 = none → arrOf st2 = ys → SB kd z st2 := fun ys hp st2 g1 g2 g3 => ⟨by rw [g3]; exact hp.trans hB.prm, g1, g2⟩
  have hplain : (∀ x ∈ sg (arrOf st) sa na, ∀ y ∈ sg (arrOf st) (sa + na) nb, Le κ x y) → Q true (setPending st P) := fun hle => by
    refine h _ (hSB _ (Array.Perm.refl _) _ hkn hfl rfl) rfl ?_ (fun t _ => rfl)
    show Up κ (arrOf st) sa (sa + (na + nb))
    rw [up_sg (by omega), sg_app]
    exact List.pairwise_append.mpr ⟨pa, pb, hle⟩
  generalize hX : arrOf st = xs at hsz hK pa pb hSB hplain h ⊢
  have hbf : ∀ y ∈ sg xs (sa + na) nb, Le κ (xs[sa + na]'(by omega)) y := fun y hy => by
    have e := sg_app (xs := xs) (l := sa + na) (m := 1) (n := nb - 1)
    rw [Nat.add_sub_cancel' hnb] at e
    rw [e] at pb hy
    have e3 : sg xs (sa + na) 1 = [xs[sa + na]'(by omega)] := by
      unfold sg
      rw [drop_cons (by omega)]
      rfl
    rw [e3, List.singleton_append] at pb hy
    exact head_le pb y hy
  have hal : ∀ y ∈ sg xs sa na, Le κ y (xs[sa + na - 1]'(by omega)) := fun y hy => by
    have e := sg_app (xs := xs) (l := sa) (m := na - 1) (n := 1)
    rw [Nat.sub_add_cancel hna] at e
    rw [e] at pa hy
    have e3 : sg xs (sa + (na - 1)) 1 = [xs[sa + na - 1]'(by omega)] := by
      unfold sg
      rw [drop_cons (by omega)]
      simp only [(Nat.add_sub_assoc hna sa).symm]
      rfl
    rw [e3] at pa hy
    rcases List.mem_append.mp hy with g | g
    · exact (List.pairwise_append.mp pa).2.2 y g _ (List.mem_singleton.mpr rfl)
    · rw [List.mem_singleton.mp g]; exact KeyOrd.kle_refl _
  refine wpS_bind (w_el (by omega) ?_)
  refine wpS_bind (w_galR hO hkn (show sa + na ≤ xs.size by omega) (by omega) hK (hK _ (by simp)) pa fun k hkn2 k1 k2 => ?_)
  dsimp only
  by_cases hk0 : na - k = 0
  · rw [if_pos (by simpa using hk0)]
    obtain rfl : k = na := by omega
    exact wpS_pure (hplain fun x hx y hy => Le.tr (k1 x hx) (hbf y hy))
  rw [if_neg (by simpa using hk0)]
  have q1 : k + (na - k) = na := Nat.add_sub_cancel' hkn2
  have q2 : sa + k + (na - k) = sa + na := by rw [Nat.add_assoc, q1]
  have hix : sa + k + (na - k) - 1 = sa + na - 1 := by rw [q2]
  rw [hix]
  refine wpS_bind (w_el (by omega) ?_)
  refine wpS_bind (w_galL hO hkn (show sa + na + nb ≤ xs.size by omega) (by omega) hK (hK _ (by simp)) pb fun e hen f1 f2 => ?_)
  dsimp only
  by_cases he0 : e = 0
  · rw [if_pos (by simpa using he0)]
    subst he0
    exact wpS_pure (hplain fun x hx y hy => Le.tr (hal x hx) (f2 y hy))
  rw [if_neg (by simpa using he0)]
  have q3 : e + (nb - e) = nb := Nat.add_sub_cancel' hen
  have exX : (xs.extract (sa + k) (sa + na)).toList = sg xs (sa + k) (na - k) := by
    rw [← q2]; exact ext_sg
  have exY : (xs.extract (sa + na) (sa + na + e)).toList = sg xs (sa + na) e := ext_sg
  have sX : (xs.extract (sa + k) (sa + na)).size = na - k := by rw [Array.size_extract]; omega
  have sY : (xs.extract (sa + na) (sa + na + e)).size = e := by rw [Array.size_extract]; omega
  have hYsub : ∀ y ∈ sg xs (sa + na) e, y ∈ sg xs (sa + na) nb := fun y hy => by
    have e4 := sg_app (xs := xs) (l := sa + na) (m := e) (n := nb - e)
    rw [q3] at e4
    rw [e4]
    exact List.mem_append_left _ hy
  have hXsub : ∀ x ∈ sg xs (sa + k) (na - k), x ∈ sg xs sa na := fun y hy => by
    have e4 := sg_app (xs := xs) (l := sa) (m := k) (n := na - k)
    rw [q1] at e4
    rw [e4]
    exact List.mem_append_right _ hy
  have hA1 : ∀ x ∈ sg xs sa k, x ∈ sg xs sa na := fun y hy => by
    have e4 := sg_app (xs := xs) (l := sa) (m := k) (n := na - k)
    rw [q1] at e4
    rw [e4]
    exact List.mem_append_left _ hy
  have kX : ∀ x ∈ (xs.extract (sa + k) (sa + na)).toList, Hk κ x := fun x hx => by
    rw [exX] at hx
    exact hK x (List.mem_of_mem_drop (List.mem_of_mem_take hx))
  have kY : ∀ x ∈ (xs.extract (sa + na) (sa + na + e)).toList, Hk κ x := fun x hx => by
    rw [exY] at hx
    exact hK x (List.mem_of_mem_drop (List.mem_of_mem_take hx))
  have pX : (xs.extract (sa + k) (sa + na)).toList.Pairwise (Le κ) := by
    rw [exX]
    have e4 := sg_app (xs := xs) (l := sa) (m := k) (n := na - k)
    rw [q1] at e4
    rw [e4] at pa
    exact (List.pairwise_append.mp pa).2.1
  have pY : (xs.extract (sa + na) (sa + na + e)).toList.Pairwise (Le κ) := by
    rw [exY]
    have e4 := sg_app (xs := xs) (l := sa + na) (m := e) (n := nb - e)
    rw [q3] at e4
    rw [e4] at pb
    exact (List.pairwise_append.mp pb).1
  have h00 : ∀ y ∈ (xs.extract (sa + k) (sa + na)).toList, Le κ ((xs.extract (sa + na) (sa + na + e))[0]'(by omega)) y := fun y hy => by
    rw [exX] at hy
    rw [Array.getElem_extract]
    exact k2 y hy
  have hll : ∀ y ∈ (xs.extract (sa + na) (sa + na + e)).toList, ∀ x, (xs.extract (sa + k) (sa + na)).toList.getLast? = some x → Le κ y x := fun y hy x hx => by
    rw [exY] at hy
    rw [List.getLast?_eq_getElem?, Array.length_toList, sX, Array.getElem?_toList, getElem?_pos _ _ (by omega), Array.getElem_extract] at hx
    simp only [show sa + k + (na - k - 1) = sa + na - 1 by omega] at hx
    rw [← Option.some.inj hx]
    exact f1 y hy
  have fin : ∀ (r : Array Keyed) (st2 : SortSt), Ev (setPending st P) st2 → Fi (Le κ) ((xs.extract (sa + k) (sa + na)).toList ++ (xs.extract (sa + na) (sa + na + e)).toList) r →
      Q true (setArr st2 (List.foldl (fun a x => a.setIfInBounds (sa + k + x.snd) x.fst) (arrOf st2) r.toList.zipIdx)) := fun r st2 hev hfi => by
    rw [exX, exY] at hfi
    have harr : arrOf st2 = xs := hev.arr.trans hX
    have hrl : r.toList.length = na - k + e := by
      rw [hfi.1.length_eq, List.length_append, sg_len (by omega), sg_len (by omega)]
    have e5 := fold_list (sa + k) r.toList (arrOf st2) (by rw [harr, hrl]; omega)
    rw [harr, hrl] at e5
    have hm := merged (κ := κ) (xs := xs) (ys := List.foldl (fun a x => a.setIfInBounds (sa + k + x.snd) x.fst) (arrOf st2) r.toList.zipIdx) (sa := sa) (k := k) (nx := na - k) (ny := e) (nr := nb - e) (M := r.toList) (by omega)
      (by rw [harr, Nat.add_assoc (sa + k)]; exact e5)
      (by rw [q2]; exact hfi.1) hfi.2 (by rw [q1]; exact pa) (by rw [q2, q3]; exact pb)
      (by rw [q2]; exact fun x hx y hy => Le.tr (k1 x hx) (hbf y (hYsub y hy)))
      (by rw [q2]; exact fun x hx y hy => Le.tr (hal x (hA1 x hx)) (f2 y hy))
      (by rw [q2]; exact fun x hx y hy => Le.tr (hal x (hXsub x hx)) (f2 y hy))
    obtain ⟨m1, m2, m3⟩ := hm
    rw [q1, Nat.add_assoc, q3] at m2
    refine h _ (hSB _ m1 _ (hev.knd.trans hkn) (hev.ffl.trans hfl) rfl) hev.pen m2 fun t ht => m3 t (by omega)
  by_cases hcmp : na - k ≤ e
  · rw [if_pos hcmp]
    refine wpS_bind (w_mLo hO hkn (by omega) (by omega) kX kY pX pY h00 hll fun r st2 hev hfi => ?_)
    refine wpS_bind (wpS_modify (wpS_bind (wpS_get ?_)))
    have hf2 : failedOf st2 = none := hev.ffl.trans hfl
    rw [hf2]
    exact wpS_pure (fin r st2 hev hfi)
  · rw [if_neg hcmp]
    refine wpS_bind (w_mHi hO hkn (by omega) (by omega) kX kY pX pY h00 hll fun r st2 hev hfi => ?_)
    refine wpS_bind (wpS_modify (wpS_bind (wpS_get ?_)))
    have hf2 : failedOf st2 = none := hev.ffl.trans hfl
    rw [hf2]
    exact wpS_pure (fin r st2 hev hfi)
end
end SR

set_option autoImplicit false
set_option linter.all false
set_option maxRecDepth 100000
namespace SR
open PySem PyProof.Rows
noncomputable def Stk (κ : KeyKind) (xs : Array Keyed) : Nat → List (Nat × Nat × Nat) → Nat → Prop
  | s, [], e => s = e
  | s, t :: r, e => t.1 = s ∧ 1 ≤ t.2.1 ∧ Up κ xs s (s + t.2.1) ∧ Stk κ xs (s + t.2.1) r e
section
variable {κ : KeyKind} {kd : SortKind}
theorem Stk.le {xs : Array Keyed} : ∀ {l : List (Nat × Nat × Nat)} {s e : Nat}, Stk κ xs s l e → s + l.length ≤ e
  | [], s, e, h => by have : s = e := h; rw [this]; exact Nat.le_refl _
  | t :: r, s, e, h => by
    have := Stk.le h.2.2.2
    have := h.2.1
    rw [List.length_cons]
    omega
theorem up_keep {xs ys : Array Keyed} {l r : Nat} (h : Up κ xs l r) (he : ∀ k, l ≤ k → k < r → ys[k]? = xs[k]?) : Up κ ys l r := fun i j h1 h2 h3 => by
  rw [KK_congr (he i h1 (by omega)), KK_congr (he j (by omega) h3)]
  exact h i j h1 h2 h3
theorem Stk.keep {xs ys : Array Keyed} : ∀ {l : List (Nat × Nat × Nat)} {s e : Nat}, Stk κ xs s l e → (∀ k, s ≤ k → k < e → ys[k]? = xs[k]?) → Stk κ ys s l e
  | [], s, e, h, _ => h
  | t :: r, s, e, h, he => by
    have h2 := Stk.le h.2.2.2
    have h3 := h.2.1
    exact ⟨h.1, h.2.1, up_keep h.2.2.1 fun k k1 k2 => he k k1 (by omega), h.2.2.2.keep fun k k1 k2 => he k (by omega) k2⟩
theorem Stk.snoc {xs : Array Keyed} {n p : Nat} (hn : 1 ≤ n) : ∀ {l : List (Nat × Nat × Nat)} {s e : Nat}, Stk κ xs s l e → Up κ xs e (e + n) → Stk κ xs s (l ++ [(e, n, p)]) (e + n)
  | [], s, e, h, hu => by
    have : s = e := h
    subst this
    exact ⟨rfl, hn, hu, rfl⟩
  | t :: r, s, e, h, hu => ⟨h.1, h.2.1, h.2.2.1, h.2.2.2.snoc hn hu⟩
theorem Stk.like {xs : Array Keyed} : ∀ {l l' : List (Nat × Nat × Nat)} {s e : Nat}, Stk κ xs s l e → l'.map (fun t => (t.1, t.2.1)) = l.map (fun t => (t.1, t.2.1)) → Stk κ xs s l' e
  | [], [], s, e, h, _ => h
  | [], _ :: _, s, e, h, he => by simp at he
  | _ :: _, [], s, e, h, he => by simp at he
  | t :: r, t' :: r', s, e, h, he => by
    rw [List.map_cons, List.map_cons] at he
    obtain ⟨e1, e2⟩ := List.cons.inj he
    have e3 : t'.1 = t.1 := (Prod.mk.inj e1).1
    have e4 : t'.2.1 = t.2.1 := (Prod.mk.inj e1).2
    refine ⟨e3.trans h.1, by rw [e4]; exact h.2.1, by rw [e4]; exact h.2.2.1, ?_⟩
    rw [e4]
    exact h.2.2.2.like e2
theorem Stk.two {xs : Array Keyed} {a b : Nat × Nat × Nat} {v : List (Nat × Nat × Nat)} : ∀ {u : List (Nat × Nat × Nat)} {s e : Nat}, Stk κ xs s (u ++ a :: b :: v) e → s ≤ a.1 ∧ b.1 = a.1 + a.2.1 ∧ b.1 + b.2.1 ≤ e ∧ 1 ≤ a.2.1 ∧ 1 ≤ b.2.1 ∧ Up κ xs a.1 (a.1 + a.2.1) ∧ Up κ xs b.1 (b.1 + b.2.1)
  | [], s, e, h => by
    obtain ⟨rfl, h1, h2, h3, h4, h5, h6⟩ := h
    have := Stk.le h6
    rw [← h3] at h5
    exact ⟨Nat.le_refl _, h3, by omega, h1, h4, h2, h5⟩
  | t :: u, s, e, h => by
    have h2 := Stk.two (u := u) h.2.2.2
    have := h.2.1
    exact ⟨by omega, h2.2⟩
theorem Stk.join {xs ys : Array Keyed} {a b : Nat × Nat × Nat} {p : Nat} {v : List (Nat × Nat × Nat)} : ∀ {u : List (Nat × Nat × Nat)} {s e : Nat}, Stk κ xs s (u ++ a :: b :: v) e → Up κ ys a.1 (a.1 + (a.2.1 + b.2.1)) → (∀ t, t < a.1 ∨ a.1 + (a.2.1 + b.2.1) ≤ t → ys[t]? = xs[t]?) →
    Stk κ ys s (u ++ (a.1, a.2.1 + b.2.1, p) :: v) e
  | [], s, e, h, hu, hk => by
    obtain ⟨rfl, h1, h2, h3, h4, h5, h6⟩ := h
    refine ⟨rfl, by dsimp only; omega, hu, ?_⟩
    dsimp only
    rw [show a.1 + (a.2.1 + b.2.1) = a.1 + a.2.1 + b.2.1 by omega]
    exact h6.keep fun k k1 k2 => hk k (.inr (by omega))
  | t :: u, s, e, h, hu, hk => by
    have h2 := Stk.two (u := u) h.2.2.2
    exact ⟨h.1, h.2.1, up_keep h.2.2.1 fun k k1 k2 => hk k (.inl (by omega)), Stk.join (u := u) h.2.2.2 hu hk⟩
end
section
variable {prog : Program} {w : World} {A : Around} {E : Value → Shared → Prop} {s : Shared} {z : Array Keyed} {κ : KeyKind} {kd : SortKind}
theorem w_join {st : SortSt} {i lo : Nat} {Q : Bool → SortSt → Prop} (hO : LtR prog w A E s κ kd) (hz : KeysOf κ z) (hB : SB kd z st) (hlo : lo ≤ z.size) (hS : Stk κ (arrOf st) 0 (pendingOf st).toList lo) (hi : i + 1 < (pendingOf st).size)
    (h : ∀ st', SB kd z st' → Stk κ (arrOf st') 0 (pendingOf st').toList lo → (pendingOf st').size + 1 = (pendingOf st).size → (∀ t, lo ≤ t → (arrOf st')[t]? = (arrOf st)[t]?) → Q true st') : wpS (model prog w) A E s (mergeAt' i) Q st := by
  have hsp : (pendingOf st).toList = (pendingOf st).toList.take i ++ (pendingOf st)[i] :: (pendingOf st)[i + 1] :: (pendingOf st).toList.drop (i + 2) := by
    conv => lhs; rw [← List.take_append_drop i (pendingOf st).toList]
    congr 1
    rw [List.drop_eq_getElem_cons (by rw [Array.length_toList]; omega), List.drop_eq_getElem_cons (by rw [Array.length_toList]; omega)]
    simp
  have hS2 := hS
  rw [hsp] at hS2
  obtain ⟨_, g2, g3, g4, g5, g6, g7⟩ := hS2.two
  refine w_mAt (κ := κ) (i := i) (sa := (pendingOf st)[i].1) (na := (pendingOf st)[i].2.1) (pw := (pendingOf st)[i].2.2) (sb := (pendingOf st)[i + 1].1) (nb := (pendingOf st)[i + 1].2.1) (pv := (pendingOf st)[i + 1].2.2) hO hz hB (getElem?_pos _ i (by omega)) (getElem?_pos _ (i + 1) hi) g2 (by omega) g4 g5 g6 g7 fun st' b1 b2 b3 b4 => ?_
  have hj := hS2.join (p := (pendingOf st)[i].2.2) b3 b4
  have hl : (pendingOf st').toList = (pendingOf st).toList.take i ++ ((pendingOf st)[i].1, (pendingOf st)[i].2.1 + (pendingOf st)[i + 1].2.1, (pendingOf st)[i].2.2) :: (pendingOf st).toList.drop (i + 2) := by
    rw [b2, Array.eraseIdxIfInBounds_eq, dif_pos (by rw [Array.size_setIfInBounds]; omega), Array.toList_eraseIdx, Array.toList_setIfInBounds]
    apply List.ext_getElem?
    intro t
    have hlt : ((pendingOf st).toList.take i).length = i := by rw [List.length_take, Array.length_toList]; omega
    rw [List.getElem?_eraseIdx]
    by_cases t1 : t < i
    · rw [if_pos (by omega), List.getElem?_append_left (by omega), List.getElem?_take_of_lt t1, List.getElem?_set_ne (by omega)]
    · rw [List.getElem?_append_right (by omega), hlt]
      by_cases t2 : t = i
      · subst t2
        rw [if_pos (by omega), Nat.sub_self, List.getElem?_set_self (by rw [Array.length_toList]; omega)]
        rfl
      · rw [if_neg (by omega), show t - i = t - i - 1 + 1 by omega, List.getElem?_cons_succ, List.getElem?_drop, List.getElem?_set_ne (by omega)]
        congr 1
        omega
  refine h st' b1 (by rw [hl]; exact hj) ?_ fun t ht => b4 t (.inr (by omega))
  have := congrArg List.length hl
  rw [Array.length_toList, List.length_append, List.length_cons, List.length_take, List.length_drop, Array.length_toList] at this
  omega
theorem two_back (b : Bool) (n : Nat) (hn : 1 < n) : (if b = true then n - 2 - 1 else n - 2) + 1 < n := by
  cases b
  · rw [if_neg Bool.false_ne_true]; omega
  · rw [if_pos rfl]; omega
theorem mod_like (p : Array (Nat × Nat × Nat)) (i v : Nat) : ((p.modify i fun x => (x.1, x.2.1, v)).toList).map (fun t => (t.1, t.2.1)) = p.toList.map (fun t => (t.1, t.2.1)) := by
  apply List.ext_getElem?
  intro t
  rw [List.getElem?_map, List.getElem?_map, Array.getElem?_toList, Array.getElem?_toList, Array.getElem?_modify]
  split
  · cases p[t]? <;> rfl
  · rfl
theorem w_sort {st : SortSt} {Q : Unit → SortSt → Prop} (hO : LtR prog w A E s κ kd) (hz : KeysOf κ z) (hB : SB kd z st) (hp : pendingOf st = #[]) (h2 : 2 ≤ z.size)
    (h : ∀ st', SB kd z st' → Up κ (arrOf st') 0 z.size → Q () st') : wpS (model prog w) A E s sortRuns' Q st := by
  rw [sortRuns'_eq]
  refine wpS_bind (wpS_get ?_)
  dsimp only
  simp only [hB.sz]
  generalize minRun' z.size z.size 0 = mr
  refine wpS_bind (wpS_mono (wpS_forRange
    (I := fun x c st' => ∃ lo, c = (none, lo) ∧ SB kd z st' ∧ x ≤ lo ∧ lo ≤ z.size ∧ Stk κ (arrOf st') 0 (pendingOf st').toList lo)
    (Q := fun c st' => c = (none, z.size) ∧ SB kd z st' ∧ Stk κ (arrOf st') 0 (pendingOf st').toList z.size) ?sp ?fi ⟨0, rfl, hB, by omega, by omega, by rw [hp]; rfl⟩) ?po)
  case fi =>
    rintro c st' ⟨lo, rfl, hB', g1, g2, g3⟩
    obtain rfl : lo = z.size := by omega
    exact ⟨rfl, hB', g3⟩
  case sp =>
    rintro x c st1 _ hx ⟨lo, rfl, hB1, g1, g2, g3⟩
    dsimp only
    by_cases hge : lo ≥ z.size
    · rw [if_pos hge]
      obtain rfl : lo = z.size := by omega
      exact wpS_pure ⟨rfl, hB1, g3⟩
    rw [if_neg hge]
    refine wpS_bind (w_run hO hz (by omega) (by omega) hB1 fun m st2 hB2 hk2 hm1 hm2 hu2 => ?_)
    dsimp only
    by_cases hlt : m < mr
    case' pos =>
      rw [if_pos hlt]
      refine wpS_bind (wpS_lift (wpAny_rule ⟨rfl, ?_⟩))
      refine wpS_bind (w_ins hO hz (by omega) hm1 (by omega) hB2 hu2 fun st3 hB3 hk3 hu3 => ?_)
      simp only [Bool.not_true, Bool.false_eq_true, if_false]
      have hn1 : 1 ≤ min (z.size - lo) mr := by omega
      have hn2 : lo + min (z.size - lo) mr ≤ z.size := by omega
      have hk4 := hk2.tr hk3
      generalize min (z.size - lo) mr = n at hn1 hn2 hu3 ⊢
    case' neg =>
      rw [if_neg hlt]
      have hB3 := hB2
      have hk4 := hk2
      have hu3 := hu2
      have hn1 := hm1
      have hn2 : lo + m ≤ z.size := by omega
      obtain ⟨st3, e3⟩ : ∃ st3, st3 = st2 := ⟨_, rfl⟩
      rw [← e3] at hB3 hk4 hu3 ⊢
      generalize m = n at hn1 hn2 hu3 ⊢
    all_goals
      have hS3 : Stk κ (arrOf st3) 0 (pendingOf st3).toList lo := by
        rw [hk4.pen]
        exact g3.keep fun k _ k2 => hk4.low k k2
      refine wpS_bind (wpS_get ?_)
      cases hbk : (pendingOf st3).back? with
      | none =>
        dsimp only
        refine wpS_bind (wpS_modify (wpS_pure ⟨lo + n, rfl, ⟨hB3.prm, hB3.knd, hB3.ffl⟩, by omega, hn2, ?_⟩))
        show Stk κ (arrOf st3) 0 ((pendingOf st3).push (lo, n, 0)).toList (lo + n)
        rw [Array.toList_push]
        exact hS3.snoc hn1 hu3
      | some t =>
        obtain ⟨s1, n1, p1⟩ := t
        dsimp only
        refine wpS_bind (wpS_mono (wpS_forRange (I := fun _ c st' => c = (none, ()) ∧ SB kd z st' ∧ Stk κ (arrOf st') 0 (pendingOf st').toList lo ∧ Up κ (arrOf st') lo (lo + n))
          (Q := fun c st' => c = (none, ()) ∧ SB kd z st' ∧ Stk κ (arrOf st') 0 (pendingOf st').toList lo ∧ Up κ (arrOf st') lo (lo + n)) ?isp (fun _ _ hh => hh) ⟨rfl, hB3, hS3, hu3⟩) ?ipo)
        case isp =>
          rintro x1 c st4 _ _ ⟨rfl, hB4, hS4, hu4⟩
          refine wpS_bind (wpS_get ?_)
          by_cases hs1 : (pendingOf st4).size > 1
          · rw [if_pos hs1, getElem?_pos (pendingOf st4) ((pendingOf st4).size - 2) (by omega)]
            generalize (pendingOf st4)[(pendingOf st4).size - 2]'(by omega) = t
            obtain ⟨t1, t2, ol⟩ := t
            dsimp only
            split
            · exact wpS_pure ⟨rfl, hB4, hS4, hu4⟩
            · refine wpS_bind (w_join hO hz hB4 g2 hS4 (by omega) fun st5 b1 b2 b3 b4 => ?_)
              simp only [Bool.not_true, Bool.false_eq_true, if_false]
              exact wpS_pure ⟨rfl, b1, b2, up_keep hu4 fun k k1 _ => b4 k k1⟩
          · rw [if_neg hs1]
            exact wpS_pure ⟨rfl, hB4, hS4, hu4⟩
        case ipo =>
          rintro c st4 ⟨rfl, hB4, hS4, hu4⟩
          dsimp only
          refine wpS_bind (wpS_modify (wpS_bind (wpS_modify (wpS_pure ⟨lo + n, rfl, ⟨hB4.prm, hB4.knd, hB4.ffl⟩, by omega, hn2, ?_⟩))))
          show Stk κ (arrOf st4) 0 (((pendingOf st4).modify _ _).push (lo, n, 0)).toList (lo + n)
          rw [Array.toList_push]
          exact (hS4.like (mod_like _ _ _)).snoc hn1 hu4
  case po =>
    rintro c st1 ⟨rfl, hB1, hS1⟩
    dsimp only
    have hl1 := Stk.le hS1
    rw [Array.length_toList] at hl1
    refine wpS_bind (wpS_mono (wpS_forRange (I := fun x c st' => c = (none, ()) ∧ SB kd z st' ∧ Stk κ (arrOf st') 0 (pendingOf st').toList z.size ∧ (pendingOf st').size ≤ max 1 (z.size - x))
      (Q := fun c st' => c = (none, ()) ∧ SB kd z st' ∧ Stk κ (arrOf st') 0 (pendingOf st').toList z.size ∧ (pendingOf st').size ≤ 1) ?fsp ?ffi ⟨rfl, hB1, hS1, by omega⟩) ?fpo)
    case ffi =>
      rintro c st2 ⟨rfl, hB2, hS2, hl2⟩
      exact ⟨rfl, hB2, hS2, by omega⟩
    case fsp =>
      rintro x c st2 _ hx ⟨rfl, hB2, hS2, hl2⟩
      refine wpS_bind (wpS_get ?_)
      by_cases hs1 : (pendingOf st2).size ≤ 1
      · rw [if_pos hs1]
        exact wpS_pure ⟨rfl, hB2, hS2, hs1⟩
      rw [if_neg hs1]
      refine wpS_bind (w_join hO hz hB2 (Nat.le_refl _) hS2 ?_ fun st5 b1 b2 b3 b4 => ?_)
      · exact two_back _ _ (by omega)
      · simp only [Bool.not_true, Bool.false_eq_true, if_false]
        exact wpS_pure ⟨rfl, b1, b2, by omega⟩
    case fpo =>
      rintro c st2 ⟨rfl, hB2, hS2, hl2⟩
      dsimp only
      refine wpS_pure (h st2 hB2 ?_)
      rw [← Array.length_toList] at hl2
      cases hq : (pendingOf st2).toList with
      | nil =>
        rw [hq] at hS2
        have : 0 = z.size := hS2
        omega
      | cons t r =>
        rw [hq] at hS2 hl2
        rw [List.length_cons] at hl2
        obtain rfl : r = [] := List.length_eq_zero_iff.mp (by omega)
        obtain ⟨_, _, hu, he⟩ := hS2
        have e5 : 0 + t.2.1 = z.size := he
        rw [e5] at hu
        exact hu
end
end SR

set_option autoImplicit false
set_option linter.all false
set_option maxRecDepth 100000
set_option maxHeartbeats 200000
namespace SR
open PySem PyProof.Rows PySem.Spec
section
variable {prog : Program} {w : World} {A : Around} {E : Value → Shared → Prop} {s : Shared}
theorem two_of {α : Type} : ∀ {l : List α}, 2 ≤ l.length → ∃ a b r, l = a :: b :: r
  | [], h => by simp at h
  | [_], h => by simp at h
  | a :: b :: r, _ => ⟨a, b, r, rfl⟩
theorem sort_big {κ : KeyKind} {kd : SortKind} {l : Addr} {vs : List Value} {n : Nat} {P : Fin → Shared → Prop} (ob : s.heap.get? l = some (seqObj "list" vs.toArray n)) (hks : KeysOf κ (pairsOf vs))
    (hO : ∀ A E (s' : Shared), (∀ a o, a ≠ l → s.heap.get? a = some o → s'.heap.get? a = some o) → LtR prog w A E s' κ kd)
    (hkk : ∀ A E (s' : Shared) (Q : SortKind → Shared → Prop), 2 ≤ vs.length → (∀ a o, a ≠ l → s.heap.get? a = some o → s'.heap.get? a = some o) → Q kd s' → wpAny (model prog w) A (keyKind' vs.toArray) Q E s') (hmx : vs.length ≤ sizeLine)
    (h : ∀ st' : SortSt, (arrOf st').Perm (pairsOf vs) → SortedToK κ (arrOf st') (pairsOf vs).size → P (.done (.ret .none)) { s with heap := sortedHeap s.heap l vs ((arrOf st').map (·.2)) }) :
    wpAny (model prog w) A (Builtin.«list.sort» ⟨[.ref l], []⟩) P E s := by
  rw [list_sort_plain]
  have hlt : l < s.heap.objs.size := Heap.lt_size ob
  have hsz : vs.toArray.size = vs.length := by simp
  refine wpAny_bind (listItems_at ob rfl (wpAny_bind (listUpdate_at ob rfl ?_ (hsz := by rw [hsz]; exact hmx))))
  obtain ⟨ep, ob1⟩ : ∃ ep, (s.heap.update l (Obj.mapSeq fun _ => #[])).get? l = some (seqObj "list" #[] ep) := ⟨_, get?_update_seq ob (fun _ => #[])⟩
  refine wpAny_bind (seqEpoch_at ob1 rfl (wpAny_bind (wpAny_newTuple (wpAny_bind (wpAny_newList (wpAny_holding ?_))))))
  have ob2 : (((s.heap.update l (Obj.mapSeq fun _ => #[])).push (seqObj "tuple" vs.toArray 0)).push (seqObj "list" #[] 0)).get? l = some (seqObj "list" #[] ep) :=
    Heap.get?_push_of_some _ (Heap.get?_push_of_some _ ob1)
  show wpAny (model prog w) A _ P E { s with heap := ((s.heap.update l (Obj.mapSeq fun _ => #[])).push (seqObj "tuple" vs.toArray 0)).push (seqObj "list" #[] 0) }
  dsimp only
  by_cases hnb : vs.toArray.size < 2
  · rw [if_pos hnb, if_pos hnb]
    refine wpAny_bind (wpAny_pure ?_); rw [StateT.run_pure]; refine wpAny_bind (wpAny_pure ?_); dsimp only
    refine wpAny_bind (seqEpoch_at ob2 rfl (wpAny_bind (listUpdate_at ob2 rfl ?_ (hsz2 := ?_))))
    · simp only [bne_self_eq_false, Bool.false_eq_true, if_false]
      refine wpAny_pure (h (SortSt.mk' general' (vs.toArray.zip vs.toArray) #[] 7 none) (Array.Perm.refl _) fun i j hij hj => ?_)
      obtain rfl : i = j := by rw [pairsOf_size] at hj; omega
      exact KeyOrd.kle_refl _
    · rw [Array.size_map]; show (pairsOf vs).size ≤ _; rw [pairsOf_size]; rw [sizeLine_eq]; omega
  rw [if_neg hnb, if_neg hnb]
  have hag : ∀ a o, a ≠ l → s.heap.get? a = some o → (((s.heap.update l (Obj.mapSeq fun _ => #[])).push (seqObj "tuple" vs.toArray 0)).push (seqObj "list" #[] 0)).get? a = some o := fun a o na ha =>
    Heap.get?_push_of_some _ (Heap.get?_push_of_some _ (by rw [Heap.get?_update_ne _ _ _ _ na]; exact ha))
  refine wpAny_bind (hkk _ _ _ _ (by omega) hag (wpAny_bind (wpAny_mono (w_sort (κ := κ) (hO _ _ _ hag) (z := pairsOf vs) (st := SortSt.mk' kd (vs.toArray.zip vs.toArray) #[] 7 none)
    (Q := fun _ st' => SB kd (pairsOf vs) st' ∧ Up κ (arrOf st') 0 (pairsOf vs).size) hks ⟨Array.Perm.refl _, rfl, rfl⟩ rfl (by rw [pairsOf_size]; omega) fun st' a1 a2 => ⟨a1, a2⟩) ?_ fun _ _ e => e)))
  rintro ⟨⟨⟩, st'⟩ s' ⟨rfl, hB, hu⟩
  dsimp only
  have hpm := hB.prm
  refine wpAny_bind (seqEpoch_at ob2 rfl (wpAny_bind (listUpdate_at ob2 rfl ?_ (hsz2 := ?_))))
  · rw [hB.ffl]
    simp only [bne_self_eq_false, Bool.false_eq_true, if_false]
    exact wpAny_pure (h st' hpm fun i j hij hj => hu i j (Nat.zero_le _) hij hj)
  · refine Nat.le_trans (Nat.le_of_eq ((Array.size_map ..).trans (hpm.size_eq.trans (pairsOf_size _)))) ?_
    rw [sizeLine_eq] at hmx ⊢
    omega
theorem sorted_any {κ : KeyKind} {kd : SortKind} {l : Addr} {vs : List Value} {Q : Value → Shared → Prop} (hl : s.heap.IsList l vs.toArray) (hks : KeysOf κ (pairsOf vs))
    (hO : ∀ A E (s' : Shared), (∀ a o, s.heap.get? a = some o → s'.heap.get? a = some o) → LtR prog w A E s' κ kd)
    (hkk : ∀ A E (s' : Shared) (Q : SortKind → Shared → Prop), 2 ≤ vs.length → (∀ a o, s.heap.get? a = some o → s'.heap.get? a = some o) → Q kd s' → wpAny (model prog w) A (keyKind' vs.toArray) Q E s') (hmx : vs.length ≤ sizeLine)
    (h : ∀ st' : SortSt, (arrOf st').Perm (pairsOf vs) → SortedToK κ (arrOf st') (pairsOf vs).size → Q (.ref (s.heap.objs.size + 1)) { s with heap := sortedAll s.heap vs ((arrOf st').map (·.2)) }) :
    wpAny (model prog w) A (call (.builtin "sorted") [.ref l]) Q E s := by
  refine Calls.call_function_entry kind_sorted plain_sorted entry_sorted (args_sorted1 _) ?_
  unfold Builtin.«sorted»
  refine wpAny_bind (m := checkCount "sorted" 1 1 _) (wpAny_pure (wpAny_bind (collect_list hl (wpAny_bind (wpAny_newList ?_)) (hsz := by simpa using hmx))))
  have e1 : ((s.heap.push (seqObj "list" #[] 0)).update s.heap.objs.size (Obj.mapSeq (· ++ vs.toArray))).objs.size = s.heap.objs.size + 1 := by
    rw [Heap.size_update, size_push']
  have e2 : (((s.heap.push (seqObj "list" #[] 0)).update s.heap.objs.size (Obj.mapSeq (· ++ vs.toArray))).push (seqObj "list" vs.toArray 0)).get? (s.heap.objs.size + 1) = some (seqObj "list" vs.toArray 0) := by
    conv => lhs; rw [← e1]
    exact Heap.get?_push_size _ rfl
  have e3 : ∀ a o, s.heap.get? a = some o → a ≠ s.heap.objs.size + 1 ∧ (((s.heap.push (seqObj "list" #[] 0)).update s.heap.objs.size (Obj.mapSeq (· ++ vs.toArray))).push (seqObj "list" vs.toArray 0)).get? a = some o := fun a o ha =>
    have hlt : a < s.heap.objs.size := Heap.lt_size ha
    ⟨Nat.ne_of_lt (Nat.lt_succ_of_lt hlt), Heap.get?_push_of_some _ (by rw [Heap.get?_update_ne _ _ _ _ (Nat.ne_of_lt hlt)]; exact Heap.get?_push_of_some _ ha)⟩
  show wpAny _ _ _ _ _ { s with heap := ((s.heap.push (seqObj "list" #[] 0)).update s.heap.objs.size (Obj.mapSeq (· ++ vs.toArray))).push (seqObj "list" vs.toArray 0) }
  rw [e1]
  refine wpAny_bind (wpAny_holding (wpAny_call_entry slot_list_sort ⟨_, e2, rfl⟩ entry_list_sort (sort_big e2 hks (fun A E s' hs => hO A E s' fun a o ha => hs a o (e3 a o ha).1 (e3 a o ha).2) (fun A E s' Q h2 hs => hkk A E s' Q h2 fun a o ha => hs a o (e3 a o ha).1 (e3 a o ha).2) hmx fun st' a1 a2 => ⟨_, rfl, wpAny_pure ⟨_, rfl, ?_⟩⟩) (args_list_sort _)))
  exact h st' a1 a2
theorem kind_strs {vs : List Value} {ss : List Str} (hS : StrsAre vs ss) (h2 : 2 ≤ vs.length) : keyKind' vs.toArray = pure oneType' := by
  obtain ⟨v1, v2, r, e⟩ := two_of h2
  rw [e] at hS ⊢
  exact keyKind_strs hS
theorem sorted_big {l : Addr} {vs : List Value} {ss : List Str} {Q : Value → Shared → Prop} (hl : s.heap.IsList l vs.toArray) (hS : StrsAre vs ss) (hmx : vs.length ≤ sizeLine)
    (h : ∀ (out : Array Value) (ss' : List Str), StrsAre out.toList ss' → ss'.Perm ss → sortedS ss' = true → Q (.ref (s.heap.objs.size + 1)) { s with heap := sortedAll s.heap vs out }) :
    wpAny (model prog w) A (call (.builtin "sorted") [.ref l]) Q E s := by
  refine sorted_any hl hS.keysOf (fun _ _ _ _ => ltR_one strKind_oneLt) (fun _ _ _ _ h2 _ q => ?_) hmx fun st' a1 a2 => ?_
  · rw [kind_strs hS h2]; exact wpAny_pure q
  · obtain ⟨ss', h1, h2, h3⟩ := sorted_out_str hS a1 a2
    exact h _ ss' h1 h2 h3
end
end SR

set_option Elab.async false
set_option linter.all false
set_option maxRecDepth 100000
namespace L2
open PySem PyProof.Rows PySem.Spec
section
variable {X : Cx}
theorem call_sortedA : CallR X (.builtin "sorted") (fun xs H Q => ∃ (p : Addr) (ls : List (List Nat)), xs = [.ref p] ∧ SqL X.K H p (ls.map T) ∧ ∀ (ms : List (List Nat)) (D : Addr), H D = none → ms.Perm ls → ms.Pairwise (fun a b => ¬ b < a) → Q (.ref D) (upd H D (.lst (ms.map T)))) := by
  intro pins s σ H xs us Q I r h
  obtain ⟨p, ls, rfl, hq, q⟩ := h
  obtain ⟨u, rfl, ru⟩ := vals1 r
  cases ru
  obtain ⟨its, rv, pl, hz⟩ := I.list hq
  have hlen := rv.length
  rw [List.length_map] at hlen hz
  have key : ∀ (out : Array Value) (ss' : List Str), StrsAre out.toList ss' → ss'.Perm (ls.map tx) → sortedS ss' = true → EP X pins σ Q (.ref (s.heap.objs.size + 1)) { s with heap := sortedAll s.heap its out } := fun out ss' a1 a2 a3 => by
    obtain ⟨e, he⟩ := sortedAll_at s.heap its out
    have em : (ss'.map fun x => x.cps.toList).map tx = ss' := by
      rw [List.map_map]
      conv => rhs; rw [← List.map_id ss']
      exact List.map_congr_left fun x _ => tx_eta x
    have hp : (ss'.map fun x => x.cps.toList).Perm ls := by
      have y := a2.map fun x => x.cps.toList
      rw [List.map_map, show (fun x => x.cps.toList) ∘ tx = id from funext tx_cps, List.map_id] at y
      exact y
    refine ⟨.ref _, _, I.laid (t' := s.toks) (fun _ _ => sortedAll_old) (Nat.le_succ _) (o := .lst ((ss'.map fun x => x.cps.toList).map T)) ⟨?_, out.toList, e, strs_back a1, by simpa using he⟩, rfl, q _ _ (I.hok.fresh (Nat.le_succ _)) hp (sorted_pw _ (by rw [em]; exact a3))⟩
    rw [List.length_map, hp.length_eq]
    exact hz
  exact SR.sorted_big pl.isList (strsAre_T rv) (by rw [← hlen]; exact hz) key
end
end L2

set_option Elab.async false
set_option linter.all false
set_option maxRecDepth 100000
namespace SR
open PySem PyProof.Rows PySem.Spec
section
variable {prog : Program} {w : World} {A : Around} {E : Value → Shared → Prop} {s : Shared}
end
end SR
namespace L2
open PySem PyProof.Rows PySem.Spec
section
variable {X : Cx}
end
end L2

set_option Elab.async false
set_option linter.all false
set_option maxRecDepth 100000
namespace L2
open PySem PyProof.Rows PySem.Spec
section
variable {X : Cx}
end
end L2

namespace L2
open PySem PyProof.Rows PySem.Spec
section
variable {X : Cx}
end
end L2

set_option Elab.async false
set_option linter.all false
set_option maxRecDepth 100000
set_option Elab.async false
set_option linter.all false
set_option maxRecDepth 100000
namespace L2
open PySem PySem.Spec PyProof.Rows

end L2

namespace L2
open PySem PySem.Spec PyProof.Rows

section
variable (P : Program) (w : World)
end

section
variable {P : Program} {w : World} {H H' : Hp} {h h' : Heap} {a : Addr} {o : HO}
end

section
variable {P : Program} {w : World} {H : Hp} {h h' : Heap} {x e : Addr} {o' : HO}
end

section
variable {fs fs' ex ex' : List Addr} {H H1 H2 : Hp} {h h1 h2 h' : Heap} {a x e : Addr} {o : HO}
end

end L2

namespace L2
open PySem PySem.Spec PyProof.Rows

section
variable {X : Cx} {pins : List (Addr × Obj)} {σ : List (Option V)} {H H' : Hp} {s : Shared} {h' : Heap}

end

end L2

namespace L2
open PySem PySem.Spec PyProof.Rows
section
variable {X : Cx}

variable {a b : Expr} {ta tb : TE} {pos : Pos}
variable {tA tB' : TT} {rest : List Expr}
end
end L2

namespace L2
open PySem PySem.Spec PyProof.Rows

section
variable {X : Cx} {pins : List (Addr × Obj)} {σ : St} {H : Hp} {s : Shared} {a : Addr} {xs ys : List V}
end

section
variable {X : Cx} {pins : List (Addr × Obj)} {σ : St} {H : Hp} {s : Shared} {E : Value → Shared → Prop}
end

section
variable {X : Cx} {st : Stmt} {rest : List Stmt} {t u : TS} {e : Expr} {te : TE} {pos : Pos}
end

section
variable {X : Cx} {pos : Pos}
end

section
variable {X : Cx} {pos : Pos}
end

end L2

namespace L2
open PySem PySem.Spec PyProof.Rows
section
variable {X : Cx} {tg : Expr}
end

end L2

namespace L2
open PySem PySem.Spec PyProof.Rows

section
variable {X : Cx} {a b c : Expr} {ta tb tc : TE} {pos : Pos}

end

section
variable {X : Cx} {a b c : Expr} {ta tb tc : TE} {pos : Pos}
end
end L2

namespace L2
open PySem PySem.Spec PyProof.Rows

section
variable {prog : Program} {w : World} {A : Around} {E : Value → Shared → Prop} {s : Shared} {K : PySem.W.Frag} {x dx C f : Addr} {mA : Str → Option Value} {name : Str} {v : Value}

end

section
variable {P : Program} {w : World} {H H' : Hp} {h h' : Heap} {a C dx : Addr} {fs fs' : List (Str × V)}
end

section
variable {X : Cx} {pins : List (Addr × Obj)} {σ : St} {H : Hp} {s : Shared} {a C dx : Addr} {fs : List (Str × V)} {f : Str} {v : V} {A : Around} {E : Value → Shared → Prop}

end

section
variable {X : Cx} {o e value : Expr} {f : Str} {pos pos' tpos : Pos} {ta tv : TE}
end

section
variable {X : Cx} {pins : List (Addr × Obj)} {σ : St} {H : Hp} {s : Shared} {A : Around} {E : Value → Shared → Prop} {Q : Value → Shared → Prop} {c : Value} {b : Bool}
end
end L2

namespace L2
open PySem PySem.Spec PyProof.Rows

section
variable {X : Cx} {e : Expr} {es : List Expr} {te : TE} {t : TA} {pos : Pos}
end

section
variable {X : Cx} {pins : List (Addr × Obj)} {σ : St} {H : Hp} {s s' : Shared}
end

section
variable {X : Cx} {CX : CXT} {k : Nat} {f C : Addr} {fd : FuncData} {ps : List Str} {sp : Sp} {dvs : List V} {ds : List Value} {E : XK} {x m : Str} {p pos apos : Pos} {e o : Expr} {es : List Expr} {ta : TE} {t : TA}

end

section
variable {X : Cx} {CX : CXT} {k : Nat} {f C : Addr} {fd : FuncData} {ps ks : List Str} {sp : Sp} {E : XK} {x m : Str} {p pos apos kpos : Pos} {e o : Expr} {es : List Expr} {kws : List Keyword} {te ta : TE} {t tk : TA} {nm : Option Str}
variable {g : List Value → List Value → List Value} {gV : List V → List V → List V}
end

end L2

namespace L2
open PySem PySem.Spec PyProof.Rows
section
variable {X : Cx} {x : Str} {p pos : Pos} {e : Expr} {es : List Expr} {t : TA} {id T : String} {r : List V → Hp → VK → Prop}

end
end L2

namespace L2
open PySem PySem.Spec PyProof.Rows

section
variable {κ : Type} [DecidableEq κ]
noncomputable def valV (kvs : List (κ × V)) (k : κ) : Option V := (kvs.find? fun kv => decide (kv.1 = k)).map (·.2)
noncomputable def putK (kvs : List (κ × V)) (k : κ) (v : V) : List (κ × V) :=
  if (kvs.any fun kv => decide (kv.1 = k)) = true then kvs.map (fun kv => if kv.1 = k then (kv.1, v) else kv) else kvs ++ [(k, v)]
theorem valV_pos {p : κ × V} {r : List (κ × V)} {k : κ} (e : p.1 = k) : valV (p :: r) k = some p.2 := by simp [valV, List.find?_cons, e]
theorem valV_neg {p : κ × V} {r : List (κ × V)} {k : κ} (e : ¬ p.1 = k) : valV (p :: r) k = valV r k := by simp [valV, List.find?_cons, e]
theorem valV_any (k : κ) : ∀ kvs : List (κ × V), (kvs.any fun kv => decide (kv.1 = k)) = (valV kvs k).isSome
  | [] => rfl
  | p :: r => by
    rw [List.any_cons]
    by_cases e : p.1 = k
    · simp only [valV_pos e, decide_eq_true e, Bool.true_or, Option.isSome_some]
    · rw [valV_neg e, decide_eq_false e, Bool.false_or]; exact valV_any k r
theorem valV_map (k j : κ) (y : V) : ∀ kvs : List (κ × V), valV (kvs.map fun kv => if kv.1 = k then (kv.1, y) else kv) j = (valV kvs j).map fun x => if j = k then y else x
  | [] => rfl
  | p :: r => by
    have ih := valV_map k j y r
    rw [List.map_cons]
    by_cases h : p.1 = k
    · rw [if_pos h]
      by_cases e : p.1 = j
      · rw [valV_pos (p := (p.1, y)) e, valV_pos e, Option.map_some, if_pos (e.symm.trans h)]
      · rw [valV_neg (p := (p.1, y)) e, valV_neg e, ih]
    · rw [if_neg h]
      by_cases e : p.1 = j
      · rw [valV_pos (p := p) e, valV_pos e, Option.map_some, if_neg (fun z => h (e.trans z))]
      · rw [valV_neg (p := p) e, valV_neg e, ih]
theorem valV_snoc (k j : κ) (y : V) : ∀ kvs : List (κ × V), valV kvs k = none → valV (kvs ++ [(k, y)]) j = if j = k then some y else valV kvs j
  | [], _ => by
    by_cases e : k = j
    · rw [if_pos e.symm]; exact valV_pos (p := (k, y)) e
    · rw [if_neg (fun z => e z.symm)]; exact valV_neg (p := (k, y)) e
  | p :: r, hn => by
    rw [List.cons_append]
    have hk : ¬ p.1 = k := fun z => by rw [valV_pos z] at hn; cases hn
    rw [valV_neg hk] at hn
    have ih := valV_snoc k j y r hn
    by_cases e : p.1 = j
    · rw [valV_pos e, valV_pos e, if_neg (fun z => hk (e.trans z))]
    · rw [valV_neg e, valV_neg e, ih]
theorem valV_put (kvs : List (κ × V)) (k j : κ) (y : V) : valV (putK kvs k y) j = if j = k then some y else valV kvs j := by
  unfold putK
  by_cases a : (kvs.any fun kv => decide (kv.1 = k)) = true
  · rw [if_pos a, valV_map]
    rw [valV_any] at a
    by_cases e : j = k
    · obtain ⟨x, hx⟩ := Option.isSome_iff_exists.mp a
      rw [if_pos e, e, hx, Option.map_some, if_pos rfl]
    · rw [if_neg e]
      cases valV kvs j with
      | none => rfl
      | some x => rw [Option.map_some, if_neg e]
  · rw [if_neg a]
    refine valV_snoc k j y kvs ?_
    rw [valV_any] at a
    cases q : valV kvs k with
    | none => rfl
    | some x => rw [q] at a; exact (a rfl).elim
theorem length_putK (kvs : List (κ × V)) (k : κ) (v : V) : (putK kvs k v).length ≤ kvs.length + 1 := by
  unfold putK
  split
  · rw [List.length_map]; omega
  · rw [List.length_append, List.length_cons, List.length_nil]; omega
theorem RelO.isSome_eq {o : Option V} {u : Option Value} (r : RelO o u) : o.isSome = u.isSome := by
  cases o with
  | none => cases u with
    | none => rfl
    | some _ => exact (show False from r).elim
  | some _ => cases u with
    | none => exact (show False from r).elim
    | some _ => rfl
theorem KV.val {kvs : List (κ × V)} {vs : List (κ × Value)} (r : KV kvs vs) (k : κ) : RelO (valV kvs k) (valueAt vs k) := by
  unfold KV at r
  induction r with
  | nil => exact True.intro
  | @cons p q ps qs h t ih =>
    obtain ⟨h1, h2⟩ := h
    by_cases e : p.1 = k
    · have e' : q.1 = k := h1.symm.trans e
      have b : valueAt (q :: qs) k = some q.2 := by simp [valueAt, List.find?_cons, e']
      rw [valV_pos e, b]; exact h2
    · have e' : ¬ q.1 = k := fun z => e (h1.trans z)
      have b : valueAt (q :: qs) k = valueAt qs k := by simp [valueAt, List.find?_cons, e']
      rw [valV_neg e, b]; exact ih
theorem KV.any {kvs : List (κ × V)} {vs : List (κ × Value)} (r : KV kvs vs) (k : κ) : (kvs.any fun kv => decide (kv.1 = k)) = vs.any fun kv => decide (kv.1 = k) := by
  unfold KV at r
  induction r with
  | nil => rfl
  | cons h t ih => rw [List.any_cons, List.any_cons, ih, h.1]
theorem KV.repl {kvs : List (κ × V)} {vs : List (κ × Value)} (r : KV kvs vs) (k : κ) {y : V} {u : Value} (ry : RelV y u) :
    KV (kvs.map fun kv => if kv.1 = k then (kv.1, y) else kv) (vs.map fun kv => if kv.1 = k then (kv.1, u) else kv) := by
  unfold KV at r ⊢
  induction r with
  | nil => exact .nil
  | @cons p q ps qs h t ih =>
    rw [List.map_cons, List.map_cons]
    refine .cons ?_ ih
    obtain ⟨h1, h2⟩ := h
    by_cases e : p.1 = k
    · rw [if_pos e, if_pos (h1.symm.trans e)]; exact ⟨h1, ry⟩
    · rw [if_neg e, if_neg (fun z => e (h1.trans z))]; exact ⟨h1, h2⟩
theorem KV.put {kvs : List (κ × V)} {vs : List (κ × Value)} (r : KV kvs vs) (k : κ) {y : V} {u : Value} (ry : RelV y u) : KV (putK kvs k y) (stored vs k u) := by
  unfold putK stored
  rw [r.any k]
  by_cases e : (vs.any fun kv => decide (kv.1 = k)) = true
  · rw [if_pos e, if_pos e]; exact r.repl k ry
  · rw [if_neg e, if_neg e]; exact Paired.snoc r ⟨rfl, ry⟩
theorem KV.length {kvs : List (κ × V)} {vs : List (κ × Value)} (r : KV kvs vs) : kvs.length = vs.length := Paired.length r
end


theorem kV_is {P : Program} {w : World} {k : Key} {u : Value} (r : RelV (kV k) u) : (mixKind P w).is k u = true := by
  cases k with
  | inl i => obtain ⟨t, e⟩ := (show ∃ t, u = Value.int i t from r); subst e; exact mixKind_int P w i t
  | inr x => obtain ⟨t, e⟩ := (show ∃ t, u = Value.str x t from r); subst e; exact mixKind_str P w x t
theorem items_are {P : Program} {w : World} : ∀ {ks : List Key} {us : List Value}, Vals (ks.map kV) us → ItemsAre (mixKind P w) ks us
  | [], _, r => by rw [List.map_nil] at r; cases r; exact .nil
  | k :: ks, _, r => by
    rw [List.map_cons] at r
    cases r with
    | cons h t => exact .cons (kV_is h) (items_are t)

noncomputable abbrev KT (H : Hp) : List (List Key × V) → List (List Key × Addr × Value) → Prop := Paired fun p q => p.1 = q.1 ∧ H q.2.1 = some (.tup (p.1.map kV)) ∧ RelV p.2 q.2.2
theorem KT.val {H : Hp} {kvs : List (List Key × V)} {xs : List (List Key × Addr × Value)} (r : KT H kvs xs) (k : List Key) : RelO (valV kvs k) ((atKey xs k).map (·.2)) := by
  induction r with
  | nil => exact True.intro
  | @cons p q ps qs h t ih =>
    obtain ⟨h1, _, h2⟩ := h
    by_cases e : p.1 = k
    · have e' : q.1 = k := h1.symm.trans e
      have b : atKey (q :: qs) k = some q.2 := by simp [atKey, List.find?_cons, e']
      rw [valV_pos e, b]; exact h2
    · have e' : ¬ q.1 = k := fun z => e (h1.trans z)
      have b : atKey (q :: qs) k = atKey qs k := by simp [atKey, List.find?_cons, e']
      rw [valV_neg e, b]; exact ih
theorem KT.repl {H : Hp} {kvs : List (List Key × V)} {xs : List (List Key × Addr × Value)} (r : KT H kvs xs) (k : List Key) {y : V} {u : Value} (ry : RelV y u) :
    KT H (kvs.map fun kv => if kv.1 = k then (kv.1, y) else kv) (xs.map (putAt k u)) := by
  induction r with
  | nil => exact .nil
  | @cons p q ps qs h t ih =>
    rw [List.map_cons, List.map_cons]
    refine .cons ?_ ih
    obtain ⟨h1, h2, h3⟩ := h
    unfold putAt
    by_cases e : p.1 = k
    · rw [if_pos e, if_pos (h1.symm.trans e)]; exact ⟨h1, h2, ry⟩
    · rw [if_neg e, if_neg (fun z => e (h1.trans z))]; exact ⟨h1, h2, h3⟩
theorem KT.put {H : Hp} {kvs : List (List Key × V)} {xs : List (List Key × Addr × Value)} (r : KT H kvs xs) (k : List Key) {b : Addr} {y : V} {u : Value} (hb : H b = some (.tup (k.map kV))) (ry : RelV y u) :
    KT H (putK kvs k y) (storedH xs k b u) := by
  have e : (kvs.any fun kv => decide (kv.1 = k)) = (atKey xs k).isSome := by
    rw [valV_any, (r.val k).isSome_eq, Option.isSome_map]
  unfold putK storedH
  rw [e]
  by_cases q : (atKey xs k).isSome = true
  · rw [if_pos q, if_pos q]; exact r.repl k ry
  · rw [if_neg q, if_neg q]; exact Paired.snoc r ⟨rfl, hb, ry⟩
theorem KT.keeps {H H' : Hp} {kvs : List (List Key × V)} {xs : List (List Key × Addr × Value)} (r : KT H kvs xs) (ht : ∀ b ys, H b = some (.tup ys) → H' b = some (.tup ys)) : KT H' kvs xs :=
  Paired.mapP r fun _ _ z => ⟨z.1, ht _ _ z.2.1, z.2.2⟩

section
variable {P : Program} {w : World} {H : Hp} {h : Heap} {a : Addr}
theorem rd_of {u : HO} (ok : HOk P w H h) (e : Rd H a u) : ObjOk P w H h a u := e.ok ok
theorem dk_rd {kvs : List (Key × V)} (ok : HOk P w H h) (e : Rd H a (.dK kvs)) : kvs.length ≤ sizeLine ∧ (a == sysModules) = false ∧ ∃ vs, KV kvs vs ∧ h.DictOf (mixKind P w) a vs :=
  show ObjOk P w H h a (.dK kvs) from rd_of ok e
theorem dk_of {kvs : List (Key × V)} (ok : HOk P w H h) (e : H a = some (.dK kvs)) : kvs.length ≤ sizeLine ∧ (a == sysModules) = false ∧ ∃ vs, KV kvs vs ∧ h.DictOf (mixKind P w) a vs := dk_rd ok (.inl e)
theorem key_of {ks : List Key} (ok : HOk P w H h) (e : H a = some (.tup (ks.map kV))) : (tupleKind (mixKind P w)).is h ks a := by
  obtain ⟨_, its, r, o, h1, h2, n, h3⟩ := (show ObjOk P w H h a (.tup (ks.map kV)) from ok a _ e)
  exact ⟨o, its.toArray, n, h1, h2, h3, by simpa using items_are r⟩
theorem dt_rd {kvs : List (List Key × V)} (ok : HOk P w H h) (e : Rd H a (.dT kvs)) : kvs.length ≤ sizeLine ∧ (a == sysModules) = false ∧
    ∃ xs, KT H kvs xs ∧ h.DictOfH (tupleKind (mixKind P w)) a xs := by
  obtain ⟨z, y, xs, r, o, es, ep, h1, h2, h3, h4, h5⟩ := (show ObjOk P w H h a (.dT kvs) from rd_of ok e)
  refine ⟨z, y, xs, r, o, es, ep, h1, h2, h3, h4, fun x hx => ?_, h5⟩
  have all : ∀ {l : List (List Key × V)} {m : List (List Key × Addr × Value)}, KT H l m → ∀ x ∈ m, (tupleKind (mixKind P w)).is h x.1 x.2.1 := by
    intro l m q
    induction q with
    | nil => intro x hx; exact nomatch hx
    | @cons p q ps qs hq t ih =>
      intro x hx
      rcases List.mem_cons.mp hx with e | hx
      · subst e
        exact key_of ok (by rw [← hq.1]; exact hq.2.1)
      · exact ih x hx
  exact all r x hx
theorem dt_of {kvs : List (List Key × V)} (ok : HOk P w H h) (e : H a = some (.dT kvs)) : kvs.length ≤ sizeLine ∧ (a == sysModules) = false ∧
    ∃ xs, KT H kvs xs ∧ h.DictOfH (tupleKind (mixKind P w)) a xs := dt_rd ok (.inl e)
end

noncomputable def DGet (H : Hp) (a : Addr) (y : V) (r : Option V) : Prop :=
  (∃ kvs k, Rd H a (.dK kvs) ∧ y = kV k ∧ r = valV kvs k) ∨ ∃ kvs k b, Rd H a (.dT kvs) ∧ y = .ref b ∧ H b = some (.tup (k.map kV)) ∧ r = valV kvs k
noncomputable def DPut (H : Hp) (a : Addr) (y v : V) (H' : Hp) : Prop :=
  (∃ kvs k, H a = some (.dK kvs) ∧ y = kV k ∧ kvs.length < sizeLine ∧ H' = upd H a (.dK (putK kvs k v))) ∨
  ∃ kvs k b, H a = some (.dT kvs) ∧ y = .ref b ∧ H b = some (.tup (k.map kV)) ∧ kvs.length < sizeLine ∧ H' = upd H a (.dT (putK kvs k v))
theorem DGet.k {H : Hp} {a : Addr} {kvs : List (Key × V)} {k : Key} (e : H a = some (.dK kvs)) : DGet H a (kV k) (valV kvs k) := .inl ⟨kvs, k, .inl e, rfl, rfl⟩
theorem DPut.k {H : Hp} {a : Addr} {kvs : List (Key × V)} {k : Key} {v : V} (e : H a = some (.dK kvs)) (hl : kvs.length < sizeLine) : DPut H a (kV k) v (upd H a (.dK (putK kvs k v))) := .inl ⟨kvs, k, e, rfl, hl, rfl⟩
section
variable {X : Cx} {pins : List (Addr × Obj)} {σ : St} {H : Hp} {s : Shared} {a : Addr} {y v : V} {u r : Value} {o : Option V} {A : Around} {E : Value → Shared → Prop}

theorem Inv.big (I : Inv X pins σ H s) : sysModules < s.heap.objs.size := by
  have h : mainGlobals < s.heap.objs.size := (I.mod.glob.keeps I.bk).lt
  exact Nat.lt_trans (by decide) h

theorem d_getItem {Q : Value → Shared → Prop} (hu : A.units + 1 < cLine) (I : Inv X pins σ H s) (g : DGet H a y (some v)) (ry : RelV y u) (h : ∀ w' s', Inv X pins σ H s' → RelV v w' → Q w' s') :
    wpAny (model X.prog X.w) A (getItem (.ref a) u) Q E s := by
  rcases g with ⟨kvs, k, e, ey, l⟩ | ⟨kvs, k, b, e, ey, eb, l⟩
  · subst ey
    obtain ⟨z, hd, vs, rel, dd⟩ := dk_rd I.hok e
    obtain ⟨w', hw, rw'⟩ := RelO.some_of (v := v) (o := valueAt vs k) (by rw [l]; exact rel.val k)
    exact wpAny_getItem_of (kV_is ry) dd.mapOf hw (h w' _ (I.tok _) rw')
  · subst ey
    cases (show u = Value.ref b from ry)
    obtain ⟨z, hd, xs, rel, dd⟩ := dt_rd I.hok e
    obtain ⟨w', hw, rw'⟩ := RelO.some_of (v := v) (o := (atKey xs k).map (·.2)) (by rw [l]; exact rel.val k)
    obtain ⟨p, hp, hp2⟩ := Option.map_eq_some_iff.mp hw
    refine wpAny_getItem_heap (tupleKind_room_in1 hu) (key_of I.hok eb) dd hp ?_
    rw [hp2]
    exact h w' _ (I.tok _) rw'
theorem d_in {Q : Value → Shared → Prop} (hu : A.units + 1 < cLine) (I : Inv X pins σ H s) (g : DGet H a y o) (ry : RelV y u) (h : ∀ s', Inv X pins σ H s' → Q (.bool o.isSome) s') :
    wpAny (model X.prog X.w) A (compareOp .In u (.ref a)) Q E s := by
  rcases g with ⟨kvs, k, e, ey, l⟩ | ⟨kvs, k, b, e, ey, eb, l⟩
  · subst ey
    obtain ⟨z, hd, vs, rel, dd⟩ := dk_rd I.hok e
    refine wpAny_in_of (kV_is ry) hd dd.mapOf ?_
    rw [← (rel.val k).isSome_eq, ← l]
    exact h _ (I.tok _)
  · subst ey
    cases (show u = Value.ref b from ry)
    obtain ⟨z, hd, xs, rel, dd⟩ := dt_rd I.hok e
    refine wpAny_in_heap (tupleKind_room_in1 hu) (key_of I.hok eb) hd dd ?_
    have q := (rel.val k).isSome_eq
    rw [Option.isSome_map] at q
    rw [← q, ← l]
    exact h _ (I.tok _)
theorem d_write {h' : Heap} {t' : Nat} {ob : HO} (I : Inv X pins σ H s) (mu : Mut (H a)) (hs : Heap.SameBut a s.heap h') (he : ∃ q, h'.get? a = some q) (new : ObjOk X.prog X.w (upd H a ob) h' a ob) :
    Inv X pins σ (upd H a ob) { s with heap := h', toks := t' } :=
  I.write (x := a) (e := a) mu (.inl rfl) (fun b q hb z => (hs.2 b hb).trans z) he new
theorem dk_new {P : Program} {w : World} {H' : Hp} {h' : Heap} {kvs : List (Key × V)} {vs : List (Key × Value)} (z : kvs.length ≤ sizeLine) (hd : (a == sysModules) = false) (rel : KV kvs vs) (dd : h'.DictOf (mixKind P w) a vs) :
    ObjOk P w H' h' a (.dK kvs) := ⟨z, hd, vs, rel, dd⟩
theorem d_setItem {H' : Hp} {Q : Unit → Shared → Prop} (hu : A.units + 1 < cLine) (I : Inv X pins σ H s) (g : DPut H a y v H') (ry : RelV y u) (rv : RelV v r) (h : ∀ s', Inv X pins σ H' s' → Q () s') :
    wpAny (model X.prog X.w) A (setItem (.ref a) u r) Q E s := by
  rcases g with ⟨kvs, k, e, ey, l, eH⟩ | ⟨kvs, k, b, e, ey, eb, l, eH⟩
  · subst ey eH
    obtain ⟨z, hd, vs, rel, dd⟩ := dk_of I.hok e
    have hz : vs.length ≤ sizeLine := by rw [← rel.length]; exact z
    have hl : (putK kvs k v).length ≤ sizeLine := by have := length_putK kvs k v; omega
    refine wpAny_setItem_pairs (hsz := hz) (kV_is ry) dd fun h' dd' hs => h _ ?_
    have he : ∃ q, h'.get? a = some q := let ⟨q, _, _, hq, _⟩ := dd'; ⟨q, hq⟩
    exact d_write I (by rw [e]; exact True.intro) hs he (dk_new hl hd (rel.put k rv) dd')
  · subst ey eH
    cases (show u = Value.ref b from ry)
    obtain ⟨z, hd, xs, rel, dd⟩ := dt_of I.hok e
    have hz : xs.length ≤ sizeLine := by rw [← Paired.length rel]; exact z
    have hl : (putK kvs k v).length ≤ sizeLine := by have := length_putK kvs k v; omega
    refine wpAny_setItem_heap (hsz := hz) (tupleKind_room_in1 hu) (key_of I.hok eb) dd fun h' dd' hs => h _ ?_
    obtain ⟨q, es, ep, hq, h2, h3, h4, _, h5⟩ := dd'
    refine d_write I (by rw [e]; exact True.intro) hs ⟨q, hq⟩ ⟨hl, hd, _, (rel.put k eb rv).keeps fun c ys ec => ?_, q, es, ep, hq, h2, h3, h4, h5⟩
    rw [upd_ne (ne_of ec e (fun z => nomatch z))]
    exact ec
end

section
variable {X : Cx} {pins : List (Addr × Obj)} {σ : St} {H : Hp} {s : Shared} {a : Addr} {kvs : List (Key × V)} {k : Key} {u : Value} {A : Around} {E : Value → Shared → Prop}
end


noncomputable def NoSl (i : Expr) : Prop := ∀ ov iv, subscripted i false ov iv = operate [ov, iv] (getItem ov iv)
theorem subD_of {prog : Program} {w : World} {A : Around} {E : Value → Shared → Prop} {s : Shared} {env : Env} {value slice : Expr} {pos : Pos} {T id : String} {Q : Value → Shared → Prop}
    (hl : typeLookup (.type T) "__getitem__" = pure (some (.builtin id))) (hs : NoSl slice)
    (h : wpAny (model prog w) A (eval value env) (fun o s₁ => wpAny (model prog w) A (eval slice env) (fun i s₂ => s₂.TypeIs o T ∧ wpAny (model prog w) A (getItem o i) Q E s₂) E s₁) E s) :
    wpAny (model prog w) A (eval (.Subscript value slice pos) env) Q E s := by
  refine Subscript_ (wpAny_mono h (fun o s₁ h₁ => wpAny_mono h₁ (fun i s₂ h₂ => ?_) fun _ _ x => x) fun _ _ x => x)
  obtain ⟨hT, h₂⟩ := h₂
  unfold subscriptTail
  refine wpAny_bind ?_
  rw [getitemInPython_of_ne hT.not_modules]
  refine wpAny_bind (wpAny_specialOf hT hl ?_)
  have fin : wpAny (model prog w) A (subscripted slice false o i) (fun r s₃ => wpAny (model prog w) A (letTemporaryGo value o r >>= fun _ => pure r) Q E s₃) E s₂ := by
    rw [hs o i]
    exact wpAny_operating (wpAny_mono h₂ (fun r s₃ h₃ => wpAny_bind (wpAny_letTemporaryGo (wpAny_pure h₃))) fun _ _ x => x)
  first
    | exact wpAny_pure (wpAny_bind fin)
    | exact wpAny_bind (wpAny_pure (wpAny_bind fin))
    | exact wpAny_bind fin

theorem dict_typeIs {X : Cx} {pins : List (Addr × Obj)} {σ : St} {H : Hp} {s : Shared} {a : Addr} {y : V} {o : Option V} (I : Inv X pins σ H s) (g : DGet H a y o) : s.TypeIs (.ref a) "dict" := by
  rcases g with ⟨kvs, k, e, _, _⟩ | ⟨kvs, k, b, e, _, _, _⟩
  · obtain ⟨_, _, vs, _, dd⟩ := dk_rd I.hok e
    exact dd.typeIs
  · obtain ⟨_, _, xs, _, dd⟩ := dt_rd I.hok e
    exact dd.typeIs
noncomputable def tDGet (td ty : TE) : TE := fun σ H Q => td σ H fun x H1 => ty σ H1 fun y H2 => ∃ a v, x = .ref a ∧ DGet H2 a y (some v) ∧ Q v H2
noncomputable def tDIn (ty td : TE) : TE := fun σ H Q => ty σ H fun y H1 => td σ H1 fun x H2 => ∃ a o, x = .ref a ∧ DGet H2 a y o ∧ Q (.bl o.isSome) H2
noncomputable def sDPut (td ty tv : TE) : TS := fun D σ H => tv σ H fun v H1 => td σ H1 fun x H2 => ty σ H2 fun y H3 => ∃ a H4, x = .ref a ∧ DPut H3 a y v H4 ∧ D.nx σ H4
section
variable {X : Cx} {o i e value : Expr} {pos pos' tpos : Pos} {td ty tv : TE}
theorem pe_dget (hu : X.A.units + 1 < cLine) (ho : PE X o td) (hi : PE X i ty) (hs : NoSl i) : PE X (.Subscript o i pos) (tDGet td ty) := by
  intro pins s σ H Q I h
  refine subD_of PySem.F.slot_dict_getitem.lookup hs (thn (ho pins s σ H _ I h) fun u s1 ⟨x, H1, I1, rx, q1⟩ => thn (hi pins s1 σ H1 _ I1 q1) fun iv s2 ⟨y, H2, I2, ry, a, v, ex, g, q2⟩ => ?_)
  subst ex
  obtain rfl : u = Value.ref a := rx
  exact ⟨dict_typeIs I2 g, d_getItem hu I2 g ry fun w' s3 I3 rw' => ⟨v, H2, I3, rw', q2⟩⟩
theorem pc_din (hu : X.A.units + 1 < cLine) (hi : PE X i ty) (ho : PE X o td) : PC X .In i o (tDIn ty td) := by
  intro pins s σ H Q I h
  refine thn (hi pins s σ H _ I h) fun iv s1 ⟨y, H1, I1, ry, q1⟩ => thn (ho pins s1 σ H1 _ I1 q1) fun u s2 ⟨x, H2, I2, rx, a, ov, ex, g, q2⟩ => ?_
  subst ex
  obtain rfl : u = Value.ref a := rx
  exact d_in hu I2 g ry fun s3 I3 => ⟨.bl ov.isSome, H2, I3, rfl, q2⟩
theorem ps_dput (hu : X.A.units + 1 < cLine) (ho : PE X o td) (hi : PE X i ty) (hv : PE X value tv) (hs : swapsWith value (some (.Subscript o i pos')) pos.line X.env = pure false) :
    PS X (.Assign [.Subscript o i pos'] value pos) (sDPut td ty tv) := by
  intro pins s σ H D I h
  refine wpAny_Assign_Subscript (thn (hv pins s σ H _ I h) fun r s1 ⟨v, H1, I1, rv, q1⟩ => thn (ho pins s1 σ H1 _ I1 q1) fun u s2 ⟨x, H2, I2, rx, q2⟩ => thn (hi pins s2 σ H2 _ I2 q2) fun iv s3 ⟨y, H3, I3, ry, a, H4, ex, g, q3⟩ => ?_) hs
  subst ex
  obtain rfl : u = Value.ref a := rx
  exact d_setItem hu I3 g ry rv fun s4 I4 => ⟨σ, H4, I4, q3⟩
end


theorem dk_empty {P : Program} {w : World} {H : Hp} (h : Heap) (hb : sysModules < h.objs.size) : ObjOk P w H (h.push { cls := .type "dict", data := .dict #[] }) h.objs.size (.dK []) :=
  ⟨Nat.zero_le _, beq_eq_false_iff_ne.mpr (Ne.symm (Nat.ne_of_lt hb)), [], .nil, Heap.DictOf.new h⟩
noncomputable def tDNewK : TE := fun _ H Q => ∀ p, H p = none → Q (.ref p) (upd H p (.dK []))
section
variable {X : Cx} {pos : Pos}
theorem pe_dnewK : PE X (.Dict [] [] pos) tDNewK := fun pins s σ H Q I h =>
  wpAny_Dict_empty ⟨.ref s.heap.objs.size, _, I.laid (a := s.heap.objs.size) (o := .dK []) (t' := s.toks) (fun _ _ q => Heap.get?_push_of_some _ q) (Nat.le_refl _) (dk_empty s.heap I.big), rfl, h _ (I.hok.fresh (Nat.le_refl _))⟩
end

section
variable {X : Cx} {pins : List (Addr × Obj)} {σ : St} {H : Hp} {s : Shared} {a : Addr} {y d : V} {u r : Value} {o : Option V} {A : Around} {E : Value → Shared → Prop}
end

section
variable {X : Cx} {o e f : Expr} {apos cpos : Pos} {td ty tx : TE}
end

section
variable {X : Cx} {pins : List (Addr × Obj)} {σ : St} {H : Hp} {s : Shared} {a : Addr} {kvs : List (Key × V)} {A : Around} {E : Value → Shared → Prop}
end


section
variable {X : Cx} {pins : List (Addr × Obj)} {σ : St} {H : Hp} {s : Shared} {a : Addr} {y : V} {u : Value} {A : Around} {E : Value → Shared → Prop}
end
end L2

namespace Att
open PySem PySem.W PySem.Calls PyProof.Rows

section
variable {prog : Program} {w : World} {A : Around} {E : Value → Shared → Prop} {s : Shared} {K : Frag}

end
end Att

namespace L2
open PySem PySem.Spec PyProof.Rows

end L2

namespace L2
open PySem PySem.Spec PyProof.Rows

end L2

namespace L2
open PySem PySem.Spec PyProof.Rows

section
variable {P : Program} {w : World} {K : PySem.W.Frag} {mg : Str → Option Value} {base : Heap}
end
section
variable {X : Cx}
end

section
variable {κ : Type} [DecidableEq κ]
end
end L2


set_option Elab.async false
set_option linter.all false
set_option maxRecDepth 100000
set_option maxHeartbeats 400000
namespace L2
open PySem PySem.Spec PyProof.Rows
namespace RT
noncomputable def obj (x : Str) (t : Tok) (i : Int) : Obj := { cls := .type "reversed", data := .fields #[.str x t, rawInt i] }
section
variable {prog : Program} {w : World} {A : Around} {E : Value → Shared → Prop} {s : Shared}
end
section
variable {prog : Program} {w : World} {A : Around} {E : Value → Shared → Prop} {s : Shared}
end
end RT
section
variable {X : Cx}
theorem letters_flat : ∀ a : List Nat, (a.map fun c => [c]).flatten = a
  | [] => rfl
  | c :: a => by rw [List.map_cons, List.flatten_cons, letters_flat a]; rfl
end
end L2

set_option Elab.async false
set_option linter.all false
set_option maxRecDepth 100000
namespace L2
open PySem PySem.Spec PyProof.Rows
section
variable {X : Cx}
end
end L2
namespace L2
open PySem PySem.Spec PyProof.Rows
set_option genInjectivity false in
structure Cam (P : Program) (w : World) (K : PySem.W.Frag) (mg : Str → Option Value) (base : Heap) (CX : CXT) (x : Str) (C : Addr) (k : Nat) (ps : List Str) (sp : Sp) : Prop where
  ex : ∃ (f : Addr) (fd : FuncData), FnOk P w K mg base CX k f fd ps sp ∧ Mk K C f ∧ mg x = some (.ref C) ∧ Binds K fd ps []
section
variable {X : Cx}
theorem pe_mak {CX : CXT} {x : Str} {C : Addr} {j k : Nat} {ps : List Str} {sp : Sp} {E : XK} {e : Expr} {es : List Expr} {t : TA} {p pos : Pos} (c : Cam X.prog X.w X.K X.mg X.base CX x C j ps sp) (hr : Room k X.A) (hx : Passes CX X E) (ha : PA X (e :: es) t)
    (hjk : j + 1 ≤ k := by decide) (hg : Gl X x := by rfl) (b1 : (x == ("__debug__" : Str)) = false := by decide) (b2 : starEach (e :: es) X.env = (false, eval e X.env) :: starEach es X.env := by rfl) (b3 : (backTo pos (starEach es X.env)).any (·.1) = false := by rfl) :
    PE X (.Call (.Name x p) (e :: es) [] pos) (tMake C sp [] E t) := by
  obtain ⟨f, fd, F, M, hm, hb⟩ := c.ex
  exact pe_make M F (hr.mono hjk) hg hm hb .nil hx ha b1 b2 b3
end
end L2

set_option Elab.async false
set_option linter.all false
set_option maxRecDepth 100000
set_option maxHeartbeats 4000000
namespace L2
open PySem PySem.Spec PyProof.Rows
section
variable {X : Cx}
end
namespace SE
section
variable {prog : Program} {w : World} {A : Around} {E : Value → Shared → Prop} {s : Shared}
end
end SE
section
variable {X : Cx}
end
end L2

set_option Elab.async false
set_option linter.all false
set_option maxRecDepth 100000
namespace ST
open PySem PySem.SetTable

noncomputable def it (M : Nat) : Nat → Nat → Nat
  | 0, i => i
  | s + 1, i => it M s ((i * 5 + 1) % M)
noncomputable def orbit (M : Nat) : Nat → Nat → List Nat
  | 0, _ => []
  | s + 1, i => i :: orbit M s ((i * 5 + 1) % M)
noncomputable def full (M : Nat) : Bool := it M M 0 == 0 && (List.range M).all fun j => (orbit M M 0).contains j
noncomputable def vals (N : Nat) (f : Nat → Option Nat) : List Nat := (List.range N).filterMap f
noncomputable def Good (mask : Nat) (owner : Array (Option Nat)) (k : Nat) : Prop := owner.size = mask + 1 ∧ (vals (mask + 1) fun j => owner.getD j none).Perm (List.range k)
end ST

set_option Elab.async false
set_option linter.all false
set_option maxRecDepth 100000
set_option maxHeartbeats 4000000
namespace SS
open PySem PyProof.Rows
section
variable {prog : Program} {w : World} {A : Around} {E : Value → Shared → Prop} {s : Shared}
end
end SS

set_option Elab.async false
set_option linter.all false
set_option maxRecDepth 100000
set_option maxHeartbeats 4000000
namespace SS
open PySem PyProof.Rows

section
variable {prog : Program} {w : World} {A : Around} {E : Value → Shared → Prop} {s : Shared}
end
end SS

set_option Elab.async false
set_option linter.all false
set_option maxRecDepth 100000
set_option maxHeartbeats 4000000
namespace SS
open PySem PyProof.Rows
section
variable {prog : Program} {w : World} {A : Around} {E : Value → Shared → Prop} {s : Shared}
end
end SS

set_option Elab.async false
set_option linter.all false
set_option maxRecDepth 100000
set_option maxHeartbeats 4000000
namespace SS
open PySem PyProof.Rows
noncomputable def It (h : Heap) (I a : Addr) (first : Value) (i n ep : Nat) : Prop := ∃ o, h.get? I = some o ∧ o.cls = .type "set_iterator" ∧ o.data = .fields #[first, rawInt (i : Int), .ref a, rawInt (n : Int), rawInt (ep : Int)]
section
variable {prog : Program} {w : World} {A : Around} {E : Value → Shared → Prop} {s : Shared}
end
end SS

set_option Elab.async false
set_option linter.all false
set_option maxRecDepth 100000
set_option maxHeartbeats 4000000
namespace SS
open PySem PyProof.Rows
section
variable {prog : Program} {w : World} {A : Around} {E : Value → Shared → Prop} {s : Shared}
end
end SS

set_option Elab.async false
set_option linter.all false
set_option maxRecDepth 100000
set_option maxHeartbeats 4000000
namespace SS
open PySem PyProof.Rows
section
variable {prog : Program} {w : World} {A : Around} {E : Value → Shared → Prop} {s : Shared}
end
end SS

set_option Elab.async false
set_option linter.all false
set_option maxRecDepth 100000
set_option maxHeartbeats 4000000
namespace SS
open PySem PyProof.Rows
section
variable {prog : Program} {w : World} {A : Around} {E : Value → Shared → Prop} {s : Shared}
end
end SS

set_option Elab.async false
set_option linter.all false
set_option maxRecDepth 100000
set_option maxHeartbeats 4000000
namespace L2
open PySem PySem.Spec PyProof.Rows
namespace SE
section
variable {prog : Program} {w : World} {A : Around} {R : Result → Shared → Prop} {J : Addr} {fp wr : List Addr} {G : Array GenState → Array GenState → Prop} {n : Nat} {P : Nat → Value → Prop} {St : Nat → Shared → Prop}
variable {E : Value → Shared → Prop} {s : Shared}
end
end SE
section
variable {X : Cx}
end
end L2

set_option Elab.async false
set_option linter.all false
set_option maxRecDepth 100000
namespace L2
open PySem PySem.Spec PyProof.Rows
set_option genInjectivity false in
structure Reads (J : It) (H : Hp) (vs : List V) : Prop where
  go : ∀ i H', Same H H' → i < vs.length → J.go i H'
  yl : ∀ i H' y H2, Same H H' → J.yld i H' y H2 → H2 = H' ∧ vs[i]? = some y
  st : ∀ H', Same H H' → J.stop vs.length H'
theorem reads_list {K : PySem.W.Frag} {a : Addr} {H : Hp} {vs : List V} (h : SqL K H a vs) : Reads (Itl K a) H vs :=
  ⟨fun i H' s hi => ⟨vs, vs[i], s.seq h, List.getElem?_eq_getElem hi⟩, fun i H' y H2 s ⟨e1, e2⟩ => ⟨e1, e2 vs (s.seq h)⟩, fun H' s => ⟨vs, s.seq h, Nat.le_refl _⟩⟩
theorem tupOn {K : PySem.W.Frag} {H H' : Hp} {p : Addr} {xs : List V} (s : Same H H') (h : SqT K H p xs) : SqT K H' p xs := by
  rcases h with (h | ⟨q, h⟩) | h
  · exact .inl (.inl (s _ _ h))
  · exact .inl (.inr ⟨q, s _ _ h⟩)
  · exact .inr h
theorem compG {J : It} {vs : List V} {te : TE} {σ : St} {H : Hp} {Q : VK} (f : V → V) (rd : Reads J H vs) (hn : vs.length ≤ sizeLine)
    (he : ∀ x H', x ∈ vs → Same H H' → ∀ N : V → Hp → Prop, (∀ H'', Same H' H'' → N (f x) H'') → te (some x :: σ) H' N)
    (hq : ∀ D H', H D = none → Same H H' → H' D = some (.lst (vs.map f)) → Q (.ref D) H') : compAt te σ Q J H := by
  intro D hD
  refine ⟨fun i m ys H2 => m = vs.length - i ∧ i ≤ vs.length ∧ ys = (vs.take i).map f ∧ Same H H2 ∧ H2 D = some (.lst ys), ⟨vs.length, rfl, Nat.zero_le _, rfl, fun b o e => ?_, upd_same⟩, ?_⟩
  · rw [upd_ne (ne_of_none e hD)]
    exact e
  · rintro i m ys H2 ⟨rfl, hi, rfl, hs, hd⟩
    by_cases hlt : i < vs.length
    · have hx : vs[i]? = some vs[i] := List.getElem?_eq_getElem hlt
      refine .inr ⟨rd.go i H2 hs hlt, by rw [List.length_map, List.length_take]; omega, fun v H' => v = f vs[i] ∧ Same H2 H', fun v H' ⟨ev, hs'⟩ => ⟨hs' D _ hd, vs.length - (i + 1), by omega, rfl, hlt, ?app, fun b o e => ?kp, upd_same⟩, fun y H' hy => ?stp⟩
      case app =>
        rw [ev, List.take_add_one, hx, List.map_append]
        rfl
      case kp =>
        rw [upd_ne (ne_of_none e hD)]
        exact hs' b o (hs b o e)
      case stp =>
        obtain ⟨rfl, e2⟩ := rd.yl i H2 y H' hs hy
        have e4 : y = vs[i] := by rw [hx] at e2; exact (Option.some.inj e2).symm
        subst e4
        exact he _ _ (List.getElem_mem hlt) hs _ fun H'' h'' => ⟨rfl, h''⟩
    · have e : i = vs.length := by omega
      subst e
      rw [List.take_length] at hd
      exact .inl ⟨rd.st H2 hs, hq D H2 hD hs hd⟩
theorem compFG {J : It} {vs : List V} {tc : TT} {te : TE} {σ : St} {H : Hp} {Q : VK} (p : V → Bool) (f : V → V) (rd : Reads J H vs) (hn : vs.length ≤ sizeLine)
    (ht : ∀ x H', x ∈ vs → Same H H' → ∀ N : Bool → Hp → Prop, (∀ H'', Same H' H'' → N (p x) H'') → tc (some x :: σ) H' N)
    (he : ∀ x H', x ∈ vs → p x = true → Same H H' → ∀ N : V → Hp → Prop, (∀ H'', Same H' H'' → N (f x) H'') → te (some x :: σ) H' N)
    (hq : ∀ D H', H D = none → Same H H' → H' D = some (.lst ((vs.filter p).map f)) → Q (.ref D) H') : compAtF tc te σ Q J H := by
  intro D hD
  refine ⟨fun i m ys H2 => m = vs.length - i ∧ i ≤ vs.length ∧ ys = ((vs.take i).filter p).map f ∧ Same H H2 ∧ H2 D = some (.lst ys), ⟨vs.length, rfl, Nat.zero_le _, rfl, fun b o e => ?_, upd_same⟩, ?_⟩
  · rw [upd_ne (ne_of_none e hD)]
    exact e
  · rintro i m ys H2 ⟨rfl, hi, rfl, hs, hd⟩
    by_cases hlt : i < vs.length
    · have hx : vs[i]? = some vs[i] := List.getElem?_eq_getElem hlt
      refine .inr ⟨rd.go i H2 hs hlt, by have := filter_take_len p vs i; rw [List.length_map]; omega, fun v H' => v = f vs[i] ∧ p vs[i] = true ∧ Same H2 H', fun v H' ⟨ev, hp, hs'⟩ => ⟨hs' D _ hd, vs.length - (i + 1), by omega, rfl, hlt, ?app, fun b o e => ?kp, upd_same⟩,
        fun H' => p vs[i] = false ∧ Same H2 H', fun H' ⟨hp, hs'⟩ => ⟨vs.length - (i + 1), by omega, rfl, hlt, ?skp, fun b o e => hs' b o (hs b o e), hs' D _ hd⟩, fun y H' hy => ?stp⟩
      case app =>
        rw [ev, take_filter p vs i _ hx, hp, List.map_append]
        rfl
      case kp =>
        rw [upd_ne (ne_of_none e hD)]
        exact hs' b o (hs b o e)
      case skp =>
        rw [take_filter p vs i _ hx, hp]
        simp
      case stp =>
        obtain ⟨rfl, e2⟩ := rd.yl i H2 y H' hs hy
        have e4 : y = vs[i] := by rw [hx] at e2; exact (Option.some.inj e2).symm
        subst e4
        refine ht _ _ (List.getElem_mem hlt) hs _ fun H'' h'' => ?_
        by_cases hp : p vs[i] = true
        · rw [if_pos hp]
          exact he _ _ (List.getElem_mem hlt) hp (hs.trans h'') _ fun H3 h3 => ⟨rfl, hp, h''.trans h3⟩
        · rw [if_neg hp]
          exact ⟨by simpa using hp, h''⟩
    · have e : i = vs.length := by omega
      subst e
      rw [List.take_length] at hd
      exact .inl ⟨rd.st H2 hs, hq D H2 hD hs hd⟩
noncomputable def unT : V → List Nat
  | .str x => x.cps.toList
  | _ => []
theorem unT_T (l : List Nat) : unT (T l) = l := tx_cps l
section
variable {X : Cx}
theorem op_in_seqK (K : PySem.W.Frag) (h : X.K = K) : OpR X (compareOp .In) (rIn K false) := by subst h; exact op_in_seq
end
theorem filter_unT {p : List Nat → Bool} : ∀ ls : List (List Nat), (ls.map T).filter (fun x => p (unT x)) = (ls.filter p).map T
  | [] => rfl
  | l :: ls => by
    rw [List.map_cons, List.filter_cons, List.filter_cons, unT_T, filter_unT ls]
    split <;> rfl
end L2

set_option Elab.async false
set_option linter.all false
set_option maxRecDepth 100000
set_option maxHeartbeats 4000000
namespace L2
open PySem PyProof.Rows PySem.Spec
theorem on1 {α : Type} {C : List α → Prop} {us : List α} (h : us.length = 1) (k : ∀ a, C [a]) : C us := match us, h with | [a], _ => k a
theorem on2 {α : Type} {C : List α → Prop} {us : List α} (h : us.length = 2) (k : ∀ a b, C [a, b]) : C us := match us, h with | [a, b], _ => k a b
theorem on3 {α : Type} {C : List α → Prop} {us : List α} (h : us.length = 3) (k : ∀ a b c, C [a, b, c]) : C us := match us, h with | [a, b, c], _ => k a b c
theorem on4 {α : Type} {C : List α → Prop} {us : List α} (h : us.length = 4) (k : ∀ a b c d, C [a, b, c, d]) : C us := match us, h with | [a, b, c, d], _ => k a b c d
section
variable {X : Cx}
theorem argBest_least (ls : List (List Nat)) : ∀ k, k < ls.length → argBest (fun i j => decide (ls.getD i [] < ls.getD j [])) k ≤ k ∧ ∀ i, i ≤ k → ¬ ls.getD i [] < ls.getD (argBest (fun i j => decide (ls.getD i [] < ls.getD j [])) k) []
  | 0, _ => ⟨Nat.le_refl _, fun i hi => by
      obtain rfl : i = 0 := (by omega)
      exact List.lt_irrefl _⟩
  | k + 1, h => by
    obtain ⟨h1, h2⟩ := argBest_least ls k (by omega)
    rw [argBest]
    by_cases c : ls.getD (k + 1) [] < ls.getD (argBest (fun i j => decide (ls.getD i [] < ls.getD j [])) k) []
    · rw [if_pos (decide_eq_true c)]
      refine ⟨Nat.le_refl _, fun i hi z => ?_⟩
      by_cases e : i = k + 1
      · subst e; exact List.lt_irrefl _ z
      · exact h2 i (by omega) (List.lt_trans z c)
    · rw [if_neg (fun z => c (of_decide_eq_true z))]
      refine ⟨by omega, fun i hi z => ?_⟩
      by_cases e : i = k + 1
      · subst e; exact c z
      · exact h2 i (by omega) z
theorem vals_text {ls : List (List Nat)} {its : List Value} (r : Vals (ls.map T) its) {i : Nat} {v : Value} (h : its[i]? = some v) : ∃ t, i < ls.length ∧ v = .str (tx (ls.getD i [])) t := by
  have hl := r.length
  rw [List.length_map] at hl
  have hi : i < ls.length := by have := (List.getElem?_eq_some_iff.mp h).1; omega
  have e : ls[i]? = some (ls.getD i []) := by rw [List.getD_eq_getElem?_getD, List.getElem?_eq_getElem hi]; rfl
  obtain ⟨u, e1, q1⟩ := r.get (show (ls.map T)[i]? = some (T (ls.getD i [])) by rw [List.getElem?_map, e]; rfl)
  rw [h] at e1
  cases e1
  obtain ⟨t, rfl⟩ := q1
  exact ⟨t, hi, rfl⟩
theorem call_minT (hc : X.calm = true) : CallR X (.builtin "min") (fun xs H Q => ∃ (p : Addr) (ls : List (List Nat)), xs = [.ref p] ∧ SqL X.K H p (ls.map T) ∧ ls ≠ [] ∧ ∀ m ∈ ls, (∀ y ∈ ls, ¬ y < m) → Q (T m) H) := by
  intro pins s σ H xs us Q I r h
  obtain ⟨p, ls, rfl, hq, hne, q⟩ := h
  obtain ⟨u, rfl, ru⟩ := vals1 r
  cases ru
  obtain ⟨its, rv, pl, _⟩ := I.list hq
  have hl := pl.isList
  have hlen := rv.length
  rw [List.length_map] at hlen
  have hpos : 0 < ls.length := List.length_pos_iff.mpr hne
  have hlt : p < s.heap.objs.size := by obtain ⟨_, e, _⟩ := hl; exact Heap.lt_size e
  refine call_min_walk (wpAny_pyIter_list hl ?_)
  refine ⟨_, [s.heap.objs.size, p], [s.heap.objs.size], _, _, _, fun i j => decide (ls.getD i [] < ls.getD j []), rfl, Walks.list (A := X.A.in1) (I.ok.hd hc) _ p (Nat.ne_of_lt hlt) its.toArray, ⟨⟨_, Heap.get?_push_size _ rfl, rfl, rfl⟩, hl.push _⟩, fun b hb => ?_, (by rw [List.size_toArray]; omega), fun i j vi vj s' Q' E' hi hj h' => ?_, fun v h' tk hP hk => ?_⟩
  · show b < (s.heap.push _).objs.size
    rw [Heap.size_push]
    simp only [List.mem_cons, List.not_mem_nil, or_false] at hb
    rcases hb with rfl | rfl
    · exact Nat.lt_succ_self _
    · exact Nat.lt_succ_of_lt hlt
  · obtain ⟨t, _, rfl⟩ := vals_text rv (by simpa using hi)
    obtain ⟨t', _, rfl⟩ := vals_text rv (by simpa using hj)
    exact richCompare_gives (op := .Lt) (typeIs_str s' _ t) (typeIs_str s' _ t') F.slot_str_lt F.entry_str_lt (F.args_str_lt_2 _ _) (gives_str_lt _ _ t t') (fun x => nomatch x) (by rw [tx_cps, tx_cps]; exact h')
  · rw [List.size_toArray, show its.length = ls.length by omega] at hP
    obtain ⟨b1, b2⟩ := argBest_least ls (ls.length - 1) (by omega)
    generalize argBest (fun i j => decide (ls.getD i [] < ls.getD j [])) (ls.length - 1) = bi at hP b1 b2
    obtain ⟨t, hi, rfl⟩ := vals_text rv (i := bi) (by rw [← List.getElem?_toArray]; exact hP)
    have e : ls[bi]? = some (ls.getD bi []) := by rw [List.getD_eq_getElem?_getD, List.getElem?_eq_getElem hi]; rfl
    refine ⟨T (ls.getD bi []), H, I.kept (old_kept hk), ⟨t, rfl⟩, q _ (List.mem_of_getElem? e) fun y hy => ?_⟩
    obtain ⟨i, hi', rfl⟩ := List.mem_iff_getElem.mp hy
    have := b2 i (by omega)
    rw [List.getD_eq_getElem?_getD (l := ls) (i := i), List.getElem?_eq_getElem hi'] at this
    exact this
end
end L2

set_option Elab.async false
set_option linter.all false
set_option maxRecDepth 100000
namespace L2
open PySem PyProof.Rows
section
variable {X : Cx} {pins : List (Addr × Obj)} {σ : List (Option V)} {H H' : Hp} {s : Shared}
end
section
variable {X : Cx} {tg : Expr}
end
end L2
namespace L2
open PySem PyProof.Rows
section
variable {X : Cx} {o : Expr} {td : TE} {apos cpos : Pos}
end
end L2
namespace L2
open PySem PyProof.Rows PySem.Spec
section
variable {X : Cx}
end
end L2

set_option Elab.async false
set_option linter.all false
set_option maxRecDepth 100000
namespace L2
open PySem PyProof.Rows
section
variable {X : Cx}
end
end L2
namespace L2
open PySem PyProof.Rows PySem.Spec
section
variable {X : Cx}
end
end L2
namespace L2
open PySem PyProof.Rows PySem.Spec
section
variable {X : Cx}
theorem call_allB (hc : X.calm = true) : CallR X (.builtin "all") (fun xs H Q => ∃ (p : Addr) (bs : List Bool), xs = [.ref p] ∧ SqL X.K H p (bs.map V.bl) ∧ Q (.bl (bs.all id)) H) := by
  intro pins s σ H xs us Q I r h
  obtain ⟨p, bs, rfl, hq, q⟩ := h
  obtain ⟨u, rfl, ru⟩ := vals1 r
  cases ru
  obtain ⟨its, rv, pl, _⟩ := I.list hq
  have hlen := rv.length
  rw [List.length_map] at hlen
  have hat : ∀ (i : Nat) (v : Value), its.toArray[i]? = some v → v = .bool (bs.getD i false) := fun i v e => by
    have hi : i < bs.length := by
      have := (Array.getElem?_eq_some_iff.mp e).1
      rw [List.size_toArray] at this
      omega
    obtain ⟨w', e1, q1⟩ := rv.get (i := i) (x := .bl bs[i]) (by rw [List.getElem?_map, List.getElem?_eq_getElem hi]; rfl)
    rw [List.getElem?_toArray, e1] at e
    obtain rfl := Option.some.inj e
    rw [List.getD_eq_getElem?_getD, List.getElem?_eq_getElem hi]
    exact q1
  have hall : (List.range its.toArray.size).all (fun i => bs.getD i false) = bs.all id := by
    rw [List.size_toArray, ← hlen, Bool.eq_iff_iff, List.all_eq_true, List.all_eq_true]
    constructor
    · intro h b hb
      obtain ⟨i, hi⟩ := List.getElem?_of_mem hb
      have hil := (List.getElem?_eq_some_iff.mp hi).1
      have := h i (List.mem_range.mpr hil)
      rw [List.getD_eq_getElem?_getD, hi] at this
      exact this
    · intro h i hi
      have hil := List.mem_range.mp hi
      rw [List.getD_eq_getElem?_getD, List.getElem?_eq_getElem hil]
      exact h _ (List.getElem_mem hil)
  have hne : p ≠ s.heap.objs.size := by
    obtain ⟨o, ho, _⟩ := id pl.isList
    exact Nat.ne_of_lt (Heap.lt_size ho)
  refine call_all_walk (wpAny_pyIter_list pl.isList ⟨s.heap.objs.size, [s.heap.objs.size, p], [s.heap.objs.size], its.toArray.size, _, _, fun i => bs.getD i false, rfl, Walks.list (A := X.A.in1) (show X.A.in1.handled = none from I.ok.hd hc) s.heap.objs.size p hne its.toArray, ⟨⟨_, Heap.get?_push_size _ rfl, rfl, rfl⟩, pl.isList.at fun o e => Heap.get?_push_of_some _ e⟩, ?_, fun h' tk hk => ?_⟩)
  · intro i v s' Q' E' hP hQ
    rw [hat i v hP]
    exact wpAny_truthy_bool hQ
  · rw [hall]
    exact ⟨.bl _, H, I.kept (fun b o e => hk b o (by simp; exact Nat.ne_of_lt (Heap.lt_size e)) (Heap.get?_push_of_some _ e)), rfl, q⟩
end
end L2

set_option Elab.async false
set_option linter.all false
namespace L2
open PySem
section
variable {X : Cx}
end
end L2

set_option Elab.async false
set_option linter.all false
set_option maxRecDepth 100000
namespace L2
open PySem PyProof.Rows PySem.Spec
section
variable {X : Cx}
theorem int_at {ns : List Int} {its its2 : List Value} {A : Around} {s : Shared} (r : Vals (ns.map V.int) its) (r2 : Vals (ns.map V.int) its2) (m : Nat) (g1 : m < its.toArray.size) (g2 : m < its2.toArray.size) : SeqAt.EqAt A s its.toArray[m] its2.toArray[m] true := by
  have l1 := r.length
  rw [List.length_map] at l1
  have hm : m < ns.length := by rw [List.size_toArray] at g1; omega
  obtain ⟨u', e1, q1⟩ := r.get (i := m) (x := .int ns[m]) (by rw [List.getElem?_map, List.getElem?_eq_getElem hm]; rfl)
  obtain ⟨w', e2, q2⟩ := r2.get (i := m) (x := .int ns[m]) (by rw [List.getElem?_map, List.getElem?_eq_getElem hm]; rfl)
  have e := eqAt_V (A := A) (s := s) q1 q2 rfl rfl
  rw [show eqV (V.int ns[m]) (V.int ns[m]) = true from by show (ns[m] == ns[m]) = true; simp] at e
  have a1 : its.toArray[m] = u' := by rw [List.getElem_toArray]; exact (List.getElem?_eq_some_iff.mp e1).2
  have a2 : its2.toArray[m] = w' := by rw [List.getElem_toArray]; exact (List.getElem?_eq_some_iff.mp e2).2
  rw [a1, a2]
  exact e
theorem sz_all {its its2 : List Value} (h : its.length = its2.length) : ((List.range (min its.toArray.size its2.toArray.size)).all (fun _ => true) && its.toArray.size == its2.toArray.size) = true := by
  rw [show its.toArray.size = its2.toArray.size by rw [List.size_toArray, List.size_toArray]; omega]; simp
theorem eqI_tuples {pins : List (Addr × Obj)} {σ : St} {H : Hp} {s : Shared} {A : Around} {D F : Addr} {ns : List Int} (I : Inv X pins σ H s) (hu : A.units < cLine) (h1 : SqT X.K H D (ns.map V.int)) (h2 : SqT X.K H F (ns.map V.int)) : SeqAt.EqAt A s (.ref D) (.ref F) true := by
  by_cases hne : D = F
  · subst hne
    exact SeqAt.EqAt.same _
  obtain ⟨its, r, pl, _⟩ := I.tuple h1
  obtain ⟨its2, r2, pl2, _⟩ := I.tuple h2
  have z := SeqAt.EqAt.of_refs hne (SeqAt.RcAt.tuples (A := A) (s := s) (e := fun _ => true) pl pl2 hu fun j g1 g2 => int_at r r2 j g1 g2)
  rw [sz_all (r.length.symm.trans r2.length)] at z
  exact z
noncomputable def AlikeT (K : PySem.W.Frag) (H : Hp) (p b : Addr) : Prop := ∃ (ps bs : List Addr), SqL K H p (ps.map V.ref) ∧ SqL K H b (bs.map V.ref) ∧ ps.length = bs.length ∧ ∀ (i : Nat) (h1 : i < ps.length) (h2 : i < bs.length), ∃ ns : List Int, SqT K H ps[i] (ns.map V.int) ∧ SqT K H bs[i] (ns.map V.int)
theorem AlikeT.at {pins : List (Addr × Obj)} {σ : St} {H : Hp} {s : Shared} {p b : Addr} (I : Inv X pins σ H s) (hu : X.A.units + 1 < cLine) (h : AlikeT X.K H p b) : ∃ its its2 : List Value, PlainL s.heap p its.toArray ∧ PlainL s.heap b its2.toArray ∧ its.toArray.size = its2.toArray.size ∧ ∀ j (h1 : j < its.toArray.size) (h2 : j < its2.toArray.size), SeqAt.EqAt X.A.in1 s its.toArray[j] its2.toArray[j] true := by
  obtain ⟨ps, bs, g1, g2, hl, hq⟩ := h
  obtain ⟨its, r, pl, _⟩ := I.list g1
  obtain ⟨its2, r2, pl2, _⟩ := I.list g2
  obtain rfl := vals_refs r
  obtain rfl := vals_refs r2
  refine ⟨_, _, pl, pl2, by rw [List.size_toArray, List.size_toArray, List.length_map, List.length_map]; exact hl, fun j h1 h2 => ?_⟩
  rw [List.size_toArray, List.length_map] at h1 h2
  obtain ⟨ns, e1, e2⟩ := hq j h1 h2
  rw [List.getElem_toArray, List.getElem_toArray, List.getElem_map, List.getElem_map]
  exact eqI_tuples I hu e1 e2
theorem op_ne_LTI (hu : X.A.units + 1 < cLine) : OpR X (compareOp .NotEq) (fun x y H Q => ∃ p b : Addr, x = .ref p ∧ y = .ref b ∧ AlikeT X.K H p b ∧ Q (.bl false) H) := by
  intro pins s σ H x y v u Q I rx ry h
  obtain ⟨p, b, rfl, rfl, h1, q⟩ := h
  cases rx
  cases ry
  obtain ⟨its, its2, pl, pl2, hz, he⟩ := h1.at I hu
  refine SeqAt.RcNeAt.lists (e := fun _ => true) pl.isList pl2.isList hz (Nat.lt_of_succ_lt hu) he _ _ _ _ ?_
  rw [show (List.range its.toArray.size).all (fun _ => true) = true by simp]
  exact ⟨.bl false, H, I, rfl, q⟩
end
end L2
namespace L2
open PySem PyProof.Rows PySem.Spec
section
variable {X : Cx}
end
end L2

set_option Elab.async false
set_option linter.all false
set_option maxRecDepth 100000
set_option maxHeartbeats 4000000
namespace SS
open PySem PyProof.Rows L2
section
variable {prog : Program} {w : World} {A : Around} {E : Value → Shared → Prop} {s : Shared}
end
end SS
namespace L2
open PySem PyProof.Rows
section
variable {X : Cx}
end
end L2

set_option Elab.async false
set_option linter.all false
set_option maxRecDepth 100000
set_option maxHeartbeats 4000000
namespace L2
open PySem PyProof.Rows PySem.Spec
namespace SE
section
variable {prog : Program} {w : World} {A : Around} {E : Value → Shared → Prop} {s : Shared}
end
end SE
section
variable {X : Cx}
end
end L2

set_option Elab.async false
set_option linter.all false
set_option maxRecDepth 100000
set_option maxHeartbeats 4000000
namespace L2
open PySem PyProof.Rows PySem.Spec
section
variable {X : Cx}
end
end L2

set_option Elab.async false
set_option linter.all false
set_option maxRecDepth 100000
set_option maxHeartbeats 4000000
namespace L2
open PySem PyProof.Rows PySem.Spec
section
variable {X : Cx}
end
end L2

set_option Elab.async false
set_option linter.all false
set_option maxRecDepth 100000
set_option maxHeartbeats 4000000
namespace L2
open PySem PyProof.Rows PySem.Spec
section
variable {X : Cx} {pins : List (Addr × Obj)} {σ : List (Option V)} {H H' : Hp} {s : Shared} {h' : Heap}
end
section
variable {X : Cx}
end
set_option genInjectivity false in
structure ReadsB (J : It) (H : Hp) (vs : List V) : Prop where
  go : ∀ i H', Same H H' → i < vs.length → J.go i H'
  yl : ∀ i H' y H2, Same H H' → i < vs.length → J.yld i H' y H2 → H2 = H' ∧ vs[i]? = some y
  st : ∀ H', Same H H' → J.stop vs.length H'
theorem compFB {J : It} {vs : List V} {tc : TT} {te : TE} {σ : St} {H : Hp} {Q : VK} (p : V → Bool) (f : V → V) (rd : ReadsB J H vs) (hn : vs.length ≤ sizeLine)
    (ht : ∀ x H', x ∈ vs → Same H H' → ∀ N : Bool → Hp → Prop, (∀ H'', Same H' H'' → N (p x) H'') → tc (some x :: σ) H' N)
    (he : ∀ x H', x ∈ vs → p x = true → Same H H' → ∀ N : V → Hp → Prop, (∀ H'', Same H' H'' → N (f x) H'') → te (some x :: σ) H' N)
    (hq : ∀ D H', H D = none → Same H H' → H' D = some (.lst ((vs.filter p).map f)) → Q (.ref D) H') : compAtF tc te σ Q J H := by
  intro D hD
  refine ⟨fun i m ys H2 => m = vs.length - i ∧ i ≤ vs.length ∧ ys = ((vs.take i).filter p).map f ∧ Same H H2 ∧ H2 D = some (.lst ys), ⟨vs.length, rfl, Nat.zero_le _, rfl, fun b o e => ?_, upd_same⟩, ?_⟩
  · rw [upd_ne (ne_of_none e hD)]
    exact e
  · rintro i m ys H2 ⟨rfl, hi, rfl, hs, hd⟩
    by_cases hlt : i < vs.length
    · have hx : vs[i]? = some vs[i] := List.getElem?_eq_getElem hlt
      refine .inr ⟨rd.go i H2 hs hlt, by have := filter_take_len p vs i; rw [List.length_map]; omega, fun v H' => v = f vs[i] ∧ p vs[i] = true ∧ Same H2 H', fun v H' ⟨ev, hp, hs'⟩ => ⟨hs' D _ hd, vs.length - (i + 1), by omega, rfl, hlt, ?app, fun b o e => ?kp, upd_same⟩,
        fun H' => p vs[i] = false ∧ Same H2 H', fun H' ⟨hp, hs'⟩ => ⟨vs.length - (i + 1), by omega, rfl, hlt, ?skp, fun b o e => hs' b o (hs b o e), hs' D _ hd⟩, fun y H' hy => ?stp⟩
      case app =>
        rw [ev, take_filter p vs i _ hx, hp, List.map_append]
        rfl
      case kp =>
        rw [upd_ne (ne_of_none e hD)]
        exact hs' b o (hs b o e)
      case skp =>
        rw [take_filter p vs i _ hx, hp]
        simp
      case stp =>
        obtain ⟨rfl, e2⟩ := rd.yl i H2 y H' hs hlt hy
        have e4 : y = vs[i] := by rw [hx] at e2; exact (Option.some.inj e2).symm
        subst e4
        refine ht _ _ (List.getElem_mem hlt) hs _ fun H'' h'' => ?_
        by_cases hp : p vs[i] = true
        · rw [if_pos hp]
          exact he _ _ (List.getElem_mem hlt) hp (hs.trans h'') _ fun H3 h3 => ⟨rfl, hp, h''.trans h3⟩
        · rw [if_neg hp]
          exact ⟨by simpa using hp, h''⟩
    · have e : i = vs.length := by omega
      subst e
      rw [List.take_length] at hd
      exact .inl ⟨rd.st H2 hs, hq D H2 hD hs hd⟩
end L2
namespace L2
open PySem PyProof.Rows PySem.Spec
end L2

set_option Elab.async false
set_option linter.all false
set_option maxRecDepth 100000
namespace L2
open PySem PyProof.Rows PySem.Spec
section
variable {X : Cx}
theorem readsB_rangeL {lo n : Nat} {H : Hp} : ReadsB (Itr (lo : Int) n) H ((List.range n).map fun (i : Nat) => V.int ((lo + i : Nat) : Int)) :=
  ⟨fun i H' _ hi => by (show i < n; simpa using hi), fun i H' y H2 _ hi ⟨e1, e2⟩ => ⟨e1, by
    have hi' : i < n := by simpa using hi
    rw [e2, List.getElem?_map, List.getElem?_range hi']
    show some (V.int ((lo + i : Nat) : Int)) = _
    rw [Int.natCast_add]⟩, fun H' _ => by show n ≤ _; simp⟩
theorem op_ne_L0 (K : PySem.W.Frag) (hK : X.K = K) (hu : X.A.units < cLine) : OpR X (compareOp .NotEq) (fun x y H Q => ∃ (p b : Addr) (ys : List V), x = .ref p ∧ y = .ref b ∧ SqL K H p ys ∧ SqL K H b [] ∧ Q (.bl (!ys.isEmpty)) H) := by
  subst hK
  intro pins s σ H x y v u Q I rx ry h
  obtain ⟨p, b, ys, rfl, rfl, h1, h2, q⟩ := h
  cases rx
  cases ry
  obtain ⟨its, r, pl, _⟩ := I.list h1
  obtain ⟨its2, r2, pl2, _⟩ := I.list h2
  have l1 := r.length
  have l2 := r2.length
  cases ys with
  | nil =>
    have e1 : its = [] := List.length_eq_zero_iff.mp l1.symm
    have e2 : its2 = [] := List.length_eq_zero_iff.mp l2.symm
    subst e1 e2
    refine SeqAt.RcNeAt.lists (e := fun _ => true) pl.isList pl2.isList rfl hu (fun j g1 g2 => absurd g1 (by simp)) _ _ _ _ ?_
    exact ⟨.bl _, H, I, rfl, q⟩
  | cons y ys =>
    refine SeqAt.RcNeAt.lists_lengths pl.isList pl2.isList (by rw [List.size_toArray, List.size_toArray, bne_iff_ne]; simp only [List.length_cons, List.length_nil] at l1 l2; omega) hu _ _ _ _ ?_
    exact ⟨.bl _, H, I, rfl, q⟩
end
end L2

set_option Elab.async false
set_option linter.all false
set_option maxRecDepth 100000
namespace L2
open PySem PyProof.Rows PySem.Spec
section
variable {X : Cx}
noncomputable def rRemove : V → List V → Hp → VK → Prop := fun x vs H Q => ∃ (l : Addr) (ls : List (List Nat)) (a : List Nat) (j : Nat), x = .ref l ∧ vs = [T a] ∧ H l = some (.lst (ls.map T)) ∧ ls[j]? = some a ∧ (∀ i, i < j → ls[i]? ≠ some a) ∧ Q .non (upd H l (.lst ((ls.eraseIdx j).map T)))
theorem mt_remove : MtM X "list.remove" rRemove := by
  intro pins s σ H x vs v us Q I rx rv h
  obtain ⟨l, ls, a, j, rfl, rfl, hH, hj, hno, q⟩ := h
  cases rx
  obtain ⟨u, rfl, ru⟩ := rv.one
  obtain ⟨t, rfl⟩ := ru
  obtain ⟨z, its, n, r, hl, e⟩ := I.lstM hH
  have hlen : ls.length = its.length := by rw [List.length_map] at hl; exact hl
  have hjl : j < ls.length := (List.getElem?_eq_some_iff.mp hj).1
  have hat : ∀ (i : Nat) (hi : i < its.length), ∃ t', its[i] = .str (tx (ls[i]'(by omega))) t' := fun i hi => by
    obtain ⟨u', e1, e2⟩ := r.get (i := i) (x := T (ls[i]'(by omega))) (by rw [List.getElem?_map, List.getElem?_eq_getElem (by omega)]; rfl)
    obtain ⟨t', rfl⟩ := e2
    exact ⟨t', (List.getElem?_eq_some_iff.mp e1).2⟩
  refine call_meets F.slot_list_remove ⟨_, e, rfl⟩ F.entry_list_remove (F.args_list_remove_2 _ _)
    (MeetsSeq.list_remove l its.toArray n (.str (tx a) t) (eqU (T a)) (fun y hy => ?_) j (by rw [List.size_toArray]; omega) ?_ ?_ (by rw [List.size_toArray, ← hl]; exact z)) ⟨e, ?_⟩
  · obtain ⟨i, hi, rfl⟩ := List.mem_iff_getElem.mp (show y ∈ its by simpa using hy)
    obtain ⟨t', e'⟩ := hat i hi
    rw [e']
    exact eqGives_str _ _ _ _
  · have hu : its[j]? = some its.toArray[j] := by simp
    rw [eqU_T r hj hu]
    exact decide_eq_true rfl
  · intro m hm hmj
    rw [List.size_toArray] at hm
    have hu : its[m]? = some its.toArray[m] := by simp
    have hl' : ls[m]? = some ls[m] := List.getElem?_eq_getElem (by omega)
    rw [eqU_T r hl' hu]
    refine decide_eq_false fun e => hno m hmj ?_
    rw [hl', e]
  · have hv : Vals ((ls.eraseIdx j).map T) (its.eraseIdx j) := by
      have := r.eraseIdx j
      rwa [show (ls.map T).eraseIdx j = (ls.eraseIdx j).map T by rw [List.eraseIdx_eq_take_drop_succ, List.eraseIdx_eq_take_drop_succ, List.map_append, List.map_take, List.map_drop]] at this
    refine ⟨.non, _, I.lset (its' := its.eraseIdx j) hH e ?_ hv ?_, rfl, q⟩
    · show its.toArray.eraseIdxIfInBounds j = (its.eraseIdx j).toArray
      rw [List.eraseIdxIfInBounds_toArray]
    · rw [List.length_map, List.length_eraseIdx]
      rw [List.length_map] at z
      split <;> omega
end
end L2

set_option Elab.async false
set_option linter.all false
set_option maxRecDepth 100000
set_option maxHeartbeats 4000000
namespace K72
open PySem L2
seal L2.PSs L2.PS L2.PE L2.PA L2.PT L2.PW L2.PI L2.PG L2.PGs L2.PO L2.PTy L2.PH L2.OpR L2.CallR L2.IxR L2.SlR L2.UnR L2.PSet
noncomputable def top (i : Nat) : Stmt := PySem.Challenge.pw_onceround_k72_whole_led.main.body.getD i (.Pass ⟨0, 0, 0, 0⟩)
noncomputable abbrev s_looked_kinds : Stmt := top 10
noncomputable abbrev s_looked_length : Stmt := top 11
noncomputable abbrev s_letters : Stmt := top 12
noncomputable abbrev s_looked : Stmt := top 13
noncomputable abbrev s_row_windows : Stmt := top 14
noncomputable abbrev s_ring_windows : Stmt := top 15
noncomputable abbrev s_windows : Stmt := top 16
noncomputable abbrev s_looked_web : Stmt := top 20
noncomputable abbrev s_Web_init : Stmt := inClass (top 21) 0
noncomputable abbrev s_begin_of : Stmt := top 22
noncomputable abbrev s_is_turned_ring : Stmt := top 24
noncomputable abbrev s_is_ring : Stmt := top 25
noncomputable abbrev s_pieces_met : Stmt := top 27
noncomputable abbrev s_places_from : Stmt := top 28
noncomputable abbrev s_is_exchange : Stmt := top 29
noncomputable abbrev s_exchange : Stmt := top 30
noncomputable abbrev s_deed_toward : Stmt := top 31
noncomputable abbrev s_led : Stmt := top 32
noncomputable abbrev s__law_mix : Stmt := top 34
noncomputable abbrev s__law_cell_at : Stmt := top 35
noncomputable abbrev s__law_round : Stmt := top 36
noncomputable abbrev s__law_first_twice : Stmt := top 37
noncomputable abbrev s__law_once : Stmt := top 38
noncomputable abbrev s__law_text : Stmt := top 39
noncomputable abbrev s__law_ring : Stmt := top 40
noncomputable abbrev s__law_pieces : Stmt := top 41
noncomputable abbrev s__law_fits : Stmt := top 42
noncomputable abbrev s__law_cut : Stmt := top 43
noncomputable abbrev s__law_hangs : Stmt := top 44
noncomputable abbrev s__law_other : Stmt := top 45
noncomputable abbrev s__law_leads : Stmt := top 46
noncomputable abbrev s_law : Stmt := top 47
theorem sc_looked_kinds : FnScope ["kinds"] ["kinds"] (defScope s_looked_kinds) := ⟨rfl, rfl, rfl, by decide +kernel, rfl, by decide +kernel, by decide +kernel⟩
theorem sc_looked_length : FnScope ["length", "kinds"] ["length", "kinds"] (defScope s_looked_length) := ⟨rfl, rfl, rfl, by decide +kernel, rfl, by decide +kernel, by decide +kernel⟩
theorem sc_letters : FnScope ["kinds"] ["kinds"] (defScope s_letters) := ⟨rfl, rfl, rfl, by decide +kernel, rfl, by decide +kernel, by decide +kernel⟩
theorem sc_looked : FnScope ["word", "kinds", "known", "sign"] ["word", "kinds"] (defScope s_looked) := ⟨rfl, rfl, rfl, by decide +kernel, rfl, by decide +kernel, by decide +kernel⟩
theorem sc_row_windows : FnScope ["text", "length"] ["text", "length"] (defScope s_row_windows) := ⟨rfl, rfl, rfl, by decide +kernel, rfl, by decide +kernel, by decide +kernel⟩
noncomputable def csc_row_windows_0 : Scope := { kind := PySem.ScopeKind.function, names := [ (PySem.Str.ofString ".0", PySem.NameKind.local), (PySem.Str.ofString "place", PySem.NameKind.local), (PySem.Str.ofString "length", PySem.NameKind.free), (PySem.Str.ofString "text", PySem.NameKind.free)], isGenerator := false, isCoroutine := false, more := [] : PySem.Scope }
theorem cs_row_windows_0 : CompSc ["text", "length"] ["place", "text", "length"] (defScope s_row_windows) csc_row_windows_0 "place" := ⟨rfl, by decide +kernel, by decide +kernel, rfl, by decide +kernel, rfl, rfl, by decide +kernel, rfl, by decide +kernel, by decide +kernel⟩
theorem sc_ring_windows : FnScope ["text", "length", "size", "around"] ["text", "length"] (defScope s_ring_windows) := ⟨rfl, rfl, rfl, by decide +kernel, rfl, by decide +kernel, by decide +kernel⟩
noncomputable def csc_ring_windows_0 : Scope := { kind := PySem.ScopeKind.function, names := [ (PySem.Str.ofString ".0", PySem.NameKind.local), (PySem.Str.ofString "place", PySem.NameKind.local), (PySem.Str.ofString "around", PySem.NameKind.free), (PySem.Str.ofString "length", PySem.NameKind.free)], isGenerator := false, isCoroutine := false, more := [] : PySem.Scope }
theorem cs_ring_windows_0 : CompSc ["text", "length", "size", "around"] ["place", "text", "length", "size", "around"] (defScope s_ring_windows) csc_ring_windows_0 "place" := ⟨rfl, by decide +kernel, by decide +kernel, rfl, by decide +kernel, rfl, rfl, by decide +kernel, rfl, by decide +kernel, by decide +kernel⟩
theorem sc_windows : FnScope ["text", "length", "ring"] ["text", "length", "ring"] (defScope s_windows) := ⟨rfl, rfl, rfl, by decide +kernel, rfl, by decide +kernel, by decide +kernel⟩
theorem sc_looked_web : FnScope ["words", "word"] ["words"] (defScope s_looked_web) := ⟨rfl, rfl, rfl, by decide +kernel, rfl, by decide +kernel, by decide +kernel⟩
theorem sc_Web_init : FnScope ["self", "words"] ["self", "words"] (defScope s_Web_init) := ⟨rfl, rfl, rfl, by decide +kernel, rfl, by decide +kernel, by decide +kernel⟩
theorem sc_begin_of : FnScope ["word"] ["word"] (defScope s_begin_of) := ⟨rfl, rfl, rfl, by decide +kernel, rfl, by decide +kernel, by decide +kernel⟩
theorem sc_is_turned_ring : FnScope ["web", "text"] ["web", "text"] (defScope s_is_turned_ring) := ⟨rfl, rfl, rfl, by decide +kernel, rfl, by decide +kernel, by decide +kernel⟩
theorem sc_is_ring : FnScope ["web", "text"] ["web", "text"] (defScope s_is_ring) := ⟨rfl, rfl, rfl, by decide +kernel, rfl, by decide +kernel, by decide +kernel⟩
theorem sc_pieces_met : FnScope ["web", "ring", "met"] ["web", "ring"] (defScope s_pieces_met) := ⟨rfl, rfl, rfl, by decide +kernel, rfl, by decide +kernel, by decide +kernel⟩
noncomputable def csc_pieces_met_0 : Scope := { kind := PySem.ScopeKind.function, names := [ (PySem.Str.ofString ".0", PySem.NameKind.local), (PySem.Str.ofString "word", PySem.NameKind.local), (PySem.Str.ofString "begin_of", PySem.NameKind.globalImplicit)], isGenerator := false, isCoroutine := false, more := [] : PySem.Scope }
theorem cs_pieces_met_0 : CompSc ["web", "ring", "met"] ["word", "web", "ring", "met"] (defScope s_pieces_met) csc_pieces_met_0 "word" := ⟨rfl, by decide +kernel, by decide +kernel, rfl, by decide +kernel, rfl, rfl, by decide +kernel, rfl, by decide +kernel, by decide +kernel⟩
theorem sc_places_from : FnScope ["met", "piece", "start"] ["met", "piece", "start"] (defScope s_places_from) := ⟨rfl, rfl, rfl, by decide +kernel, rfl, by decide +kernel, by decide +kernel⟩
noncomputable def csc_places_from_0 : Scope := { kind := PySem.ScopeKind.function, names := [ (PySem.Str.ofString ".0", PySem.NameKind.local), (PySem.Str.ofString "place", PySem.NameKind.local), (PySem.Str.ofString "met", PySem.NameKind.free), (PySem.Str.ofString "piece", PySem.NameKind.free)], isGenerator := false, isCoroutine := false, more := [] : PySem.Scope }
theorem cs_places_from_0 : CompSc ["met", "piece", "start"] ["place", "met", "piece", "start"] (defScope s_places_from) csc_places_from_0 "place" := ⟨rfl, by decide +kernel, by decide +kernel, rfl, by decide +kernel, rfl, rfl, by decide +kernel, rfl, by decide +kernel, by decide +kernel⟩
theorem sc_is_exchange : FnScope ["web", "ring", "deed", "met", "a", "b", "c", "d"] ["web", "ring", "deed"] (defScope s_is_exchange) := ⟨rfl, rfl, rfl, by decide +kernel, rfl, by decide +kernel, by decide +kernel⟩
theorem sc_exchange : FnScope ["web", "ring", "deed", "first", "middle", "last"] ["web", "ring", "deed"] (defScope s_exchange) := ⟨rfl, rfl, rfl, by decide +kernel, rfl, by decide +kernel, by decide +kernel⟩
theorem sc_deed_toward : FnScope ["web", "ring", "goal", "met", "gone", "sought", "a", "c", "b"] ["web", "ring", "goal"] (defScope s_deed_toward) := ⟨rfl, rfl, rfl, by decide +kernel, rfl, by decide +kernel, by decide +kernel⟩
noncomputable def csc_deed_toward_0 : Scope := { kind := PySem.ScopeKind.function, names := [ (PySem.Str.ofString ".0", PySem.NameKind.local), (PySem.Str.ofString "place", PySem.NameKind.local), (PySem.Str.ofString "gone", PySem.NameKind.free), (PySem.Str.ofString "sought", PySem.NameKind.free)], isGenerator := false, isCoroutine := false, more := [] : PySem.Scope }
theorem cs_deed_toward_0 : CompSc ["web", "ring", "goal", "met", "gone", "sought", "a", "c", "b"] ["place", "web", "ring", "goal", "met", "gone", "sought", "a", "c", "b"] (defScope s_deed_toward) csc_deed_toward_0 "place" := ⟨rfl, by decide +kernel, by decide +kernel, rfl, by decide +kernel, rfl, rfl, by decide +kernel, rfl, by decide +kernel, by decide +kernel⟩
noncomputable def csc_deed_toward_1 : Scope := { kind := PySem.ScopeKind.function, names := [ (PySem.Str.ofString ".0", PySem.NameKind.local), (PySem.Str.ofString "place", PySem.NameKind.local), (PySem.Str.ofString "places_from", PySem.NameKind.globalImplicit), (PySem.Str.ofString "c", PySem.NameKind.free), (PySem.Str.ofString "met", PySem.NameKind.free)], isGenerator := false, isCoroutine := false, more := [] : PySem.Scope }
theorem cs_deed_toward_1 : CompSc ["web", "ring", "goal", "met", "gone", "sought", "a", "c", "b"] ["place", "web", "ring", "goal", "met", "gone", "sought", "a", "c", "b"] (defScope s_deed_toward) csc_deed_toward_1 "place" := ⟨rfl, by decide +kernel, by decide +kernel, rfl, by decide +kernel, rfl, rfl, by decide +kernel, rfl, by decide +kernel, by decide +kernel⟩
theorem sc_led : FnScope ["web", "one", "two", "deeds", "ring", "deed"] ["web", "one", "two"] (defScope s_led) := ⟨rfl, rfl, rfl, by decide +kernel, rfl, by decide +kernel, by decide +kernel⟩
theorem sc__law_mix : FnScope ["cell", "k", "m"] ["cell", "k"] (defScope s__law_mix) := ⟨rfl, rfl, rfl, by decide +kernel, rfl, by decide +kernel, by decide +kernel⟩
theorem sc__law_cell_at : FnScope ["script", "k"] ["script", "k"] (defScope s__law_cell_at) := ⟨rfl, rfl, rfl, by decide +kernel, rfl, by decide +kernel, by decide +kernel⟩
theorem sc__law_round : FnScope ["text", "length", "longer"] ["text", "length"] (defScope s__law_round) := ⟨rfl, rfl, rfl, by decide +kernel, rfl, by decide +kernel, by decide +kernel⟩
noncomputable def csc__law_round_0 : Scope := { kind := PySem.ScopeKind.function, names := [ (PySem.Str.ofString ".0", PySem.NameKind.local), (PySem.Str.ofString "k", PySem.NameKind.local), (PySem.Str.ofString "length", PySem.NameKind.free), (PySem.Str.ofString "longer", PySem.NameKind.free)], isGenerator := false, isCoroutine := false, more := [] : PySem.Scope }
theorem cs__law_round_0 : CompSc ["text", "length", "longer"] ["k", "text", "length", "longer"] (defScope s__law_round) csc__law_round_0 "k" := ⟨rfl, by decide +kernel, by decide +kernel, rfl, by decide +kernel, rfl, rfl, by decide +kernel, rfl, by decide +kernel, by decide +kernel⟩
theorem sc__law_first_twice : FnScope ["found", "seen", "place"] ["found"] (defScope s__law_first_twice) := ⟨rfl, rfl, rfl, by decide +kernel, rfl, by decide +kernel, by decide +kernel⟩
theorem sc__law_once : FnScope ["text", "length", "twice"] ["text", "length"] (defScope s__law_once) := ⟨rfl, rfl, rfl, by decide +kernel, rfl, by decide +kernel, by decide +kernel⟩
theorem sc__law_text : FnScope ["script", "kinds", "many", "signs", "first", "digits", "k", "cell", "part"] ["script", "kinds", "many"] (defScope s__law_text) := ⟨rfl, rfl, rfl, by decide +kernel, rfl, by decide +kernel, by decide +kernel⟩
theorem sc__law_ring : FnScope ["script", "most", "n", "kinds", "length", "text", "found", "at"] ["script", "most"] (defScope s__law_ring) := ⟨rfl, rfl, rfl, by decide +kernel, rfl, by decide +kernel, by decide +kernel⟩
theorem sc__law_pieces : FnScope ["ring", "length", "found"] ["ring", "length"] (defScope s__law_pieces) := ⟨rfl, rfl, rfl, by decide +kernel, rfl, by decide +kernel, by decide +kernel⟩
noncomputable def csc__law_pieces_0 : Scope := { kind := PySem.ScopeKind.function, names := [(PySem.Str.ofString ".0", PySem.NameKind.local), (PySem.Str.ofString "window", PySem.NameKind.local)], isGenerator := false, isCoroutine := false, more := [] : PySem.Scope }
theorem cs__law_pieces_0 : CompSc ["ring", "length", "found"] ["window", "ring", "length", "found"] (defScope s__law_pieces) csc__law_pieces_0 "window" := ⟨rfl, by decide +kernel, by decide +kernel, rfl, by decide +kernel, rfl, rfl, by decide +kernel, rfl, by decide +kernel, by decide +kernel⟩
theorem sc__law_fits : FnScope ["along", "deed", "a", "b", "c", "d"] ["along", "deed"] (defScope s__law_fits) := ⟨rfl, rfl, rfl, by decide +kernel, rfl, by decide +kernel, by decide +kernel⟩
theorem sc__law_cut : FnScope ["ring", "deed", "a", "b", "c", "d", "parts"] ["ring", "deed"] (defScope s__law_cut) := ⟨rfl, rfl, rfl, by decide +kernel, rfl, by decide +kernel, by decide +kernel⟩
theorem sc__law_hangs : FnScope ["words", "piece", "met", "at", "word"] ["words", "piece"] (defScope s__law_hangs) := ⟨rfl, rfl, rfl, by decide +kernel, rfl, by decide +kernel, by decide +kernel⟩
noncomputable def csc__law_hangs_0 : Scope := { kind := PySem.ScopeKind.function, names := [ (PySem.Str.ofString ".0", PySem.NameKind.local), (PySem.Str.ofString "word", PySem.NameKind.local), (PySem.Str.ofString "met", PySem.NameKind.free)], isGenerator := false, isCoroutine := false, more := [] : PySem.Scope }
theorem cs__law_hangs_0 : CompSc ["words", "piece", "met", "at", "word"] ["word", "words", "piece", "met", "at", ""] (defScope s__law_hangs) csc__law_hangs_0 "word" := ⟨rfl, by decide +kernel, by decide +kernel, rfl, by decide +kernel, rfl, rfl, by decide +kernel, rfl, by decide +kernel, by decide +kernel⟩
theorem sc__law_other : FnScope ["script", "words", "left", "gone", "some", "word", "others", "cell"] ["script", "words"] (defScope s__law_other) := ⟨rfl, rfl, rfl, by decide +kernel, rfl, by decide +kernel, by decide +kernel⟩
noncomputable def csc__law_other_0 : Scope := { kind := PySem.ScopeKind.function, names := [ (PySem.Str.ofString ".0", PySem.NameKind.local), (PySem.Str.ofString "other", PySem.NameKind.local), (PySem.Str.ofString "word", PySem.NameKind.free)], isGenerator := false, isCoroutine := false, more := [] : PySem.Scope }
theorem cs__law_other_0 : CompSc ["script", "words", "left", "gone", "some", "word", "others", "cell"] ["other", "script", "words", "left", "gone", "some", "word", "others", "cell"] (defScope s__law_other) csc__law_other_0 "other" := ⟨rfl, by decide +kernel, by decide +kernel, rfl, by decide +kernel, rfl, rfl, by decide +kernel, rfl, by decide +kernel, by decide +kernel⟩
noncomputable def csc__law_other_1 : Scope := { kind := PySem.ScopeKind.function, names := [(PySem.Str.ofString ".0", PySem.NameKind.local), (PySem.Str.ofString "word", PySem.NameKind.local)], isGenerator := false, isCoroutine := false, more := [] : PySem.Scope }
theorem cs__law_other_1 : CompSc ["script", "words", "left", "gone", "some", "word", "others", "cell"] ["word", "script", "words", "left", "gone", "some", "", "others", "cell"] (defScope s__law_other) csc__law_other_1 "word" := ⟨rfl, by decide +kernel, by decide +kernel, rfl, by decide +kernel, rfl, rfl, by decide +kernel, rfl, by decide +kernel, by decide +kernel⟩
theorem sc__law_leads : FnScope ["web", "length", "one", "two", "deeds", "ring", "deed"] ["web", "length", "one", "two"] (defScope s__law_leads) := ⟨rfl, rfl, rfl, by decide +kernel, rfl, by decide +kernel, by decide +kernel⟩
theorem sc_law : FnScope ["script", "ring", "length", "kinds", "words", "web", "other"] ["script"] (defScope s_law) := ⟨rfl, rfl, rfl, by decide +kernel, rfl, by decide +kernel, by decide +kernel⟩
set_option genInjectivity false in
structure Adr where
  OnceError : Addr
  BadKinds : Addr
  BadWord : Addr
  TooMany : Addr
  NotOne : Addr
  BadDeed : Addr
  Web : Addr
  u_LETTERS : Value
  u_LONGEST : Value
  u_MOST_OF_A_WEB : Value
  u_LONGEST_OF_A_WEB : Value

set_option genInjectivity false in
structure Txt (K : PySem.W.Frag) (mg : Str → Option Value) (ad : Adr) : Prop where
  b_all : mg "all" = none
  b_isinstance : mg "isinstance" = none
  b_len : mg "len" = none
  b_list : mg "list" = none
  b_max : mg "max" = none
  b_min : mg "min" = none
  b_range : mg "range" = none
  b_set : mg "set" = none
  b_sorted : mg "sorted" = none
  b_sum : mg "sum" = none
  b_tuple : mg "tuple" = none
  m_OnceError : mg "OnceError" = some (.ref ad.OnceError)
  m_BadKinds : mg "BadKinds" = some (.ref ad.BadKinds)
  m_BadWord : mg "BadWord" = some (.ref ad.BadWord)
  m_TooMany : mg "TooMany" = some (.ref ad.TooMany)
  m_NotOne : mg "NotOne" = some (.ref ad.NotOne)
  m_BadDeed : mg "BadDeed" = some (.ref ad.BadDeed)
  m_Web : mg "Web" = some (.ref ad.Web)
  x_BadKinds : Exc K mg "BadKinds" ad.BadKinds
  x_BadWord : Exc K mg "BadWord" ad.BadWord
  x_TooMany : Exc K mg "TooMany" ad.TooMany
  x_NotOne : Exc K mg "NotOne" ad.NotOne
  x_BadDeed : Exc K mg "BadDeed" ad.BadDeed
  n_BadDeed : Knd K ad.BadDeed
  g_LETTERS : mg "LETTERS" = some ad.u_LETTERS
  r_LETTERS : RelV (T [97, 98, 99, 100, 101, 102]) ad.u_LETTERS
  g_LONGEST : mg "LONGEST" = some ad.u_LONGEST
  r_LONGEST : RelV (.int 24) ad.u_LONGEST
  g_MOST_OF_A_WEB : mg "MOST_OF_A_WEB" = some ad.u_MOST_OF_A_WEB
  r_MOST_OF_A_WEB : RelV (.int 64) ad.u_MOST_OF_A_WEB
  g_LONGEST_OF_A_WEB : mg "LONGEST_OF_A_WEB" = some ad.u_LONGEST_OF_A_WEB
  r_LONGEST_OF_A_WEB : RelV (.int 8) ad.u_LONGEST_OF_A_WEB
  q_do : PySem.W.exmOne K (.ref ad.BadDeed) (.ref ad.OnceError) = some true
  q_dd : PySem.W.kitOne K (.ref ad.BadDeed) (.ref ad.BadDeed) = some true
  q_dn : PySem.W.kitOne K (.ref ad.BadDeed) (.ref ad.NotOne) = some false
  cl_Web : Cls K ad.Web
  na_Web_words : NoAttr K ad.Web "words"
  na_Web_length : NoAttr K ad.Web "length"
theorem cxK2 {CX : CXT} {P : Program} {w : World} {K : PySem.W.Frag} {mg : Str → Option Value} {base : Heap} {N : List Str} {q : Str} {sc : Scope} {f : Addr} {cdv : Value} {A : Around} {outer : List Env} {s : Shared} {H : Hp} {E : XK} : (cxOf CX P w K mg base N q sc f cdv A outer s H E).nox.K = K := rfl
section
variable {P : Program} {w : World} {K : PySem.W.Frag} {mg : Str → Option Value} {base : Heap} {ad : Adr}

theorem abc6 {m : Nat} (h : m < 6) : ([97, 98, 99, 100, 101, 102] : List Nat)[m]? = some (97 + m) := by
  have key : ∀ m : Nat, m < 6 → ([97, 98, 99, 100, 101, 102] : List Nat)[m]? = some (97 + m) := by decide
  exact key m h
theorem abc_mem {k c : Nat} (hk : k ≤ 6) : c ∈ ([97, 98, 99, 100, 101, 102] : List Nat).take k ↔ 97 ≤ c ∧ c < 97 + k := by
  have key : ∀ k : Nat, k < 7 → ([97, 98, 99, 100, 101, 102] : List Nat).take k = (List.range k).map (97 + ·) := by decide
  rw [key k (Nat.lt_succ_of_le hk), List.mem_map]
  exact ⟨fun ⟨i, h, e⟩ => e ▸ ⟨Nat.le_add_right _ _, Nat.add_lt_add_left (List.mem_range.mp h) _⟩, fun ⟨h1, h2⟩ => ⟨c - 97, List.mem_range.mpr (Nat.sub_lt_left_of_lt_add h1 h2), Nat.add_sub_cancel' h1⟩⟩
noncomputable def spKindsX (ad : Adr) : Sp := fun vs H Q E => ∃ k : Int, vs = [.int k] ∧ ((1 ≤ k ∧ k ≤ 6) → Q .non H) ∧ (¬ (1 ≤ k ∧ k ≤ 6) → E (.ref ad.BadKinds) none H)
theorem ok_looked_kinds {f : Addr} {fd : FuncData} (F : Fun K "looked_kinds" "looked_kinds" s_looked_kinds f fd) (tt : Txt K mg ad) : FnOk P w K mg base (CX1 P w) 1 f fd ["kinds"] (spKindsX ad) := by
  refine F.okX sc_looked_kinds (fun vs H Q E h => ?_) (fun cdv A outer s H vs Q E hr h => ?_)
  · obtain ⟨k, rfl, _⟩ := h
    rfl
  · obtain ⟨k, rfl, q, x⟩ := h
    have hs : sizeLine = 16777216 := sizeLine_eq
    refine ⟨_, (pss_one (ps_if (PW.pt (pw_or (pt_cmpR op_lt (pv 0) pe_int (nomark _)) (pw_or1 (pt_cmpR op_gt (pv 0) (pe_callB call_len_T (by rfl) tt.b_len PySem.boot_len (pa_cons (pe_glob (by rfl) tt.g_LETTERS tt.r_LETTERS) pa_nil)) (nomark _))))) (pss_one (ps_raise (E := fun cls H' => E cls none H') tt.x_BadKinds rfl (fun _ _ _ _ _ _ _ I hx q => raiseX I hx q) (pa_cons (pe_strT [107, 105, 110, 100, 115, 32, 97, 114, 101, 32, 97, 32, 119, 104, 111, 108, 101, 32, 110, 117, 109, 98, 101, 114, 32, 102, 114, 111, 109, 32, 49, 32, 116, 111, 32, 54] (by decide +kernel)) pa_nil))) pss_nil)), ?_⟩
    (try rw [cxK2]); (try rw [cxK1])
    refine ⟨_, rfl, _, _, rfl, rfl, _, rfl, ?_⟩
    refine ite2 (fun h0 => iteT ?_) (fun h0 => ?_)
    · have h1 : k < 1 := of_decide_eq_true h0
      exact ⟨(by show 1 ≤ sizeLine; omega), x fun z => by omega⟩
    · have h1 : ¬ k < 1 := fun z => h0 (decide_eq_true z)
      refine ⟨_, rfl, _, rfl, (by show 6 ≤ sizeLine; omega), _, _, rfl, rfl, _, rfl, ?_⟩
      refine ite2 (fun h2 => ?_) (fun h2 => ?_)
      · have h3 : (6 : Int) < k := of_decide_eq_true h2
        exact ⟨(by show 1 ≤ sizeLine; omega), x fun z => by omega⟩
      · have h3 : ¬ (6 : Int) < k := fun z => h2 (decide_eq_true z)
        exact q ⟨by omega, by omega⟩

noncomputable def spLenX (ad : Adr) : Sp := fun vs H Q E => ∃ n k : Int, vs = [.int n, .int k] ∧ ((1 ≤ k ∧ k ≤ 6) → (1 ≤ n ∧ n ≤ 24) → Q .non H) ∧ (¬ (1 ≤ k ∧ k ≤ 6) → E (.ref ad.BadKinds) none H) ∧ ((1 ≤ k ∧ k ≤ 6) → ¬ (1 ≤ n ∧ n ≤ 24) → E (.ref ad.BadWord) none H)
theorem ok_looked_length {f : Addr} {fd : FuncData} (F : Fun K "looked_length" "looked_length" s_looked_length f fd) (tt : Txt K mg ad) (C_looked_kinds : Cal P w K mg base (CX1 P w) "looked_kinds" 1 ["kinds"] (spKindsX ad)) :
    FnOk P w K mg base (CX1 P w) 2 f fd ["length", "kinds"] (spLenX ad) := by
  refine F.okX sc_looked_length (fun vs H Q E h => ?_) (fun cdv A outer s H vs Q E hr h => ?_)
  · obtain ⟨n, k, rfl, _⟩ := h
    rfl
  · obtain ⟨n, k, rfl, q, x1, x2⟩ := h
    have hs : sizeLine = 16777216 := sizeLine_eq
    refine ⟨_, (pss_cons (ps_expr (pe_cal C_looked_kinds hr passX (pa_cons (pv 1) pa_nil)))
      (pss_one (ps_if (PW.pt (pw_or (pt_cmpR op_lt (pv 0) pe_int (nomark _)) (pw_or1 (pt_cmpR op_gt (pv 0) (pe_glob (by rfl) tt.g_LONGEST tt.r_LONGEST) (nomark _))))) (pss_one (ps_raise (E := fun cls H' => E cls none H') tt.x_BadWord rfl (fun _ _ _ _ _ _ _ I hx q => raiseX I hx q) (pa_cons (pe_strT [97, 32, 119, 111, 114, 100, 32, 104, 97, 115, 32, 49, 32, 116, 111, 32, 50, 52, 32, 108, 101, 116, 116, 101, 114, 115] (by decide +kernel)) pa_nil))) pss_nil))), ?_⟩
    (try rw [cxK2]); (try rw [cxK1])
    refine ⟨_, rfl, k, rfl, fun hk => ?_, x1⟩
    refine ⟨_, rfl, _, _, rfl, rfl, _, rfl, ?_⟩
    refine ite2 (fun h0 => iteT ?_) (fun h0 => ?_)
    · have h1 : n < 1 := of_decide_eq_true h0
      exact ⟨(by show 1 ≤ sizeLine; omega), x2 hk fun z => by omega⟩
    · have h1 : ¬ n < 1 := fun z => h0 (decide_eq_true z)
      refine ⟨_, rfl, _, _, rfl, rfl, _, rfl, ?_⟩
      refine ite2 (fun h2 => ?_) (fun h2 => ?_)
      · have h3 : (24 : Int) < n := of_decide_eq_true h2
        exact ⟨(by show 1 ≤ sizeLine; omega), x2 hk fun z => by omega⟩
      · have h3 : ¬ (24 : Int) < n := fun z => h2 (decide_eq_true z)
        exact q hk ⟨by omega, by omega⟩

noncomputable def spLettersX (ad : Adr) : Sp := fun vs H Q E => ∃ k : Int, vs = [.int k] ∧ (∀ kn : Nat, k = (kn : Nat) → (1 ≤ kn ∧ kn ≤ 6) → Q (T (([97, 98, 99, 100, 101, 102] : List Nat).take kn)) H) ∧ (¬ (1 ≤ k ∧ k ≤ 6) → E (.ref ad.BadKinds) none H)
theorem ok_letters {f : Addr} {fd : FuncData} (F : Fun K "letters" "letters" s_letters f fd) (tt : Txt K mg ad) (C_looked_kinds : Cal P w K mg base (CX1 P w) "looked_kinds" 1 ["kinds"] (spKindsX ad)) : FnOk P w K mg base (CX1 P w) 2 f fd ["kinds"] (spLettersX ad) := by
  refine F.okX sc_letters (fun vs H Q E h => ?_) (fun cdv A outer s H vs Q E hr h => ?_)
  · obtain ⟨k, rfl, _⟩ := h
    rfl
  · obtain ⟨k, rfl, q, x⟩ := h
    have hs : sizeLine = 16777216 := sizeLine_eq
    refine ⟨_, (pss_cons (ps_expr (pe_cal C_looked_kinds hr passX (pa_cons (pv 0) pa_nil)))
      (pss_one (ps_ret (pe_slice sl_T (pe_glob (by rfl) tt.g_LETTERS tt.r_LETTERS) po_none (po_some (pv 0)))))), ?_⟩
    (try rw [cxK2]); (try rw [cxK1])
    refine ⟨_, rfl, k, rfl, fun hk => ?_, x⟩
    obtain ⟨kn, rfl⟩ : ∃ kn : Nat, k = (kn : Nat) := ⟨k.toNat, by omega⟩
    refine ⟨_, rfl, _, rfl, _, rfl, (by show 6 ≤ sizeLine; omega), ?_⟩
    rw [cutL_to (by show kn ≤ 6; omega)]
    exact q kn rfl ⟨by omega, by omega⟩

noncomputable def Good (w : List Nat) (kn : Nat) : Prop := (1 ≤ w.length ∧ w.length ≤ 24) ∧ ∀ c ∈ w, 97 ≤ c ∧ c < 97 + kn
noncomputable def spLookedX (ad : Adr) : Sp := fun vs H Q E => ∃ (w : List Nat) (k : Int), vs = [T w, .int k] ∧ w.length ≤ 100000 ∧ (¬ (1 ≤ k ∧ k ≤ 6) → E (.ref ad.BadKinds) none H) ∧
  ∀ kn : Nat, k = (kn : Nat) → (1 ≤ kn ∧ kn ≤ 6) → (Good w kn → Q .non H) ∧ (¬ Good w kn → E (.ref ad.BadWord) none H)
theorem ok_looked {f : Addr} {fd : FuncData} (F : Fun K "looked" "looked" s_looked f fd) (tt : Txt K mg ad) (C_looked_length : Cal P w K mg base (CX1 P w) "looked_length" 2 ["length", "kinds"] (spLenX ad))
    (C_letters : Cal P w K mg base (CX1 P w) "letters" 2 ["kinds"] (spLettersX ad)) : FnOk P w K mg base (CX1 P w) 3 f fd ["word", "kinds"] (spLookedX ad) := by
  refine F.okX sc_looked (fun vs H Q E h => ?_) (fun cdv A outer s H vs Q E hr h => ?_)
  · obtain ⟨w, k, rfl, _⟩ := h
    rfl
  · obtain ⟨w, k, rfl, hw, x1, q⟩ := h
    have hs : sizeLine = 16777216 := sizeLine_eq
    refine ⟨_, (pss_cons (ps_expr (pe_cal C_looked_length hr passX (pa_cons (pe_callB call_len_T (by rfl) tt.b_len PySem.boot_len (pa_cons (pv 0) pa_nil)) (pa_cons (pv 1) pa_nil))))
      (pss_cons (ps_set (i := 2) sc_looked.nd rfl (Or.inl rfl) (pe_cal C_letters hr passX (pa_cons (pv 1) pa_nil)))
      (pss_one (ps_for PassesOwn.leaving rfl (pi_str (pv 0)) (pg_name (i := 3) sc_looked.nd rfl (Or.inl rfl)) (pss_one (ps_if (pt_cmpR op_notin_sT (pv 3) (pv 2) (by with_unfolding_all rfl)) (pss_one (ps_raise (E := fun cls H' => E cls none H') tt.x_BadWord rfl (fun _ _ _ _ _ _ _ I hx q => raiseX I hx q) (pa_cons (pe_strT [97, 32, 119, 111, 114, 100, 32, 104, 97, 115, 32, 108, 101, 116, 116, 101, 114, 115, 32, 111, 102, 32, 105, 116, 115, 32, 107, 105, 110, 100, 115, 32, 97, 108, 111, 110, 101] (by decide +kernel)) pa_nil))) pss_nil)))))), ?_⟩
    (try rw [cxK2]); (try rw [cxK1])
    refine ⟨_, rfl, _, rfl, (by omega), _, rfl, _, k, rfl, fun hk hn => ?_, x1, fun hk hn => ?_⟩
    rotate_left
    · obtain ⟨kn, rfl⟩ : ∃ kn : Nat, k = (kn : Nat) := ⟨k.toNat, by omega⟩
      exact (q kn rfl ⟨by omega, by omega⟩).2 fun z => hn ⟨by have := z.1; omega, by have := z.1; omega⟩
    obtain ⟨kn, rfl⟩ : ∃ kn : Nat, k = (kn : Nat) := ⟨k.toNat, by omega⟩
    obtain ⟨q1, q2⟩ := q kn rfl ⟨by omega, by omega⟩
    refine ⟨_, rfl, _, rfl, fun kn' ek hk' => ?_, fun z => absurd hk z⟩
    obtain rfl : kn = kn' := by omega
    refine ⟨_, rfl, _, rfl, ?_⟩
    refine for_text (l := w) (fun i σ H2 => H = H2 ∧ (∀ c ∈ w.take i, 97 ≤ c ∧ c < 97 + kn) ∧ ∃ v, σ = [some (T w), some (.int (kn : Nat)), some (T (([97, 98, 99, 100, 101, 102] : List Nat).take kn)), v]) ⟨rfl, fun c hc => (by simp at hc), none, rfl⟩ ?_ ?_
    · rintro i c σ H2 hi ⟨rfl, hall, v, rfl⟩
      refine ⟨_, rfl, _, rfl, _, rfl, _, rfl, _, rfl, ?_⟩
      refine ite2 (fun h0 => ?_) (fun h0 => ?_)
      · have h1 : ¬ c ∈ ([97, 98, 99, 100, 101, 102] : List Nat).take kn := fun z => by
          rw [decide_eq_true z] at h0
          cases h0
        refine ⟨(by show 1 ≤ sizeLine; omega), q2 fun z => h1 ?_⟩
        exact (abc_mem (by omega)).mpr (z.2 c (List.mem_of_getElem? hi))
      · have h1 : c ∈ ([97, 98, 99, 100, 101, 102] : List Nat).take kn := by
          apply Classical.byContradiction
          intro z
          rw [decide_eq_false z] at h0
          exact h0 rfl
        refine ⟨rfl, fun d hd => ?_, _, rfl⟩
        have hil := (List.getElem?_eq_some_iff.mp hi).1
        rw [List.take_add_one, hi] at hd
        rcases List.mem_append.mp hd with z | z
        · exact hall d z
        · have : d = c := by simpa using z
          subst this
          exact (abc_mem (by omega)).mp h1
    · rintro σ H2 ⟨rfl, hall, v, rfl⟩
      rw [List.take_length] at hall
      exact q1 ⟨⟨by omega, by omega⟩, hall⟩

noncomputable def spRowW : Sp := fun vs H Q _ => ∃ (t : List Nat) (n : Nat), vs = [T t, .int (n : Nat)] ∧ (t.length ≤ 5000 ∧ 1 ≤ n ∧ n ≤ 5000) ∧ ∀ D H', H D = none → Same H H' → H' D = some (.lst ((Wd.rowW t n).map T)) → Q (.ref D) H'
theorem ok_row_windows {f : Addr} {fd : FuncData} (F : Fun K "row_windows" "row_windows" s_row_windows f fd) (tt : Txt K mg ad) : FnOk P w K mg base (CX1 P w) 1 f fd ["text", "length"] spRowW := by
  refine F.okN sc_row_windows (fun vs H Q E h => ?_) (fun cdv A outer s H vs Q E hr h => ?_)
  · obtain ⟨t, n, rfl, _⟩ := h
    rfl
  · obtain ⟨t, n, rfl, hn, q⟩ := h
    have hs : sizeLine = 16777216 := sizeLine_eq
    refine ⟨_, (pss_one (ps_ret (pe_comp cs_row_windows_0 rfl (pi_range1 (by rfl) tt.b_range (pa_cons (pe_op op_add (pe_op op_sub (pe_callB call_len_T (by rfl) tt.b_len PySem.boot_len (pa_cons (pv 0) pa_nil)) (pv 1)) pe_int) pa_nil)) (fun cl C s' H' fp => (pe_slice sl_T (pv 1) (po_some (pv 0)) (po_some (pe_op op_add (pv 0) (pv 2)))))))), ?_⟩
    (try rw [cxK2]); (try rw [cxK1])
    refine ⟨_, rfl, _, rfl, (by omega), _, rfl, _, _, rfl, rfl, _, _, rfl, rfl, _, rfl, by omega, by omega, ?_⟩
    have en : (((t.length : Nat) : Int) - ((n : Nat) : Int) + 1).toNat = t.length + 1 - n := by omega
    rw [en]
    refine comp_range (lo := 0) (n := t.length + 1 - n) (fun i => T (Wd.ringAt t n i)) (by omega) (fun i H4 hi s4 N hN => ?_) fun D H4 hD s4 hd4 => ?_
    · refine ⟨_, rfl, _, rfl, _, rfl, _, rfl, _, rfl, _, _, rfl, rfl, _, rfl, _, rfl, by omega, ?_⟩
      have e : cutL t (some (0 + (i : Int))) (some (0 + (i : Int) + ((n : Nat) : Int))) = Wd.ringAt t n i := by
        rw [Int.zero_add, ← Int.natCast_add, cutL_mid (by omega) (by omega), Nat.add_sub_cancel_left]
        exact Wd.row_at (by omega)
      rw [e]
      exact hN H4 (Same.refl _)
    · exact q D H4 hD s4 (by rw [hd4, Wd.rowW, List.map_map]; rfl)
noncomputable def spRingW : Sp := fun vs H Q _ => ∃ (t : List Nat) (n : Nat), vs = [T t, .int (n : Nat)] ∧ (t.length ≤ 5000 ∧ 1 ≤ n ∧ n ≤ 5000) ∧ ∀ D H', H D = none → Same H H' → H' D = some (.lst ((Wd.ringW t n).map T)) → Q (.ref D) H'
theorem ok_ring_windows {f : Addr} {fd : FuncData} (F : Fun K "ring_windows" "ring_windows" s_ring_windows f fd) (tt : Txt K mg ad) : FnOk P w K mg base (CX1 P w) 1 f fd ["text", "length"] spRingW := by
  refine F.okN sc_ring_windows (fun vs H Q E h => ?_) (fun cdv A outer s H vs Q E hr h => ?_)
  · obtain ⟨t, n, rfl, _⟩ := h
    rfl
  · obtain ⟨t, n, rfl, hn, q⟩ := h
    have hs : sizeLine = 16777216 := sizeLine_eq
    refine ⟨_, (pss_cons (ps_if (pt_cmpR op_eq_T (pv 0) (pe_strT [] (by decide +kernel)) (nomark _)) (pss_one (ps_ret (pe_lst pa_nil))) pss_nil)
      (pss_cons (ps_set (i := 2) sc_ring_windows.nd rfl (Or.inl rfl) (pe_callB call_len_T (by rfl) tt.b_len PySem.boot_len (pa_cons (pv 0) pa_nil)))
      (pss_cons (ps_set (i := 3) sc_ring_windows.nd rfl (Or.inr rfl) (pe_op op_mul_T (pv 0) (pe_op op_add (pe_op op_fdiv (pv 1) (pv 2)) pe_int)))
      (pss_one (ps_ret (pe_comp cs_ring_windows_0 rfl (pi_range1 (by rfl) tt.b_range (pa_cons (pv 2) pa_nil)) (fun cl C s' H' fp => (pe_slice sl_T (pv 4) (po_some (pv 0)) (po_some (pe_op op_add (pv 0) (pv 2))))))))))), ?_⟩
    (try rw [cxK2]); (try rw [cxK1])
    refine ⟨_, rfl, _, rfl, _, rfl, _, rfl, ?_⟩
    refine ite2 (fun h0 => ?_) (fun h0 => ?_)
    · have e : t = [] := of_decide_eq_true h0
      subst e
      exact ⟨(by show 0 ≤ sizeLine; omega), fun D hD => q D _ hD (fun b o e => by rw [upd_ne (ne_of_none e hD)]; exact e) upd_same⟩
    · have hne : t ≠ [] := fun z => h0 (decide_eq_true z)
      have hp : 0 < t.length := List.length_pos_iff.mpr hne
      have hdv : ((n : Nat) : Int) / ((t.length : Nat) : Int) + 2 = ((n / t.length + 2 : Nat) : Int) := by rw [← Int.natCast_ediv]; rfl
      have hdm : n / t.length * t.length + n % t.length = n := by rw [Nat.mul_comm]; exact Nat.div_add_mod n t.length
      have hml := Nat.mod_lt n hp
      have hdl : n / t.length ≤ n := Nat.div_le_self _ _
      have hcl : (n / t.length + 2) * t.length = n / t.length * t.length + 2 * t.length := by rw [Nat.add_mul]
      refine ⟨_, rfl, _, rfl, (by omega), ?_⟩
      refine ⟨_, rfl, _, rfl, _, rfl, _, _, rfl, rfl, ⟨by omega, by omega⟩, _, _, rfl, rfl, _, rfl, n / t.length + 2, congrArg V.int hdv, ⟨by omega, by omega⟩, ?_⟩
      refine ⟨_, rfl, _, rfl, by omega, by omega, ?_⟩
      rw [Int.toNat_natCast]
      refine comp_range (lo := 0) (n := t.length) (fun i => T (Wd.ringAt t n i)) (by omega) (fun i H4 hi s4 N hN => ?_) fun D H4 hD s4 hd4 => ?_
      · refine ⟨_, rfl, _, rfl, _, rfl, _, rfl, _, rfl, _, _, rfl, rfl, _, rfl, _, rfl, (by rw [Wd.rep_len]; omega), ?_⟩
        have e : cutL (Wd.rep (n / t.length + 2) t) (some (0 + (i : Int))) (some (0 + (i : Int) + ((n : Nat) : Int))) = Wd.ringAt t n i := by
          rw [show 0 + (i : Int) + ((n : Nat) : Int) = ((i + n : Nat) : Int) by omega, Int.zero_add, cutL_mid (by rw [Wd.rep_len]; omega) (by omega), show i + n - i = n by omega]
          exact Wd.ring_at (by omega) hp
        rw [e]
        exact hN H4 (Same.refl _)
      · exact q D H4 hD s4 (by rw [hd4, Wd.ringW, List.map_map]; rfl)
noncomputable def spWin : Sp := fun vs H Q _ => ∃ (t : List Nat) (n : Nat) (b : Bool), vs = [T t, .int (n : Nat), .bl b] ∧ (t.length ≤ 5000 ∧ 1 ≤ n ∧ n ≤ 5000) ∧ ∀ D H', H D = none → Same H H' → H' D = some (.lst ((Wd.win t n b).map T)) → Q (.ref D) H'
theorem ok_windows {f : Addr} {fd : FuncData} (F : Fun K "windows" "windows" s_windows f fd) (tt : Txt K mg ad) (C_row_windows : Cal P w K mg base (CX1 P w) "row_windows" 1 ["text", "length"] spRowW) (C_ring_windows : Cal P w K mg base (CX1 P w) "ring_windows" 1 ["text", "length"] spRingW) :
    FnOk P w K mg base (CX1 P w) 2 f fd ["text", "length", "ring"] spWin := by
  refine F.okN sc_windows (fun vs H Q E h => ?_) (fun cdv A outer s H vs Q E hr h => ?_)
  · obtain ⟨t, n, b, rfl, _⟩ := h
    rfl
  · obtain ⟨t, n, b, rfl, hn, q⟩ := h
    refine ⟨_, (pss_cons (ps_if (pt_val (pv 2)) (pss_one (ps_ret (pe_cal C_ring_windows hr pass1 (pa_cons (pv 0) (pa_cons (pv 1) pa_nil))))) pss_nil)
      (pss_one (ps_ret (pe_cal C_row_windows hr pass1 (pa_cons (pv 0) (pa_cons (pv 1) pa_nil)))))), ?_⟩
    (try rw [cxK2]); (try rw [cxK1])
    refine ⟨_, rfl, _, rfl, ?_⟩
    refine ite2 (fun h0 => ?_) (fun h0 => ?_)
    · rw [Wd.win, if_pos h0] at q
      exact ⟨_, rfl, _, rfl, t, n, rfl, hn, q⟩
    · rw [Wd.win, if_neg h0] at q
      exact ⟨_, rfl, _, rfl, t, n, rfl, hn, q⟩

theorem uniq_len {ls : List (List Nat)} (h : ls.Nodup) : (uniq ls).length = ls.length := ((List.perm_ext_iff_of_nodup (uniq_nodup ls) h).mpr fun x => uniq_mem ls x).length_eq
theorem sq_put {H : Hp} {p x C dx : Addr} {fs : List (Str × V)} {xs : List V} {o : HO} (h : SqL K H p xs) (hx : H x = some (.ins C dx fs)) : SqL K (upd H x o) p xs := by
  rcases h with (h | ⟨q, h⟩) | h
  · exact .inl (.inl (by rw [upd_ne (fun z => by subst z; rw [hx] at h; cases h)]; exact h))
  · exact .inl (.inr ⟨q, by rw [upd_ne (fun z => by subst z; rw [hx] at h; cases h)]; exact h⟩)
  · exact .inr h
noncomputable def WebOk (ls : List (List Nat)) (n : Nat) : Prop := ls ≠ [] ∧ ls.length ≤ 64 ∧ (1 ≤ n ∧ n ≤ 8) ∧ (∀ x ∈ ls, x.length = n ∧ ∀ c ∈ x, 97 ≤ c ∧ c < 103) ∧ ls.Nodup
noncomputable def spWebL (K : PySem.W.Frag) : Sp := fun vs H Q _ => ∃ (p : Addr) (ls : List (List Nat)) (n : Nat), vs = [.ref p] ∧ SqL K H p (ls.map T) ∧ WebOk ls n ∧ ∀ H', Same H H' → Q .non H'
theorem ok_looked_web {f : Addr} {fd : FuncData} (F : Fun K "looked_web" "looked_web" s_looked_web f fd) (tt : Txt K mg ad) (C_looked : Cal P w K mg base (CX1 P w) "looked" 3 ["word", "kinds"] (spLookedX ad)) :
    FnOk P w K mg base (CX1 P w) 4 f fd ["words"] (spWebL K) := by
  refine F.okX sc_looked_web (fun vs H Q E h => ?_) (fun cdv A outer s H vs Q E hr h => ?_)
  · obtain ⟨p, ls, n, rfl, _⟩ := h
    rfl
  · obtain ⟨p, ls, n, rfl, hS, ⟨hne, h64, hn, hx, hnd⟩, q⟩ := h
    have hs : sizeLine = 16777216 := sizeLine_eq
    have hl0 : 0 < ls.length := List.length_pos_iff.mpr hne
    obtain ⟨x0, hx0⟩ : ∃ x0, ls[0]? = some x0 := ⟨_, List.getElem?_eq_getElem hl0⟩
    have hx0l := (hx x0 (List.mem_of_getElem? hx0)).1
    refine ⟨_, (pss_cons (ps_if (pt_cmpR op_gt (pe_callB call_len_seq (by rfl) tt.b_len PySem.boot_len (pa_cons (pv 0) pa_nil)) (pe_glob (by rfl) tt.g_MOST_OF_A_WEB tt.r_MOST_OF_A_WEB) (nomark _)) (pss_one (ps_raise (E := fun cls H' => E cls none H') tt.x_TooMany rfl (fun _ _ _ _ _ _ _ I hx q => raiseX I hx q) (pa_cons (pe_strT [97, 32, 119, 101, 98, 32, 104, 97, 115, 32, 97, 116, 32, 109, 111, 115, 116, 32, 54, 52, 32, 119, 111, 114, 100, 115] (by decide +kernel)) pa_nil))) pss_nil)
      (pss_cons (ps_if (pt_cmpR op_eq_I (pe_callB call_len_seq (by rfl) tt.b_len PySem.boot_len (pa_cons (pv 0) pa_nil)) pe_int (nomark _)) (pss_one (ps_raise (E := fun cls H' => E cls none H') tt.x_BadWord rfl (fun _ _ _ _ _ _ _ I hx q => raiseX I hx q) (pa_cons (pe_strT [97, 32, 119, 101, 98, 32, 104, 97, 115, 32, 97, 116, 32, 108, 101, 97, 115, 116, 32, 111, 110, 101, 32, 119, 111, 114, 100] (by decide +kernel)) pa_nil))) pss_nil)
      (pss_cons (ps_for PassesOwn.leaving rfl (pi_list (pv 0)) (pg_name (i := 1) sc_looked_web.nd rfl (Or.inl rfl)) (pss_cons (ps_expr (pe_cal C_looked hr passX (pa_cons (pv 1) (pa_cons (pe_callB call_len_T (by rfl) tt.b_len PySem.boot_len (pa_cons (pe_glob (by rfl) tt.g_LETTERS tt.r_LETTERS) pa_nil)) pa_nil))))
      (pss_cons (ps_if (pt_cmpR op_gt (pe_callB call_len_T (by rfl) tt.b_len PySem.boot_len (pa_cons (pv 1) pa_nil)) (pe_glob (by rfl) tt.g_LONGEST_OF_A_WEB tt.r_LONGEST_OF_A_WEB) (nomark _)) (pss_one (ps_raise (E := fun cls H' => E cls none H') tt.x_BadWord rfl (fun _ _ _ _ _ _ _ I hx q => raiseX I hx q) (pa_cons (pe_strT [97, 32, 119, 111, 114, 100, 32, 111, 102, 32, 97, 32, 119, 101, 98, 32, 104, 97, 115, 32, 97, 116, 32, 109, 111, 115, 116, 32, 56, 32, 108, 101, 116, 116, 101, 114, 115] (by decide +kernel)) pa_nil))) pss_nil)
      (pss_one (ps_if (pt_cmpR op_ne_I (pe_callB call_len_T (by rfl) tt.b_len PySem.boot_len (pa_cons (pv 1) pa_nil)) (pe_callB call_len_T (by rfl) tt.b_len PySem.boot_len (pa_cons (pe_ix ix_list (pv 0) pe_int (fun _ _ => rfl)) pa_nil)) (nomark _)) (pss_one (ps_raise (E := fun cls H' => E cls none H') tt.x_BadWord rfl (fun _ _ _ _ _ _ _ I hx q => raiseX I hx q) (pa_cons (pe_strT [116, 104, 101, 32, 119, 111, 114, 100, 115, 32, 111, 102, 32, 97, 32, 119, 101, 98, 32, 104, 97, 118, 101, 32, 111, 110, 101, 32, 108, 101, 110, 103, 116, 104] (by decide +kernel)) pa_nil))) pss_nil)))))
      (pss_one (ps_if (pt_cmpR op_ne_I (pe_callB call_lenS (by rfl) tt.b_len PySem.boot_len (pa_cons (pe_callTy (call_setT rfl) (by rfl) tt.b_set (by decide +kernel) (pa_cons (pv 0) pa_nil)) pa_nil)) (pe_callB call_len_seq (by rfl) tt.b_len PySem.boot_len (pa_cons (pv 0) pa_nil)) (nomark _)) (pss_one (ps_raise (E := fun cls H' => E cls none H') tt.x_BadWord rfl (fun _ _ _ _ _ _ _ I hx q => raiseX I hx q) (pa_cons (pe_strT [97, 32, 119, 111, 114, 100, 32, 115, 116, 97, 110, 100, 115, 32, 105, 110, 32, 97, 32, 119, 101, 98, 32, 111, 110, 99, 101] (by decide +kernel)) pa_nil))) pss_nil))))), ?_⟩
    (try rw [cxK2]); (try rw [cxK1])
    refine ⟨_, rfl, p, _, rfl, .inl hS, _, _, rfl, rfl, _, rfl, ?_⟩
    rw [List.length_map]
    refine ite2 (fun h0 => absurd (of_decide_eq_true h0) (by omega)) (fun _ => ?_)
    refine ⟨_, rfl, p, _, rfl, .inl hS, _, rfl, _, rfl, _, rfl, ?_⟩
    rw [List.length_map]
    refine ite2 (fun h0 => absurd (of_decide_eq_true h0) (by omega)) (fun _ => ?_)
    refine ⟨_, rfl, p, rfl, ⟨_, hS⟩, ?_⟩
    refine for_list (K := K) (a := p) (xs := ls.map T) (fun i σ H2 => H2 = H ∧ ∃ v, σ = [some (.ref p), v]) ⟨rfl, none, rfl⟩ (fun i σ H2 _ h => by rw [h.1]; exact hS) ?_ ?_
    · rintro i y σ H2 hi ⟨rfl, v, rfl⟩
      obtain ⟨x, hxi, rfl⟩ : ∃ x, ls[i]? = some x ∧ y = T x := by
        rw [List.getElem?_map] at hi
        obtain ⟨x, h1, h2⟩ := Option.map_eq_some_iff.mp hi
        exact ⟨x, h1, h2.symm⟩
      obtain ⟨hxl, hxc⟩ := hx x (List.mem_of_getElem? hxi)
      have hg : ∀ kn : Nat, (6 : Int) = (kn : Nat) → Good x kn := fun kn e => ⟨⟨by omega, by omega⟩, fun c hc => by have := hxc c hc; omega⟩
      refine ⟨_, rfl, _, rfl, (by show 6 ≤ sizeLine; omega), x, 6, rfl, (by omega), fun z => absurd ⟨by decide, by decide⟩ z, fun kn ek hk => ⟨fun _ => ?_, fun z => absurd (hg kn ek) z⟩⟩
      refine ⟨_, rfl, _, rfl, (by omega), _, _, rfl, rfl, _, rfl, ?_⟩
      refine ite2 (fun h0 => absurd (of_decide_eq_true h0) (by omega)) (fun _ => ?_)
      refine ⟨_, rfl, _, rfl, (by omega), _, rfl, p, _, _, _, rfl, rfl, hS, atI_nat (j := 0) (by rw [List.getElem?_map, hx0]; rfl), _, rfl, (by omega), _, rfl, _, rfl, _, rfl, ?_⟩
      refine iteNS (by rw [hxl, hx0l]) ?_
      exact ⟨rfl, _, rfl⟩
    · rintro σ H2 ⟨rfl, v, rfl⟩
      refine ⟨_, rfl, p, ls, rfl, hS, (by omega), fun D hD => ?_⟩
      have sD : Same H2 (upd H2 D (SetT P w D (uniq ls))) := fun b o e => by rw [upd_ne (ne_of_none e hD)]; exact e
      refine ⟨D, _, rfl, upd_same, _, rfl, p, _, rfl, .inl (sD.seq hS), _, rfl, _, rfl, _, rfl, ?_⟩
      refine iteNS (by rw [List.length_map, uniq_len hnd]) ?_
      exact q _ sD
noncomputable def flds (tp : Addr) (n : Int) : List (Str × V) := putF "length" (.int n) (putF "words" (.ref tp) [])
theorem flds_w (tp : Addr) (n : Int) : (flds tp n).lookup ("words" : Str) = some (.ref tp) := by
  unfold flds
  rw [lookup_putF, if_neg (by decide +kernel), lookup_putF, if_pos rfl]
theorem flds_l (tp : Addr) (n : Int) : (flds tp n).lookup ("length" : Str) = some (.int n) := by
  unfold flds
  rw [lookup_putF, if_pos rfl]
noncomputable def spWebI (K : PySem.W.Frag) (C : Addr) : Sp := fun vs H Q _ => ∃ (x dx p : Addr) (ls : List (List Nat)) (n : Nat), vs = [.ref x, .ref p] ∧ H x = some (.ins C dx []) ∧ SqL K H p (ls.map T) ∧ WebOk ls n ∧
  ∀ (tp : Addr) (ms : List (List Nat)) (H' : Hp), ms.Perm ls → ms.Pairwise (fun a b => ¬ b < a) → (∀ b o, H b = some o → b ≠ x → H' b = some o) → H' x = some (.ins C dx (flds tp (n : Nat))) → H' tp = some (.tup (ms.map T)) → Q .non H'
theorem ok_Web_init {f : Addr} {fd : FuncData} (F : Fun K "__init__" "Web.__init__" s_Web_init f fd) (tt : Txt K mg ad) (C_looked_web : Cal P w K mg base (CX1 P w) "looked_web" 4 ["words"] (spWebL K)) :
    FnOk P w K mg base (CX1 P w) 5 f fd ["self", "words"] (spWebI K ad.Web) := by
  refine F.okX sc_Web_init (fun vs H Q E h => ?_) (fun cdv A outer s H vs Q E hr h => ?_)
  · obtain ⟨x, dx, p, ls, n, rfl, _⟩ := h
    rfl
  · obtain ⟨x, dx, p, ls, n, rfl, hx, hS, hok, q⟩ := h
    have hs : sizeLine = 16777216 := sizeLine_eq
    obtain ⟨hne, h64, hn, hxs, hnd⟩ := id hok
    have hl0 : 0 < ls.length := List.length_pos_iff.mpr hne
    obtain ⟨x0, hx0⟩ : ∃ x0, ls[0]? = some x0 := ⟨_, List.getElem?_eq_getElem hl0⟩
    have hx0l := (hxs x0 (List.mem_of_getElem? hx0)).1
    refine ⟨_, (pss_cons (ps_expr (pe_cal C_looked_web hr passX (pa_cons (pv 1) pa_nil)))
      (pss_cons (ps_fld (pv 0) (pe_callTy call_tuple_of (by rfl) tt.b_tuple (by decide +kernel) (pa_cons (pe_callB call_sortedA (by rfl) tt.b_sorted PyProof.Rows.boot_sorted (pa_cons (pv 1) pa_nil)) pa_nil)) rfl)
      (pss_one (ps_fld (pv 0) (pe_callB call_len_T (by rfl) tt.b_len PySem.boot_len (pa_cons (pe_ix ix_list (pv 1) pe_int (fun _ _ => rfl)) pa_nil)) rfl)))), ?_⟩
    (try rw [cxK2]); (try rw [cxK1])
    refine ⟨_, rfl, p, ls, n, rfl, hS, hok, fun H1 s1 => ?_⟩
    refine ⟨_, rfl, p, ls, rfl, s1.seq hS, fun ms D hD hperm hpw => ?_⟩
    have s2 : Same H1 (upd H1 D (.lst (ms.map T))) := fun b o e => by rw [upd_ne (ne_of_none e hD)]; exact e
    refine ⟨D, _, rfl, .inl ⟨SqL.of upd_same, fun tp htp => ?_⟩⟩
    have s3 : Same (upd H1 D (.lst (ms.map T))) (upd (upd H1 D (.lst (ms.map T))) tp (.tup (ms.map T))) := fun b o e => by rw [upd_ne (ne_of_none e htp)]; exact e
    generalize hH3 : upd (upd H1 D (.lst (ms.map T))) tp (.tup (ms.map T)) = H3 at s3
    have htp3 : H3 tp = some (.tup (ms.map T)) := by rw [← hH3]; exact upd_same
    have s13 : Same H H3 := s1.trans (s2.trans s3)
    have hx3 := s13 x _ hx
    have hxt : tp ≠ x := fun z => by subst z; rw [htp3] at hx3; cases hx3
    refine ⟨_, rfl, x, ad.Web, dx, [], rfl, hx3, tt.cl_Web, tt.na_Web_words, (by show 0 < 1000; decide), ?_⟩
    have hS4 : SqL K (upd H3 x (.ins ad.Web dx (putF "words" (.ref tp) []))) p (ls.map T) := sq_put (s13.seq hS) hx3
    refine ⟨_, rfl, p, _, _, _, rfl, rfl, hS4, atI_nat (j := 0) (by rw [List.getElem?_map, hx0]; rfl), _, rfl, (by omega), _, rfl, x, ad.Web, dx, _, rfl, upd_same, tt.cl_Web, tt.na_Web_length, (by show 1 < 1000; decide), ?_⟩
    refine q tp ms _ hperm hpw (fun b o e hb => ?_) ?_ ?_
    · rw [upd_ne hb, upd_ne hb]
      exact s13 b o e
    · rw [upd_same, hx0l]
      rfl
    · rw [upd_ne hxt, upd_ne hxt]
      exact htp3
noncomputable def WebAt (C : Addr) (H : Hp) (x tp : Addr) (n : Nat) (ms : List (List Nat)) : Prop := (∃ dx, H x = some (.ins C dx (flds tp (n : Nat)))) ∧ H tp = some (.tup (ms.map T))
theorem WebAt.on {C : Addr} {H H' : Hp} {x tp : Addr} {n : Nat} {ms : List (List Nat)} (h : WebAt C H x tp n ms) (s : Same H H') : WebAt C H' x tp n ms := let ⟨⟨dx, e⟩, t⟩ := h; ⟨⟨dx, s _ _ e⟩, s _ _ t⟩

theorem same_upd {H : Hp} {D : Addr} {o : HO} (h : H D = none) : Same H (upd H D o) := fun b u e => by rw [upd_ne (ne_of_none e h)]; exact e
theorem itP {c A B : Prop} [Decidable c] (hc : c) (h : A) : if c then A else B := by rw [if_pos hc]; exact h
theorem itN {c A B : Prop} [Decidable c] (hc : ¬ c) (h : B) : if c then A else B := by rw [if_neg hc]; exact h

noncomputable def RingOf (t : List Nat) (n : Nat) (ms : List (List Nat)) : Prop := (Wd.ringW t n).Perm ms
noncomputable def spIsTR (C : Addr) : Sp := fun vs H Q _ => ∃ (x tp : Addr) (t : List Nat) (n : Nat) (ms : List (List Nat)), vs = [.ref x, T t] ∧ WebAt C H x tp n ms ∧ ms.Pairwise (fun a b => ¬ b < a) ∧ (t.length ≤ 5000 ∧ 1 ≤ n ∧ n ≤ 5000) ∧
  ∀ (b : Bool) (H' : Hp), Same H H' → (b = true ↔ RingOf t n ms) → Q (.bl b) H'
theorem ok_is_turned_ring {f : Addr} {fd : FuncData} (F : Fun K "is_turned_ring" "is_turned_ring" s_is_turned_ring f fd) (tt : Txt K mg ad) (C_windows : Cal P w K mg base (CX1 P w) "windows" 2 ["text", "length", "ring"] spWin) :
    FnOk P w K mg base (CX1 P w) 3 f fd ["web", "text"] (spIsTR ad.Web) := by
  refine F.okN sc_is_turned_ring (fun vs H Q E h => ?_) (fun cdv A outer s H vs Q E hr h => ?_)
  · obtain ⟨x, tp, t, n, ms, rfl, _⟩ := h
    rfl
  · obtain ⟨x, tp, t, n, ms, rfl, hW, hsm, hn, q⟩ := h
    have hs : sizeLine = 16777216 := sizeLine_eq
    have hu := Nat.lt_of_succ_lt (hu_of hr)
    obtain ⟨⟨dx, hx⟩, htp⟩ := id hW
    refine ⟨_, (pss_one (ps_ret (pe_cmpR (op_eq_LT hu) (pe_callB call_sortedA (by rfl) tt.b_sorted PyProof.Rows.boot_sorted (pa_cons (pe_cal C_windows hr pass1 (pa_cons (pv 1) (pa_cons (pe_fld (pv 0) rfl) (pa_cons pe_bl pa_nil)))) pa_nil)) (pe_callTy call_list_of (by rfl) tt.b_list (by decide +kernel) (pa_cons (pe_fld (pv 0) rfl) pa_nil)) (nomark _)))), ?_⟩
    (try rw [cxK2]); (try rw [cxK1])
    refine ⟨_, rfl, _, rfl, x, ad.Web, dx, _, _, rfl, hx, tt.cl_Web, tt.na_Web_length, flds_l _ _, t, n, true, rfl, hn, fun D H1 hD s1 hd => ?_⟩
    have hw : Wd.win t n true = Wd.ringW t n := if_pos rfl
    rw [hw] at hd
    refine ⟨D, _, rfl, SqL.of hd, fun qs D2 hD2 hp2 hw2 => ?_⟩
    have s2 : Same H1 (upd H1 D2 (.lst (qs.map T))) := fun b o e => by rw [upd_ne (ne_of_none e hD2)]; exact e
    have s12 := s1.trans s2
    refine ⟨_, rfl, x, ad.Web, dx, _, _, rfl, s12 x _ hx, tt.cl_Web, tt.na_Web_words, flds_w _ _, tp, _, rfl, .inr (SqT.of (s12 tp _ htp)), fun l hl => ?_⟩
    have s3 : Same (upd H1 D2 (.lst (qs.map T))) (upd (upd H1 D2 (.lst (qs.map T))) l (.lst (ms.map T))) := fun b o e => by rw [upd_ne (ne_of_none e hl)]; exact e
    refine ⟨D2, l, qs, ms, rfl, rfl, SqL.of (s3 D2 _ upd_same), SqL.of upd_same, ?_⟩
    refine q _ _ (s12.trans s3) ⟨fun z => ?_, fun z => decide_eq_true ?_⟩
    · have e : qs = ms := of_decide_eq_true z
      subst e
      exact hp2.symm
    · exact Wd.sorted_same (hp2.trans z) hw2 hsm
noncomputable def spIsRing (C : Addr) : Sp := fun vs H Q _ => ∃ (x tp : Addr) (t m0 : List Nat) (n : Nat) (ms : List (List Nat)), vs = [.ref x, T t] ∧ WebAt C H x tp n ms ∧ ms.Pairwise (fun a b => ¬ b < a) ∧ (t.length ≤ 5000 ∧ 1 ≤ n ∧ n ≤ 5000) ∧ ms[0]? = some m0 ∧
  ∀ (b : Bool) (H' : Hp), Same H H' → (b = true ↔ RingOf t n ms ∧ Wd.ringAt t n 0 = m0) → Q (.bl b) H'
theorem ok_is_ring {f : Addr} {fd : FuncData} (F : Fun K "is_ring" "is_ring" s_is_ring f fd) (tt : Txt K mg ad) (C_is_turned_ring : Cal P w K mg base (CX1 P w) "is_turned_ring" 3 ["web", "text"] (spIsTR ad.Web)) (C_windows : Cal P w K mg base (CX1 P w) "windows" 2 ["text", "length", "ring"] spWin) :
    FnOk P w K mg base (CX1 P w) 4 f fd ["web", "text"] (spIsRing ad.Web) := by
  refine F.okN sc_is_ring (fun vs H Q E h => ?_) (fun cdv A outer s H vs Q E hr h => ?_)
  · obtain ⟨x, tp, t, m0, n, ms, rfl, _⟩ := h
    rfl
  · obtain ⟨x, tp, t, m0, n, ms, rfl, hW, hsm, hn, hm0, q⟩ := h
    have hs : sizeLine = 16777216 := sizeLine_eq
    refine ⟨_, (pss_one (ps_ret (pe_and (pe_cal C_is_turned_ring hr pass1 (pa_cons (pv 0) (pa_cons (pv 1) pa_nil))) (pe_one (pe_cmpR op_eq_T (pe_ix ix_list (pe_cal C_windows hr pass1 (pa_cons (pv 1) (pa_cons (pe_fld (pv 0) rfl) (pa_cons pe_bl pa_nil)))) pe_int (fun _ _ => rfl)) (pe_ix ix_tup (pe_fld (pv 0) rfl) pe_int (fun _ _ => rfl)) (nomark _)))))), ?_⟩
    (try rw [cxK2]); (try rw [cxK1])
    refine ⟨_, rfl, _, rfl, x, tp, t, n, ms, rfl, hW, hsm, hn, fun b H1 s1 hb => ⟨b, rfl, ?_⟩⟩
    refine ite2 (fun h0 => ?_) (fun h0 => ?_)
    · have hR := hb.mp h0
      have hl := hR.length_eq
      have hl0 : 0 < ms.length := (List.getElem?_eq_some_iff.mp hm0).1
      rw [Wd.ringW_len] at hl
      obtain ⟨⟨dx, hx⟩, htp⟩ := hW.on s1
      refine ⟨_, rfl, _, rfl, x, ad.Web, dx, _, _, rfl, hx, tt.cl_Web, tt.na_Web_length, flds_l _ _, t, n, true, rfl, hn, fun D H2 hD s2 hd => ?_⟩
      have hw : Wd.win t n true = Wd.ringW t n := if_pos rfl
      rw [hw] at hd
      refine ⟨D, _, _, _, rfl, rfl, SqL.of hd, atI_nat (j := 0) (by rw [List.getElem?_map, Wd.ringW_get (by omega)]; rfl), ?_⟩
      refine ⟨_, rfl, x, ad.Web, dx, _, _, rfl, s2 x _ hx, tt.cl_Web, tt.na_Web_words, flds_w _ _, tp, _, _, _, rfl, rfl, SqT.of (s2 tp _ htp), atI_nat (j := 0) (by rw [List.getElem?_map, hm0]; rfl), _, rfl, _, rfl, ?_⟩
      exact q _ H2 (s1.trans s2) ⟨fun z => ⟨hR, of_decide_eq_true z⟩, fun z => decide_eq_true z.2⟩
    · exact q false H1 s1 ⟨fun z => (by cases z), fun z => absurd (hb.mpr z.1) h0⟩
noncomputable def FirstAt (ls : List (List Nat)) (a : List Nat) (j : Nat) : Prop := ls[j]? = some a ∧ ∀ i, i < j → ls[i]? ≠ some a
theorem firstAt_ex {a : List Nat} : ∀ {ls : List (List Nat)}, a ∈ ls → ∃ j, FirstAt ls a j
  | x :: ls, h => by
    by_cases e : x = a
    · exact ⟨0, by rw [e]; rfl, fun i hi => absurd hi (Nat.not_lt_zero _)⟩
    · have h' : a ∈ ls := by
        rcases List.mem_cons.mp h with z | z
        · exact absurd z.symm e
        · exact z
      obtain ⟨j, h1, h2⟩ := firstAt_ex h'
      refine ⟨j + 1, by rw [List.getElem?_cons_succ]; exact h1, fun i hi => ?_⟩
      cases i with
      | zero => rw [List.getElem?_cons_zero]; exact fun z => e (Option.some.inj z)
      | succ i => rw [List.getElem?_cons_succ]; exact h2 i (by omega)

theorem ringAt_mem {t : List Nat} {n i c : Nat} (ht : 0 < t.length) (h : c ∈ Wd.ringAt t n i) : c ∈ t := by
  unfold Wd.ringAt at h
  obtain ⟨k, _, rfl⟩ := List.mem_map.mp h
  have hm := Nat.mod_lt (i + k) ht
  rw [List.getD_eq_getElem?_getD, List.getElem?_eq_getElem hm]
  exact List.getElem_mem hm
noncomputable def spBegin : Sp := fun vs H Q _ => ∃ t : List Nat, vs = [T t] ∧ (1 ≤ t.length ∧ t.length ≤ 1000) ∧ Q (T (Wd.beg t)) H
theorem cut_begin {t : List Nat} (h : 1 ≤ t.length) : cutL t none (some (-1)) = Wd.beg t := by
  unfold cutL Wd.beg
  rw [HT.sIx_none, List.drop_zero, Nat.sub_zero]
  show t.take (if (-1 : Int) < 0 then ((-1 : Int) + (t.length : Int)).toNat else min (-1 : Int).toNat t.length) = _
  rw [if_pos (by decide), show ((-1 : Int) + (t.length : Int)).toNat = t.length - 1 by omega]
theorem ok_begin_of {f : Addr} {fd : FuncData} (F : Fun K "begin_of" "begin_of" s_begin_of f fd) (tt : Txt K mg ad) : FnOk P w K mg base (CX1 P w) 1 f fd ["word"] spBegin := by
  refine F.okN sc_begin_of (fun vs H Q E h => ?_) (fun cdv A outer s H vs Q E hr h => ?_)
  · obtain ⟨t, rfl, _⟩ := h
    rfl
  · obtain ⟨t, rfl, hl, q⟩ := h
    have hs : sizeLine = 16777216 := sizeLine_eq
    refine ⟨_, (pss_one (ps_ret (pe_slice sl_T (pv 0) po_none (po_some (pe_un un_neg pe_int))))), ?_⟩
    (try rw [cxK2]); (try rw [cxK1])
    refine ⟨_, rfl, _, rfl, _, rfl, _, rfl, (by omega), ?_⟩
    rw [show cutL t none (some (-1)) = Wd.beg t from cut_begin hl.1]
    exact q
theorem cutV_one (ls : List (List Nat)) : cutV (ls.map T) none (some 1) = (ls.take 1).map T := by
  unfold cutV
  rw [HT.sIx_none, List.drop_zero, Nat.sub_zero, show HT.sIx (ls.map T).length (ls.map T).length (some (1 : Int)) = min 1 (ls.map T).length from HT.sIx_nat _ _ 1, List.map_take]
  rcases Nat.lt_or_ge (ls.map T).length 1 with h | h
  · rw [Nat.min_eq_right (by omega), List.take_of_length_le (Nat.le_refl _), List.take_of_length_le (by omega)]
  · rw [Nat.min_eq_left h]
theorem ringW_mem {t x : List Nat} {n : Nat} (ht : 0 < t.length) (h : x ∈ Wd.ringW t n) : x.length = n ∧ ∀ c ∈ x, c ∈ t := by
  unfold Wd.ringW at h
  obtain ⟨i, _, rfl⟩ := List.mem_map.mp h
  exact ⟨Wd.ringAt_len t n i, fun c hc => ringAt_mem ht hc⟩
theorem map_rangeT (ls : List (List Nat)) (g : List Nat → List Nat) : (List.range (ls.map T).length).map (fun i => T (g (ls[i]?.getD []))) = (ls.map g).map T := by
  apply List.ext_getElem?
  intro i
  rw [List.getElem?_map, List.getElem?_map, List.getElem?_map]
  by_cases hi : i < ls.length
  · rw [List.getElem?_range (by rw [List.length_map]; exact hi), List.getElem?_eq_getElem hi]
    simp only [Option.map_some]
    rw [List.getElem?_eq_getElem hi]
    rfl
  · rw [List.getElem?_eq_none (by rw [List.length_range, List.length_map]; omega), List.getElem?_eq_none (by omega)]
    rfl

set_option genInjectivity false in
structure YesR (C : Addr) (H : Hp) (x tp : Addr) (t m0 : List Nat) (n : Nat) (ms : List (List Nat)) : Prop where
  at_ : WebAt C H x tp n ms
  sm : ms.Pairwise (fun a b => ¬ b < a)
  le : (1 ≤ t.length ∧ t.length ≤ 500) ∧ 1 ≤ n ∧ n ≤ 500
  hm0 : ms[0]? = some m0
  yes : RingOf t n ms ∧ Wd.ringAt t n 0 = m0
theorem YesR.on {C : Addr} {H H' : Hp} {x tp : Addr} {t m0 : List Nat} {n : Nat} {ms : List (List Nat)} (h : YesR C H x tp t m0 n ms) (s : Same H H') : YesR C H' x tp t m0 n ms := ⟨h.at_.on s, h.sm, h.le, h.hm0, h.yes⟩
noncomputable def Fits (al : List (List Nat)) (a b c d : Int) : Prop := 1 ≤ a ∧ a < b ∧ b ≤ c ∧ c < d ∧ d < al.length ∧ al[a.toNat]? = al[c.toNat]? ∧ al[b.toNat]? = al[d.toNat]?
noncomputable instance {al : List (List Nat)} {a b c d : Int} : Decidable (Fits al a b c d) := by unfold Fits; infer_instance
theorem fits_and {al : List (List Nat)} {a b c d : Int} (h1 : ¬ a < 1) (h2 : ¬ b ≤ a) (h3 : ¬ c < b) (h4 : ¬ d ≤ c) (h5 : ¬ (d ≥ (al.length : Nat))) : ∃ a' b' c' d' : Nat, a = (a' : Int) ∧ b = (b' : Int) ∧ c = (c' : Int) ∧ d = (d' : Int) ∧ ∃ (ha : a' < al.length) (hb : b' < al.length) (hc : c' < al.length) (hd : d' < al.length), (Fits al a b c d ↔ al[a'] = al[c'] ∧ al[b'] = al[d']) := by
  refine ⟨a.toNat, b.toNat, c.toNat, d.toNat, by omega, by omega, by omega, by omega, by omega, by omega, by omega, by omega, ?_⟩
  unfold Fits
  rw [List.getElem?_eq_getElem (by omega), List.getElem?_eq_getElem (by omega), List.getElem?_eq_getElem (by omega), List.getElem?_eq_getElem (by omega), Option.some_inj, Option.some_inj]
  exact ⟨fun z => ⟨z.2.2.2.2.2.1, z.2.2.2.2.2.2⟩, fun z => ⟨by omega, by omega, by omega, by omega, by omega, z.1, z.2⟩⟩
noncomputable def T4 (a b c d : Int) : List V := [.int a, .int b, .int c, .int d]

noncomputable def mixM (c k : Int) : Int := (c % 10 ^ 30 * 1000003 + (k + 1) * (k + 1) * 998244353) % 2305843009213693951
noncomputable def mixZ (c k : Int) : Int := mixM c k * mixM c k % 2305843009213693921
noncomputable def spMix : Sp := fun vs H Q _ => ∃ (c k : Int), vs = [.int c, .int k] ∧ (0 ≤ k ∧ k ≤ 1000) ∧ Q (.int (mixZ c k)) H
theorem ok__law_mix {f : Addr} {fd : FuncData} (F : Fun K "_law_mix" "_law_mix" s__law_mix f fd) (tt : Txt K mg ad) : FnOk P w K mg base (CX1 P w) 1 f fd ["cell", "k"] spMix := by
  refine F.okN sc__law_mix (fun vs H Q E h => ?_) (fun cdv A outer s H vs Q E hr h => ?_)
  · obtain ⟨c, k, rfl, _⟩ := h
    rfl
  · obtain ⟨c, k, rfl, hk, q⟩ := h
    have h1 : 0 ≤ mixM c k := Int.emod_nonneg _ (by decide)
    have h2 : mixM c k < 2305843009213693951 := Int.emod_lt_of_pos _ (by decide)
    unfold mixZ at q
    refine ⟨_, (pss_cons (ps_set (i := 2) sc__law_mix.nd rfl (Or.inl rfl) (pe_op op_mod (pe_op op_add (pe_op op_mul (pe_op op_mod (pv 0) (pe_op op_pow pe_int pe_int)) pe_int) (pe_op op_mul (pe_op op_mul (pe_op op_add (pv 1) pe_int) (pe_op op_add (pv 1) pe_int)) pe_int)) pe_int))
      (pss_one (ps_ret (pe_op op_mod (pe_op op_mul (pv 2) (pv 2)) pe_int)))), ?_⟩
    (try rw [cxK2]); (try rw [cxK1])
    refine ⟨_, rfl, _, _, rfl, rfl, ⟨by decide, by decide, by decide⟩, _, _, rfl, rfl, (by show (0 : Int) < 10 ^ 30; decide), _, _, rfl, rfl, .inr ⟨by decide, by decide⟩, _, rfl, _, _, rfl, rfl, _, rfl, _, _, rfl, rfl, _, _, rfl, rfl, .inl ⟨by omega, by omega⟩, _, _, rfl, rfl, .inr ⟨by decide, by decide⟩, _, _, rfl, rfl, _, _, rfl, rfl, (by show (0 : Int) < 2305843009213693951; decide), ?_⟩
    exact ⟨.int (mixM c k), rfl, .int (mixM c k), rfl, mixM c k, mixM c k, rfl, rfl, .inl ⟨by omega, by omega⟩, _, _, rfl, rfl, (by show (0 : Int) < 2305843009213693921; decide), q⟩
theorem rep_one (t : List Nat) : Wd.rep 1 t = t := by simp [Wd.rep]
theorem rep_snoc (c : Nat) (t : List Nat) : Wd.rep c t ++ t = Wd.rep (c + 1) t := by
  induction c with
  | zero => simp [Wd.rep]
  | succ c ih => rw [Wd.rep_succ c, List.append_assoc, ih, Wd.rep_succ (c + 1)]
theorem ok__law_round {f : Addr} {fd : FuncData} (F : Fun K "_law_round" "_law_round" s__law_round f fd) (tt : Txt K mg ad) : FnOk P w K mg base (CX1 P w) 1 f fd ["text", "length"] spRingW := by
  refine F.okN sc__law_round (fun vs H Q E h => ?_) (fun cdv A outer s H vs Q E hr h => ?_)
  · obtain ⟨t, n, rfl, _⟩ := h
    rfl
  · obtain ⟨t, n, rfl, hn, q⟩ := h
    have hs : sizeLine = 16777216 := sizeLine_eq
    refine ⟨_, (pss_cons (ps_if (pt_cmpR op_eq_T (pv 0) (pe_strT [] (by decide +kernel)) (nomark _)) (pss_one (ps_ret (pe_lst pa_nil))) pss_nil)
      (pss_cons (ps_set (i := 2) sc__law_round.nd rfl (Or.inr rfl) (pv 0))
      (pss_cons (ps_while PassesOwn.never (pt_cmpR op_lt (pe_callB call_len_T (by rfl) tt.b_len PySem.boot_len (pa_cons (pv 2) pa_nil)) (pe_op op_add (pe_callB call_len_T (by rfl) tt.b_len PySem.boot_len (pa_cons (pv 0) pa_nil)) (pv 1)) (nomark _)) (pss_one (ps_set (i := 2) sc__law_round.nd rfl (Or.inr rfl) (pe_op op_add_T (pv 2) (pv 0)))))
      (pss_one (ps_ret (pe_comp cs__law_round_0 rfl (pi_range1 (by rfl) tt.b_range (pa_cons (pe_callB call_len_T (by rfl) tt.b_len PySem.boot_len (pa_cons (pv 0) pa_nil)) pa_nil)) (fun cl C s' H' fp => (pe_slice sl_T (pv 3) (po_some (pv 0)) (po_some (pe_op op_add (pv 0) (pv 2))))))))))), ?_⟩
    (try rw [cxK2]); (try rw [cxK1])
    refine ⟨_, rfl, _, rfl, _, rfl, _, rfl, ?_⟩
    refine ite2 (fun h0 => ?_) (fun h0 => ?_)
    · have e : t = [] := of_decide_eq_true h0
      subst e
      exact ⟨(by show 0 ≤ sizeLine; omega), fun D hD => q D _ hD (fun b o e => by rw [upd_ne (ne_of_none e hD)]; exact e) upd_same⟩
    · have hne : t ≠ [] := fun z => h0 (decide_eq_true z)
      have hp : 0 < t.length := List.length_pos_iff.mpr hne
      refine ⟨_, rfl, ?_⟩
      refine ⟨fun m σ H2 => H2 = H ∧ ∃ c : Nat, 1 ≤ c ∧ σ = [some (T t), some (.int (n : Nat)), some (T (Wd.rep c t))] ∧ c * t.length ≤ 2 * t.length + n ∧ m = 2 * t.length + n - c * t.length, ⟨_, rfl, 1, Nat.le_refl _, (by rw [rep_one]; rfl), by omega, rfl⟩, ?_⟩
      rintro m σ H2 ⟨rfl, c, hc1, rfl, hcl, hm⟩
      have hrl := Wd.rep_len c t
      refine ⟨_, rfl, _, rfl, (by omega), _, rfl, _, rfl, (by omega), _, rfl, _, _, rfl, rfl, _, _, rfl, rfl, _, rfl, ?_⟩
      refine ite2 (fun h1 => ?_) (fun h1 => ?_)
      · have h2 : c * t.length < t.length + n := by have := of_decide_eq_true h1; omega
        have hsc : (c + 1) * t.length = c * t.length + t.length := by rw [Nat.add_mul, Nat.one_mul]
        refine ⟨_, fun σ' H' z => z, ?_⟩
        refine ⟨_, rfl, _, rfl, _, rfl, _, rfl, (by omega), ?_⟩
        exact ⟨2 * t.length + n - (c + 1) * t.length, by omega, rfl, c + 1, by omega, (by rw [rep_snoc]; rfl), by omega, rfl⟩
      · have h2 : t.length + n ≤ c * t.length := by
          rcases Nat.lt_or_ge (c * t.length) (t.length + n) with z | z
          · exact absurd (decide_eq_true (by omega)) h1
          · exact z
        refine ⟨_, rfl, _, rfl, (by omega), _, rfl, by omega, by omega, ?_⟩
        rw [Int.toNat_natCast]
        refine comp_range (lo := 0) (n := t.length) (fun i => T (Wd.ringAt t n i)) (by omega) (fun i H4 hi s4 N hN => ?_) fun D H4 hD s4 hd4 => ?_
        · refine ⟨_, rfl, _, rfl, _, rfl, _, rfl, _, rfl, _, _, rfl, rfl, _, rfl, _, rfl, (by omega), ?_⟩
          have e : cutL (Wd.rep c t) (some (0 + (i : Int))) (some (0 + (i : Int) + ((n : Nat) : Int))) = Wd.ringAt t n i := by
            rw [Int.zero_add, ← Int.natCast_add, cutL_mid (by omega) (by omega), Nat.add_sub_cancel_left]
            exact Wd.ring_at (by omega) hp
          rw [e]
          exact hN H4 (Same.refl _)
        · exact q D H4 hD s4 (by rw [hd4, Wd.ringW, List.map_map]; rfl)

theorem tx_inj {a b : List Nat} (h : tx a = tx b) : a = b := by
  have := congrArg (fun z : Str => z.cps.toList) h
  simpa [tx] using this
noncomputable def spTwice (K : PySem.W.Frag) : Sp := fun vs H Q _ => ∃ (p : Addr) (ls : List (List Nat)), vs = [.ref p] ∧ SqL K H p (ls.map T) ∧ ls.length ≤ 1000 ∧ (ls.Nodup → ∀ H', Same H H' → Q .non H') ∧
  ∀ (i j : Nat) (c : Addr) (H' : Hp), Same H H' → i < j → j < ls.length → H' c = some (.tup [.int (i : Nat), .int (j : Nat)]) → Q (.ref c) H'
theorem ok__law_first_twice {f : Addr} {fd : FuncData} (F : Fun K "_law_first_twice" "_law_first_twice" s__law_first_twice f fd) (tt : Txt K mg ad) : FnOk P w K mg base (CX1 P w) 1 f fd ["found"] (spTwice K) := by
  refine F.okN sc__law_first_twice (fun vs H Q E h => ?_) (fun cdv A outer s H vs Q E hr h => ?_)
  · obtain ⟨p, ls, rfl, _⟩ := h
    rfl
  · obtain ⟨p, ls, rfl, hS, hz, q1, q2⟩ := h
    have hs : sizeLine = 16777216 := sizeLine_eq
    refine ⟨_, (pss_cons (ps_set (i := 1) sc__law_first_twice.nd rfl (Or.inl rfl) pe_dnewK)
      (pss_cons (ps_for PassesOwn.never rfl (pi_range1 (by rfl) tt.b_range (pa_cons (pe_callB call_len_seq (by rfl) tt.b_len PySem.boot_len (pa_cons (pv 0) pa_nil)) pa_nil)) (pg_name (i := 2) sc__law_first_twice.nd rfl (Or.inl rfl)) (pss_cons (ps_if (pt_cmp (pc_din (hu_of hr) (pe_ix ix_list (pv 0) (pv 2) (fun _ _ => rfl)) (pv 1))) (pss_one (ps_ret (pe_tup (pa_cons (pe_dget (hu_of hr) (pv 1) (pe_ix ix_list (pv 0) (pv 2) (fun _ _ => rfl)) (fun _ _ => rfl)) (pa_cons (pv 2) pa_nil))))) pss_nil)
      (pss_one (ps_dput (hu_of hr) (pv 1) (pe_ix ix_list (pv 0) (pv 2) (fun _ _ => rfl)) (pv 2) rfl))))
      (pss_one (ps_ret pe_non)))), ?_⟩
    (try rw [cxK2]); (try rw [cxK1])
    intro d hd
    have s0 : Same H (upd H d (.dK [])) := fun b o e => by rw [upd_ne (ne_of_none e hd)]; exact e
    refine ⟨_, rfl, p, _, rfl, .inl (s0.seq hS), _, rfl, by rw [List.length_map]; omega, by rw [List.length_map]; omega, ?_⟩
    rw [List.length_map, Int.toNat_natCast]
    refine for_range (fun i σ H2 => ∃ (kvs : List (Key × V)) (v : Option V), σ = [some (.ref p), some (.ref d), v] ∧ Same H H2 ∧ H2 d = some (.dK kvs) ∧ kvs.length ≤ i ∧ (ls.take i).Nodup ∧
        (∀ x ∈ ls.take i, ∃ j : Nat, j < i ∧ valV kvs (Sum.inr (tx x)) = some (.int (j : Nat))) ∧ ∀ x u, valV kvs (Sum.inr (tx x)) = some u → x ∈ ls.take i)
      ⟨[], none, rfl, s0, upd_same, Nat.le_refl _, List.nodup_nil, fun x hx => by simp at hx, fun x u hu => by cases hu⟩ ?_ ?_
    · rintro i σ H2 hi ⟨kvs, v, rfl, s2, hd2, hk, hnd, hin, hout⟩
      have hx : ls[i]? = some (ls[i]'hi) := List.getElem?_eq_getElem hi
      generalize ls[i]'hi = x at hx
      have hat : atI (ls.map T) (0 + (i : Int)) = some (T x) := by
        rw [Int.zero_add]
        exact atI_nat (by rw [List.getElem?_map, hx]; rfl)
      have htk : ls.take (i + 1) = ls.take i ++ [x] := by rw [List.take_succ, hx]; rfl
      refine ⟨_, rfl, _, rfl, p, _, _, _, rfl, rfl, s2.seq hS, hat, _, rfl, d, _, rfl, DGet.k (k := Sum.inr (tx x)) hd2, _, rfl, ?_⟩
      cases hv : valV kvs (Sum.inr (tx x)) with
      | some u =>
        obtain ⟨j, hj, ej⟩ := hin x (hout x u hv)
        obtain rfl : V.int (j : Nat) = u := Option.some.inj (ej.symm.trans hv)
        refine iteT ?_
        refine ⟨_, rfl, _, rfl, _, rfl, p, _, _, _, rfl, rfl, s2.seq hS, hat, d, _, rfl, (by rw [← hv]; exact DGet.k (k := Sum.inr (tx x)) hd2), _, rfl, (by show 2 ≤ sizeLine; omega), fun c hc => ?_⟩
        refine q2 j i c _ (s2.trans fun b o e => by rw [upd_ne (ne_of_none e hc)]; exact e) hj hi ?_
        rw [upd_same, Int.zero_add]
      | none =>
        refine iteF ?_
        refine ⟨_, rfl, _, rfl, _, rfl, _, rfl, p, _, _, _, rfl, rfl, s2.seq hS, hat, d, _, rfl, DPut.k (k := Sum.inr (tx x)) hd2 (by omega), ?_⟩
        have hnx : ¬ x ∈ ls.take i := fun z => by obtain ⟨j, _, e⟩ := hin x z; rw [hv] at e; cases e
        have hdH : H d = none := hd
        refine ⟨putK kvs (Sum.inr (tx x)) (.int (0 + (i : Int))), _, rfl, fun b o e => ?_, upd_same, (by have := length_putK kvs (Sum.inr (tx x)) (.int (0 + (i : Int))); omega), ?_, fun y hy => ?_, fun y u hu => ?_⟩
        · rw [upd_ne (ne_of_none e hdH)]
          exact s2 b o e
        · rw [htk]
          exact List.nodup_append.mpr ⟨hnd, by simp, fun a ha b hb => by simp at hb; subst hb; exact fun z => hnx (z ▸ ha)⟩
        · rw [valV_put]
          rw [htk] at hy
          rcases List.mem_append.mp hy with z | z
          · obtain ⟨j, hj, e⟩ := hin y z
            by_cases g : (Sum.inr (tx y) : Key) = Sum.inr (tx x)
            · exact ⟨i, by omega, by rw [if_pos g, Int.zero_add]⟩
            · exact ⟨j, by omega, by rw [if_neg g]; exact e⟩
          · simp at z
            subst z
            exact ⟨i, by omega, by rw [if_pos rfl, Int.zero_add]⟩
        · rw [valV_put] at hu
          rw [htk]
          by_cases g : (Sum.inr (tx y) : Key) = Sum.inr (tx x)
          · have e : y = x := tx_inj (Sum.inr.inj g)
            simp [e]
          · rw [if_neg g] at hu
            exact List.mem_append_left _ (hout y u hu)
    · rintro σ H2 ⟨kvs, v, rfl, s2, _, _, hnd, _⟩
      rw [List.take_length] at hnd
      exact q1 hnd H2 s2

noncomputable def OnceOk (t u : List Nat) : Prop := u.length ≤ t.length ∧ 1 ≤ u.length ∧ ∀ c ∈ u, c ∈ t
noncomputable def spOnceR : Sp := fun vs H Q _ => ∃ (t : List Nat) (n : Nat), vs = [T t, .int (n : Nat)] ∧ (t.length ≤ 500 ∧ 1 ≤ n ∧ n ≤ 500) ∧ 1 ≤ t.length ∧ ∀ u H', Same H H' → OnceOk t u → (Wd.ringW u n).Nodup → Q (T u) H'
theorem ok__law_once {f : Addr} {fd : FuncData} (F : Fun K "_law_once" "_law_once" s__law_once f fd) (tt : Txt K mg ad) (C__law_round : Cal P w K mg base (CX1 P w) "_law_round" 1 ["text", "length"] spRingW)
    (C__law_first_twice : Cal P w K mg base (CX1 P w) "_law_first_twice" 1 ["found"] (spTwice K)) : FnOk P w K mg base (CX1 P w) 2 f fd ["text", "length"] spOnceR := by
  refine F.okN sc__law_once (fun vs H Q E h => ?_) (fun cdv A outer s H vs Q E hr h => ?_)
  · obtain ⟨t, n, rfl, _⟩ := h
    rfl
  · obtain ⟨t, n, rfl, hn, hL, q⟩ := h
    have hs : sizeLine = 16777216 := sizeLine_eq
    refine ⟨_, (pss_cons (ps_set (i := 2) sc__law_once.nd rfl (Or.inl rfl) (pe_tup (pa_cons pe_int (pa_cons pe_int pa_nil))))
      (pss_cons (ps_while PassesOwn.never (pt_cmp (pc_notN (pv 2))) (pss_cons (ps_set (i := 0) sc__law_once.nd rfl (Or.inl rfl) (pe_op op_add_T (pe_slice sl_T (pv 0) po_none (po_some (pe_ix ix_tup (pv 2) pe_int (fun _ _ => rfl)))) (pe_slice sl_T (pv 0) (po_some (pe_ix ix_tup (pv 2) pe_int (fun _ _ => rfl))) po_none)))
      (pss_one (ps_set (i := 2) sc__law_once.nd rfl (Or.inl rfl) (pe_cal C__law_first_twice hr pass1 (pa_cons (pe_cal C__law_round hr pass1 (pa_cons (pv 0) (pa_cons (pv 1) pa_nil))) pa_nil))))))
      (pss_one (ps_ret (pv 0))))), ?_⟩
    (try rw [cxK2]); (try rw [cxK1])
    refine ⟨(by show 2 ≤ sizeLine; omega), fun p hp => ?_⟩
    have s0 := same_upd (o := .tup [.int 0, .int 0]) hp
    refine ⟨fun m σ H2 => ∃ (u : List Nat) (tw : V), σ = [some (T u), some (.int (n : Nat)), some tw] ∧ Same H H2 ∧ OnceOk t u ∧
        ((tw = .non ∧ (Wd.ringW u n).Nodup) ∨ ∃ (c : Addr) (i j : Nat), tw = .ref c ∧ H2 c = some (.tup [.int (i : Nat), .int (j : Nat)]) ∧ i ≤ j ∧ j + 1 ≤ u.length ∧ m = u.length - (j - i) + 1), ⟨t.length + 1, t, .ref p, rfl, s0, ⟨Nat.le_refl _, hL, fun c hc => hc⟩, .inr ⟨p, 0, 0, rfl, upd_same, Nat.le_refl _, by omega, by omega⟩⟩, ?_⟩
    rintro m σ H2 ⟨u, tw, rfl, s2, ⟨o1, o2, o3⟩, hcase⟩
    rcases hcase with ⟨rfl, hnd⟩ | ⟨c, i, j, rfl, hc, hij, hjn, hm⟩
    · refine ⟨_, rfl, _, rfl, iteF ?_⟩
      exact ⟨_, rfl, q u H2 s2 ⟨o1, o2, o3⟩ hnd⟩
    · refine ⟨_, rfl, _, rfl, iteT ?_⟩
      refine ⟨_, fun σ' H' z => z, ?_⟩
      have e1 : cutL u none (some (i : Int)) = u.take i := cutL_to (by omega)
      have e2 : cutL u (some (j : Int)) none = u.drop j := cutL_from (by omega)
      refine ⟨_, rfl, _, rfl, c, _, _, _, rfl, rfl, SqT.of hc, atI_nat (j := 0) rfl, _, rfl, _, rfl, (by omega), _, rfl, _, rfl, c, _, _, _, rfl, rfl, SqT.of hc, atI_nat (j := 1) rfl, _, rfl, _, rfl, (by omega), _, rfl, _, rfl, (by rw [e1, e2, List.length_take, List.length_drop]; omega), ?_⟩
      rw [e1, e2]
      have ul : (u.take i ++ u.drop j).length = u.length - (j - i) := by rw [List.length_append, List.length_take, List.length_drop]; omega
      have um : ∀ c ∈ u.take i ++ u.drop j, c ∈ t := fun c hc => by
        rcases List.mem_append.mp hc with z | z
        · exact o3 c (List.mem_of_mem_take z)
        · exact o3 c (List.mem_of_mem_drop z)
      generalize u.take i ++ u.drop j = u' at ul um
      have hrl := Wd.ringW_len u' n
      refine ⟨_, rfl, _, rfl, u', n, rfl, ⟨by omega, by omega, by omega⟩, fun D H3 hD s3 hd3 => ?_⟩
      refine ⟨D, _, rfl, SqL.of hd3, (by omega), fun hnd H4 s4 => ?_, fun i' j' c' H4 s4 h1 h2 h3 => ?_⟩
      · exact ⟨0, by omega, u', .non, rfl, s2.trans (s3.trans s4), ⟨by omega, by omega, um⟩, .inl ⟨rfl, hnd⟩⟩
      · exact ⟨u'.length - (j' - i') + 1, by omega, u', .ref c', rfl, s2.trans (s3.trans s4), ⟨by omega, by omega, um⟩, .inr ⟨c', i', j', rfl, h3, by omega, by omega, rfl⟩⟩

theorem abc_at {s : Int} (h0 : 0 ≤ s) (h1 : s < 6) : ∃ c, atI [97, 98, 99, 100, 101, 102] s = some c ∧ 97 ≤ c ∧ c < 103 := by
  obtain ⟨m, hm⟩ := Int.eq_ofNat_of_zero_le h0
  have hm' : s = (m : Int) := hm
  subst hm'
  have key : ∀ m : Nat, m < 6 → ([97, 98, 99, 100, 101, 102] : List Nat)[m]? = some (97 + m) := by decide
  exact ⟨_, atI_nat (key m (by omega)), by omega, by omega⟩
noncomputable def Abc (u : List Nat) : Prop := ∀ c ∈ u, 97 ≤ c ∧ c < 103
noncomputable def spText (K : PySem.W.Frag) : Sp := fun vs H Q _ => ∃ (a : Addr) (ns : List Int) (k : Int) (m : Nat), vs = [.ref a, .int k, .int (m : Nat)] ∧ SqL K H a (ns.map V.int) ∧ ns.length ≤ 63 ∧ (1 ≤ k ∧ k ≤ 6) ∧ m ≤ 500 ∧ ∀ u H', Same H H' → u.length = m → Abc u → Q (T u) H'
theorem ok__law_text {f : Addr} {fd : FuncData} (F : Fun K "_law_text" "_law_text" s__law_text f fd) (tt : Txt K mg ad) (C__law_mix : Cal P w K mg base (CX1 P w) "_law_mix" 1 ["cell", "k"] spMix) : FnOk P w K mg base (CX1 P w) 2 f fd ["script", "kinds", "many"] (spText K) := by
  refine F.okN sc__law_text (fun vs H Q E h => ?_) (fun cdv A outer s H vs Q E hr h => ?_)
  · obtain ⟨a, ns, k, m, rfl, _⟩ := h
    rfl
  · obtain ⟨a, ns, k, m, rfl, hS, hl, hk, hm, q⟩ := h
    have hs : sizeLine = 16777216 := sizeLine_eq
    refine ⟨_, (pss_cons (ps_set (i := 3) sc__law_text.nd rfl (Or.inl rfl) (pe_lst pa_nil))
      (pss_cons (ps_set (i := 4) sc__law_text.nd rfl (Or.inl rfl) (pe_ix ix_list (pe_op op_catL (pv 0) (pe_lst (pa_cons pe_int pa_nil))) pe_int (fun _ _ => rfl)))
      (pss_cons (ps_set (i := 5) sc__law_text.nd rfl (Or.inl rfl) (pe_op op_fdiv (pv 4) pe_int))
      (pss_cons (ps_for PassesOwn.never rfl (pi_range1 (by rfl) tt.b_range (pa_cons (pv 2) pa_nil)) (pg_name (i := 6) sc__law_text.nd rfl (Or.inl rfl)) (pss_cons (ps_set (i := 7) sc__law_text.nd rfl (Or.inl rfl) (pv 6))
      (pss_cons (ps_if (pt_cmpR op_gt (pe_callB call_len_seq (by rfl) tt.b_len PySem.boot_len (pa_cons (pv 0) pa_nil)) pe_int (nomark _)) (pss_one (ps_set (i := 7) sc__law_text.nd rfl (Or.inl rfl) (pe_op op_add (pe_ix ix_list (pv 0) (pe_op op_mod (pv 6) (pe_callB call_len_seq (by rfl) tt.b_len PySem.boot_len (pa_cons (pv 0) pa_nil))) (fun _ _ => rfl)) (pe_op op_fdiv (pv 6) (pe_callB call_len_seq (by rfl) tt.b_len PySem.boot_len (pa_cons (pv 0) pa_nil)))))) pss_nil)
      (pss_cons (ps_set (i := 8) sc__law_text.nd rfl (Or.inl rfl) (pe_op op_fdiv (pe_cal C__law_mix hr pass1 (pa_cons (pv 7) (pa_cons (pe_op op_add pe_int (pv 6)) pa_nil))) pe_int))
      (pss_cons (ps_if (pt_cmpR op_eq_I (pe_op op_mod (pv 4) pe_int) pe_int (nomark _)) (pss_cons (ps_set (i := 8) sc__law_text.nd rfl (Or.inl rfl) (pv 5))
      (pss_one (ps_set (i := 5) sc__law_text.nd rfl (Or.inl rfl) (pe_op op_fdiv (pv 5) (pv 1))))) pss_nil)
      (pss_one (ps_expr (pe_bm PySem.F.plainAttrs_list PySem.F.slot_list_append PySem.F.type_list_append mt_append (pv 3) (pa_cons (pe_ix ix_T (pe_strT [97, 98, 99, 100, 101, 102] (by decide +kernel)) (pe_op op_mod (pv 8) (pv 1)) (fun _ _ => rfl)) pa_nil)))))))))
      (pss_one (ps_ret (pe_bm PySem.F.plainAttrs_str PySem.F.slot_str_join PySem.F.type_str_join mt_join (pe_strT [] (by decide +kernel)) (pa_cons (pv 3) pa_nil)))))))), ?_⟩
    (try rw [cxK2]); (try rw [cxK1])
    refine ⟨(by show 0 ≤ sizeLine; omega), fun sg hsg => ?_⟩
    have s0 : Same H (upd H sg (.lst [])) := fun b o e => by rw [upd_ne (ne_of_none e hsg)]; exact e
    refine ⟨_, rfl, (by show 1 ≤ sizeLine; omega), fun p hp => ?_⟩
    have s1 : Same (upd H sg (.lst [])) (upd (upd H sg (.lst [])) p (.lst [.int 0])) := fun b o e => by rw [upd_ne (ne_of_none e hp)]; exact e
    obtain ⟨z0, hz0⟩ : ∃ z0, atI (ns.map V.int ++ [V.int 0]) 0 = some (V.int z0) := by
      cases ns with
      | nil => exact ⟨0, atI_nat (j := 0) rfl⟩
      | cons z r => exact ⟨z, atI_nat (j := 0) rfl⟩
    refine ⟨a, p, _, _, rfl, rfl, (s0.trans s1).seq hS, SqL.of upd_same, (by rw [List.length_map]; show ns.length + 1 ≤ sizeLine; omega), fun p2 hp2 => ⟨p2, _, _, _, rfl, rfl, SqL.of upd_same, hz0, ?_⟩⟩
    have s2 : Same (upd (upd H sg (.lst [])) p (.lst [.int 0])) (upd (upd (upd H sg (.lst [])) p (.lst [.int 0])) p2 (.lst (ns.map V.int ++ [V.int 0]))) := fun b o e => by rw [upd_ne (ne_of_none e hp2)]; exact e
    refine ⟨_, rfl, _, _, rfl, rfl, ⟨by decide, by decide⟩, ?_⟩
    refine ⟨_, rfl, _, rfl, by omega, by omega, ?_⟩
    rw [Int.toNat_natCast]
    have hsg2 := s2 sg _ (s1 sg _ upd_same)
    generalize upd (upd (upd H sg (.lst [])) p (.lst [.int 0])) p2 (.lst (ns.map V.int ++ [V.int 0])) = H0 at s2 hsg2
    have sH0 : Same H H0 := s0.trans (s1.trans s2)
    refine for_range (fun i σ H2 => Same H H2 ∧ ∃ (u : List Nat) (dg : Int) (v1 v2 v3 : Option V), σ = [some (.ref a), some (.int k), some (.int (m : Nat)), some (.ref sg), some (.int z0), some (.int dg), v1, v2, v3] ∧ H2 sg = some (.lst ((u.map fun c => [c]).map T)) ∧ u.length = i ∧ Abc u)
      ⟨sH0, [], _, none, none, none, rfl, hsg2, rfl, fun c hc => by simp at hc⟩ ?_ ?_
    · rintro i σ H2 hi ⟨s3, u, dg, v1, v2, v3, rfl, hu, hul, hab⟩
      have fin : ∀ (dg' pt : Int) (v2 : Option V), ∃ c, atI [97, 98, 99, 100, 101, 102] (pt % k) = some c ∧ 97 ≤ c ∧ c < 103 := fun dg' pt v2 => abc_at (Int.emod_nonneg _ (by omega)) (by have := Int.emod_lt_of_pos pt (show 0 < k by omega); omega)
      have done : ∀ (c : Nat) (dg' : Int) (w1 w2 w3 : Option V), 97 ≤ c → c < 103 → (fun i σ H2 => Same H H2 ∧ ∃ (u : List Nat) (dg : Int) (v1 v2 v3 : Option V), σ = [some (.ref a), some (.int k), some (.int (m : Nat)), some (.ref sg), some (.int z0), some (.int dg), v1, v2, v3] ∧ H2 sg = some (.lst ((u.map fun c => [c]).map T)) ∧ u.length = i ∧ Abc u) (i + 1)
          ([some (.ref a), some (.int k), some (.int (m : Nat)), some (.ref sg), some (.int z0), some (.int dg'), w1, w2, w3] : St) (upd H2 sg (.lst ((u.map fun c => [c]).map T ++ [T [c]]))) := fun c dg' w1 w2 w3 c1 c2 =>
        ⟨fun b o e => by rw [upd_ne (ne_of_none e hsg)]; exact s3 b o e, u ++ [c], dg', w1, w2, w3, rfl, by rw [upd_same, List.map_append, List.map_append]; rfl, by rw [List.length_append, hul]; rfl, fun x hx => by
          rcases List.mem_append.mp hx with y | y
          · exact hab x y
          · simp at y; omega⟩
      refine ⟨_, rfl, ?_⟩
      refine ⟨_, rfl, a, _, rfl, .inl (s3.seq hS), _, _, rfl, rfl, _, rfl, ?_⟩
      rw [List.length_map]
      refine ite2 (fun h0 => ?a) (fun h0 => ?b)
      case' a =>
        have h0' : 0 < ns.length := by have := of_decide_eq_true h0; omega
        have hmod : (0 + (i : Int)) % ((ns.length : Nat) : Int) = ((i % ns.length : Nat) : Int) := by rw [Int.zero_add, Int.natCast_emod]
        have hml := Nat.mod_lt i h0'
        have hat : atI (ns.map V.int) ((0 + (i : Int)) % (((ns.map V.int).length : Nat) : Int)) = some (.int (ns[i % ns.length]'hml)) := by
          rw [List.length_map, hmod]
          exact atI_nat (by rw [List.getElem?_map, List.getElem?_eq_getElem hml]; rfl)
        refine ⟨_, rfl, _, rfl, _, rfl, a, _, rfl, .inl (s3.seq hS), _, _, rfl, rfl, (by rw [List.length_map]; show (0 : Int) < ((ns.length : Nat) : Int); omega), a, _, _, _, rfl, rfl, s3.seq hS, hat, _, rfl, _, rfl, a, _, rfl, .inl (s3.seq hS), _, _, rfl, rfl, ⟨by rw [List.length_map]; omega, by rw [List.length_map]; omega⟩, _, _, rfl, rfl, ?_⟩
      all_goals
        refine ⟨_, rfl, _, rfl, _, _, rfl, rfl, _, _, rfl, ⟨by omega, by omega⟩, _, _, rfl, rfl, ⟨by decide, by decide⟩, ?_⟩
        refine ⟨_, rfl, _, _, rfl, rfl, (by show (0 : Int) < 2; decide), _, rfl, _, rfl, _, rfl, ?_⟩
        refine ite2 (fun h1 => ?_) (fun h1 => ?_)
        · refine ⟨_, rfl, ?_⟩
          refine ⟨_, rfl, _, rfl, _, _, rfl, rfl, ⟨by omega, by omega⟩, ?_⟩
          obtain ⟨c, hc, c1, c2⟩ := fin dg dg none
          refine ⟨_, rfl, .inl ⟨rfl, _, SqL.of hu⟩, _, rfl, _, rfl, _, _, rfl, rfl, (by show (0 : Int) < k; omega), _, rfl, _, rfl, (by show 6 ≤ sizeLine; omega), c, hc, sg, _, _, rfl, rfl, hu, (by rw [List.length_map, List.length_map]; omega), ?_⟩
          exact done c _ _ _ _ c1 c2
        · obtain ⟨c, hc, c1, c2⟩ := fin dg _ none
          refine ⟨_, rfl, .inl ⟨rfl, _, SqL.of hu⟩, _, rfl, _, rfl, _, _, rfl, rfl, (by show (0 : Int) < k; omega), _, rfl, _, rfl, (by show 6 ≤ sizeLine; omega), c, hc, sg, _, _, rfl, rfl, hu, (by rw [List.length_map, List.length_map]; omega), ?_⟩
          exact done c _ _ _ _ c1 c2
    · rintro σ H2 ⟨s3, u, dg, v1, v2, v3, rfl, hu, hul, hab⟩
      have e := letters_flat u
      refine ⟨rfl, _, rfl, rfl, sg, u.map fun c => [c], rfl, SqL.of hu, (by rw [e]; omega), ?_⟩
      rw [e]
      exact q u H2 s3 hul hab

noncomputable def RingDr (u : List Nat) (n : Nat) (k : Int) (M : Nat) : Prop := (1 ≤ n ∧ n ≤ 8) ∧ (1 ≤ k ∧ k ≤ 6) ∧ (1 ≤ u.length ∧ u.length ≤ M) ∧ Abc u ∧ (Wd.ringW u n).Nodup ∧ ∀ y ∈ Wd.ringW u n, ¬ y < Wd.ringAt u n 0
theorem ringDr_rot {u m : List Nat} {n j : Nat} {k : Int} {M : Nat} (hn : 1 ≤ n ∧ n ≤ 8) (hk : 1 ≤ k ∧ k ≤ 6) (hu : 1 ≤ u.length ∧ u.length ≤ M) (ha : Abc u) (hnd : (Wd.ringW u n).Nodup) (hj : (Wd.ringW u n)[j]? = some m) (hm : ∀ y ∈ Wd.ringW u n, ¬ y < m) : RingDr (Wd.rotN u j) n k M := by
  have hjl : j < u.length := by
    have := (List.getElem?_eq_some_iff.mp hj).1
    rw [Wd.ringW_len] at this
    exact this
  rw [Wd.ringW_get hjl] at hj
  obtain rfl := Option.some.inj hj
  have hp : (Wd.ringW (Wd.rotN u j) n).Perm (Wd.ringW u n) := by rw [Wd.ringW_rot hjl]; exact Wd.rotN_perm _ _
  refine ⟨hn, hk, by rw [Wd.rotN_len]; exact hu, fun c hc => ha c ((Wd.rotN_perm u j).mem_iff.mp hc), hp.nodup_iff.mpr hnd, fun y hy => ?_⟩
  rw [Wd.ringAt_rot hjl, Nat.zero_add]
  exact hm y (hp.mem_iff.mp hy)
noncomputable def spRingL (K : PySem.W.Frag) : Sp := fun vs H Q _ => ∃ (a : Addr) (ns : List Int) (M : Nat), vs = [.ref a, .int (M : Nat)] ∧ SqL K H a (ns.map V.int) ∧ ns.length ≤ 63 ∧ (1 ≤ M ∧ M ≤ 64) ∧ ∀ u n k c H', RingDr u n k M → Same H H' → H' c = some (.tup [T u, .int (n : Nat), .int k]) → Q (.ref c) H'
theorem ok__law_ring {f : Addr} {fd : FuncData} (F : Fun K "_law_ring" "_law_ring" s__law_ring f fd) (tt : Txt K mg ad) (C__law_mix : Cal P w K mg base (CX1 P w) "_law_mix" 1 ["cell", "k"] spMix) (C__law_round : Cal P w K mg base (CX1 P w) "_law_round" 1 ["text", "length"] spRingW) (C__law_once : Cal P w K mg base (CX1 P w) "_law_once" 2 ["text", "length"] spOnceR)
    (C__law_text : Cal P w K mg base (CX1 P w) "_law_text" 2 ["script", "kinds", "many"] (spText K)) : FnOk P w K mg base (CX1 P w) 3 f fd ["script", "most"] (spRingL K) := by
  refine F.okN sc__law_ring (fun vs H Q E h => ?_) (fun cdv A outer s H vs Q E hr h => ?_)
  · obtain ⟨a, ns, M, rfl, _⟩ := h
    rfl
  · obtain ⟨a, ns, M, rfl, hS, hl, hM, q⟩ := h
    have hs : sizeLine = 16777216 := sizeLine_eq
    refine ⟨_, (pss_cons (ps_set (i := 2) sc__law_ring.nd rfl (Or.inl rfl) (pe_callB (call_sum rfl) (by rfl) tt.b_sum PyProof.Rows.boot_sum (pa_cons (pv 0) pa_nil)))
      (pss_cons (ps_set (i := 3) sc__law_ring.nd rfl (Or.inl rfl) (pe_op op_add pe_int (pe_op op_mod (pe_op op_fdiv (pe_cal C__law_mix hr pass1 (pa_cons (pv 2) (pa_cons pe_int pa_nil))) pe_int) pe_int)))
      (pss_cons (ps_set (i := 4) sc__law_ring.nd rfl (Or.inl rfl) (pe_op op_add pe_int (pe_op op_mod (pe_op op_fdiv (pe_cal C__law_mix hr pass1 (pa_cons (pv 2) (pa_cons pe_int pa_nil))) pe_int) pe_int)))
      (pss_cons (ps_if (pt_cmpR op_eq_I (pe_op op_mod (pe_op op_fdiv (pe_cal C__law_mix hr pass1 (pa_cons (pv 2) (pa_cons pe_int pa_nil))) pe_int) pe_int) pe_int (nomark _)) (pss_cons (ps_set (i := 3) sc__law_ring.nd rfl (Or.inl rfl) pe_int)
      (pss_one (ps_set (i := 4) sc__law_ring.nd rfl (Or.inl rfl) (pe_op op_add pe_int (pe_op op_mod (pe_op op_fdiv (pe_cal C__law_mix hr pass1 (pa_cons (pv 2) (pa_cons pe_int pa_nil))) pe_int) pe_int))))) pss_nil)
      (pss_cons (ps_set (i := 5) sc__law_ring.nd rfl (Or.inl rfl) (pe_cal C__law_once hr pass1 (pa_cons (pe_cal C__law_text hr pass1 (pa_cons (pv 0) (pa_cons (pv 3) (pa_cons (pe_op op_add pe_int (pe_op op_mod (pe_op op_fdiv (pe_cal C__law_mix hr pass1 (pa_cons (pv 2) (pa_cons pe_int pa_nil))) pe_int) (pv 1))) pa_nil)))) (pa_cons (pv 4) pa_nil))))
      (pss_cons (ps_set (i := 6) sc__law_ring.nd rfl (Or.inl rfl) (pe_cal C__law_round hr pass1 (pa_cons (pv 5) (pa_cons (pv 4) pa_nil))))
      (pss_cons (ps_set (i := 7) sc__law_ring.nd rfl (Or.inl rfl) (pe_bm PySem.F.plainAttrs_list PySem.F.slot_list_index PySem.F.type_list_index mt_index (pv 6) (pa_cons (pe_callB (call_minT rfl) (by rfl) tt.b_min PyProof.Rows.boot_min (pa_cons (pv 6) pa_nil)) pa_nil)))
      (pss_one (ps_ret (pe_tup (pa_cons (pe_op op_add_T (pe_slice sl_T (pv 5) (po_some (pv 7)) po_none) (pe_slice sl_T (pv 5) po_none (po_some (pv 7)))) (pa_cons (pv 4) (pa_cons (pv 3) pa_nil))))))))))))), ?_⟩
    (try rw [cxK2]); (try rw [cxK1])
    refine ⟨_, rfl, a, ns, rfl, hS, fun sm => ?_⟩
    have g1 := Int.emod_nonneg (mixZ sm 1 / 3) (show (4 : Int) ≠ 0 by decide)
    have g2 := Int.emod_lt_of_pos (mixZ sm 1 / 3) (show (0 : Int) < 4 by decide)
    have g3 := Int.emod_nonneg (mixZ sm 2 / 5) (show (4 : Int) ≠ 0 by decide)
    have g4 := Int.emod_lt_of_pos (mixZ sm 2 / 5) (show (0 : Int) < 4 by decide)
    have g5 := Int.emod_nonneg (mixZ sm 4 / 5) (show (7 : Int) ≠ 0 by decide)
    have g6 := Int.emod_lt_of_pos (mixZ sm 4 / 5) (show (0 : Int) < 7 by decide)
    have g7 := Int.emod_nonneg (mixZ sm 5 / 7) (show ((M : Nat) : Int) ≠ 0 by omega)
    have g8 := Int.emod_lt_of_pos (mixZ sm 5 / 7) (show (0 : Int) < ((M : Nat) : Int) by omega)
    refine ⟨_, rfl, _, _, rfl, ⟨by decide, by decide⟩, _, _, rfl, rfl, ⟨by decide, by decide⟩, _, _, rfl, rfl, (by show (0 : Int) < 4; decide), _, _, rfl, rfl, ?_⟩
    refine ⟨_, rfl, _, _, rfl, ⟨by decide, by decide⟩, _, _, rfl, rfl, ⟨by decide, by decide⟩, _, _, rfl, rfl, (by show (0 : Int) < 4; decide), _, _, rfl, rfl, ?_⟩
    refine ⟨_, rfl, _, _, rfl, ⟨by decide, by decide⟩, _, _, rfl, rfl, ⟨by decide, by decide⟩, _, _, rfl, rfl, (by show (0 : Int) < 2; decide), _, rfl, _, rfl, _, rfl, ?_⟩
    refine ite2 (fun h0 => ?a) (fun h0 => ?b)
    case' a =>
      refine ⟨_, rfl, _, _, rfl, ⟨by decide, by decide⟩, _, _, rfl, rfl, ⟨by decide, by decide⟩, _, _, rfl, rfl, (by show (0 : Int) < 7; decide), _, _, rfl, rfl, ?_⟩
      obtain ⟨n, hn, hn1, hn2⟩ : ∃ n : Nat, 2 + mixZ sm 4 / 5 % 7 = ((n : Nat) : Int) ∧ 1 ≤ n ∧ n ≤ 8 := ⟨(2 + mixZ sm 4 / 5 % 7).toNat, by omega, by omega, by omega⟩
      obtain ⟨k, hk, hk1, hk2⟩ : ∃ k : Int, 2 = k ∧ 1 ≤ k ∧ k ≤ 6 := ⟨2, rfl, by decide, by decide⟩
    case' b =>
      obtain ⟨n, hn, hn1, hn2⟩ : ∃ n : Nat, 1 + mixZ sm 2 / 5 % 4 = ((n : Nat) : Int) ∧ 1 ≤ n ∧ n ≤ 8 := ⟨(1 + mixZ sm 2 / 5 % 4).toNat, by omega, by omega, by omega⟩
      obtain ⟨k, hk, hk1, hk2⟩ : ∃ k : Int, 1 + mixZ sm 1 / 3 % 4 = k ∧ 1 ≤ k ∧ k ≤ 6 := ⟨_, rfl, by omega, by omega⟩
    all_goals
      dsimp only
      rw [hn]
      obtain ⟨m, hm, hm1, hm2⟩ : ∃ m : Nat, 1 + mixZ sm 5 / 7 % ((M : Nat) : Int) = ((m : Nat) : Int) ∧ 1 ≤ m ∧ m ≤ M := ⟨(1 + mixZ sm 5 / 7 % ((M : Nat) : Int)).toNat, by omega, by omega, by omega⟩
      refine ⟨_, rfl, _, rfl, _, rfl, _, _, rfl, ⟨by decide, by decide⟩, _, _, rfl, rfl, ⟨by decide, by decide⟩, _, rfl, _, _, rfl, rfl, (by show (0 : Int) < ((M : Nat) : Int); omega), _, _, rfl, rfl, a, ns, k, m, (by rw [← hk, ← hm]; rfl), hS, hl, ⟨hk1, hk2⟩, (by omega), fun t H1 s1 htl hab => ?_⟩
      refine ⟨_, rfl, t, n, rfl, ⟨by omega, by omega, by omega⟩, (by omega), fun u H2 s2 ⟨o1, o2, o3⟩ hnd => ?_⟩
      have hrl := Wd.ringW_len u n
      refine ⟨_, rfl, _, rfl, u, n, rfl, ⟨by omega, by omega, by omega⟩, fun D H3 hD s3 hd3 => ?_⟩
      refine ⟨_, rfl, .inl ⟨rfl, _, SqL.of hd3⟩, _, rfl, D, _, rfl, SqL.of hd3, (fun z => by rw [z, List.length_nil] at hrl; omega), fun mn hmn hmin => ?_⟩
      obtain ⟨j, hj⟩ := firstAt_ex hmn
      have hjl : j < u.length := by have := (List.getElem?_eq_some_iff.mp hj.1).1; omega
      refine ⟨D, _, mn, j, rfl, rfl, SqL.of hd3, hj.1, hj.2, ?_⟩
      have e1 : cutL u (some (j : Int)) none = u.drop j := cutL_from (by omega)
      have e2 : cutL u none (some (j : Int)) = u.take j := cutL_to (by omega)
      refine ⟨_, rfl, _, rfl, _, rfl, _, rfl, (by omega), _, rfl, _, rfl, _, rfl, _, rfl, (by omega), _, rfl, _, rfl, (by rw [e1, e2, List.length_drop, List.length_take]; omega), _, rfl, _, rfl, (by show 3 ≤ sizeLine; omega), fun c hc => ?_⟩
      rw [e1, e2, hk]
      exact q (Wd.rotN u j) n k c _ (ringDr_rot ⟨hn1, hn2⟩ ⟨hk1, hk2⟩ ⟨by omega, by omega⟩ (fun x hx => hab x (o3 x hx)) hnd hj.1 hmin) (s1.trans (s2.trans (s3.trans (same_upd hc)))) upd_same
noncomputable def spMet (C : Addr) : Sp := fun vs H Q _ => ∃ (x tp : Addr) (t m0 : List Nat) (n : Nat) (ms : List (List Nat)), vs = [.ref x, T t] ∧ YesR C H x tp t m0 n ms ∧ ∀ D H', Same H H' → H' D = some (.lst ((Wd.metL t n).map T)) → Q (.ref D) H'
theorem ok_pieces_met {f : Addr} {fd : FuncData} (F : Fun K "pieces_met" "pieces_met" s_pieces_met f fd) (tt : Txt K mg ad) (C_is_ring : Cal P w K mg base (CX1 P w) "is_ring" 4 ["web", "text"] (spIsRing ad.Web)) (C_windows : Cal P w K mg base (CX1 P w) "windows" 2 ["text", "length", "ring"] spWin) (C_begin_of : Cal P w K mg base (CX1 P w) "begin_of" 1 ["word"] spBegin) : FnOk P w K mg base (CX1 P w) 5 f fd ["web", "ring"] (spMet ad.Web) := by
  refine F.okX sc_pieces_met (fun vs H Q E h => ?_) (fun cdv A outer s H vs Q E hr h => ?_)
  · obtain ⟨x, tp, t, m0, n, ms, rfl, _⟩ := h
    rfl
  · obtain ⟨x, tp, t, m0, n, ms, rfl, hN, q⟩ := h
    have hs : sizeLine = 16777216 := sizeLine_eq
    obtain ⟨hl, hn⟩ := hN.le
    refine ⟨_, (pss_cons (ps_if (pt_not (pt_val (pe_cal C_is_ring hr pass1 (pa_cons (pv 0) (pa_cons (pv 1) pa_nil))))) (pss_one (ps_raise (E := fun cls H' => E cls none H') tt.x_NotOne rfl (fun _ _ _ _ _ _ _ I hx q => raiseX I hx q) (pa_cons (pe_strT [116, 104, 101, 32, 116, 101, 120, 116, 32, 105, 115, 32, 110, 111, 32, 114, 105, 110, 103, 32, 111, 102, 32, 116, 104, 101, 32, 119, 101, 98, 44, 32, 116, 111, 108, 100, 32, 102, 114, 111, 109, 32, 105, 116, 115, 32, 108, 101, 97, 115, 116, 32, 119, 111, 114, 100] (by decide +kernel)) pa_nil))) pss_nil)
      (pss_cons (ps_setComp (i := 2) cs_pieces_met_0 rfl (pi_list (pe_cal C_windows hr pass1 (pa_cons (pv 1) (pa_cons (pe_fld (pv 0) rfl) (pa_cons pe_bl pa_nil))))) (fun cl C s' H' fp => (pe_cal C_begin_of hr pass1 (pa_cons (pv 0) pa_nil))) sc_pieces_met.nd rfl rfl)
      (pss_one (ps_ret (pe_op op_catL (pv 2) (pe_slice sl_list (pv 2) po_none (po_some pe_int))))))), ?_⟩
    (try rw [cxK2]); (try rw [cxK1])
    refine ⟨_, rfl, _, rfl, x, tp, t, m0, n, ms, rfl, hN.at_, hN.sm, ⟨by omega, by omega, by omega⟩, hN.hm0, fun b H1 s1 hb => ⟨_, rfl, ?_⟩⟩
    have hbt := hb.mpr hN.yes
    subst hbt
    refine iteF ?_
    obtain ⟨⟨dx, hx⟩, htp⟩ := hN.at_.on s1
    refine ⟨_, rfl, _, rfl, x, ad.Web, dx, _, _, rfl, hx, tt.cl_Web, tt.na_Web_length, flds_l _ _, t, n, true, rfl, ⟨by omega, by omega, by omega⟩, fun D H2 hD s2 hd => ?_⟩
    have hw : Wd.win t n true = Wd.ringW t n := if_pos rfl
    rw [hw] at hd
    have hrl := Wd.ringW_len t n
    refine ⟨D, rfl, ⟨_, SqL.of hd⟩, ?_⟩
    refine comp_list (K := K) (xs := (Wd.ringW t n).map T) (fun i => T (Wd.beg ((Wd.ringW t n)[i]?.getD []))) (SqL.of hd) (by rw [List.length_map]; omega) (fun i v H3 hi s3 N hN3 => ?_) (fun D2 H3 hD2 s3 hd3 => ?_)
    · rw [List.getElem?_map] at hi
      obtain ⟨y, hy, rfl⟩ := Option.map_eq_some_iff.mp hi
      have hyl := (ringW_mem (by omega) (List.mem_of_getElem? hy)).1
      refine ⟨_, rfl, y, rfl, ⟨by omega, by omega⟩, ?_⟩
      have := hN3 H3 (Same.refl _)
      rw [hy] at this
      exact this
    · rw [map_rangeT] at hd3
      refine ⟨_, rfl, _, rfl, _, rfl, D2, _, rfl, SqL.of hd3, fun p hp => ?_⟩
      rw [cutV_one]
      have s4 := same_upd (o := .lst ((((Wd.ringW t n).map Wd.beg).take 1).map T)) hp
      refine ⟨D2, p, _, _, rfl, rfl, SqL.of (s4 D2 _ hd3), SqL.of upd_same, (by rw [List.length_map, List.length_map, List.length_map, List.length_take, List.length_map]; omega), fun c hc => ?_⟩
      rw [← List.map_append]
      exact q c _ (s1.trans (s2.trans (s3.trans (s4.trans (same_upd hc))))) upd_same
noncomputable def spIsEx (K : PySem.W.Frag) (C : Addr) : Sp := fun vs H Q _ => ∃ (x tp p : Addr) (t m0 : List Nat) (n : Nat) (ms : List (List Nat)) (a b c d : Int), vs = [.ref x, T t, .ref p] ∧ YesR C H x tp t m0 n ms ∧ SqT K H p (T4 a b c d) ∧ ∀ H', Same H H' → Q (.bl (decide (Fits (Wd.metL t n) a b c d))) H'
theorem ok_is_exchange {f : Addr} {fd : FuncData} (F : Fun K "is_exchange" "is_exchange" s_is_exchange f fd) (tt : Txt K mg ad) (C_pieces_met : Cal P w K mg base (CX1 P w) "pieces_met" 5 ["web", "ring"] (spMet ad.Web)) : FnOk P w K mg base (CX1 P w) 6 f fd ["web", "ring", "deed"] (spIsEx K ad.Web) := by
  refine F.okX sc_is_exchange (fun vs H Q E h => ?_) (fun cdv A outer s H vs Q E hr h => ?_)
  · obtain ⟨x, tp, p, t, m0, n, ms, a, b, c, d, rfl, _⟩ := h
    rfl
  · obtain ⟨x, tp, p, t, m0, n, ms, a, b, c, d, rfl, hN, hT, q⟩ := h
    have hs : sizeLine = 16777216 := sizeLine_eq
    refine ⟨_, (pss_cons (ps_set (i := 3) sc_is_exchange.nd rfl (Or.inl rfl) (pe_cal C_pieces_met hr passX (pa_cons (pv 0) (pa_cons (pv 1) pa_nil))))
      (pss_cons (ps_set (i := 4) sc_is_exchange.nd rfl (Or.inl rfl) (pe_ix ix_tup (pv 2) pe_int (fun _ _ => rfl)))
      (pss_cons (ps_set (i := 5) sc_is_exchange.nd rfl (Or.inl rfl) (pe_ix ix_tup (pv 2) pe_int (fun _ _ => rfl)))
      (pss_cons (ps_set (i := 6) sc_is_exchange.nd rfl (Or.inl rfl) (pe_ix ix_tup (pv 2) pe_int (fun _ _ => rfl)))
      (pss_cons (ps_set (i := 7) sc_is_exchange.nd rfl (Or.inl rfl) (pe_ix ix_tup (pv 2) pe_int (fun _ _ => rfl)))
      (pss_cons (ps_if (PW.pt (pw_or (pt_cmpR op_lt (pv 4) pe_int (nomark _)) (pw_or (pt_cmpR op_le (pv 5) (pv 4) (nomark _)) (pw_or (pt_cmpR op_lt (pv 6) (pv 5) (nomark _)) (pw_or (pt_cmpR op_le (pv 7) (pv 6) (nomark _)) (pw_or1 (pt_cmpR op_ge (pv 7) (pe_callB call_len_seq (by rfl) tt.b_len PySem.boot_len (pa_cons (pv 3) pa_nil)) (nomark _)))))))) (pss_one (ps_ret pe_bl)) pss_nil)
      (pss_one (ps_ret (pe_and (pe_cmpR op_eq_T (pe_ix ix_list (pv 3) (pv 4) (fun _ _ => rfl)) (pe_ix ix_list (pv 3) (pv 6) (fun _ _ => rfl)) (nomark _)) (pe_one (pe_cmpR op_eq_T (pe_ix ix_list (pv 3) (pv 5) (fun _ _ => rfl)) (pe_ix ix_list (pv 3) (pv 7) (fun _ _ => rfl)) (nomark _)))))))))))), ?_⟩
    (try rw [cxK2]); (try rw [cxK1])
    refine ⟨_, rfl, _, rfl, x, tp, t, m0, n, ms, rfl, hN, fun D H1 s1 hd => ?_⟩
    replace q := q H1 s1
    replace hT := tupOn s1 hT
    generalize Wd.metL t n = al at hd q
    have hat : ∀ (i : Nat) (hi : i < al.length), atI (al.map T) (i : Int) = some (T al[i]) := fun i hi => atI_nat (by rw [List.getElem?_map, List.getElem?_eq_getElem hi]; rfl)
    have no : ¬ Fits al a b c d → Q (.bl false) H1 := fun h => by rw [← decide_eq_false h]; exact q
    refine ⟨_, rfl, p, _, _, _, rfl, rfl, hT, atI_nat (j := 0) rfl, ?_⟩
    refine ⟨_, rfl, p, _, _, _, rfl, rfl, hT, atI_nat (j := 1) rfl, ?_⟩
    refine ⟨_, rfl, p, _, _, _, rfl, rfl, hT, atI_nat (j := 2) rfl, ?_⟩
    refine ⟨_, rfl, p, _, _, _, rfl, rfl, hT, atI_nat (j := 3) rfl, ?_⟩
    refine ⟨_, rfl, _, _, rfl, rfl, _, rfl, ?_⟩
    refine ite2 (fun h1 => no fun z => ?_) (fun h1 => ?_)
    · have := of_decide_eq_true h1; have := z.1; omega
    refine ⟨_, rfl, _, rfl, _, _, rfl, rfl, _, rfl, ?_⟩
    refine ite2 (fun h2 => no fun z => ?_) (fun h2 => ?_)
    · have := of_decide_eq_true h2; have := z.2.1; omega
    refine ⟨_, rfl, _, rfl, _, _, rfl, rfl, _, rfl, ?_⟩
    refine ite2 (fun h3 => no fun z => ?_) (fun h3 => ?_)
    · have := of_decide_eq_true h3; have := z.2.2.1; omega
    refine ⟨_, rfl, _, rfl, _, _, rfl, rfl, _, rfl, ?_⟩
    refine ite2 (fun h4 => no fun z => ?_) (fun h4 => ?_)
    · have := of_decide_eq_true h4; have := z.2.2.2.1; omega
    refine ⟨_, rfl, _, rfl, D, _, rfl, .inl (SqL.of hd), _, _, rfl, rfl, _, rfl, ?_⟩
    rw [List.length_map]
    refine ite2 (fun h5 => no fun z => ?_) (fun h5 => ?_)
    · have := of_decide_eq_true h5; have := z.2.2.2.2.1; omega
    obtain ⟨a', b', c', d', rfl, rfl, rfl, rfl, ha, hb, hc, hd', hF⟩ := fits_and (al := al) (fun z => h1 (decide_eq_true z)) (fun z => h2 (decide_eq_true z)) (fun z => h3 (decide_eq_true z)) (fun z => h4 (decide_eq_true z)) (fun z => h5 (decide_eq_true z))
    refine ⟨_, rfl, _, rfl, D, _, _, _, rfl, rfl, SqL.of hd, hat _ ha, _, rfl, _, rfl, D, _, _, _, rfl, rfl, SqL.of hd, hat _ hc, _, rfl, _, rfl, _, rfl, ?_⟩
    refine ite2 (fun h6 => ?_) (fun h6 => ?_)
    · refine ⟨_, rfl, _, rfl, D, _, _, _, rfl, rfl, SqL.of hd, hat _ hb, _, rfl, _, rfl, D, _, _, _, rfl, rfl, SqL.of hd, hat _ hd', _, rfl, _, rfl, ?_⟩
      rw [decide_eq_decide.mpr (hF.trans (and_iff_right (of_decide_eq_true h6)))] at q
      exact q
    · exact no fun z => h6 (decide_eq_true (hF.mp z).1)
noncomputable def cutX (t : List Nat) (a b c d : Int) : List Nat := cutL t none (some a) ++ cutL t (some c) (some d) ++ cutL t (some b) (some c) ++ cutL t (some a) (some b) ++ cutL t (some d) none
noncomputable def spExch (K : PySem.W.Frag) (C : Addr) (ad : Adr) : Sp := fun vs H Q E => ∃ (x tp p : Addr) (t m0 : List Nat) (n : Nat) (ms : List (List Nat)) (a b c d : Int), vs = [.ref x, T t, .ref p] ∧ YesR C H x tp t m0 n ms ∧ SqT K H p (T4 a b c d) ∧ (Fits (Wd.metL t n) a b c d → ∀ H', Same H H' → Q (T (cutX t a b c d)) H') ∧ (¬ Fits (Wd.metL t n) a b c d → ∀ H', Same H H' → E (.ref ad.BadDeed) none H')
theorem ok_exchange {f : Addr} {fd : FuncData} (F : Fun K "exchange" "exchange" s_exchange f fd) (tt : Txt K mg ad) (C_is_exchange : Cal P w K mg base (CX1 P w) "is_exchange" 6 ["web", "ring", "deed"] (spIsEx K ad.Web)) : FnOk P w K mg base (CX1 P w) 7 f fd ["web", "ring", "deed"] (spExch K ad.Web ad) := by
  refine F.okX sc_exchange (fun vs H Q E h => ?_) (fun cdv A outer s H vs Q E hr h => ?_)
  · obtain ⟨x, tp, p, t, m0, n, ms, a, b, c, d, rfl, _⟩ := h
    rfl
  · obtain ⟨x, tp, p, t, m0, n, ms, a, b, c, d, rfl, hN, hT, q, qe⟩ := h
    have hs : sizeLine = 16777216 := sizeLine_eq
    obtain ⟨hl, hn⟩ := hN.le
    have cl := cutL_length_le t
    refine ⟨_, (pss_cons (ps_if (pt_not (pt_val (pe_cal C_is_exchange hr passX (pa_cons (pv 0) (pa_cons (pv 1) (pa_cons (pv 2) pa_nil)))))) (pss_one (ps_raise (E := fun cls H' => E cls none H') tt.x_BadDeed rfl (fun _ _ _ _ _ _ _ I hx q => raiseX I hx q) (pa_cons (pe_strT [116, 104, 101, 32, 100, 101, 101, 100, 32, 105, 115, 32, 110, 111, 32, 101, 120, 99, 104, 97, 110, 103, 101, 32, 111, 102, 32, 116, 104, 101, 32, 114, 105, 110, 103] (by decide +kernel)) pa_nil))) pss_nil)
      (pss_cons (ps_set (i := 3) sc_exchange.nd rfl (Or.inl rfl) (pe_slice sl_T (pv 1) (po_some (pe_ix ix_tup (pv 2) pe_int (fun _ _ => rfl))) (po_some (pe_ix ix_tup (pv 2) pe_int (fun _ _ => rfl)))))
      (pss_cons (ps_set (i := 4) sc_exchange.nd rfl (Or.inl rfl) (pe_slice sl_T (pv 1) (po_some (pe_ix ix_tup (pv 2) pe_int (fun _ _ => rfl))) (po_some (pe_ix ix_tup (pv 2) pe_int (fun _ _ => rfl)))))
      (pss_cons (ps_set (i := 5) sc_exchange.nd rfl (Or.inl rfl) (pe_slice sl_T (pv 1) (po_some (pe_ix ix_tup (pv 2) pe_int (fun _ _ => rfl))) (po_some (pe_ix ix_tup (pv 2) pe_int (fun _ _ => rfl)))))
      (pss_one (ps_ret (pe_op op_add_T (pe_op op_add_T (pe_op op_add_T (pe_op op_add_T (pe_slice sl_T (pv 1) po_none (po_some (pe_ix ix_tup (pv 2) pe_int (fun _ _ => rfl)))) (pv 5)) (pv 4)) (pv 3)) (pe_slice sl_T (pv 1) (po_some (pe_ix ix_tup (pv 2) pe_int (fun _ _ => rfl))) po_none)))))))), ?_⟩
    (try rw [cxK2]); (try rw [cxK1])
    refine ⟨_, rfl, _, rfl, _, rfl, x, tp, p, t, m0, n, ms, a, b, c, d, rfl, hN, hT, fun H1 s1 => ⟨_, rfl, ?_⟩⟩
    by_cases hF : Fits (Wd.metL t n) a b c d
    · rw [decide_eq_true hF]
      refine iteF ?_
      replace q := q hF H1 s1
      replace hT := tupOn s1 hT
      have l1 := cl none (some a)
      have l2 := cl (some c) (some d)
      have l3 := cl (some b) (some c)
      have l4 := cl (some a) (some b)
      have l5 := cl (some d) none
      refine ⟨_, rfl, _, rfl, p, _, _, _, rfl, rfl, hT, atI_nat (j := 0) rfl, _, rfl, _, rfl, p, _, _, _, rfl, rfl, hT, atI_nat (j := 1) rfl, _, rfl, _, rfl, (by omega), ?_⟩
      refine ⟨_, rfl, _, rfl, p, _, _, _, rfl, rfl, hT, atI_nat (j := 1) rfl, _, rfl, _, rfl, p, _, _, _, rfl, rfl, hT, atI_nat (j := 2) rfl, _, rfl, _, rfl, (by omega), ?_⟩
      refine ⟨_, rfl, _, rfl, p, _, _, _, rfl, rfl, hT, atI_nat (j := 2) rfl, _, rfl, _, rfl, p, _, _, _, rfl, rfl, hT, atI_nat (j := 3) rfl, _, rfl, _, rfl, (by omega), ?_⟩
      refine ⟨_, rfl, _, rfl, p, _, _, _, rfl, rfl, hT, atI_nat (j := 0) rfl, _, rfl, _, rfl, (by omega), _, rfl, _, rfl, _, rfl, (by omega), _, rfl, _, rfl, _, rfl, (by simp only [List.length_append]; omega), _, rfl, _, rfl, _, rfl, (by simp only [List.length_append]; omega), _, rfl, _, rfl, p, _, _, _, rfl, rfl, hT, atI_nat (j := 3) rfl, _, rfl, _, rfl, (by omega), _, rfl, _, rfl, (by simp only [List.length_append]; omega), ?_⟩
      exact q
    · rw [decide_eq_false hF]
      exact iteT ⟨(by show 1 ≤ sizeLine; omega), qe hF H1 s1⟩

noncomputable def spPcs : Sp := fun vs H Q _ => ∃ (t : List Nat) (n : Nat), vs = [T t, .int (n : Nat)] ∧ (t.length ≤ 500 ∧ 1 ≤ n ∧ n ≤ 500) ∧ 1 ≤ t.length ∧ ∀ D H', Same H H' → H' D = some (.lst ((Wd.metL t n).map T)) → Q (.ref D) H'
theorem ok__law_pieces {f : Addr} {fd : FuncData} (F : Fun K "_law_pieces" "_law_pieces" s__law_pieces f fd) (tt : Txt K mg ad) (C__law_round : Cal P w K mg base (CX1 P w) "_law_round" 1 ["text", "length"] spRingW) : FnOk P w K mg base (CX1 P w) 2 f fd ["ring", "length"] spPcs := by
  refine F.okN sc__law_pieces (fun vs H Q E h => ?_) (fun cdv A outer s H vs Q E hr h => ?_)
  · obtain ⟨t, n, rfl, _⟩ := h
    rfl
  · obtain ⟨t, n, rfl, hn, hl, q⟩ := h
    have hs : sizeLine = 16777216 := sizeLine_eq
    have hrl := Wd.ringW_len t n
    refine ⟨_, (pss_cons (ps_setComp (i := 2) cs__law_pieces_0 rfl (pi_list (pe_cal C__law_round hr pass1 (pa_cons (pv 0) (pa_cons (pv 1) pa_nil)))) (fun cl C s' H' fp => (pe_slice sl_T (pv 0) po_none (po_some (pe_un un_neg pe_int)))) sc__law_pieces.nd rfl rfl)
      (pss_one (ps_ret (pe_op op_catL (pv 2) (pe_lst (pa_cons (pe_ix ix_list (pv 2) pe_int (fun _ _ => rfl)) pa_nil)))))), ?_⟩
    (try rw [cxK2]); (try rw [cxK1])
    refine ⟨_, rfl, _, rfl, t, n, rfl, ⟨by omega, by omega, by omega⟩, fun D H1 hD s1 hd => ⟨D, rfl, ⟨_, SqL.of hd⟩, ?_⟩⟩
    refine comp_list (K := K) (xs := (Wd.ringW t n).map T) (fun i => T (Wd.beg ((Wd.ringW t n)[i]?.getD []))) (SqL.of hd) (by rw [List.length_map]; omega) (fun i v H3 hi s3 N hN3 => ?_) (fun D2 H3 hD2 s3 hd3 => ?_)
    · rw [List.getElem?_map] at hi
      obtain ⟨y, hy, rfl⟩ := Option.map_eq_some_iff.mp hi
      have hyl := (ringW_mem (by omega) (List.mem_of_getElem? hy)).1
      refine ⟨_, rfl, _, rfl, _, rfl, _, rfl, (by omega), ?_⟩
      rw [show cutL y none (some (-1)) = Wd.beg y from cut_begin (by omega)]
      have := hN3 H3 (Same.refl _)
      rw [hy] at this
      exact this
    · rw [map_rangeT] at hd3
      have h0 : 0 < ((Wd.ringW t n).map Wd.beg).length := by rw [List.length_map]; omega
      have e1 : ((Wd.ringW t n).map Wd.beg).take 1 = [((Wd.ringW t n).map Wd.beg)[0]] := by rw [List.take_one, List.head?_eq_getElem?, List.getElem?_eq_getElem h0]; rfl
      refine ⟨_, rfl, _, rfl, D2, _, _, _, rfl, rfl, SqL.of hd3, atI_nat (j := 0) (v := T ((Wd.ringW t n).map Wd.beg)[0]) (by rw [List.getElem?_map, List.getElem?_eq_getElem h0]; rfl), (by show 1 ≤ sizeLine; omega), fun p hp => ?_⟩
      have s4 := same_upd (o := .lst [T ((Wd.ringW t n).map Wd.beg)[0]]) hp
      refine ⟨D2, p, _, _, rfl, rfl, SqL.of (s4 D2 _ hd3), SqL.of upd_same, (by rw [List.length_map, List.length_map]; show _ + 1 ≤ sizeLine; omega), fun c hc => ?_⟩
      refine q c _ (s1.trans (s3.trans (s4.trans (same_upd hc)))) ?_
      unfold Wd.metL
      rw [upd_same, e1, List.map_append]
      rfl
noncomputable def spFits (K : PySem.W.Frag) : Sp := fun vs H Q _ => ∃ (al : List (List Nat)) (D p : Addr) (a b c d : Int), vs = [.ref D, .ref p] ∧ SqL K H D (al.map T) ∧ SqT K H p (T4 a b c d) ∧ Q (.bl (decide (Fits al a b c d))) H
theorem ok__law_fits {f : Addr} {fd : FuncData} (F : Fun K "_law_fits" "_law_fits" s__law_fits f fd) (tt : Txt K mg ad) : FnOk P w K mg base (CX1 P w) 1 f fd ["along", "deed"] (spFits K) := by
  refine F.okN sc__law_fits (fun vs H Q E h => ?_) (fun cdv A outer s H vs Q E hr h => ?_)
  · obtain ⟨al, D, p, a, b, c, d, rfl, _⟩ := h
    rfl
  · obtain ⟨al, D, p, a, b, c, d, rfl, hd, hT, q⟩ := h
    have hs : sizeLine = 16777216 := sizeLine_eq
    have hat : ∀ (i : Nat) (hi : i < al.length), atI (al.map T) (i : Int) = some (T al[i]) := fun i hi => atI_nat (by rw [List.getElem?_map, List.getElem?_eq_getElem hi]; rfl)
    have no : ¬ Fits al a b c d → Q (.bl false) H := fun h => by rw [← decide_eq_false h]; exact q
    refine ⟨_, (pss_cons (ps_asg (pv 1) (pg_tup rfl (pgs_cons (pg_name (i := 2) sc__law_fits.nd rfl (Or.inl rfl)) (pgs_cons (pg_name (i := 3) sc__law_fits.nd rfl (Or.inl rfl)) (pgs_cons (pg_name (i := 4) sc__law_fits.nd rfl (Or.inl rfl)) (pgs_cons (pg_name (i := 5) sc__law_fits.nd rfl (Or.inl rfl)) pgs_nil))))))
      (pss_cons (ps_if (PW.pt (pw_or (pt_cmpR op_lt (pv 2) pe_int (nomark _)) (pw_or (pt_cmpR op_le (pv 3) (pv 2) (nomark _)) (pw_or (pt_cmpR op_lt (pv 4) (pv 3) (nomark _)) (pw_or (pt_cmpR op_le (pv 5) (pv 4) (nomark _)) (pw_or1 (pt_cmpR op_ge (pv 5) (pe_callB call_len_seq (by rfl) tt.b_len PySem.boot_len (pa_cons (pv 0) pa_nil)) (nomark _)))))))) (pss_one (ps_ret pe_bl)) pss_nil)
      (pss_one (ps_ret (pe_and (pe_cmpR op_eq_T (pe_ix ix_list (pv 0) (pv 2) (fun _ _ => rfl)) (pe_ix ix_list (pv 0) (pv 4) (fun _ _ => rfl)) (nomark _)) (pe_one (pe_cmpR op_eq_T (pe_ix ix_list (pv 0) (pv 3) (fun _ _ => rfl)) (pe_ix ix_list (pv 0) (pv 5) (fun _ _ => rfl)) (nomark _)))))))), ?_⟩
    (try rw [cxK2]); (try rw [cxK1])
    refine ⟨_, rfl, p, _, rfl, hT, rfl, _, _, rfl, _, _, rfl, _, _, rfl, _, _, rfl, rfl, ?_⟩
    refine ⟨_, rfl, _, _, rfl, rfl, _, rfl, ?_⟩
    refine ite2 (fun h1 => no fun z => ?_) (fun h1 => ?_)
    · have := of_decide_eq_true h1; have := z.1; omega
    refine ⟨_, rfl, _, rfl, _, _, rfl, rfl, _, rfl, ?_⟩
    refine ite2 (fun h2 => no fun z => ?_) (fun h2 => ?_)
    · have := of_decide_eq_true h2; have := z.2.1; omega
    refine ⟨_, rfl, _, rfl, _, _, rfl, rfl, _, rfl, ?_⟩
    refine ite2 (fun h3 => no fun z => ?_) (fun h3 => ?_)
    · have := of_decide_eq_true h3; have := z.2.2.1; omega
    refine ⟨_, rfl, _, rfl, _, _, rfl, rfl, _, rfl, ?_⟩
    refine ite2 (fun h4 => no fun z => ?_) (fun h4 => ?_)
    · have := of_decide_eq_true h4; have := z.2.2.2.1; omega
    refine ⟨_, rfl, _, rfl, D, _, rfl, .inl hd, _, _, rfl, rfl, _, rfl, ?_⟩
    rw [List.length_map]
    refine ite2 (fun h5 => no fun z => ?_) (fun h5 => ?_)
    · have := of_decide_eq_true h5; have := z.2.2.2.2.1; omega
    obtain ⟨a', b', c', d', rfl, rfl, rfl, rfl, ha, hb, hc, hd', hF⟩ := fits_and (al := al) (fun z => h1 (decide_eq_true z)) (fun z => h2 (decide_eq_true z)) (fun z => h3 (decide_eq_true z)) (fun z => h4 (decide_eq_true z)) (fun z => h5 (decide_eq_true z))
    refine ⟨_, rfl, _, rfl, D, _, _, _, rfl, rfl, hd, hat _ ha, _, rfl, _, rfl, D, _, _, _, rfl, rfl, hd, hat _ hc, _, rfl, _, rfl, _, rfl, ?_⟩
    refine ite2 (fun h6 => ?_) (fun h6 => ?_)
    · refine ⟨_, rfl, _, rfl, D, _, _, _, rfl, rfl, hd, hat _ hb, _, rfl, _, rfl, D, _, _, _, rfl, rfl, hd, hat _ hd', _, rfl, _, rfl, ?_⟩
      rw [decide_eq_decide.mpr (hF.trans (and_iff_right (of_decide_eq_true h6)))] at q
      exact q
    · exact no fun z => h6 (decide_eq_true (hF.mp z).1)
noncomputable def spCut (K : PySem.W.Frag) : Sp := fun vs H Q _ => ∃ (t : List Nat) (p : Addr) (a b c d : Int), vs = [T t, .ref p] ∧ t.length ≤ 500 ∧ SqT K H p (T4 a b c d) ∧ ∀ H', Same H H' → Q (T (cutX t a b c d)) H'
theorem ok__law_cut {f : Addr} {fd : FuncData} (F : Fun K "_law_cut" "_law_cut" s__law_cut f fd) (tt : Txt K mg ad) : FnOk P w K mg base (CX1 P w) 1 f fd ["ring", "deed"] (spCut K) := by
  refine F.okN sc__law_cut (fun vs H Q E h => ?_) (fun cdv A outer s H vs Q E hr h => ?_)
  · obtain ⟨t, p, a, b, c, d, rfl, _⟩ := h
    rfl
  · obtain ⟨t, p, a, b, c, d, rfl, hl, hT, q⟩ := h
    have hs : sizeLine = 16777216 := sizeLine_eq
    have cl := cutL_length_le t
    refine ⟨_, (pss_cons (ps_asg (pv 1) (pg_tup rfl (pgs_cons (pg_name (i := 2) sc__law_cut.nd rfl (Or.inl rfl)) (pgs_cons (pg_name (i := 3) sc__law_cut.nd rfl (Or.inl rfl)) (pgs_cons (pg_name (i := 4) sc__law_cut.nd rfl (Or.inl rfl)) (pgs_cons (pg_name (i := 5) sc__law_cut.nd rfl (Or.inl rfl)) pgs_nil))))))
      (pss_cons (ps_set (i := 6) sc__law_cut.nd rfl (Or.inl rfl) (pe_lst (pa_cons (pe_slice sl_T (pv 0) po_none (po_some (pv 2))) (pa_cons (pe_slice sl_T (pv 0) (po_some (pv 4)) (po_some (pv 5))) (pa_cons (pe_slice sl_T (pv 0) (po_some (pv 3)) (po_some (pv 4))) (pa_cons (pe_slice sl_T (pv 0) (po_some (pv 2)) (po_some (pv 3))) (pa_cons (pe_slice sl_T (pv 0) (po_some (pv 5)) po_none) pa_nil)))))))
      (pss_one (ps_ret (pe_bm PySem.F.plainAttrs_str PySem.F.slot_str_join PySem.F.type_str_join mt_join (pe_strT [] (by decide +kernel)) (pa_cons (pv 6) pa_nil)))))), ?_⟩
    (try rw [cxK2]); (try rw [cxK1])
    have l1 := cl none (some a)
    have l2 := cl (some c) (some d)
    have l3 := cl (some b) (some c)
    have l4 := cl (some a) (some b)
    have l5 := cl (some d) none
    refine ⟨_, rfl, p, _, rfl, hT, rfl, _, _, rfl, _, _, rfl, _, _, rfl, _, _, rfl, rfl, ?_⟩
    refine ⟨_, rfl, _, rfl, _, rfl, _, rfl, (by omega), _, rfl, _, rfl, _, rfl, _, rfl, _, rfl, _, rfl, (by omega), _, rfl, _, rfl, _, rfl, _, rfl, _, rfl, _, rfl, (by omega), _, rfl, _, rfl, _, rfl, _, rfl, _, rfl, _, rfl, (by omega), _, rfl, _, rfl, _, rfl, _, rfl, (by omega), (by show 5 ≤ sizeLine; omega), fun p2 hp2 => ?_⟩
    refine ⟨rfl, _, rfl, rfl, p2, [cutL t none (some a), cutL t (some c) (some d), cutL t (some b) (some c), cutL t (some a) (some b), cutL t (some d) none], rfl, SqL.of upd_same, (by simp only [List.flatten_cons, List.flatten_nil, List.append_nil, List.length_append]; omega), ?_⟩
    have e : [cutL t none (some a), cutL t (some c) (some d), cutL t (some b) (some c), cutL t (some a) (some b), cutL t (some d) none].flatten = cutX t a b c d := by
      unfold cutX
      simp only [List.flatten_cons, List.flatten_nil, List.append_nil, List.append_assoc]
    rw [e]
    exact q _ (same_upd hp2)

noncomputable abbrev Tups (H : Hp) (ps : List Addr) (qs : List (List Int)) : Prop := Paired (fun p q => H p = some (.tup (q.map V.int))) ps qs
theorem Tups.on {H H' : Hp} (s : ∀ b xs, H b = some (.tup xs) → H' b = some (.tup xs)) : ∀ {ps : List Addr} {qs : List (List Int)}, Tups H ps qs → Tups H' ps qs
  | _, _, .nil => .nil
  | _, _, .cons h t => .cons (s _ _ h) (Tups.on s t)
theorem Tups.same {H H' : Hp} (s : Same H H') {ps : List Addr} {qs : List (List Int)} (h : Tups H ps qs) : Tups H' ps qs := h.on fun b _ e => s b _ e
theorem Tups.put {H : Hp} {D : Addr} {xs : List V} {o : HO} (hD : H D = some (.lst xs)) {ps : List Addr} {qs : List (List Int)} (h : Tups H ps qs) : Tups (upd H D o) ps qs :=
  h.on fun b ys e => by rw [upd_ne (ne_of e hD (by intro z; cases z))]; exact e
theorem Tups.app {H : Hp} : ∀ {ps ps' : List Addr} {qs qs' : List (List Int)}, Tups H ps qs → Tups H ps' qs' → Tups H (ps ++ ps') (qs ++ qs')
  | _, _, _, _, .nil, h => h
  | _, _, _, _, .cons r t, h => .cons r (Tups.app t h)
theorem Tups.len {H : Hp} {ps : List Addr} {qs : List (List Int)} (h : Tups H ps qs) : ps.length = qs.length := Paired.length h
noncomputable def unI : V → Int
  | .int i => i
  | _ => 0
theorem fits_ex {t : List Nat} {n : Nat} (ht : 1 ≤ t.length) {a b c d : Int} (h : Fits (Wd.metL t n) a b c d) : ∃ a' b' c' d' : Nat, a = (a' : Int) ∧ b = (b' : Int) ∧ c = (c' : Int) ∧ d = (d' : Int) ∧ Wd.Ex t n a' b' c' d' := by
  obtain ⟨h1, h2, h3, h4, h5, h6, h7⟩ := h
  rw [Wd.metL_len ht] at h5
  rw [Wd.met_ring ht (by omega), Wd.met_ring ht (by omega)] at h6 h7
  exact ⟨a.toNat, b.toNat, c.toNat, d.toNat, by omega, by omega, by omega, by omega, ⟨by omega, by omega, by omega, by omega, by omega, Option.some.inj h6, Option.some.inj h7⟩⟩
theorem ex_fits {t : List Nat} {n a b c d : Nat} (h : Wd.Ex t n a b c d) : Fits (Wd.metL t n) (a : Int) (b : Int) (c : Int) (d : Int) := by
  have := h.a1; have := h.ab; have := h.bc; have := h.cd; have := h.dm
  refine ⟨by omega, by omega, by omega, by omega, ?_, ?_, ?_⟩
  · rw [Wd.metL_len (by omega)]; omega
  · rw [Wd.met_ring (by omega) (by omega), Wd.met_ring (by omega) (by omega), Int.toNat_natCast, Int.toNat_natCast, h.ac]
  · rw [Wd.met_ring (by omega) (by omega), Wd.met_ring (by omega) (by omega), Int.toNat_natCast, Int.toNat_natCast, h.bd]
theorem cutX_ex {t : List Nat} {n a b c d : Nat} (h : Wd.Ex t n a b c d) : cutX t (a : Int) (b : Int) (c : Int) (d : Int) = Wd.exT t a b c d := by
  have := h.a1; have := h.ab; have := h.bc; have := h.cd; have := h.dm
  unfold cutX Wd.exT
  rw [cutL_to (by omega), cutL_mid (by omega) (by omega), cutL_mid (by omega) (by omega), cutL_mid (by omega) (by omega), cutL_from (by omega)]
  unfold Wd.sl
  rw [List.drop_zero, Nat.sub_zero, List.take_of_length_le (l := t.drop d) (by rw [List.length_drop]; omega)]
  simp only [List.append_assoc]
theorem YesR.ex {C : Addr} {H : Hp} {x tp : Addr} {t m0 : List Nat} {n : Nat} {ms : List (List Nat)} (h : YesR C H x tp t m0 n ms) {a b c d : Nat} (e : Wd.Ex t n a b c d) : YesR C H x tp (Wd.exT t a b c d) m0 n ms := by
  have hn := h.le.2.1
  refine ⟨h.at_, h.sm, ⟨by rw [Wd.exT_len hn e]; exact h.le.1, h.le.2⟩, h.hm0, ?_, by rw [Wd.ex_first hn e]; exact h.yes.2⟩
  show (Wd.ringW (Wd.exT t a b c d) n).Perm ms
  rw [Wd.ex_ring hn e]
  exact (Wd.exW_perm e).trans h.yes.1

noncomputable def stp (t : List Nat) : List Int → List Nat
  | [a, b, c, d] => cutX t a b c d
  | _ => t
noncomputable def FitQ (n : Nat) (t : List Nat) (q : List Int) : Prop := ∃ a b c d : Int, q = [a, b, c, d] ∧ Fits (Wd.metL t n) a b c d
noncomputable def AllFit (n : Nat) : List Nat → List (List Int) → Prop
  | _, [] => True
  | t, q :: r => FitQ n t q ∧ AllFit n (stp t q) r
noncomputable def endT (t : List Nat) (qs : List (List Int)) : List Nat := qs.foldl stp t
theorem AllFit.mid {n : Nat} {q : List Int} {ys : List (List Int)} : ∀ {xs : List (List Int)} {t : List Nat}, AllFit n t (xs ++ q :: ys) → AllFit n t xs ∧ FitQ n (endT t xs) q
  | [], t, h => ⟨trivial, h.1⟩
  | x :: xs, t, h => by
    obtain ⟨h1, h2⟩ := AllFit.mid (xs := xs) h.2
    exact ⟨⟨h.1, h1⟩, h2⟩
theorem AllFit.snoc {n : Nat} {q : List Int} : ∀ {xs : List (List Int)} {t : List Nat}, AllFit n t xs → FitQ n (endT t xs) q → AllFit n t (xs ++ [q])
  | [], t, _, g => ⟨g, trivial⟩
  | x :: xs, t, h, g => ⟨h.1, AllFit.snoc (xs := xs) h.2 g⟩
theorem YesR.step {C : Addr} {H : Hp} {x tp : Addr} {t m0 : List Nat} {n : Nat} {ms : List (List Nat)} (h : YesR C H x tp t m0 n ms) {q : List Int} (hq : FitQ n t q) : YesR C H x tp (stp t q) m0 n ms ∧ (stp t q).length = t.length := by
  obtain ⟨a, b, c, d, rfl, hF⟩ := hq
  obtain ⟨a', b', c', d', rfl, rfl, rfl, rfl, hX⟩ := fits_ex h.le.1.1 hF
  show YesR C H x tp (cutX t _ _ _ _) m0 n ms ∧ (cutX t _ _ _ _).length = _
  rw [cutX_ex hX]
  exact ⟨h.ex hX, Wd.exT_len h.le.2.1 hX⟩
theorem YesR.walk {C : Addr} {H : Hp} {x tp : Addr} {m0 : List Nat} {n : Nat} {ms : List (List Nat)} : ∀ {qs : List (List Int)} {t : List Nat}, YesR C H x tp t m0 n ms → AllFit n t qs → YesR C H x tp (endT t qs) m0 n ms ∧ (endT t qs).length = t.length
  | [], t, h, _ => ⟨h, rfl⟩
  | q :: r, t, h, g => by
    obtain ⟨h1, h2⟩ := h.step g.1
    obtain ⟨h3, h4⟩ := YesR.walk (qs := r) h1 g.2
    exact ⟨h3, h4.trans h2⟩
theorem Tups.get {H : Hp} : ∀ {ps : List Addr} {qs : List (List Int)} {i : Nat} {p : Addr}, Tups H ps qs → ps[i]? = some p → ∃ q, qs[i]? = some q ∧ H p = some (.tup (q.map V.int))
  | _, _, 0, _, .cons r _, e => by cases e; exact ⟨_, rfl, r⟩
  | _, _, i + 1, p, .cons _ t, e => Tups.get (i := i) t (by simpa using e)

noncomputable def plc (al : List (List Nat)) (w : List Nat) (s : Nat) : List Nat := ((List.range (al.length - s)).filter fun i => decide (al[s + i]? = some w)).map fun i => s + i
theorem plc_mem {al : List (List Nat)} {w : List Nat} {s k : Nat} : k ∈ plc al w s ↔ s ≤ k ∧ al[k]? = some w := by
  unfold plc
  rw [List.mem_map]
  constructor
  · rintro ⟨i, hi, rfl⟩
    exact ⟨by omega, of_decide_eq_true (List.mem_filter.mp hi).2⟩
  · rintro ⟨h1, h2⟩
    have hk := (List.getElem?_eq_some_iff.mp h2).1
    refine ⟨k - s, List.mem_filter.mpr ⟨List.mem_range.mpr (by omega), decide_eq_true ?_⟩, by omega⟩
    rw [Nat.add_sub_cancel' h1]
    exact h2
theorem compF_rng {lo : Int} {n : Nat} {tc : TT} {te : TE} {σ : St} {H : Hp} {Q : VK} (p : Nat → Bool) (f : Nat → V) (hn : n ≤ sizeLine)
    (ht : ∀ i H', i < n → Same H H' → ∀ N : Bool → Hp → Prop, N (p i) H' → tc (some (.int (lo + i)) :: σ) H' N)
    (he : ∀ i H', i < n → Same H H' → ∀ N : V → Hp → Prop, N (f i) H' → te (some (.int (lo + i)) :: σ) H' N)
    (hq : ∀ D H', H D = none → Same H H' → H' D = some (.lst (((List.range n).filter p).map f)) → Q (.ref D) H') : compAtF tc te σ Q (Itr lo n) H := by
  intro D hD
  refine ⟨fun i m ys H2 => m = n - i ∧ i ≤ n ∧ ys = ((List.range i).filter p).map f ∧ Same H H2 ∧ H2 D = some (.lst ys), ⟨n, rfl, Nat.zero_le _, rfl, fun b o e => ?_, upd_same⟩, ?_⟩
  · rw [upd_ne (ne_of_none e hD)]
    exact e
  · rintro i m ys H2 ⟨rfl, hi, rfl, hs, hd⟩
    by_cases hlt : i < n
    · have hf : ((List.range i).filter p).length ≤ i := Nat.le_trans (List.length_filter_le ..) (by rw [List.length_range]; exact Nat.le_refl _)
      refine .inr ⟨hlt, by rw [List.length_map]; omega, fun v H' => v = f i ∧ p i = true ∧ Same H2 H', fun v H' ⟨ev, hp, s'⟩ => ⟨s' D _ hd, n - (i + 1), by omega, rfl, hlt, ?_, fun b o e => ?_, upd_same⟩,
        fun H' => p i = false ∧ Same H2 H', fun H' ⟨hp, s'⟩ => ⟨n - (i + 1), by omega, rfl, hlt, ?_, hs.trans s', s' D _ hd⟩, fun y H' hy => ?_⟩
      · rw [List.range_succ, List.filter_append, List.filter_cons_of_pos hp, List.filter_nil, List.map_append, ev]
        rfl
      · rw [upd_ne (ne_of_none e hD)]
        exact s' b o (hs b o e)
      · rw [List.range_succ, List.filter_append, List.filter_cons_of_neg (by rw [hp]; exact Bool.false_ne_true), List.filter_nil, List.append_nil]
      · obtain ⟨e1, e2⟩ := hy
        subst e1 e2
        refine ht i _ hlt hs _ ?_
        by_cases hp : p i = true
        · rw [if_pos hp]
          exact he i _ hlt hs _ ⟨rfl, hp, Same.refl _⟩
        · rw [if_neg hp]
          exact ⟨by simpa using hp, Same.refl _⟩
    · have e : i = n := by omega
      subst e
      exact .inl ⟨Nat.le_refl _, hq D H2 hD hs hd⟩
noncomputable def spPlc (K : PySem.W.Frag) : Sp := fun vs H Q _ => ∃ (al : List (List Nat)) (A0 : Addr) (w : List Nat) (s : Nat), vs = [.ref A0, T w, .int (s : Nat)] ∧ SqL K H A0 (al.map T) ∧ (al.length ≤ 60 ∧ s ≤ 1000) ∧ ∀ D H', H D = none → Same H H' → H' D = some (.lst ((plc al w s).map fun (k : Nat) => V.int (k : Int))) → Q (.ref D) H'
theorem ok_places_from {f : Addr} {fd : FuncData} (F : Fun K "places_from" "places_from" s_places_from f fd) (tt : Txt K mg ad) : FnOk P w K mg base (CX1 P w) 1 f fd ["met", "piece", "start"] (spPlc K) := by
  refine F.okN sc_places_from (fun vs H Q E h => ?_) (fun cdv A outer s H vs Q E hr h => ?_)
  · obtain ⟨al, A0, w', st, rfl, _⟩ := h
    rfl
  · obtain ⟨al, A0, w', st, rfl, hS, hl, q⟩ := h
    have hs : sizeLine = 16777216 := sizeLine_eq
    refine ⟨_, (pss_one (ps_ret (pe_compf cs_places_from_0 rfl (pi_range2 (by rfl) tt.b_range (pa_cons (pv 2) (pa_cons (pe_callB call_len_seq (by rfl) tt.b_len PySem.boot_len (pa_cons (pv 0) pa_nil)) pa_nil))) (fun cl C s' H' fp => (pt_cmpR op_eq_T (pe_ix (ix_list_K K rfl) (pv 1) (pv 0) (fun _ _ => rfl)) (pv 2) (nomark _))) (fun cl C s' H' fp => (pv 0))))), ?_⟩
    (try rw [cxK2]); (try rw [cxK1])
    refine ⟨_, rfl, _, rfl, A0, _, rfl, .inl hS, _, _, rfl, ⟨by omega, by omega, by rw [List.length_map]; omega, by rw [List.length_map]; omega⟩, ?_⟩
    rw [List.length_map, show (((al.length : Nat) : Int) - (st : Int)).toNat = al.length - st by omega]
    refine compF_rng (fun i => decide (al[st + i]? = some w')) (fun i => V.int ((st + i : Nat) : Int)) (by omega) (fun i H1 hi s1 N hN => ?_) (fun i H1 hi s1 N hN => ?_) (fun D H1 hD s1 hd => ?_)
    · have hk : st + i < al.length := by omega
      refine ⟨_, rfl, _, rfl, A0, _, _, _, rfl, rfl, s1.seq hS, (show atI (al.map T) ((st : Int) + (i : Int)) = some (T al[st + i]) by rw [← Int.natCast_add]; exact atI_nat (by rw [List.getElem?_map, List.getElem?_eq_getElem hk]; rfl)), _, rfl, _, rfl, _, rfl, _, rfl, ?_⟩
      rw [List.getElem?_eq_getElem hk, show decide (some al[st + i] = some w') = decide (al[st + i] = w') from decide_eq_decide.mpr Option.some_inj] at hN
      exact hN
    · refine ⟨_, rfl, ?_⟩
      rw [Int.natCast_add] at hN
      exact hN
    · refine q D H1 hD s1 ?_
      rw [hd]
      unfold plc
      rw [List.map_map]
      rfl

theorem head_at {α : Type} {l : List α} {x : α} (h : l.head? = some x) : l[0]? = some x := by rw [← h, List.head?_eq_getElem?]
theorem filt_first {p : Nat → Bool} {n a : Nat} (ha : a < n) (hp : p a = true) (hn : ∀ i, i < a → p i = false) : ((List.range n).filter p)[0]? = some a := by
  refine head_at ?_
  rw [List.head?_filter, List.find?_range_eq_some]
  exact ⟨hp, List.mem_range.mpr ha, fun j hj => by rw [hn j hj]; rfl⟩
theorem least_nat {p : Nat → Prop} : ∀ {m : Nat}, p m → ∃ k, k ≤ m ∧ p k ∧ ∀ i, i < k → ¬ p i := by
  intro m
  induction m using Nat.strongRecOn with
  | _ m ih =>
    intro h
    by_cases c : ∃ i, i < m ∧ p i
    · obtain ⟨i, h1, h2⟩ := c
      obtain ⟨k, g1, g2, g3⟩ := ih i h1 h2
      exact ⟨k, by omega, g2, g3⟩
    · exact ⟨m, Nat.le_refl _, h, fun i hi z => c ⟨i, hi, z⟩⟩
noncomputable def spDeed (C : Addr) : Sp := fun vs H Q _ => ∃ (x tp : Addr) (r g m0 : List Nat) (n : Nat) (ms : List (List Nat)), vs = [.ref x, T r, T g] ∧ YesR C H x tp r m0 n ms ∧ r.length ≤ 59 ∧ Wd.Two r g n ∧ r ≠ g ∧
  ∀ (p : Addr) (a b c d : Nat) (H' : Hp), Same H H' → H p = none → H' p = some (.tup (T4 (a : Int) (b : Int) (c : Int) (d : Int))) → Wd.Ex r n a b c d → Wd.Agree r g n a → Wd.ringAt r n a ≠ Wd.ringAt g n a → Wd.ringAt r n c = Wd.ringAt g n a → Q (.ref p) H'
theorem ok_deed_toward {f : Addr} {fd : FuncData} (F : Fun K "deed_toward" "deed_toward" s_deed_toward f fd) (tt : Txt K mg ad) (C_pieces_met : Cal P w K mg base (CX1 P w) "pieces_met" 5 ["web", "ring"] (spMet ad.Web)) (C_windows : Cal P w K mg base (CX1 P w) "windows" 2 ["text", "length", "ring"] spWin) (C_places_from : Cal P w K mg base (CX1 P w) "places_from" 1 ["met", "piece", "start"] (spPlc K)) : FnOk P w K mg base (CX1 P w) 6 f fd ["web", "ring", "goal"] (spDeed ad.Web) := by
  refine F.okX sc_deed_toward (fun vs H Q E h => ?_) (fun cdv A outer s H vs Q E hr h => ?_)
  · obtain ⟨x, tp, r, g, m0, n, ms, rfl, _⟩ := h
    rfl
  · obtain ⟨x, tp, r, g, m0, n, ms, rfl, hN, h59, h2, hne, q⟩ := h
    have hs : sizeLine = 16777216 := sizeLine_eq
    have hu := Nat.lt_of_succ_lt (hu_of hr)
    obtain ⟨hl, hn⟩ := hN.le
    have hgl := h2.len
    obtain ⟨a, _, ha1, ha, hag, hna⟩ := h2.part hne (k := 0) (fun i hi => absurd hi (by omega))
    obtain ⟨c, hc, hcg⟩ := h2.find ha
    obtain ⟨hac, hpc⟩ := h2.there ha1 ha hag hna hc hcg
    obtain ⟨b0, d0, hb1, hb2, hdd1, hdd2, hbd⟩ := h2.again ha1 ha hag hna hc hcg
    refine ⟨_, (pss_cons (ps_set (i := 3) sc_deed_toward.nd rfl (Or.inr rfl) (pe_cal C_pieces_met hr passX (pa_cons (pv 0) (pa_cons (pv 1) pa_nil))))
      (pss_cons (ps_set (i := 4) sc_deed_toward.nd rfl (Or.inr rfl) (pe_cal C_windows hr pass1 (pa_cons (pv 1) (pa_cons (pe_fld (pv 0) rfl) (pa_cons pe_bl pa_nil)))))
      (pss_cons (ps_set (i := 5) sc_deed_toward.nd rfl (Or.inr rfl) (pe_cal C_windows hr pass1 (pa_cons (pv 2) (pa_cons (pe_fld (pv 0) rfl) (pa_cons pe_bl pa_nil)))))
      (pss_cons (ps_set (i := 6) sc_deed_toward.nd rfl (Or.inl rfl) (pe_ix ix_list (pe_compf cs_deed_toward_0 rfl (pi_range1 (by rfl) tt.b_range (pa_cons (pe_callB call_len_seq (by rfl) tt.b_len PySem.boot_len (pa_cons (pv 4) pa_nil)) pa_nil)) (fun cl C s' H' fp => (pt_cmpR op_ne_T (pe_ix (ix_list_K K rfl) (pv 5) (pv 0) (fun _ _ => rfl)) (pe_ix (ix_list_K K rfl) (pv 6) (pv 0) (fun _ _ => rfl)) (nomark _))) (fun cl C s' H' fp => (pv 0))) pe_int (fun _ _ => rfl)))
      (pss_cons (ps_set (i := 7) sc_deed_toward.nd rfl (Or.inr rfl) (pe_bm PySem.F.plainAttrs_list PySem.F.slot_list_index PySem.F.type_list_index mt_index (pv 4) (pa_cons (pe_ix ix_list (pv 5) (pv 6) (fun _ _ => rfl)) pa_nil)))
      (pss_cons (ps_set (i := 8) sc_deed_toward.nd rfl (Or.inl rfl) (pe_ix ix_list (pe_compf cs_deed_toward_1 rfl (pi_range2 (by rfl) tt.b_range (pa_cons (pe_op op_add (pv 6) pe_int) (pa_cons (pe_op op_add (pv 7) pe_int) pa_nil))) (fun cl C s' H' fp => (pt_cmpR (op_ne_L0 K rfl hu) (pe_cal C_places_from hr pass1 (pa_cons (pv 4) (pa_cons (pe_ix (ix_list_K K rfl) (pv 4) (pv 0) (fun _ _ => rfl)) (pa_cons (pe_op op_add (pv 8) pe_int) pa_nil)))) (pe_lst pa_nil) (nomark _))) (fun cl C s' H' fp => (pv 0))) pe_int (fun _ _ => rfl)))
      (pss_one (ps_ret (pe_tup (pa_cons (pv 6) (pa_cons (pv 8) (pa_cons (pv 7) (pa_cons (pe_ix ix_list (pe_cal C_places_from hr pass1 (pa_cons (pv 3) (pa_cons (pe_ix ix_list (pv 3) (pv 8) (fun _ _ => rfl)) (pa_cons (pe_op op_add (pv 7) pe_int) pa_nil)))) pe_int (fun _ _ => rfl)) pa_nil))))))))))))), ?_⟩
    (try rw [cxK2]); (try rw [cxK1])
    refine ⟨_, rfl, _, rfl, x, tp, r, m0, n, ms, rfl, hN, fun A0 H1 s1 hal => ?_⟩
    have hml := Wd.metL_len (n := n) hl.1
    have hmet : ∀ i, i ≤ r.length → (Wd.metL r n)[i]? = some (Wd.pcs r n i) := fun i hi => Wd.met_ring hl.1 hi
    generalize Wd.metL r n = al at hal hml hmet
    obtain ⟨⟨dx, hx⟩, htp⟩ := hN.at_.on s1
    refine ⟨_, rfl, _, rfl, x, ad.Web, dx, _, _, rfl, hx, tt.cl_Web, tt.na_Web_length, flds_l _ _, r, n, true, rfl, ⟨by omega, by omega, by omega⟩, fun D1 H2 hD1 s2 hd1 => ?_⟩
    have hw : ∀ t : List Nat, Wd.win t n true = Wd.ringW t n := fun t => if_pos rfl
    rw [hw] at hd1
    refine ⟨_, rfl, _, rfl, x, ad.Web, dx, _, _, rfl, s2 x _ hx, tt.cl_Web, tt.na_Web_length, flds_l _ _, g, n, true, rfl, ⟨by omega, by omega, by omega⟩, fun D2 H3 hD2 s3 hd2 => ?_⟩
    rw [hw] at hd2
    have hd13 := s3 D1 _ hd1
    have hal3 := (s2.trans s3) A0 _ hal
    have hrw := Wd.ringW_len r n
    have hgw := Wd.ringW_len g n
    have hat1 : ∀ i, i < r.length → atI ((Wd.ringW r n).map T) (i : Int) = some (T (Wd.ringAt r n i)) := fun i hi => atI_nat (by rw [List.getElem?_map, Wd.ringW_get hi]; rfl)
    have hat2 : ∀ i, i < r.length → atI ((Wd.ringW g n).map T) (i : Int) = some (T (Wd.ringAt g n i)) := fun i hi => atI_nat (by rw [List.getElem?_map, Wd.ringW_get (by omega)]; rfl)
    refine ⟨_, rfl, D1, _, rfl, .inl (SqL.of hd13), _, rfl, by rw [List.length_map]; omega, by rw [List.length_map]; omega, ?_⟩
    rw [Int.toNat_natCast, List.length_map, hrw]
    refine compF_rng (lo := 0) (fun i => !decide (Wd.ringAt r n i = Wd.ringAt g n i)) (fun i => V.int ((i : Nat) : Int)) (by omega) (fun i H4 hi s4 N hN4 => ?_) (fun i H4 hi s4 N hN4 => ?_) (fun D4 H4 hD4 s4 hd4 => ?_)
    · rw [Int.zero_add]
      exact ⟨_, rfl, _, rfl, D1, _, _, _, rfl, rfl, SqL.of (s4 D1 _ hd13), hat1 i hi, _, rfl, _, rfl, D2, _, _, _, rfl, rfl, SqL.of (s4 D2 _ hd2), hat2 i hi, _, rfl, _, rfl, _, rfl, hN4⟩
    · rw [Int.zero_add]
      exact ⟨_, rfl, hN4⟩
    have hfa : atI (((List.range r.length).filter fun i => !decide (Wd.ringAt r n i = Wd.ringAt g n i)).map fun i => V.int ((i : Nat) : Int)) 0 = some (V.int (a : Int)) := atI_nat (j := 0) (by rw [List.getElem?_map, filt_first ha (by rw [decide_eq_false hna]; rfl) (fun i hi => by rw [decide_eq_true (hag i hi)]; rfl)]; rfl)
    refine ⟨D4, _, _, _, rfl, rfl, SqL.of hd4, hfa, ?_⟩
    have hd14 := s4 D1 _ hd13
    have hd24 := s4 D2 _ hd2
    have hal4 := s4 A0 _ hal3
    refine ⟨_, rfl, .inl ⟨rfl, _, SqL.of hd14⟩, _, rfl, _, rfl, D2, _, _, _, rfl, rfl, SqL.of hd24, hat2 a ha, D1, _, _, c, rfl, rfl, SqL.of hd14, (by rw [Wd.ringW_get hc, hcg]), (fun i hi z => ?_), ?_⟩
    · rw [Wd.ringW_get (by omega)] at z
      have := Wd.ringAt_inj h2.nd (by omega) hc ((Option.some.inj z).trans hcg.symm)
      omega
    have hplc : ∀ i, i ≤ r.length → ((!(plc al (Wd.pcs r n i) (c + 1)).isEmpty) = true ↔ ∃ d, c < d ∧ d ≤ r.length ∧ Wd.pcs r n i = Wd.pcs r n d) := fun i hi => by
      constructor
      · intro z
        cases e : plc al (Wd.pcs r n i) (c + 1) with
        | nil => rw [e] at z; cases z
        | cons d l =>
          obtain ⟨g1, g2⟩ := plc_mem.mp (show d ∈ plc al (Wd.pcs r n i) (c + 1) by rw [e]; exact List.mem_cons_self ..)
          have hdl := (List.getElem?_eq_some_iff.mp g2).1
          rw [hmet d (by omega)] at g2
          exact ⟨d, by omega, by omega, (Option.some.inj g2).symm⟩
      · rintro ⟨d, g1, g2, g3⟩
        have hm : d ∈ plc al (Wd.pcs r n i) (c + 1) := plc_mem.mpr ⟨by omega, by rw [hmet d g2, g3]⟩
        cases e : plc al (Wd.pcs r n i) (c + 1) with
        | nil => rw [e] at hm; cases hm
        | cons d l => rfl
    have hatA : ∀ i, i ≤ r.length → atI (al.map T) (i : Int) = some (T (Wd.pcs r n i)) := fun i hi => atI_nat (by rw [List.getElem?_map, hmet i hi]; rfl)
    refine ⟨_, rfl, _, _, rfl, rfl, _, rfl, _, _, rfl, rfl, _, _, rfl, ⟨by omega, by omega, by omega, by omega⟩, ?_⟩
    rw [show (((c : Int) + 1) - ((a : Int) + 1)).toNat = c - a by omega, show ((a : Int) + 1) = ((a + 1 : Nat) : Int) by omega]
    refine compFB (vs := (List.range (c - a)).map fun (i : Nat) => V.int ((a + 1 + i : Nat) : Int)) (fun v => !(plc al (Wd.pcs r n (unI v).toNat) (c + 1)).isEmpty) (fun v => v) readsB_rangeL (by rw [List.length_map, List.length_range]; omega) (fun v H5 hv s5 N hN5 => ?_) (fun v H5 hv hp s5 N hN5 => ?_) fun D5 H5 hD5 s5 hd5 => ?_
    · obtain ⟨i, hi, rfl⟩ := List.mem_map.mp hv
      rw [List.mem_range] at hi
      have eu : (unI (V.int ((a + 1 + i : Nat) : Int))).toNat = a + 1 + i := Int.toNat_natCast _
      rw [eu] at hN5
      refine ⟨_, rfl, _, rfl, _, rfl, A0, _, _, _, rfl, rfl, SqL.of (s5 A0 _ hal4), hatA (a + 1 + i) (by omega), _, rfl, _, _, rfl, rfl, al, A0, _, c + 1, rfl, SqL.of (s5 A0 _ hal4), ⟨by omega, by omega⟩, fun D6 H6 hD6 s6 hd6 => ⟨(by show 0 ≤ sizeLine; omega), fun p6 hp6 => ?_⟩⟩
      have t6 := same_upd (o := .lst []) hp6
      refine ⟨D6, p6, _, rfl, rfl, SqL.of (t6 D6 _ hd6), SqL.of upd_same, _, rfl, ?_⟩
      have := hN5 _ (s6.trans t6)
      rw [List.isEmpty_map]
      exact this
    · exact ⟨_, rfl, hN5 H5 (Same.refl _)⟩
    obtain ⟨j, hjl, hj1, hj2⟩ := least_nat (p := fun j => ∃ d, c < d ∧ d ≤ r.length ∧ Wd.pcs r n (a + 1 + j) = Wd.pcs r n d) (m := b0 - (a + 1)) ⟨d0, hdd1, hdd2, by rw [show a + 1 + (b0 - (a + 1)) = b0 by omega]; exact hbd⟩
    have hjc : j < c - a := by omega
    have hfb : atI ((((List.range (c - a)).map fun (i : Nat) => V.int ((a + 1 + i : Nat) : Int)).filter (fun v => !(plc al (Wd.pcs r n (unI v).toNat) (c + 1)).isEmpty)).map fun v => v) 0 = some (V.int ((a + 1 + j : Nat) : Int)) := by
      refine atI_nat (j := 0) ?_
      rw [List.map_id', List.filter_map, List.getElem?_map]
      have := filt_first (p := (fun v => !(plc al (Wd.pcs r n (unI v).toNat) (c + 1)).isEmpty) ∘ fun (i : Nat) => V.int ((a + 1 + i : Nat) : Int)) hjc ((hplc (a + 1 + j) (by omega)).mpr hj1) (fun i hi => by
        have h3 := hj2 i hi
        rw [← hplc (a + 1 + i) (by omega)] at h3
        exact Bool.eq_false_iff.mpr h3)
      rw [this]
      rfl
    refine ⟨D5, _, _, _, rfl, rfl, SqL.of hd5, hfb, ?_⟩
    have hal5 := s5 A0 _ hal4
    obtain ⟨d1, hd3, hd4', hd5'⟩ := hj1
    obtain ⟨d, l, hpl⟩ : ∃ d l, plc al (Wd.pcs r n (a + 1 + j)) (c + 1) = d :: l := by
      have hm : d1 ∈ plc al (Wd.pcs r n (a + 1 + j)) (c + 1) := plc_mem.mpr ⟨by omega, by rw [hmet d1 hd4', hd5']⟩
      cases e : plc al (Wd.pcs r n (a + 1 + j)) (c + 1) with
      | nil => rw [e] at hm; cases hm
      | cons d l => exact ⟨d, l, rfl⟩
    obtain ⟨hdc, hdm⟩ := plc_mem.mp (show d ∈ plc al (Wd.pcs r n (a + 1 + j)) (c + 1) by rw [hpl]; exact List.mem_cons_self ..)
    have hdl := (List.getElem?_eq_some_iff.mp hdm).1
    rw [hmet d (by omega)] at hdm
    refine ⟨_, rfl, _, rfl, _, rfl, _, rfl, _, rfl, _, rfl, A0, _, _, _, rfl, rfl, SqL.of hal5, hatA (a + 1 + j) (by omega), _, rfl, _, _, rfl, rfl, al, A0, _, c + 1, rfl, SqL.of hal5, ⟨by omega, by omega⟩, fun D6 H6 hD6 s6 hd6 => ⟨D6, _, _, _, rfl, rfl, SqL.of hd6, (by rw [hpl]; exact atI_nat (j := 0) rfl), (by show 4 ≤ sizeLine; omega), fun p hp => ?_⟩⟩
    have hpn : H p = none := by
      cases e : H p with
      | none => rfl
      | some o => have := (s1.trans (s2.trans (s3.trans (s4.trans (s5.trans s6))))) p o e; rw [hp] at this; cases this
    refine q p a (a + 1 + j) c d _ (s1.trans (s2.trans (s3.trans (s4.trans (s5.trans (s6.trans (same_upd hp))))))) hpn upd_same ?_ hag hna hcg
    exact h2.ex ha1 (by omega) (by omega) (by omega) (by omega) hpc (Option.some.inj hdm).symm

theorem two_of {C : Addr} {H : Hp} {x tp : Addr} {r g m0 : List Nat} {n : Nat} {ms : List (List Nat)} (h1 : YesR C H x tp r m0 n ms) (h2 : YesR C H x tp g m0 n ms) (hnd : ms.Nodup) : Wd.Two r g n := by
  obtain ⟨hp1, e1⟩ := h1.yes
  obtain ⟨hp2, e2⟩ := h2.yes
  have l1 := hp1.length_eq
  have l2 := hp2.length_eq
  rw [Wd.ringW_len] at l1 l2
  exact ⟨h1.le.2.1, h1.le.1.1, by omega, hp2.trans hp1.symm, hp1.nodup_iff.mpr hnd, by rw [e1, e2]⟩
noncomputable def spLed (C : Addr) : Sp := fun vs H Q _ => ∃ (x tp : Addr) (r g m0 : List Nat) (n : Nat) (ms : List (List Nat)), vs = [.ref x, T r, T g] ∧ YesR C H x tp r m0 n ms ∧ YesR C H x tp g m0 n ms ∧ ms.Nodup ∧ r.length ≤ 59 ∧
  ∀ (D : Addr) (ps : List Addr) (qs : List (List Int)) (H' : Hp), H D = none → Same H H' → Tups H' ps qs → H' D = some (.lst (ps.map V.ref)) → AllFit n r qs → endT r qs = g → qs.length + 1 ≤ r.length → (r = g → qs = []) → Q (.ref D) H'
theorem ok_led {f : Addr} {fd : FuncData} (F : Fun K "led" "led" s_led f fd) (tt : Txt K mg ad) (C_is_ring : Cal P w K mg base (CX1 P w) "is_ring" 4 ["web", "text"] (spIsRing ad.Web)) (C_deed_toward : Cal P w K mg base (CX1 P w) "deed_toward" 6 ["web", "ring", "goal"] (spDeed ad.Web)) (C_exchange : Cal P w K mg base (CX1 P w) "exchange" 7 ["web", "ring", "deed"] (spExch K ad.Web ad)) : FnOk P w K mg base (CX1 P w) 8 f fd ["web", "one", "two"] (spLed ad.Web) := by
  refine F.okX sc_led (fun vs H Q E h => ?_) (fun cdv A outer s H vs Q E hr h => ?_)
  · obtain ⟨x, tp, r, g, m0, n, ms, rfl, _⟩ := h
    rfl
  · obtain ⟨x, tp, r0, g, m0, n, ms, rfl, hN, hG, hnd, h59, q⟩ := h
    have hs : sizeLine = 16777216 := sizeLine_eq
    obtain ⟨hl, hn⟩ := hN.le
    have hgl := hG.le.1
    refine ⟨_, (pss_cons (ps_if (PW.pt (pw_or (pt_not (pt_val (pe_cal C_is_ring hr pass1 (pa_cons (pv 0) (pa_cons (pv 1) pa_nil))))) (pw_or1 (pt_not (pt_val (pe_cal C_is_ring hr pass1 (pa_cons (pv 0) (pa_cons (pv 2) pa_nil)))))))) (pss_one (ps_raise (E := fun cls H' => E cls none H') tt.x_NotOne rfl (fun _ _ _ _ _ _ _ I hx q => raiseX I hx q) (pa_cons (pe_strT [116, 104, 101, 32, 116, 101, 120, 116, 32, 105, 115, 32, 110, 111, 32, 114, 105, 110, 103, 32, 111, 102, 32, 116, 104, 101, 32, 119, 101, 98, 44, 32, 116, 111, 108, 100, 32, 102, 114, 111, 109, 32, 105, 116, 115, 32, 108, 101, 97, 115, 116, 32, 119, 111, 114, 100] (by decide +kernel)) pa_nil))) pss_nil)
      (pss_cons (ps_set (i := 3) sc_led.nd rfl (Or.inl rfl) (pe_lst pa_nil))
      (pss_cons (ps_set (i := 4) sc_led.nd rfl (Or.inl rfl) (pv 1))
      (pss_cons (ps_while PassesOwn.leaving (pt_cmpR op_ne_T (pv 4) (pv 2) (nomark _)) (pss_cons (ps_set (i := 5) sc_led.nd rfl (Or.inl rfl) (pe_cal C_deed_toward hr passX (pa_cons (pv 0) (pa_cons (pv 4) (pa_cons (pv 2) pa_nil)))))
      (pss_cons (ps_expr (pe_bm PySem.F.plainAttrs_list PySem.F.slot_list_append PySem.F.type_list_append mt_append (pv 3) (pa_cons (pv 5) pa_nil)))
      (pss_one (ps_set (i := 4) sc_led.nd rfl (Or.inl rfl) (pe_cal C_exchange hr passX (pa_cons (pv 0) (pa_cons (pv 4) (pa_cons (pv 5) pa_nil)))))))))
      (pss_one (ps_ret (pv 3))))))), ?_⟩
    (try rw [cxK2]); (try rw [cxK1])
    refine ⟨_, rfl, _, rfl, x, tp, r0, m0, n, ms, rfl, hN.at_, hN.sm, ⟨by omega, by omega, by omega⟩, hN.hm0, fun b H1 s1 hb => ⟨_, rfl, ?_⟩⟩
    have hbt := hb.mpr hN.yes
    subst hbt
    refine iteF ?_
    refine ⟨_, rfl, _, rfl, x, tp, g, m0, n, ms, rfl, (hG.on s1).at_, hG.sm, ⟨by omega, by omega, by omega⟩, hG.hm0, fun b H2 s2 hb => ⟨_, rfl, ?_⟩⟩
    have hbt := hb.mpr hG.yes
    subst hbt
    refine iteF ?_
    have s12 := s1.trans s2
    refine ⟨(by show 0 ≤ sizeLine; omega), fun D hD => ?_⟩
    have t3 := same_upd (o := .lst []) hD
    have hDH : H D = none := by
      cases e : H D with
      | none => rfl
      | some o => have := s12 D o e; rw [hD] at this; cases this
    refine ⟨_, rfl, ?_⟩
    have h20 := two_of hN hG hnd
    refine ⟨fun m σ G => ∃ (r : List Nat) (ps : List Addr) (qs : List (List Int)) (v5 : Option V), m = r0.length - qs.length ∧ qs.length + 1 ≤ r0.length ∧ Same H G ∧ r.length = r0.length ∧ YesR ad.Web G x tp r m0 n ms ∧ Wd.Two r g n ∧ Wd.Agree r g n (qs.length + 1) ∧ AllFit n r0 qs ∧ endT r0 qs = r ∧ (r0 = g → qs = []) ∧ Tups G ps qs ∧ G D = some (.lst (ps.map V.ref)) ∧ σ = [some (.ref x), some (T r0), some (T g), some (.ref D), some (T r), v5],
      ⟨_, r0, [], [], none, rfl, hl.1, s12.trans t3, rfl, hN.on (s12.trans t3), h20, fun i hi => by rw [show i = 0 by simpa using hi]; exact h20.zero, trivial, rfl, fun _ => rfl, .nil, upd_same, rfl⟩, ?_⟩
    rintro m σ G ⟨r, ps, qs, v5, hm, hql, sG, hrl, hY, h2, hag, hfit, hend, hemp, htu, hdD, rfl⟩
    refine ⟨_, rfl, _, rfl, _, rfl, _, rfl, _, rfl, ?_⟩
    by_cases he : r = g
    · refine itN (by rw [decide_eq_true he]; exact Bool.false_ne_true) ?_
      exact ⟨_, rfl, q D ps qs G hDH sG htu hdD hfit (hend.trans he) hql hemp⟩
    · refine itP (by rw [decide_eq_false he]; rfl) ?_
      refine ⟨_, fun σ' H' z => z, ?_⟩
      refine ⟨_, rfl, _, rfl, _, rfl, x, tp, r, g, m0, n, ms, rfl, hY, (by omega), h2, he, fun p a b c d G1 s3 hp htp hX hag2 hna hcg => ?_⟩
      have hqa : qs.length + 1 ≤ a := by
        rcases Nat.lt_or_ge a (qs.length + 1) with z | z
        · exact absurd (hag a z) hna
        · exact z
      have hdl := hX.dm
      have hab := hX.ab
      have hbc := hX.bc
      have hcd := hX.cd
      have hpl := htu.len
      have hd1 := s3 D _ hdD
      refine ⟨_, rfl, .inl ⟨rfl, _, SqL.of hd1⟩, _, rfl, D, _, _, rfl, rfl, hd1, (by rw [List.length_map]; omega), ?_⟩
      have hpD : p ≠ D := fun z => by rw [z, hdD] at hp; cases hp
      have k2 : ∀ b o, b ≠ D → G1 b = some o → upd G1 D (.lst (ps.map V.ref ++ [.ref p])) b = some o := fun b o hb e => by rw [upd_ne hb]; exact e
      have hY2 : YesR ad.Web (upd G1 D (.lst (ps.map V.ref ++ [.ref p]))) x tp r m0 n ms := by
        have h1 := hY.on s3
        obtain ⟨⟨dx, e1⟩, e2⟩ := h1.at_
        exact ⟨⟨⟨dx, k2 x _ (fun z => by rw [z, hd1] at e1; cases e1) e1⟩, k2 tp _ (fun z => by rw [z, hd1] at e2; cases e2) e2⟩, h1.sm, h1.le, h1.hm0, h1.yes⟩
      have htu2 : Tups (upd G1 D (.lst (ps.map V.ref ++ [.ref p]))) (ps ++ [p]) (qs ++ [[(a : Int), (b : Int), (c : Int), (d : Int)]]) := ((htu.same s3).put hd1).app (.cons (by rw [upd_ne hpD]; exact htp) .nil)
      have hG2 : Same H (upd G1 D (.lst (ps.map V.ref ++ [.ref p]))) := fun b o e => k2 b o (fun z => by rw [z, hDH] at e; cases e) ((sG.trans s3) b o e)
      have hd2 : (upd G1 D (.lst (ps.map V.ref ++ [.ref p]))) D = some (.lst ((ps ++ [p]).map V.ref)) := by rw [upd_same, List.map_append]; rfl
      have hp2 : (upd G1 D (.lst (ps.map V.ref ++ [.ref p]))) p = some (.tup (T4 (a : Int) (b : Int) (c : Int) (d : Int))) := k2 p _ hpD htp
      generalize upd G1 D (.lst (ps.map V.ref ++ [.ref p])) = G2 at hY2 htu2 hG2 hd2 hp2
      have hF := ex_fits hX
      refine ⟨_, rfl, _, rfl, _, rfl, x, tp, p, r, m0, n, ms, (a : Int), (b : Int), (c : Int), (d : Int), rfl, hY2, SqT.of hp2, fun _ G3 s4 => ?_, fun z => absurd hF z⟩
      obtain ⟨h2', hag'⟩ := h2.more hag2 hcg hX
      have hq : FitQ n r [(a : Int), (b : Int), (c : Int), (d : Int)] := ⟨_, _, _, _, rfl, hF⟩
      obtain ⟨hY3, hl3⟩ := (hY2.on s4).step hq
      have hstp : stp r [(a : Int), (b : Int), (c : Int), (d : Int)] = Wd.exT r a b c d := cutX_ex hX
      have hql2 : (qs ++ [[(a : Int), (b : Int), (c : Int), (d : Int)]]).length = qs.length + 1 := List.length_append
      refine ⟨r0.length - (qs.length + 1), by omega, stp r [(a : Int), (b : Int), (c : Int), (d : Int)], ps ++ [p], qs ++ [[(a : Int), (b : Int), (c : Int), (d : Int)]], _, by rw [hql2], by rw [hql2]; omega, hG2.trans s4, hl3.trans hrl, hY3, by rw [hstp]; exact h2', ?_, hfit.snoc (by rw [hend]; exact hq), ?_, (fun z => absurd (by rw [← hend, hemp z]; exact z) he), htu2.same s4, s4 D _ hd2, rfl⟩
      · rw [hstp, hql2]
        exact fun i hi => hag' i (by omega)
      · show (qs ++ [_]).foldl stp r0 = _
        have e := hend
        unfold endT at e
        rw [List.foldl_append, e]
        rfl

noncomputable def spCell (K : PySem.W.Frag) : Sp := fun vs H Q _ => ∃ (a : Addr) (ns : List Int) (k : Nat), vs = [.ref a, .int (k : Nat)] ∧ SqL K H a (ns.map V.int) ∧ Q (.int (ns.getD k 0)) H
theorem ok__law_cell_at {f : Addr} {fd : FuncData} (F : Fun K "_law_cell_at" "_law_cell_at" s__law_cell_at f fd) (tt : Txt K mg ad) : FnOk P w K mg base (CX1 P w) 1 f fd ["script", "k"] (spCell K) := by
  refine F.okN sc__law_cell_at (fun vs H Q E h => ?_) (fun cdv A outer s H vs Q E hr h => ?_)
  · obtain ⟨a, ns, k, rfl, _⟩ := h
    rfl
  · obtain ⟨a, ns, k, rfl, hS, q⟩ := h
    refine ⟨_, (pss_cons (ps_if (pt_cmpR op_lt (pv 1) (pe_callB call_len_seq (by rfl) tt.b_len PySem.boot_len (pa_cons (pv 0) pa_nil)) (nomark _)) (pss_one (ps_ret (pe_ix ix_list (pv 0) (pv 1) (fun _ _ => rfl)))) pss_nil)
      (pss_one (ps_ret pe_int))), ?_⟩
    (try rw [cxK2]); (try rw [cxK1])
    refine ⟨_, rfl, _, rfl, a, _, rfl, .inl hS, _, _, rfl, rfl, _, rfl, ?_⟩
    rw [List.length_map]
    refine ite2 (fun h0 => ?_) (fun h0 => ?_)
    · have h1 : k < ns.length := by have := of_decide_eq_true h0; omega
      rw [List.getD_eq_getElem?_getD, List.getElem?_eq_getElem h1] at q
      exact ⟨_, rfl, _, rfl, a, _, _, _, rfl, rfl, hS, atI_nat (by rw [List.getElem?_map, List.getElem?_eq_getElem h1]; rfl), q⟩
    · have h1 : ¬ k < ns.length := fun z => h0 (decide_eq_true (by omega))
      rw [List.getD_eq_getElem?_getD, List.getElem?_eq_none (by omega)] at q
      exact q

theorem inV_T {t : List Nat} : ∀ {ls : List (List Nat)}, inV (T t) (ls.map T) = decide (t ∈ ls)
  | [] => by simp [inV]
  | l :: ls => by
    have ih := @inV_T t ls
    have e : inV (T t) ((l :: ls).map T) = (eqV (T l) (T t) || inV (T t) (ls.map T)) := rfl
    have e2 : eqV (T l) (T t) = decide (t = l) := by
      show (tx l == tx t) = decide (t = l)
      rw [Bool.eq_iff_iff, beq_iff_eq, decide_eq_true_iff]
      exact ⟨fun h => (tx_inj h).symm, fun h => by rw [h]⟩
    rw [e, ih, e2, Bool.eq_iff_iff, Bool.or_eq_true, decide_eq_true_iff, decide_eq_true_iff, decide_eq_true_iff, List.mem_cons]
noncomputable def spHangs (K : PySem.W.Frag) : Sp := fun vs H Q _ => ∃ (W : Addr) (ws : List (List Nat)) (p : List Nat) (n : Nat), vs = [.ref W, T p] ∧ SqL K H W (ws.map T) ∧ (ws.length ≤ 64 ∧ 1 ≤ n ∧ n ≤ 8) ∧ (∀ w ∈ ws, w.length = n) ∧ ∀ (b : Bool) (H' : Hp), Same H H' → (b = true ↔ Wd.Conn ws p) → Q (.bl b) H'
theorem ok__law_hangs {f : Addr} {fd : FuncData} (F : Fun K "_law_hangs" "_law_hangs" s__law_hangs f fd) (tt : Txt K mg ad) : FnOk P w K mg base (CX1 P w) 1 f fd ["words", "piece"] (spHangs K) := by
  refine F.okN sc__law_hangs (fun vs H Q E h => ?_) (fun cdv A outer s H vs Q E hr h => ?_)
  · obtain ⟨W, ws, p, n, rfl, _⟩ := h
    rfl
  · obtain ⟨W, ws, p, n, rfl, hW, ⟨h64, hn1, hn8⟩, hlen, q⟩ := h
    have hs : sizeLine = 16777216 := sizeLine_eq
    have hfew : ∀ {l : List (List Nat)}, l.Nodup → (∀ y ∈ l, y ∈ p :: (ws.map Wd.beg ++ ws.map Wd.fin)) → l.length ≤ 129 := fun hn hs => by
      have := Wd.nodup_le _ _ hn hs
      rw [List.length_cons, List.length_append, List.length_map, List.length_map] at this
      omega
    have add4 : ∀ {rs ex : List (List Nat)} {y : List Nat}, (rs ++ ex).Nodup → (∀ z ∈ rs ++ ex, z ∈ p :: (ws.map Wd.beg ++ ws.map Wd.fin)) → (∀ χ : List Nat → Prop, χ p → (∀ e ∈ ws, χ (Wd.beg e) ↔ χ (Wd.fin e)) → ∀ z ∈ rs ++ ex, χ z) → y ∉ rs ++ ex → (y ∈ ws.map Wd.beg ∨ y ∈ ws.map Wd.fin) → (∀ χ : List Nat → Prop, χ p → (∀ e ∈ ws, χ (Wd.beg e) ↔ χ (Wd.fin e)) → χ y) →
        (rs ++ (ex ++ [y])).Nodup ∧ (∀ z ∈ rs ++ (ex ++ [y]), z ∈ p :: (ws.map Wd.beg ++ ws.map Wd.fin)) ∧ ∀ χ : List Nat → Prop, χ p → (∀ e ∈ ws, χ (Wd.beg e) ↔ χ (Wd.fin e)) → ∀ z ∈ rs ++ (ex ++ [y]), χ z := fun {rs ex y} h1 h2 h3 h4 h5 h6 => by
      rw [← List.append_assoc]
      refine ⟨List.nodup_append.mpr ⟨h1, by simp, fun a ha b hb => by simp at hb; subst hb; exact fun z => h4 (z ▸ ha)⟩, fun z hz => ?_, fun χ hp hc z hz => ?_⟩
      · rcases List.mem_append.mp hz with hz | hz
        · exact h2 z hz
        · rw [List.mem_singleton.mp hz]; exact List.mem_cons_of_mem _ (List.mem_append.mpr h5)
      · rcases List.mem_append.mp hz with hz | hz
        · exact h3 χ hp hc z hz
        · rw [List.mem_singleton.mp hz]; exact h6 χ hp hc
    refine ⟨_, (pss_cons (ps_set (i := 2) sc__law_hangs.nd rfl (Or.inr rfl) (pe_lst (pa_cons (pv 1) pa_nil)))
      (pss_cons (ps_set (i := 3) sc__law_hangs.nd rfl (Or.inl rfl) pe_int)
      (pss_cons (ps_while PassesOwn.never (pt_cmpR op_lt (pv 3) (pe_callB call_len_seq (by rfl) tt.b_len PySem.boot_len (pa_cons (pv 2) pa_nil)) (nomark _)) (pss_cons (ps_for PassesOwn.never rfl (pi_list (pv 0)) (pg_name (i := 4) sc__law_hangs.nd rfl (Or.inl rfl)) (pss_cons (ps_if (PW.pt (pw_and (pt_cmpR op_eq_T (pe_slice sl_T (pv 4) po_none (po_some (pe_un un_neg pe_int))) (pe_ix ix_list (pv 2) (pv 3) (fun _ _ => rfl)) (nomark _)) (pw_and1 (pt_cmpR op_notIn_seq (pe_slice sl_T (pv 4) (po_some pe_int) po_none) (pv 2) (by with_unfolding_all rfl))))) (pss_one (ps_expr (pe_bm PySem.F.plainAttrs_list PySem.F.slot_list_append PySem.F.type_list_append mt_append (pv 2) (pa_cons (pe_slice sl_T (pv 4) (po_some pe_int) po_none) pa_nil)))) pss_nil)
      (pss_one (ps_if (PW.pt (pw_and (pt_cmpR op_eq_T (pe_slice sl_T (pv 4) (po_some pe_int) po_none) (pe_ix ix_list (pv 2) (pv 3) (fun _ _ => rfl)) (nomark _)) (pw_and1 (pt_cmpR op_notIn_seq (pe_slice sl_T (pv 4) po_none (po_some (pe_un un_neg pe_int))) (pv 2) (by with_unfolding_all rfl))))) (pss_one (ps_expr (pe_bm PySem.F.plainAttrs_list PySem.F.slot_list_append PySem.F.type_list_append mt_append (pv 2) (pa_cons (pe_slice sl_T (pv 4) po_none (po_some (pe_un un_neg pe_int))) pa_nil)))) pss_nil))))
      (pss_one (ps_set (i := 3) sc__law_hangs.nd rfl (Or.inl rfl) (pe_op op_add (pv 3) pe_int)))))
      (pss_one (ps_ret (pe_callB (call_allB rfl) (by rfl) tt.b_all PyProof.Rows.boot_all (pa_cons (pe_comp cs__law_hangs_0 rfl (pi_list (pv 0)) (fun cl C s' H' fp => (pe_cmpR (op_in_seqK K rfl) (pe_slice sl_T (pv 0) po_none (po_some (pe_un un_neg pe_int))) (pv 3) (by with_unfolding_all rfl)))) pa_nil))))))), ?_⟩
    (try rw [cxK2]); (try rw [cxK1])
    refine ⟨_, rfl, (by show 1 ≤ sizeLine; omega), fun M hM => ?_⟩
    have t1 := same_upd (o := .lst [T p]) hM
    refine ⟨fun m σ G => ∃ (rs : List (List Nat)) (i : Nat) (v4 : Option V), m = 129 - i ∧ i ≤ rs.length ∧ (∀ b o, b ≠ M → H b = some o → G b = some o) ∧ G M = some (.lst (rs.map T)) ∧ rs.Nodup ∧ (∀ y ∈ rs, y ∈ p :: (ws.map Wd.beg ++ ws.map Wd.fin)) ∧ p ∈ rs ∧ (∀ χ : List Nat → Prop, χ p → (∀ e ∈ ws, χ (Wd.beg e) ↔ χ (Wd.fin e)) → ∀ z ∈ rs, χ z) ∧ (∀ j t, j < i → rs[j]? = some t → ∀ w ∈ ws, (Wd.beg w = t → Wd.fin w ∈ rs) ∧ (Wd.fin w = t → Wd.beg w ∈ rs)) ∧ σ = [some (.ref W), some (T p), some (.ref M), some (.int (i : Nat)), v4],
      ⟨_, [p], 0, none, rfl, Nat.zero_le _, fun b o _ e => t1 b o e, upd_same, by simp, fun y hy => by rw [List.mem_singleton.mp hy]; exact List.mem_cons_self .., by simp, fun χ hp _ z hz => by rw [List.mem_singleton.mp hz]; exact hp, fun j t hj => absurd hj (by omega), rfl⟩, ?_⟩
    rintro m σ G ⟨rs, i, v4, hm, hir, kG, hMG, hrn, hrs, hpr, hrr, hdn, rfl⟩
    have hrl := hfew hrn hrs
    have hWG : SqL K G W (ws.map T) := (show Same H G from fun b o e => kG b o (fun z => by rw [z, hM] at e; cases e) e).seq hW
    refine ⟨_, rfl, _, rfl, M, _, rfl, .inl (SqL.of hMG), _, _, rfl, rfl, _, rfl, ?_⟩
    rw [List.length_map]
    by_cases hlt : i < rs.length
    · refine itP (decide_eq_true (by omega)) ?_
      obtain ⟨t, ht⟩ : ∃ t, rs[i]? = some t := ⟨_, List.getElem?_eq_getElem hlt⟩
      refine ⟨_, fun σ' H' z => z, ?_⟩
      refine ⟨_, rfl, W, rfl, ⟨_, hWG⟩, ?_⟩
      refine for_list (K := K) (a := W) (xs := ws.map T) (fun j σ G2 => (∀ b o, b ≠ M → G b = some o → G2 b = some o) ∧ (∃ ex : List (List Nat), G2 M = some (.lst ((rs ++ ex).map T)) ∧ (rs ++ ex).Nodup ∧ (∀ y ∈ rs ++ ex, y ∈ p :: (ws.map Wd.beg ++ ws.map Wd.fin)) ∧ (∀ χ : List Nat → Prop, χ p → (∀ e ∈ ws, χ (Wd.beg e) ↔ χ (Wd.fin e)) → ∀ z ∈ rs ++ ex, χ z) ∧ ∀ w ∈ ws.take j, (Wd.beg w = t → Wd.fin w ∈ rs ++ ex) ∧ (Wd.fin w = t → Wd.beg w ∈ rs ++ ex)) ∧ ∃ v4 : Option V, σ = [some (.ref W), some (T p), some (.ref M), some (.int (i : Nat)), v4])
        ⟨fun b o _ e => e, ⟨[], by rw [List.append_nil]; exact hMG, by rw [List.append_nil]; exact hrn, by rw [List.append_nil]; exact hrs, by rw [List.append_nil]; exact hrr, fun w hw => by simp at hw⟩, _, rfl⟩ (fun j σ G2 _ h => (show Same H G2 from fun b o e => h.1 b o (fun z => by rw [z, hM] at e; cases e) (kG b o (fun z => by rw [z, hM] at e; cases e) e)).seq hW) ?_ ?_
      · rintro j v σ G2 hj ⟨k2, ⟨ex, m2, n2, s2, r2, d2⟩, v4, rfl⟩
        obtain ⟨wd, hwd, rfl⟩ : ∃ wd, ws[j]? = some wd ∧ T wd = v := by rw [List.getElem?_map] at hj; exact Option.map_eq_some_iff.mp hj
        have hwm := List.mem_of_getElem? hwd
        have hwn := hlen wd hwm
        have htk : ws.take (j + 1) = ws.take j ++ [wd] := by rw [List.take_add_one, hwd]; rfl
        have eb : cutL wd none (some (-1)) = Wd.beg wd := cut_begin (by omega)
        have ef : cutL wd (some 1) none = Wd.fin wd := cutL_from (k := 1) (by omega)
        have hel := hfew n2 s2
        refine ⟨_, rfl, _, rfl, _, rfl, _, rfl, (by omega), _, rfl, _, rfl, M, _, _, _, rfl, rfl, SqL.of m2, atI_nat (by rw [List.getElem?_map, List.getElem?_append_left hlt, ht]; rfl), _, rfl, _, rfl, _, rfl, ?_⟩
        rw [eb]
        by_cases hbt : Wd.beg wd = t
        case neg =>
          refine itN (by rw [decide_eq_false hbt]; exact Bool.false_ne_true) ?_
          refine iteF ?_
          refine ⟨_, rfl, _, rfl, _, rfl, (by omega), _, rfl, _, rfl, M, _, _, _, rfl, rfl, SqL.of m2, atI_nat (by rw [List.getElem?_map, List.getElem?_append_left hlt, ht]; rfl), _, rfl, _, rfl, _, rfl, ?_⟩
          rw [ef]
          have hfin : ∀ (ex4 : List (List Nat)), (∀ y ∈ rs ++ ex, y ∈ rs ++ ex4) → (Wd.fin wd = t → Wd.beg wd ∈ rs ++ ex4) → ∀ w ∈ ws.take (j + 1), (Wd.beg w = t → Wd.fin w ∈ rs ++ ex4) ∧ (Wd.fin w = t → Wd.beg w ∈ rs ++ ex4) := fun ex4 h4 hb w hw => by
            rw [htk] at hw
            rcases List.mem_append.mp hw with hw | hw
            · exact ⟨fun z => h4 _ (((d2 w hw).1 z)), fun z => h4 _ (((d2 w hw).2 z))⟩
            · obtain rfl := List.mem_singleton.mp hw
              exact ⟨fun z => h4 _ (absurd z hbt), hb⟩
          by_cases hft : Wd.fin wd = t
          case neg =>
            refine itN (by rw [decide_eq_false hft]; exact Bool.false_ne_true) ?_
            exact iteF ⟨k2, ⟨ex, m2, n2, s2, r2, hfin _ (fun y hy => hy) fun z => absurd z hft⟩, _, rfl⟩
          refine itP (decide_eq_true hft) ?_
          refine ⟨_, rfl, _, rfl, _, rfl, _, rfl, (by omega), _, rfl, M, _, rfl, .inl (SqL.of m2), rfl, all_flat _, _, rfl, ?_⟩
          rw [eb]
          by_cases hbi : Wd.beg wd ∈ rs ++ ex
          · refine itN (by show ¬ (!inV (T _) _) = true; rw [inV_T, decide_eq_true hbi]; exact Bool.false_ne_true) ?_
            exact ⟨k2, ⟨ex, m2, n2, s2, r2, hfin _ (fun y hy => hy) fun _ => hbi⟩, _, rfl⟩
          · refine itP (by show (!inV (T _) _) = true; rw [inV_T, decide_eq_false hbi]; rfl) ?_
            have hsz := hfew n2 s2
            refine ⟨_, rfl, .inl ⟨rfl, _, SqL.of m2⟩, _, rfl, _, rfl, _, rfl, _, rfl, (by omega), M, _, _, rfl, rfl, m2, (by rw [List.length_map]; omega), ?_⟩
            rw [eb]
            have h4 := add4 n2 s2 r2 hbi (.inl (List.mem_map_of_mem hwm)) fun χ hp hcl => (hcl wd hwm).mpr (by rw [hft]; exact r2 χ hp hcl t (List.mem_append_left _ (List.mem_of_getElem? ht)))
            exact ⟨fun b o hb e => by rw [upd_ne hb]; exact (k2) b o hb e, ⟨ex ++ [Wd.beg wd], by rw [upd_same, ← List.append_assoc, List.map_append (l₁ := rs ++ ex)]; rfl, h4.1, h4.2.1, h4.2.2, hfin _ (fun y hy => by rw [← List.append_assoc]; exact List.mem_append_left _ hy) fun _ => by rw [← List.append_assoc]; exact List.mem_append_right _ (List.mem_singleton.mpr rfl)⟩, _, rfl⟩
        refine itP (decide_eq_true hbt) ?_
        refine ⟨_, rfl, _, rfl, _, rfl, (by omega), _, rfl, M, _, rfl, .inl (SqL.of m2), rfl, all_flat _, _, rfl, ?_⟩
        rw [ef]
        by_cases hfi : Wd.fin wd ∈ rs ++ ex
        case pos =>
          refine itN (by show ¬ (!inV (T _) _) = true; rw [inV_T, decide_eq_true hfi]; exact Bool.false_ne_true) ?_
          refine ⟨_, rfl, _, rfl, _, rfl, (by omega), _, rfl, _, rfl, M, _, _, _, rfl, rfl, SqL.of m2, atI_nat (by rw [List.getElem?_map, List.getElem?_append_left hlt, ht]; rfl), _, rfl, _, rfl, _, rfl, ?_⟩
          rw [ef]
          have hfin : ∀ (ex4 : List (List Nat)), (∀ y ∈ rs ++ ex, y ∈ rs ++ ex4) → (Wd.fin wd = t → Wd.beg wd ∈ rs ++ ex4) → ∀ w ∈ ws.take (j + 1), (Wd.beg w = t → Wd.fin w ∈ rs ++ ex4) ∧ (Wd.fin w = t → Wd.beg w ∈ rs ++ ex4) := fun ex4 h4 hb w hw => by
            rw [htk] at hw
            rcases List.mem_append.mp hw with hw | hw
            · exact ⟨fun z => h4 _ (((d2 w hw).1 z)), fun z => h4 _ (((d2 w hw).2 z))⟩
            · obtain rfl := List.mem_singleton.mp hw
              exact ⟨fun z => h4 _ hfi, hb⟩
          by_cases hft : Wd.fin wd = t
          case neg =>
            refine itN (by rw [decide_eq_false hft]; exact Bool.false_ne_true) ?_
            exact iteF ⟨k2, ⟨ex, m2, n2, s2, r2, hfin _ (fun y hy => hy) fun z => absurd z hft⟩, _, rfl⟩
          refine itP (decide_eq_true hft) ?_
          refine ⟨_, rfl, _, rfl, _, rfl, _, rfl, (by omega), _, rfl, M, _, rfl, .inl (SqL.of m2), rfl, all_flat _, _, rfl, ?_⟩
          rw [eb]
          by_cases hbi : Wd.beg wd ∈ rs ++ ex
          · refine itN (by show ¬ (!inV (T _) _) = true; rw [inV_T, decide_eq_true hbi]; exact Bool.false_ne_true) ?_
            exact ⟨k2, ⟨ex, m2, n2, s2, r2, hfin _ (fun y hy => hy) fun _ => hbi⟩, _, rfl⟩
          · refine itP (by show (!inV (T _) _) = true; rw [inV_T, decide_eq_false hbi]; rfl) ?_
            have hsz := hfew n2 s2
            refine ⟨_, rfl, .inl ⟨rfl, _, SqL.of m2⟩, _, rfl, _, rfl, _, rfl, _, rfl, (by omega), M, _, _, rfl, rfl, m2, (by rw [List.length_map]; omega), ?_⟩
            rw [eb]
            have h4 := add4 n2 s2 r2 hbi (.inl (List.mem_map_of_mem hwm)) fun χ hp hcl => (hcl wd hwm).mpr (by rw [hft]; exact r2 χ hp hcl t (List.mem_append_left _ (List.mem_of_getElem? ht)))
            exact ⟨fun b o hb e => by rw [upd_ne hb]; exact (k2) b o hb e, ⟨ex ++ [Wd.beg wd], by rw [upd_same, ← List.append_assoc, List.map_append (l₁ := rs ++ ex)]; rfl, h4.1, h4.2.1, h4.2.2, hfin _ (fun y hy => by rw [← List.append_assoc]; exact List.mem_append_left _ hy) fun _ => by rw [← List.append_assoc]; exact List.mem_append_right _ (List.mem_singleton.mpr rfl)⟩, _, rfl⟩
        refine itP (by show (!inV (T _) _) = true; rw [inV_T, decide_eq_false hfi]; rfl) ?_
        refine ⟨_, rfl, .inl ⟨rfl, _, SqL.of m2⟩, _, rfl, _, rfl, _, rfl, (by omega), M, _, _, rfl, rfl, m2, (by rw [List.length_map]; omega), ?_⟩
        rw [ef]
        obtain ⟨n3, s3, r3⟩ := add4 n2 s2 r2 hfi (.inr (List.mem_map_of_mem hwm)) fun χ hp hcl => (hcl wd hwm).mp (by rw [hbt]; exact r2 χ hp hcl t (List.mem_append_left _ (List.mem_of_getElem? ht)))
        have k3 : ∀ b o, b ≠ M → G b = some o → upd G2 M (.lst ((rs ++ ex).map T ++ [T (Wd.fin wd)])) b = some o := fun b o hb e => by rw [upd_ne hb]; exact k2 b o hb e
        have m3 : upd G2 M (.lst ((rs ++ ex).map T ++ [T (Wd.fin wd)])) M = some (.lst ((rs ++ (ex ++ [Wd.fin wd])).map T)) := by rw [upd_same, ← List.append_assoc, List.map_append (l₁ := rs ++ ex)]; rfl
        generalize upd G2 M (.lst ((rs ++ ex).map T ++ [T (Wd.fin wd)])) = G3 at k3 m3
        have i3 : ∀ y, y ∈ rs ++ ex → y ∈ rs ++ (ex ++ [Wd.fin wd]) := fun y hy => by rw [← List.append_assoc]; exact List.mem_append_left _ hy
        have c3 : Wd.fin wd ∈ rs ++ (ex ++ [Wd.fin wd]) := by rw [← List.append_assoc]; exact List.mem_append_right _ (List.mem_singleton.mpr rfl)
        generalize ex ++ [Wd.fin wd] = ex3 at n3 s3 r3 m3 i3 c3
        refine ⟨_, rfl, _, rfl, _, rfl, (by omega), _, rfl, _, rfl, M, _, _, _, rfl, rfl, SqL.of m3, atI_nat (by rw [List.getElem?_map, List.getElem?_append_left hlt, ht]; rfl), _, rfl, _, rfl, _, rfl, ?_⟩
        rw [ef]
        have hfin : ∀ (ex4 : List (List Nat)), (∀ y ∈ rs ++ ex3, y ∈ rs ++ ex4) → (Wd.fin wd = t → Wd.beg wd ∈ rs ++ ex4) → ∀ w ∈ ws.take (j + 1), (Wd.beg w = t → Wd.fin w ∈ rs ++ ex4) ∧ (Wd.fin w = t → Wd.beg w ∈ rs ++ ex4) := fun ex4 h4 hb w hw => by
          rw [htk] at hw
          rcases List.mem_append.mp hw with hw | hw
          · exact ⟨fun z => h4 _ (i3 _ ((d2 w hw).1 z)), fun z => h4 _ (i3 _ ((d2 w hw).2 z))⟩
          · obtain rfl := List.mem_singleton.mp hw
            exact ⟨fun z => h4 _ c3, hb⟩
        by_cases hft : Wd.fin wd = t
        case neg =>
          refine itN (by rw [decide_eq_false hft]; exact Bool.false_ne_true) ?_
          exact iteF ⟨k3, ⟨ex3, m3, n3, s3, r3, hfin _ (fun y hy => hy) fun z => absurd z hft⟩, _, rfl⟩
        refine itP (decide_eq_true hft) ?_
        refine ⟨_, rfl, _, rfl, _, rfl, _, rfl, (by omega), _, rfl, M, _, rfl, .inl (SqL.of m3), rfl, all_flat _, _, rfl, ?_⟩
        rw [eb]
        by_cases hbi : Wd.beg wd ∈ rs ++ ex3
        · refine itN (by show ¬ (!inV (T _) _) = true; rw [inV_T, decide_eq_true hbi]; exact Bool.false_ne_true) ?_
          exact ⟨k3, ⟨ex3, m3, n3, s3, r3, hfin _ (fun y hy => hy) fun _ => hbi⟩, _, rfl⟩
        · refine itP (by show (!inV (T _) _) = true; rw [inV_T, decide_eq_false hbi]; rfl) ?_
          have hsz := hfew n3 s3
          refine ⟨_, rfl, .inl ⟨rfl, _, SqL.of m3⟩, _, rfl, _, rfl, _, rfl, _, rfl, (by omega), M, _, _, rfl, rfl, m3, (by rw [List.length_map]; omega), ?_⟩
          rw [eb]
          have h4 := add4 n3 s3 r3 hbi (.inl (List.mem_map_of_mem hwm)) fun χ hp hcl => (hcl wd hwm).mpr (by rw [hft]; exact r3 χ hp hcl t (List.mem_append_left _ (List.mem_of_getElem? ht)))
          exact ⟨fun b o hb e => by rw [upd_ne hb]; exact (k3) b o hb e, ⟨ex3 ++ [Wd.beg wd], by rw [upd_same, ← List.append_assoc, List.map_append (l₁ := rs ++ ex3)]; rfl, h4.1, h4.2.1, h4.2.2, hfin _ (fun y hy => by rw [← List.append_assoc]; exact List.mem_append_left _ hy) fun _ => by rw [← List.append_assoc]; exact List.mem_append_right _ (List.mem_singleton.mpr rfl)⟩, _, rfl⟩
      · rintro σ G2 ⟨k2, ⟨ex, m2, n2, s2, r2, d2⟩, v4, rfl⟩
        rw [List.length_map, List.take_length] at d2
        have hel := hfew n2 s2
        refine ⟨_, rfl, _, _, rfl, rfl, ?_⟩
        rw [List.length_append] at hel
        refine ⟨129 - (i + 1), by omega, rs ++ ex, i + 1, _, rfl, by rw [List.length_append]; omega, fun b o hb e => k2 b o hb (kG b o hb e), m2, n2, s2, List.mem_append_left _ hpr, r2, fun j t' hj ht' w hw => ?_, by rw [Int.natCast_add]; rfl⟩
        by_cases hji : j < i
        · rw [List.getElem?_append_left (by omega)] at ht'
          have := hdn j t' hji ht' w hw
          exact ⟨fun z => List.mem_append_left _ (this.1 z), fun z => List.mem_append_left _ (this.2 z)⟩
        · obtain rfl : j = i := by omega
          rw [List.getElem?_append_left hlt, ht] at ht'
          obtain rfl := Option.some.inj ht'
          exact d2 w hw
    · refine itN (by rw [decide_eq_false (by omega)]; exact Bool.false_ne_true) ?_
      have hcl : ∀ e ∈ ws, Wd.beg e ∈ rs ↔ Wd.fin e ∈ rs := fun e he => by
        constructor
        · intro h
          obtain ⟨j, hj, e2⟩ := List.mem_iff_getElem.mp h
          exact (hdn j _ (by omega) (List.getElem?_eq_getElem hj) e he).1 e2.symm
        · intro h
          obtain ⟨j, hj, e2⟩ := List.mem_iff_getElem.mp h
          exact (hdn j _ (by omega) (List.getElem?_eq_getElem hj) e he).2 e2.symm
      refine ⟨_, rfl, W, rfl, ⟨_, hWG⟩, ?_⟩
      refine compG (fun v => V.bl (decide (Wd.beg (unT v) ∈ rs))) (reads_list hWG) (by rw [List.length_map]; omega) (fun v G5 hv s5 N hN => ?_) fun D5 G5 hD5 s5 hd5 => ?_
      · obtain ⟨wd, hwd, rfl⟩ := List.mem_map.mp hv
        have g := hN G5 (Same.refl _)
        rw [unT_T] at g
        have hwn := hlen wd hwd
        have eb : cutL wd none (some (-1)) = Wd.beg wd := cut_begin (by omega)
        rw [← eb, ← inV_T] at g
        exact ⟨_, rfl, _, rfl, _, rfl, _, rfl, (by omega), _, rfl, M, _, rfl, .inl (SqL.of (s5 M _ hMG)), rfl, all_flat _, g⟩
      · have hd5 : G5 D5 = some (.lst ((ws.map fun w => decide (Wd.beg w ∈ rs)).map V.bl)) := by
          rw [hd5, List.map_map, List.map_map]
          refine congrArg (fun l => some (HO.lst l)) (List.map_congr_left fun m _ => ?_)
          show V.bl (decide (Wd.beg (unT (T m)) ∈ rs)) = _
          rw [unT_T]
          rfl
        refine ⟨D5, _, rfl, SqL.of hd5, ?_⟩
        refine q _ _ (fun b o e => s5 b o (kG b o (fun z => by rw [z, hM] at e; cases e) e)) ?_
        rw [List.all_map, List.all_eq_true]
        constructor
        · intro h χ hp hc e he
          exact hrr χ hp hc _ (of_decide_eq_true (h e he))
        · intro h e he
          exact decide_eq_true (h (fun v => v ∈ rs) hpr hcl e he)

theorem at_any {α : Type} {xs : List α} {k : Int} (h0 : 0 ≤ k) (h1 : k < (xs.length : Nat)) : ∃ v ∈ xs, atI xs k = some v := by
  obtain ⟨j, rfl⟩ := Int.eq_ofNat_of_zero_le h0
  have hj : j < xs.length := by omega
  exact ⟨xs[j], List.getElem_mem hj, atI_nat (List.getElem?_eq_getElem hj)⟩
theorem atI_lst {us : List (List Nat)} (h : 1 ≤ us.length) : atI (us.map T) (-1) = some (T (Wd.lst us)) := by
  show (ixN (us.map T).length (-1)).bind _ = _
  unfold ixN
  rw [List.length_map, if_neg (by decide), if_pos (by omega), show ((-1 : Int) + ((us.length : Nat) : Int)).toNat = us.length - 1 by omega]
  show (us.map T)[us.length - 1]? = _
  rw [List.getElem?_map, List.getElem?_eq_getElem (by omega)]
  unfold Wd.lst
  rw [List.getD_eq_getElem?_getD, List.getElem?_eq_getElem (by omega)]
  rfl
theorem lst_mem {us : List (List Nat)} (h : 1 ≤ us.length) : Wd.lst us ∈ us := by
  unfold Wd.lst
  rw [List.getD_eq_getElem?_getD, List.getElem?_eq_getElem (by omega)]
  exact List.getElem_mem _
theorem map_erase {ls : List (List Nat)} {j : Nat} : (ls.map T).eraseIdx j = (ls.eraseIdx j).map T := by rw [List.eraseIdx_eq_take_drop_succ, List.eraseIdx_eq_take_drop_succ, List.map_append, List.map_take, List.map_drop]
theorem ne_filter {ls : List (List Nat)} (hn : ls.Nodup) (w : List Nat) : ls.filter (fun o => !decide (o = w)) = ls.erase w := by
  rw [hn.erase_eq_filter]
  refine List.filter_congr fun x _ => ?_
  by_cases h : x = w
  · rw [decide_eq_true h, h]; simp
  · rw [decide_eq_false h]; simp [h]
theorem erase_ix {ls : List (List Nat)} {w : List Nat} : w ∈ ls → ∃ j, ls[j]? = some w ∧ (∀ i, i < j → ls[i]? ≠ some w) ∧ ls.eraseIdx j = ls.erase w := by
  induction ls with
  | nil => intro h; cases h
  | cons a r ih =>
    intro h
    by_cases e : a = w
    · exact ⟨0, by rw [e]; rfl, fun i hi => absurd hi (by omega), by rw [e]; simp⟩
    · obtain ⟨j, h1, h2, h3⟩ := ih ((List.mem_cons.mp h).resolve_left fun z => e z.symm)
      refine ⟨j + 1, h1, fun i hi => ?_, by rw [List.eraseIdx_cons_succ, h3, List.erase_cons_tail (by simpa using e)]⟩
      cases i with
      | zero => exact fun z => e (Option.some.inj z)
      | succ i => exact h2 i (by omega)
noncomputable def spOther (K : PySem.W.Frag) : Sp := fun vs H Q _ => ∃ (a W : Addr) (ns : List Int) (ws : List (List Nat)) (w0 : List Nat) (n : Nat), vs = [.ref a, .ref W] ∧ SqL K H a (ns.map V.int) ∧ ns.length ≤ 63 ∧ SqL K H W (ws.map T) ∧ (1 ≤ ws.length ∧ ws.length ≤ 64 ∧ 1 ≤ n ∧ n ≤ 8) ∧ (∀ w ∈ ws, w.length = n) ∧ ws.Nodup ∧ ws[0]? = some w0 ∧
  (Wd.Bal (ws.eraseIdx 0) (Wd.fin w0) (Wd.beg w0) ∧ Wd.Conn (ws.eraseIdx 0) (Wd.fin w0)) ∧ ∀ (g : List Nat) (H' : Hp), Same H H' → RingOf g n ws → Wd.ringAt g n 0 = w0 → Q (T g) H'
theorem ok__law_other {f : Addr} {fd : FuncData} (F : Fun K "_law_other" "_law_other" s__law_other f fd) (tt : Txt K mg ad) (C__law_hangs : Cal P w K mg base (CX1 P w) "_law_hangs" 1 ["words", "piece"] (spHangs K)) (C__law_cell_at : Cal P w K mg base (CX1 P w) "_law_cell_at" 1 ["script", "k"] (spCell K)) (C__law_mix : Cal P w K mg base (CX1 P w) "_law_mix" 1 ["cell", "k"] spMix) : FnOk P w K mg base (CX1 P w) 2 f fd ["script", "words"] (spOther K) := by
  refine F.okN sc__law_other (fun vs H Q E h => ?_) (fun cdv A outer s H vs Q E hr h => ?_)
  · obtain ⟨a, W, ns, ws, w0, n, rfl, _⟩ := h
    rfl
  · obtain ⟨a, W, ns, ws, w0, n, rfl, hS, hns, hW, ⟨hw1, hw64, hn1, hn8⟩, hlen, hnd, hw0, ⟨hbal, hcon⟩, q⟩ := h
    have hs : sizeLine = 16777216 := sizeLine_eq
    have h0 : w0 ∈ ws := List.mem_of_getElem? hw0
    have hw0n := hlen w0 h0
    refine ⟨_, (pss_cons (ps_set (i := 2) sc__law_other.nd rfl (Or.inl rfl) (pe_callTy call_list_of (by rfl) tt.b_list (by decide +kernel) (pa_cons (pv 1) pa_nil)))
      (pss_cons (ps_set (i := 3) sc__law_other.nd rfl (Or.inl rfl) (pe_lst (pa_cons (pe_bm PySem.F.plainAttrs_list PySem.F.slot_list_pop PySem.F.type_list_pop mt_popAt (pv 2) (pa_cons pe_int pa_nil)) pa_nil)))
      (pss_cons (ps_while PassesOwn.never (pt_cmpR op_gt (pe_callB call_len_seq (by rfl) tt.b_len PySem.boot_len (pa_cons (pv 2) pa_nil)) pe_int (nomark _)) (pss_cons (ps_set (i := 4) sc__law_other.nd rfl (Or.inl rfl) (pe_lst pa_nil))
      (pss_cons (ps_for PassesOwn.never rfl (pi_list (pv 2)) (pg_name (i := 5) sc__law_other.nd rfl (Or.inr rfl)) (pss_cons (ps_setCompf (i := 6) cs__law_other_0 rfl (pi_list (pv 2)) (fun cl C s' H' fp => (pt_cmpR op_ne_T (pv 0) (pv 6) (nomark _))) (fun cl C s' H' fp => (pv 0)) sc__law_other.nd rfl rfl)
      (pss_one (ps_if (PW.pt (pw_and (pt_cmpR op_eq_T (pe_slice sl_T (pv 5) po_none (po_some (pe_un un_neg pe_int))) (pe_slice sl_T (pe_ix ix_list (pv 3) (pe_un un_neg pe_int) (fun _ _ => rfl)) (po_some pe_int) po_none) (nomark _)) (pw_and1 (pt_val (pe_cal C__law_hangs hr pass1 (pa_cons (pv 6) (pa_cons (pe_slice sl_T (pv 5) (po_some pe_int) po_none) pa_nil))))))) (pss_one (ps_expr (pe_bm PySem.F.plainAttrs_list PySem.F.slot_list_append PySem.F.type_list_append mt_append (pv 4) (pa_cons (pv 5) pa_nil)))) pss_nil))))
      (pss_cons (ps_set (i := 7) sc__law_other.nd rfl (Or.inl rfl) (pe_op op_add (pe_cal C__law_cell_at hr pass1 (pa_cons (pv 0) (pa_cons (pe_op op_mod (pe_callB call_len_seq (by rfl) tt.b_len PySem.boot_len (pa_cons (pv 3) pa_nil)) (pe_op op_add (pe_callB call_len_seq (by rfl) tt.b_len PySem.boot_len (pa_cons (pv 0) pa_nil)) pe_int)) pa_nil))) (pe_callB call_len_seq (by rfl) tt.b_len PySem.boot_len (pa_cons (pv 3) pa_nil))))
      (pss_cons (ps_expr (pe_bm PySem.F.plainAttrs_list PySem.F.slot_list_append PySem.F.type_list_append mt_append (pv 3) (pa_cons (pe_ix ix_list (pv 4) (pe_op op_mod (pe_op op_fdiv (pe_cal C__law_mix hr pass1 (pa_cons (pv 7) (pa_cons pe_int pa_nil))) pe_int) (pe_callB call_len_seq (by rfl) tt.b_len PySem.boot_len (pa_cons (pv 4) pa_nil))) (fun _ _ => rfl)) pa_nil)))
      (pss_one (ps_expr (pe_bm PySem.F.plainAttrs_list PySem.F.slot_list_remove PySem.F.type_list_remove mt_remove (pv 2) (pa_cons (pe_ix ix_list (pv 3) (pe_un un_neg pe_int) (fun _ _ => rfl)) pa_nil)))))))))
      (pss_one (ps_ret (pe_bm PySem.F.plainAttrs_str PySem.F.slot_str_join PySem.F.type_str_join mt_join (pe_strT [] (by decide +kernel)) (pa_cons (pe_comp cs__law_other_1 rfl (pi_list (pv 3)) (fun cl C s' H' fp => (pe_ix ix_T (pv 0) pe_int (fun _ _ => rfl)))) pa_nil))))))), ?_⟩
    (try rw [cxK2]); (try rw [cxK1])
    refine ⟨_, rfl, W, _, rfl, .inl hW, fun L hL => ?_⟩
    have t1 := same_upd (o := .lst (ws.map T)) hL
    refine ⟨_, rfl, .inl ⟨rfl, _, SqL.of upd_same⟩, L, _, 0, 0, T w0, rfl, rfl, upd_same, by decide, by decide, (by rw [List.length_map]; exact PySem.StrLaws.seqIndex_nonneg (i := 0) (by decide) (by omega)), (by rw [List.getElem?_map, hw0]; rfl), (by show 1 ≤ sizeLine; omega), fun Gn hGn => ?_⟩
    rw [map_erase] at hGn ⊢
    have hHL : ∀ b o, H b = some o → b ≠ L := fun b o e z => by rw [z, hL] at e; cases e
    have hGL : Gn ≠ L := fun z => by rw [z, upd_same] at hGn; cases hGn
    have hHG : H Gn = none := by
      cases e : H Gn with
      | none => rfl
      | some o => rw [upd_ne hGL, t1 Gn o e] at hGn; cases hGn
    have hperm0 : ([w0] ++ ws.eraseIdx 0).Perm ws := by
      cases ws with
      | nil => cases h0
      | cons x r =>
        obtain rfl : x = w0 := Option.some.inj hw0
        exact List.Perm.refl _
    refine ⟨fun m σ G => ∃ (lf gs : List (List Nat)) (v4 v5 v6 v7 : Option V), m = lf.length ∧ (∀ b o, b ≠ L → b ≠ Gn → H b = some o → G b = some o) ∧ G L = some (.lst (lf.map T)) ∧ G Gn = some (.lst (gs.map T)) ∧ (gs ++ lf).Perm ws ∧ 1 ≤ gs.length ∧ gs[0]? = some w0 ∧ Hg.Tr Wd.beg Wd.fin (Wd.beg w0) gs (Wd.fin (Wd.lst gs)) ∧ Wd.Bal lf (Wd.fin (Wd.lst gs)) (Wd.beg w0) ∧ Wd.Conn lf (Wd.fin (Wd.lst gs)) ∧ σ = [some (.ref a), some (.ref W), some (.ref L), some (.ref Gn), v4, v5, v6, v7],
      ⟨_, ws.eraseIdx 0, [w0], none, none, none, none, rfl, fun b o h1 h2 e => by rw [upd_ne h2, upd_ne h1, upd_ne h1]; exact e, by rw [upd_ne hGL.symm]; exact upd_same, upd_same, hperm0, Nat.le_refl _, rfl, ⟨rfl, rfl⟩, hbal, hcon, rfl⟩, ?_⟩
    rintro m σ G ⟨lf, gs, v4, v5, v6, v7, hm, kG, hLG, hGG, hp, hg1, hg0, htr, hb, hc, rfl⟩
    have hpl := hp.length_eq
    rw [List.length_append] at hpl
    have hlfn : lf.Nodup := (List.nodup_append.mp (hp.nodup_iff.mpr hnd)).2.1
    have hlfm : ∀ w ∈ lf, w ∈ ws := fun w hw => hp.mem_iff.mp (List.mem_append_right _ hw)
    have hgsm : ∀ w ∈ gs, w ∈ ws := fun w hw => hp.mem_iff.mp (List.mem_append_left _ hw)
    have sG : Same H G := fun b o e => kG b o (hHL b o e) (fun z => by rw [z, hHG] at e; cases e) e
    refine ⟨_, rfl, L, _, rfl, .inl (SqL.of hLG), _, _, rfl, rfl, _, rfl, ?_⟩
    rw [List.length_map]
    by_cases hlt : 0 < lf.length
    · refine itP (decide_eq_true (by omega)) ?_
      refine ⟨_, fun σ' H' z => z, ?_⟩
      refine ⟨(by show 0 ≤ sizeLine; omega), fun S hS' => ?_⟩
      have t2 := same_upd (o := .lst []) hS'
      have hSL : S ≠ L := fun z => by rw [z, hLG] at hS'; cases hS'
      have hSG : S ≠ Gn := fun z => by rw [z, hGG] at hS'; cases hS'
      have hSH : H S = none := by
        cases e : H S with
        | none => rfl
        | some o => have := sG S o e; rw [hS'] at this; cases this
      have hll := hlen _ (hgsm _ (lst_mem (us := gs) hg1))
      refine ⟨_, rfl, L, rfl, ⟨_, SqL.of (t2 L _ hLG)⟩, ?_⟩
      refine for_list (K := K) (a := L) (xs := lf.map T) (fun j σ G2 => (∀ b o, b ≠ S → upd G S (.lst []) b = some o → G2 b = some o) ∧ (∃ ss : List (List Nat), G2 S = some (.lst (ss.map T)) ∧ ss.length ≤ j ∧ (∀ y ∈ ss, y ∈ lf ∧ Wd.beg y = Wd.fin (Wd.lst gs) ∧ Wd.Conn (lf.erase y) (Wd.fin y)) ∧ ∀ y ∈ lf.take j, Wd.beg y = Wd.fin (Wd.lst gs) → Wd.Conn (lf.erase y) (Wd.fin y) → y ∈ ss) ∧ ∃ v5 v6 v7 : Option V, σ = [some (.ref a), some (.ref W), some (.ref L), some (.ref Gn), some (.ref S), v5, v6, v7])
        ⟨fun b o _ e => e, ⟨[], upd_same, Nat.le_refl _, fun y hy => by simp at hy, fun y hy => by simp at hy⟩, _, _, _, rfl⟩ (fun j σ G2 _ h => SqL.of (h.1 L _ hSL.symm (t2 L _ hLG))) ?_ ?_
      · rintro j v σ G2 hj ⟨k2, ⟨ss, s2, l2, c2, d2⟩, v5, v6, v7, rfl⟩
        obtain ⟨wd, hwd, rfl⟩ : ∃ wd, lf[j]? = some wd ∧ T wd = v := by rw [List.getElem?_map] at hj; exact Option.map_eq_some_iff.mp hj
        have hwm := List.mem_of_getElem? hwd
        have hjl := (List.getElem?_eq_some_iff.mp hwd).1
        have hwn := hlen wd (hlfm wd hwm)
        have htk : lf.take (j + 1) = lf.take j ++ [wd] := by rw [List.take_add_one, hwd]; rfl
        have L2' := k2 L _ hSL.symm (t2 L _ hLG)
        have G2' := k2 Gn _ hSG.symm (t2 Gn _ hGG)
        refine ⟨_, rfl, L, rfl, ⟨_, SqL.of L2'⟩, ?_⟩
        refine compFG (fun v => !decide (unT v = wd)) (fun v => v) (reads_list (SqL.of L2')) (by rw [List.length_map]; omega) (fun v G5 hv s5 N hN => ?_) (fun v G5 hv hp s5 N hN => ?_) fun D5 G5 hD5 s5 hd5 => ?_
        · obtain ⟨l, hl, rfl⟩ := List.mem_map.mp hv
          have z := hN G5 (Same.refl _)
          rw [unT_T] at z
          exact ⟨_, rfl, _, rfl, _, rfl, _, rfl, _, rfl, z⟩
        · exact ⟨_, rfl, hN G5 (Same.refl _)⟩
        have hd5 : G5 D5 = some (.lst ((lf.erase wd).map T)) := by
          rw [hd5, show (lf.map T).filter (fun v => !decide (unT v = wd)) = (lf.filter fun o => !decide (o = wd)).map T from filter_unT (p := fun o => !decide (o = wd)) lf, ne_filter hlfn, List.map_id']
        have eb : cutL wd none (some (-1)) = Wd.beg wd := cut_begin (by omega)
        have ef : cutL wd (some 1) none = Wd.fin wd := cutL_from (k := 1) (by omega)
        have el : cutL (Wd.lst gs) (some 1) none = Wd.fin (Wd.lst gs) := cutL_from (k := 1) (by omega)
        have S5 := s5 S _ s2
        have kk : ∀ b o, b ≠ S → upd G S (.lst []) b = some o → G5 b = some o := fun b o hb e => s5 b o (k2 b o hb e)
        refine ⟨_, rfl, _, rfl, _, rfl, _, rfl, (by omega), _, rfl, _, rfl, Gn, _, _, _, rfl, rfl, SqL.of (s5 Gn _ G2'), atI_lst hg1, _, rfl, _, rfl, (by omega), _, rfl, _, rfl, _, rfl, ?_⟩
        rw [eb, el]
        by_cases hbf : Wd.beg wd = Wd.fin (Wd.lst gs)
        case neg =>
          refine itN (by rw [decide_eq_false hbf]; exact Bool.false_ne_true) ?_
          refine iteF ⟨kk, ⟨ss, S5, by omega, c2, fun y hy h1 h2 => ?_⟩, _, _, _, rfl⟩
          rw [htk] at hy
          rcases List.mem_append.mp hy with hy | hy
          · exact d2 y hy h1 h2
          · rw [List.mem_singleton.mp hy] at h1; exact absurd h1 hbf
        refine itP (decide_eq_true hbf) ?_
        refine ⟨_, rfl, _, rfl, _, rfl, _, rfl, (by omega), D5, lf.erase wd, _, n, rfl, SqL.of hd5, ⟨Nat.le_trans (List.length_erase_le ..) (by omega), hn1, hn8⟩, fun w hw => hlen w (hlfm w (List.mem_of_mem_erase hw)), fun b G6 s6 hbc => ?_⟩
        rw [ef] at hbc
        have S6 := s6 S _ S5
        have k6 : ∀ b o, b ≠ S → upd G S (.lst []) b = some o → G6 b = some o := fun b o hb e => s6 b o (kk b o hb e)
        cases b with
        | false =>
          refine ⟨_, rfl, iteF ?_⟩
          refine ⟨k6, ⟨ss, S6, by omega, c2, fun y hy h1 h2 => ?_⟩, _, _, _, rfl⟩
          rw [htk] at hy
          rcases List.mem_append.mp hy with hy | hy
          · exact d2 y hy h1 h2
          · rw [List.mem_singleton.mp hy] at h2; exact absurd (hbc.mpr h2) Bool.false_ne_true
        | true =>
          refine ⟨_, rfl, iteT ?_⟩
          refine ⟨_, rfl, .inl ⟨rfl, _, SqL.of S6⟩, _, rfl, S, _, _, rfl, rfl, S6, (by rw [List.length_map]; omega), ?_⟩
          refine ⟨fun b o hb e => by rw [upd_ne hb]; exact k6 b o hb e, ⟨ss ++ [wd], by rw [upd_same, List.map_append]; rfl, by rw [List.length_append]; show ss.length + 1 ≤ j + 1; omega, fun y hy => ?_, fun y hy h1 h2 => ?_⟩, _, _, _, rfl⟩
          · rcases List.mem_append.mp hy with hy | hy
            · exact c2 y hy
            · rw [List.mem_singleton.mp hy]; exact ⟨hwm, hbf, hbc.mp rfl⟩
          · rw [htk] at hy
            rcases List.mem_append.mp hy with hy | hy
            · exact List.mem_append_left _ (d2 y hy h1 h2)
            · rw [List.mem_singleton.mp hy]; exact List.mem_append_right _ (List.mem_singleton.mpr rfl)
      · rintro σ G2 ⟨k2, ⟨ss, s2, l2, c2, d2⟩, v5, v6, v7, rfl⟩
        rw [List.length_map] at l2 d2
        rw [List.take_length] at d2
        obtain ⟨e0, he0, hb0, hc0⟩ := Wd.fleury hb hc (fun z => by rw [z] at hlt; simp at hlt)
        have hs0 : 0 < ss.length := List.length_pos_of_mem (d2 e0 he0 hb0 hc0)
        have sG2 : Same H G2 := fun b o e => k2 b o (fun z => by rw [z, hSH] at e; cases e) (t2 b o (sG b o e))
        have L2' := k2 L _ hSL.symm (t2 L _ hLG)
        have G2' := k2 Gn _ hSG.symm (t2 Gn _ hGG)
        refine ⟨_, rfl, _, rfl, Gn, _, rfl, .inl (SqL.of G2'), _, rfl, a, _, rfl, .inl (sG2.seq hS), _, _, rfl, rfl, _, _, rfl, rfl, (by rw [List.length_map]; omega), a, ns, gs.length % (ns.length + 1), (by rw [List.length_map, List.length_map]; rfl), sG2.seq hS, _, rfl, Gn, _, rfl, .inl (SqL.of G2'), _, _, rfl, rfl, ?_⟩
        have hpos : (0 : Int) < (((ss.map T).length : Nat) : Int) := by rw [List.length_map]; omega
        refine ⟨_, rfl, .inl ⟨rfl, _, SqL.of G2'⟩, _, rfl, _, rfl, _, _, rfl, ⟨by decide, by decide⟩, _, _, rfl, rfl, ⟨by decide, by decide⟩, _, rfl, S, _, rfl, .inl (SqL.of s2), _, _, rfl, rfl, hpos, ?_⟩
        obtain ⟨yv, hym, hya⟩ := at_any (xs := ss.map T) (Int.emod_nonneg (mixZ (ns.getD (gs.length % (ns.length + 1)) 0 + (((gs.map T).length : Nat) : Int)) 11 / 5) (Int.ne_of_gt hpos)) (Int.emod_lt_of_pos _ hpos)
        obtain ⟨y, hy, rfl⟩ := List.mem_map.mp hym
        obtain ⟨hyl, hyb, hyc⟩ := c2 y hy
        refine ⟨S, _, _, _, rfl, rfl, SqL.of s2, hya, Gn, _, _, rfl, rfl, G2', (by rw [List.length_map]; omega), ?_⟩
        rw [show gs.map T ++ [T y] = (gs ++ [y]).map T by rw [List.map_append]; rfl]
        obtain ⟨j, hj1, hj2, hj3⟩ := erase_ix hyl
        refine ⟨_, rfl, .inl ⟨rfl, _, SqL.of (by rw [upd_ne hGL.symm]; exact L2')⟩, _, rfl, _, rfl, Gn, _, _, _, rfl, rfl, SqL.of upd_same, atI_lst (by rw [List.length_append]; omega), L, lf, y, j, rfl, (by rw [Wd.lst_snoc]), (by rw [upd_ne hGL.symm]; exact L2'), hj1, hj2, ?_⟩
        rw [hj3]
        refine ⟨(lf.erase y).length, by rw [List.length_erase_of_mem hyl]; omega, lf.erase y, gs ++ [y], _, _, _, _, rfl, fun b o h1 h2 e => by rw [upd_ne h1, upd_ne h2]; exact sG2 b o e, upd_same, by rw [upd_ne hGL]; exact upd_same, ?_, by rw [List.length_append]; omega, by rw [List.getElem?_append_left (by omega)]; exact hg0, ?_, ?_, ?_, rfl⟩
        · rw [List.append_assoc]
          exact (List.Perm.append_left gs (List.perm_cons_erase hyl).symm).trans hp
        · rw [Wd.lst_snoc]
          refine Hg.Tr.snoc ?_
          rw [hyb]
          exact htr
        · rw [Wd.lst_snoc]
          exact hb.step hyl hyb
        · rw [Wd.lst_snoc]
          exact hyc
    · refine itN (by rw [decide_eq_false (by omega)]; exact Bool.false_ne_true) ?_
      obtain rfl : lf = [] := List.length_eq_zero_iff.mp (by omega)
      rw [List.append_nil] at hp
      have hcl : Wd.fin (Wd.lst gs) = Wd.beg w0 := by
        refine Classical.byContradiction fun z => ?_
        obtain ⟨e, he, _⟩ := hb.out z
        cases he
      rw [hcl] at htr
      have hring := Wd.ring_tr hn1 (fun w hw => hlen w (hgsm w hw)) htr
      refine ⟨rfl, _, rfl, Gn, rfl, ⟨_, SqL.of hGG⟩, ?_⟩
      refine compG (fun v => T [Wd.hd (unT v)]) (reads_list (SqL.of hGG)) (by rw [List.length_map]; simp at hpl; omega) (fun v G5 hv s5 N hN => ?_) fun D5 G5 hD5 s5 hd5 => ?_
      · obtain ⟨wd, hwd, rfl⟩ := List.mem_map.mp hv
        have g := hN G5 (Same.refl _)
        rw [unT_T] at g
        have hwn := hlen wd (hgsm wd hwd)
        refine ⟨_, rfl, _, rfl, _, rfl, (by omega), _, (show atI wd 0 = some (Wd.hd wd) from atI_nat (j := 0) ?_), g⟩
        unfold Wd.hd
        rw [List.getD_eq_getElem?_getD, List.getElem?_eq_getElem (by omega)]
        rfl
      have hd5 : G5 D5 = some (.lst (((gs.map Wd.hd).map fun c => [c]).map T)) := by
        rw [hd5, List.map_map, List.map_map, List.map_map]
        refine congrArg (fun l => some (HO.lst l)) (List.map_congr_left fun m _ => ?_)
        show T [Wd.hd (unT (T m))] = _
        rw [unT_T]
        rfl
      refine ⟨rfl, D5, _, rfl, SqL.of hd5, (by rw [letters_flat, List.length_map]; simp at hpl; omega), ?_⟩
      rw [letters_flat]
      refine q _ _ (sG.trans s5) (by unfold RingOf; rw [hring]; exact hp) ?_
      have g := Wd.ringW_get (t := gs.map Wd.hd) (n := n) (i := 0) (by rw [List.length_map]; omega)
      rw [hring, hg0] at g
      exact (Option.some.inj g).symm

noncomputable def spLeads (C : Addr) : Sp := fun vs H Q _ => ∃ (x tp : Addr) (r g m0 : List Nat) (n : Nat) (ms : List (List Nat)), vs = [.ref x, .int (n : Nat), T r, T g] ∧ YesR C H x tp r m0 n ms ∧ YesR C H x tp g m0 n ms ∧ ms.Nodup ∧ r.length ≤ 59 ∧ ∀ H', Same H H' → Q (.bl true) H'
theorem ok__law_leads {f : Addr} {fd : FuncData} (F : Fun K "_law_leads" "_law_leads" s__law_leads f fd) (tt : Txt K mg ad) (C_led : Cal P w K mg base (CX1 P w) "led" 8 ["web", "one", "two"] (spLed ad.Web)) (C__law_pieces : Cal P w K mg base (CX1 P w) "_law_pieces" 2 ["ring", "length"] spPcs) (C__law_fits : Cal P w K mg base (CX1 P w) "_law_fits" 1 ["along", "deed"] (spFits K)) (C__law_cut : Cal P w K mg base (CX1 P w) "_law_cut" 1 ["ring", "deed"] (spCut K)) : FnOk P w K mg base (CX1 P w) 9 f fd ["web", "length", "one", "two"] (spLeads ad.Web) := by
  refine F.okN sc__law_leads (fun vs H Q E h => ?_) (fun cdv A outer s H vs Q E hr h => ?_)
  · obtain ⟨x, tp, r, g, m0, n, ms, rfl, _⟩ := h
    rfl
  · obtain ⟨x, tp, r, g, m0, n, ms, rfl, hN, hG, hnd, h59, q⟩ := h
    have hs : sizeLine = 16777216 := sizeLine_eq
    obtain ⟨hl, hn⟩ := hN.le
    refine ⟨_, (pss_cons (ps_set (i := 4) sc__law_leads.nd rfl (Or.inl rfl) (pe_cal C_led hr pass1 (pa_cons (pv 0) (pa_cons (pv 2) (pa_cons (pv 3) pa_nil)))))
      (pss_cons (ps_if (PW.pt (pw_or (pt_not (pt_val (pe_callB call_isinst (by rfl) tt.b_isinstance PyProof.Rows.boot_isinstance (pa_cons (pv 4) (pa_cons (pe_bltn (v := .ty "list") (u := .type "list") (by rfl) tt.b_list (by decide +kernel) rfl) pa_nil))))) (pw_or1 (pt_cmpR op_gt (pe_callB call_len_seq (by rfl) tt.b_len PySem.boot_len (pa_cons (pv 4) pa_nil)) (pe_callB (call_max2 rfl) (by rfl) tt.b_max PyProof.Rows.boot_max (pa_cons pe_int (pa_cons (pe_op op_sub (pe_callB call_len_T (by rfl) tt.b_len PySem.boot_len (pa_cons (pv 2) pa_nil)) pe_int) pa_nil))) (nomark _))))) (pss_one (ps_ret pe_bl)) pss_nil)
      (pss_cons (ps_set (i := 5) sc__law_leads.nd rfl (Or.inl rfl) (pv 2))
      (pss_cons (ps_for PassesOwn.never rfl (pi_list (pv 4)) (pg_name (i := 6) sc__law_leads.nd rfl (Or.inl rfl)) (pss_cons (ps_if (PW.pt (pw_or (pt_not (pt_val (pe_callB call_isinst (by rfl) tt.b_isinstance PyProof.Rows.boot_isinstance (pa_cons (pv 6) (pa_cons (pe_bltn (v := .ty "tuple") (u := .type "tuple") (by rfl) tt.b_tuple (by decide +kernel) rfl) pa_nil))))) (pw_or (pt_cmpR op_ne_I (pe_callB call_len_seq (by rfl) tt.b_len PySem.boot_len (pa_cons (pv 6) pa_nil)) pe_int (nomark _)) (pw_or1 (pt_not (pt_val (pe_cal C__law_fits hr pass1 (pa_cons (pe_cal C__law_pieces hr pass1 (pa_cons (pv 5) (pa_cons (pv 1) pa_nil))) (pa_cons (pv 6) pa_nil))))))))) (pss_one (ps_ret pe_bl)) pss_nil)
      (pss_one (ps_set (i := 5) sc__law_leads.nd rfl (Or.inl rfl) (pe_cal C__law_cut hr pass1 (pa_cons (pv 5) (pa_cons (pv 6) pa_nil)))))))
      (pss_cons (ps_expr (pe_bm PySem.F.plainAttrs_list PySem.F.slot_list_append PySem.F.type_list_append mt_append (pv 4) (pa_cons (pe_tup (pa_cons pe_int (pa_cons pe_int (pa_cons pe_int (pa_cons pe_int pa_nil))))) pa_nil)))
      (pss_one (ps_ret (pe_cmpR op_eq_T (pv 5) (pv 3) (nomark _))))))))), ?_⟩
    (try rw [cxK2]); (try rw [cxK1])
    refine ⟨_, rfl, _, rfl, _, rfl, x, tp, r, g, m0, n, ms, rfl, hN, hG, hnd, h59, fun D ps qs H1 hD s1 htu hd1 hfit hend hql _ => ?_⟩
    have hpl := htu.len
    refine ⟨_, rfl, _, _, _, _, rfl, .lst hd1, kit_same _, _, rfl, iteF ?_⟩
    refine ⟨_, rfl, D, _, rfl, .inl (SqL.of hd1), _, rfl, _, rfl, (by omega), _, _, rfl, rfl, _, _, rfl, _, _, rfl, rfl, _, rfl, itN (by rw [List.length_map, decide_eq_false (by omega)]; exact Bool.false_ne_true) ?_⟩
    refine ⟨_, rfl, ?_⟩
    refine ⟨_, rfl, D, rfl, ⟨_, SqL.of hd1⟩, ?_⟩
    refine for_list (K := K) (a := D) (xs := ps.map V.ref) (fun j σ G => Same H1 G ∧ ∃ v6 : Option V, σ = [some (.ref x), some (.int (n : Nat)), some (T r), some (T g), some (.ref D), some (T (endT r (qs.take j))), v6]) ⟨Same.refl _, none, rfl⟩ (fun j σ G _ h => SqL.of (h.1 D _ hd1)) ?_ ?_
    · rintro j v σ G hj ⟨sG, v6, rfl⟩
      rw [List.getElem?_map] at hj
      obtain ⟨pd, hpd, rfl⟩ := Option.map_eq_some_iff.mp hj
      obtain ⟨qd, hqd, hpt⟩ := htu.get hpd
      have hpt := sG pd _ hpt
      have hsplit : qs = qs.take j ++ qd :: qs.drop (j + 1) := by
        have hjl := (List.getElem?_eq_some_iff.mp hqd).1
        rw [← (List.getElem?_eq_some_iff.mp hqd).2, List.getElem_cons_drop, List.take_append_drop]
      obtain ⟨hf1, hf2⟩ := AllFit.mid (n := n) (t := r) (xs := qs.take j) (q := qd) (ys := qs.drop (j + 1)) (hsplit ▸ hfit)
      obtain ⟨hY, hYl⟩ := hN.walk hf1
      have htk : qs.take (j + 1) = qs.take j ++ [qd] := by rw [List.take_add_one, hqd]; rfl
      have hst : endT r (qs.take (j + 1)) = stp (endT r (qs.take j)) qd := by
        unfold endT
        rw [htk, List.foldl_append]
        rfl
      obtain ⟨a1, b1, c1, d1, rfl, hF⟩ := hf2
      rw [hst]
      generalize endT r (qs.take j) = t at hY hYl hF
      refine ⟨_, rfl, _, _, _, _, rfl, .tup hpt, kit_same _, _, rfl, iteF ?_⟩
      refine ⟨_, rfl, pd, _, rfl, .inr (SqT.of hpt), _, rfl, _, rfl, _, rfl, itN (by exact Bool.false_ne_true) ?_⟩
      refine ⟨_, rfl, _, rfl, t, n, rfl, ⟨by omega, by omega, by omega⟩, (by omega), fun Dal G1 s2 hal => ?_⟩
      refine ⟨_, rfl, Wd.metL t n, Dal, pd, a1, b1, c1, d1, rfl, SqL.of hal, SqT.of (s2 pd _ hpt), ?_⟩
      rw [decide_eq_true hF]
      refine ⟨_, rfl, iteF ?_⟩
      refine ⟨_, rfl, _, rfl, t, pd, a1, b1, c1, d1, rfl, (by omega), SqT.of (s2 pd _ hpt), fun G2 s3 => ?_⟩
      exact ⟨sG.trans (s2.trans s3), _, rfl⟩
    · rintro σ G ⟨sG, v6, rfl⟩
      rw [List.length_map, hpl, List.take_length, hend]
      have hdG := sG D _ hd1
      refine ⟨_, rfl, .inl ⟨rfl, _, SqL.of hdG⟩, (by show 4 ≤ sizeLine; omega), fun p1 hp1 => ?_⟩
      have t1 := same_upd (o := .tup [.int 0, .int 0, .int 0, .int 0]) hp1
      refine ⟨D, _, _, rfl, rfl, t1 D _ hdG, (by rw [List.length_map]; omega), ?_⟩
      refine ⟨_, rfl, _, rfl, _, rfl, _, rfl, ?_⟩
      rw [decide_eq_true rfl]
      exact q _ fun b o e => by rw [upd_ne (ne_of_none e hD)]; exact t1 b o (sG b o (s1 b o e))
theorem sorted_first {qs : List (List Nat)} {m y : List Nat} (h : qs.Pairwise (fun a b => ¬ b < a)) (hm : qs[0]? = some m) (hy : y ∈ qs) : ¬ y < m := by
  cases qs with
  | nil => cases hy
  | cons q r =>
    rw [List.getElem?_cons_zero] at hm
    obtain rfl := Option.some.inj hm
    rcases List.mem_cons.mp hy with rfl | hy
    · exact List.lt_irrefl _
    · exact (List.pairwise_cons.mp h).1 y hy

noncomputable def spLaw (K : PySem.W.Frag) : Sp := fun vs H Q _ => ∃ (a : Addr) (ns : List Int), vs = [.ref a] ∧ SqL K H a (ns.map V.int) ∧ ns.length ≤ 63 ∧ ∀ H', Q (.bl true) H'
theorem ok_law {f : Addr} {fd : FuncData} (F : Fun K "law" "law" s_law f fd) (tt : Txt K mg ad) (C__law_round : Cal P w K mg base (CX1 P w) "_law_round" 1 ["text", "length"] spRingW)
    (C__law_ring : Cal P w K mg base (CX1 P w) "_law_ring" 3 ["script", "most"] (spRingL K)) (C_Web_init : Cam P w K mg base (CX1 P w) "Web" ad.Web 5 ["self", "words"] (spWebI K ad.Web)) (C__law_other : Cal P w K mg base (CX1 P w) "_law_other" 2 ["script", "words"] (spOther K)) (C_led : Cal P w K mg base (CX1 P w) "led" 8 ["web", "one", "two"] (spLed ad.Web)) (C__law_leads : Cal P w K mg base (CX1 P w) "_law_leads" 9 ["web", "length", "one", "two"] (spLeads ad.Web)) : FnOk P w K mg base (CX1 P w) 10 f fd ["script"] (spLaw K) := by
  refine F.okN sc_law (fun vs H Q E h => ?_) (fun cdv A outer s H vs Q E hr h => ?_)
  · obtain ⟨a, ns, rfl, _⟩ := h
    rfl
  · obtain ⟨a, ns, rfl, hS, hlen, q⟩ := h
    have hs : sizeLine = 16777216 := sizeLine_eq
    have hu := Nat.lt_of_succ_lt (hu_of hr)
    refine ⟨_, (pss_cons (ps_asg (pe_cal C__law_ring hr pass1 (pa_cons (pv 0) (pa_cons pe_int pa_nil))) (pg_tup rfl (pgs_cons (pg_name (i := 1) sc_law.nd rfl (Or.inl rfl)) (pgs_cons (pg_name (i := 2) sc_law.nd rfl (Or.inl rfl)) (pgs_cons (pg_name (i := 3) sc_law.nd rfl (Or.inl rfl)) pgs_nil)))))
      (pss_cons (ps_set (i := 4) sc_law.nd rfl (Or.inl rfl) (pe_callB call_sortedA (by rfl) tt.b_sorted PyProof.Rows.boot_sorted (pa_cons (pe_cal C__law_round hr pass1 (pa_cons (pv 1) (pa_cons (pv 2) pa_nil))) pa_nil)))
      (pss_cons (ps_set (i := 5) sc_law.nd rfl (Or.inl rfl) (pe_mak C_Web_init hr pass1 (pa_cons (pv 4) pa_nil)))
      (pss_cons (ps_set (i := 6) sc_law.nd rfl (Or.inl rfl) (pe_cal C__law_other hr pass1 (pa_cons (pv 0) (pa_cons (pv 4) pa_nil))))
      (pss_cons (ps_if (PW.pt (pw_or (pt_cmpR (op_ne_LTI (hu_of hr)) (pe_cal C_led hr pass1 (pa_cons (pv 5) (pa_cons (pv 1) (pa_cons (pv 1) pa_nil)))) (pe_lst pa_nil) (nomark _)) (pw_or1 (pt_not (pt_val (pe_cal C__law_leads hr pass1 (pa_cons (pv 5) (pa_cons (pv 2) (pa_cons (pv 1) (pa_cons (pv 6) pa_nil)))))))))) (pss_one (ps_ret pe_bl)) pss_nil)
      (pss_one (ps_ret (pe_and (pe_cal C__law_leads hr pass1 (pa_cons (pv 5) (pa_cons (pv 2) (pa_cons (pv 6) (pa_cons (pv 1) pa_nil))))) (pe_one (pe_cal C__law_leads hr pass1 (pa_cons (pv 5) (pa_cons (pv 2) (pa_cons (pv 1) (pa_cons (pv 6) pa_nil)))))))))))))), ?_⟩
    (try rw [cxK2]); (try rw [cxK1])
    refine ⟨_, rfl, a, ns, 40, rfl, hS, hlen, ⟨by decide, by decide⟩, fun u n k c0 H1 hdr s1 hc0 => ⟨c0, _, rfl, SqT.of hc0, rfl, _, _, rfl, _, _, rfl, _, _, rfl, rfl, ?_⟩⟩
    obtain ⟨hn, hk, hul, hab, hnd, hmin⟩ := hdr
    have hrl := Wd.ringW_len u n
    refine ⟨_, rfl, _, rfl, u, n, rfl, ⟨by omega, by omega, by omega⟩, fun D H2 hD s2 hd2 => ?_⟩
    refine ⟨D, Wd.ringW u n, rfl, SqL.of hd2, fun ws W hW hpw hww => ?_⟩
    have t3 := same_upd (o := .lst (ws.map T)) hW
    have hdW : upd H2 W (.lst (ws.map T)) W = some (.lst (ws.map T)) := upd_same
    generalize upd H2 W (.lst (ws.map T)) = H3 at t3 hdW
    have hwl := hpw.length_eq
    have hwnd : ws.Nodup := hpw.nodup_iff.mpr hnd
    have hwm : ∀ y ∈ ws, y.length = n ∧ ∀ c ∈ y, 97 ≤ c ∧ c < 103 := fun y hy => by
      obtain ⟨y1, y2⟩ := ringW_mem (by omega) (hpw.mem_iff.mp hy)
      exact ⟨y1, fun c hc => hab c (y2 c hc)⟩
    refine ⟨_, rfl, ?_⟩
    refine fun x dx nx ndx nex => ?_
    have s4 : Same H3 (upd (upd H3 dx (.own x)) x (.ins ad.Web dx [])) := fun b o e => by
      rw [upd_ne (ne_of_none e nx), upd_ne (ne_of_none e ndx)]
      exact e
    have hwok : WebOk ws n := ⟨fun z => by rw [z, List.length_nil] at hwl; omega, by omega, hn, hwm, hwnd⟩
    refine ⟨x, dx, W, _, n, rfl, upd_same, SqL.of (s4 W _ hdW), hwok, fun tp qs H5 hp5 hw5 k5 hx5 ht5 => ⟨rfl, ?_⟩⟩
    obtain rfl : qs = ws := Wd.sorted_same hp5 hw5 hww
    have s5 : Same H3 H5 := fun b o e => k5 b o (s4 b o e) (ne_of_none e nx)
    have hWe : WebAt ad.Web H5 x tp n qs := ⟨⟨dx, hx5⟩, ht5⟩
    have hW5 := s5 W _ hdW
    have sH5 : Same H H5 := s1.trans (s2.trans (t3.trans s5))
    have hl0 : 0 < qs.length := by omega
    obtain ⟨m0, hm0⟩ : ∃ m0, qs[0]? = some m0 := ⟨_, List.getElem?_eq_getElem hl0⟩
    have h0 : m0 ∈ qs := List.mem_of_getElem? hm0
    have hu0 : Wd.ringAt u n 0 = m0 := by
      have hm : m0 ∈ Wd.ringW u n := hpw.mem_iff.mp h0
      have h1 := hmin m0 hm
      have h2 : ¬ Wd.ringAt u n 0 < m0 := by
        have hin : Wd.ringAt u n 0 ∈ qs := hpw.mem_iff.mpr (List.mem_of_getElem? (Wd.ringW_get (t := u) (n := n) (i := 0) (by omega)))
        exact sorted_first hww hm0 hin
      exact Std.Trichotomous.trichotomous _ _ h2 h1
    have hyes : ∀ {G : Hp} {t : List Nat}, WebAt ad.Web G x tp n qs → RingOf t n qs → Wd.ringAt t n 0 = m0 → YesR ad.Web G x tp t m0 n qs ∧ t.length = qs.length := fun {G t} hg g1 g2 => by
      have hl := g1.length_eq
      rw [Wd.ringW_len] at hl
      exact ⟨⟨hg, hww, ⟨⟨by omega, by omega⟩, by omega, by omega⟩, hm0, g1, g2⟩, hl⟩
    have hbc : Wd.Bal (qs.eraseIdx 0) (Wd.fin m0) (Wd.beg m0) ∧ Wd.Conn (qs.eraseIdx 0) (Wd.fin m0) := by
      have hst := Wd.seg_tr' (t := u) (n := n) (i := 0) (j := u.length) (Nat.zero_le _)
      rw [Wd.seg_all, Wd.ringAt_end, hu0] at hst
      have hg := Wd.ringW_get (t := u) (n := n) (i := 0) (by omega)
      rw [hu0] at hg
      obtain ⟨y, rest, hr'⟩ : ∃ y rest, Wd.ringW u n = y :: rest := by
        cases e : Wd.ringW u n with
        | nil => rw [e] at hg; cases hg
        | cons y r => exact ⟨y, r, rfl⟩
      rw [hr'] at hst hg hpw
      obtain rfl : y = m0 := Option.some.inj hg
      have hp2 : rest.Perm (qs.eraseIdx 0) := by
        cases qs with
        | nil => cases h0
        | cons z r =>
          obtain rfl : z = y := Option.some.inj hm0
          exact ((List.perm_cons z).mp hpw).symm
      exact ⟨(Wd.tr_bal hst.2).perm hp2, (Wd.tr_conn hst.2).perm hp2⟩
    refine ⟨_, rfl, _, rfl, a, W, ns, qs, m0, n, rfl, sH5.seq hS, hlen, SqL.of hW5, ⟨by omega, by omega, hn.1, hn.2⟩, fun w hw => (hwm w hw).1, hwnd, hm0, hbc, fun g H6 s6 hg1 hg2 => ?_⟩
    have hW6 := hWe.on s6
    obtain ⟨hYu, hulen⟩ := hyes hW6 hpw.symm hu0
    obtain ⟨hYg, hglen⟩ := hyes hW6 hg1 hg2
    refine ⟨_, rfl, _, rfl, _, rfl, x, tp, u, u, m0, n, qs, rfl, hYu, hYu, hwnd, (by omega), fun D7 ps ds H7 hD7 s7 htu hd7 hfit hend hdl hemp => ?_⟩
    obtain rfl := hemp rfl
    obtain rfl : ps = [] := List.length_eq_zero_iff.mp htu.len
    refine ⟨(by show 0 ≤ sizeLine; omega), fun p8 hp8 => ?_⟩
    have t8 := same_upd (o := .lst []) hp8
    refine ⟨D7, p8, rfl, rfl, ⟨[], [], SqL.of (t8 D7 _ hd7), SqL.of upd_same, rfl, fun i h1 => absurd h1 (by simp)⟩, _, rfl, itN Bool.false_ne_true ?_⟩
    have s8 := s7.trans t8
    refine ⟨_, rfl, _, rfl, _, rfl, _, rfl, x, tp, u, g, m0, n, qs, rfl, hYu.on s8, hYg.on s8, hwnd, (by omega), fun H9 s9 => ?_⟩
    refine ⟨_, rfl, iteF ?_⟩
    have s89 := s8.trans s9
    refine ⟨_, rfl, _, rfl, _, rfl, _, rfl, x, tp, g, u, m0, n, qs, rfl, hYg.on s89, hYu.on s89, hwnd, (by omega), fun H10 s10 => ?_⟩
    have s810 := s89.trans s10
    refine ⟨_, rfl, itP rfl ?_⟩
    exact ⟨_, rfl, _, rfl, _, rfl, _, rfl, x, tp, u, g, m0, n, qs, rfl, hYu.on s810, hYg.on s810, hwnd, (by omega), fun H11 s11 => q _⟩

end
theorem all_mk {l : PySem.W.OpenLaw} {w : World} {K : PySem.W.Frag} {h : Heap} {mg : Str → Option Value} {fa : Addr} (X : K.In h) (G : h.Ns mainGlobals mg) (hfa : mg "law" = some (.ref fa))
    {f_looked_kinds : Addr} {od_looked_kinds an_looked_kinds : Option Addr} {sl_looked_kinds : Array (Option Value)} {oc_looked_kinds kV_looked_kinds dc_looked_kinds pm_looked_kinds cd_looked_kinds ct_looked_kinds : Value}
    {f_looked_length : Addr} {od_looked_length an_looked_length : Option Addr} {sl_looked_length : Array (Option Value)} {oc_looked_length kV_looked_length dc_looked_length pm_looked_length cd_looked_length ct_looked_length : Value}
    {f_letters : Addr} {od_letters an_letters : Option Addr} {sl_letters : Array (Option Value)} {oc_letters kV_letters dc_letters pm_letters cd_letters ct_letters : Value}
    {f_looked : Addr} {od_looked an_looked : Option Addr} {sl_looked : Array (Option Value)} {oc_looked kV_looked dc_looked pm_looked cd_looked ct_looked : Value}
    {f_row_windows : Addr} {od_row_windows an_row_windows : Option Addr} {sl_row_windows : Array (Option Value)} {oc_row_windows kV_row_windows dc_row_windows pm_row_windows cd_row_windows ct_row_windows : Value}
    {f_ring_windows : Addr} {od_ring_windows an_ring_windows : Option Addr} {sl_ring_windows : Array (Option Value)} {oc_ring_windows kV_ring_windows dc_ring_windows pm_ring_windows cd_ring_windows ct_ring_windows : Value}
    {f_windows : Addr} {od_windows an_windows : Option Addr} {sl_windows : Array (Option Value)} {oc_windows kV_windows dc_windows pm_windows cd_windows ct_windows : Value}
    {f_looked_web : Addr} {od_looked_web an_looked_web : Option Addr} {sl_looked_web : Array (Option Value)} {oc_looked_web kV_looked_web dc_looked_web pm_looked_web cd_looked_web ct_looked_web : Value}
    {f_Web_init : Addr} {od_Web_init an_Web_init : Option Addr} {sl_Web_init : Array (Option Value)} {oc_Web_init kV_Web_init dc_Web_init pm_Web_init cd_Web_init ct_Web_init : Value}
    {f_begin_of : Addr} {od_begin_of an_begin_of : Option Addr} {sl_begin_of : Array (Option Value)} {oc_begin_of kV_begin_of dc_begin_of pm_begin_of cd_begin_of ct_begin_of : Value}
    {f_is_turned_ring : Addr} {od_is_turned_ring an_is_turned_ring : Option Addr} {sl_is_turned_ring : Array (Option Value)} {oc_is_turned_ring kV_is_turned_ring dc_is_turned_ring pm_is_turned_ring cd_is_turned_ring ct_is_turned_ring : Value}
    {f_is_ring : Addr} {od_is_ring an_is_ring : Option Addr} {sl_is_ring : Array (Option Value)} {oc_is_ring kV_is_ring dc_is_ring pm_is_ring cd_is_ring ct_is_ring : Value}
    {f_pieces_met : Addr} {od_pieces_met an_pieces_met : Option Addr} {sl_pieces_met : Array (Option Value)} {oc_pieces_met kV_pieces_met dc_pieces_met pm_pieces_met cd_pieces_met ct_pieces_met : Value}
    {f_places_from : Addr} {od_places_from an_places_from : Option Addr} {sl_places_from : Array (Option Value)} {oc_places_from kV_places_from dc_places_from pm_places_from cd_places_from ct_places_from : Value}
    {f_is_exchange : Addr} {od_is_exchange an_is_exchange : Option Addr} {sl_is_exchange : Array (Option Value)} {oc_is_exchange kV_is_exchange dc_is_exchange pm_is_exchange cd_is_exchange ct_is_exchange : Value}
    {f_exchange : Addr} {od_exchange an_exchange : Option Addr} {sl_exchange : Array (Option Value)} {oc_exchange kV_exchange dc_exchange pm_exchange cd_exchange ct_exchange : Value}
    {f_deed_toward : Addr} {od_deed_toward an_deed_toward : Option Addr} {sl_deed_toward : Array (Option Value)} {oc_deed_toward kV_deed_toward dc_deed_toward pm_deed_toward cd_deed_toward ct_deed_toward : Value}
    {f_led : Addr} {od_led an_led : Option Addr} {sl_led : Array (Option Value)} {oc_led kV_led dc_led pm_led cd_led ct_led : Value}
    {f__law_mix : Addr} {od__law_mix an__law_mix : Option Addr} {sl__law_mix : Array (Option Value)} {oc__law_mix kV__law_mix dc__law_mix pm__law_mix cd__law_mix ct__law_mix : Value}
    {f__law_cell_at : Addr} {od__law_cell_at an__law_cell_at : Option Addr} {sl__law_cell_at : Array (Option Value)} {oc__law_cell_at kV__law_cell_at dc__law_cell_at pm__law_cell_at cd__law_cell_at ct__law_cell_at : Value}
    {f__law_round : Addr} {od__law_round an__law_round : Option Addr} {sl__law_round : Array (Option Value)} {oc__law_round kV__law_round dc__law_round pm__law_round cd__law_round ct__law_round : Value}
    {f__law_first_twice : Addr} {od__law_first_twice an__law_first_twice : Option Addr} {sl__law_first_twice : Array (Option Value)} {oc__law_first_twice kV__law_first_twice dc__law_first_twice pm__law_first_twice cd__law_first_twice ct__law_first_twice : Value}
    {f__law_once : Addr} {od__law_once an__law_once : Option Addr} {sl__law_once : Array (Option Value)} {oc__law_once kV__law_once dc__law_once pm__law_once cd__law_once ct__law_once : Value}
    {f__law_text : Addr} {od__law_text an__law_text : Option Addr} {sl__law_text : Array (Option Value)} {oc__law_text kV__law_text dc__law_text pm__law_text cd__law_text ct__law_text : Value}
    {f__law_ring : Addr} {od__law_ring an__law_ring : Option Addr} {sl__law_ring : Array (Option Value)} {oc__law_ring kV__law_ring dc__law_ring pm__law_ring cd__law_ring ct__law_ring : Value}
    {f__law_pieces : Addr} {od__law_pieces an__law_pieces : Option Addr} {sl__law_pieces : Array (Option Value)} {oc__law_pieces kV__law_pieces dc__law_pieces pm__law_pieces cd__law_pieces ct__law_pieces : Value}
    {f__law_fits : Addr} {od__law_fits an__law_fits : Option Addr} {sl__law_fits : Array (Option Value)} {oc__law_fits kV__law_fits dc__law_fits pm__law_fits cd__law_fits ct__law_fits : Value}
    {f__law_cut : Addr} {od__law_cut an__law_cut : Option Addr} {sl__law_cut : Array (Option Value)} {oc__law_cut kV__law_cut dc__law_cut pm__law_cut cd__law_cut ct__law_cut : Value}
    {f__law_hangs : Addr} {od__law_hangs an__law_hangs : Option Addr} {sl__law_hangs : Array (Option Value)} {oc__law_hangs kV__law_hangs dc__law_hangs pm__law_hangs cd__law_hangs ct__law_hangs : Value}
    {f__law_other : Addr} {od__law_other an__law_other : Option Addr} {sl__law_other : Array (Option Value)} {oc__law_other kV__law_other dc__law_other pm__law_other cd__law_other ct__law_other : Value}
    {f__law_leads : Addr} {od__law_leads an__law_leads : Option Addr} {sl__law_leads : Array (Option Value)} {oc__law_leads kV__law_leads dc__law_leads pm__law_leads cd__law_leads ct__law_leads : Value}
    {f_law : Addr} {od_law an_law : Option Addr} {sl_law : Array (Option Value)} {oc_law kV_law dc_law pm_law cd_law ct_law : Value}
    {c_OnceError : Addr}
    {c_BadKinds : Addr}
    {c_BadWord : Addr}
    {c_TooMany : Addr}
    {c_NotOne : Addr}
    {c_BadDeed : Addr}
    {c_Web : Addr}
    {u_LETTERS : Value}
    {u_LONGEST : Value}
    {u_MOST_OF_A_WEB : Value}
    {u_LONGEST_OF_A_WEB : Value}
    (a_looked_kinds : PySem.W.nsIn K mainGlobals "looked_kinds" = some (some (.ref f_looked_kinds))) (l_looked_kinds : K.lookup f_looked_kinds = some ⟨oc_looked_kinds, od_looked_kinds, .func (PySem.W.fnOf "looked_kinds" "looked_kinds" (defArgs s_looked_kinds) (defBody s_looked_kinds) (defScope s_looked_kinds) .none kV_looked_kinds dc_looked_kinds pm_looked_kinds an_looked_kinds cd_looked_kinds ct_looked_kinds), sl_looked_kinds⟩) (c_looked_kinds : PySem.W.codeIn K cd_looked_kinds "looked_kinds" = true) (k_looked_kinds : PySem.W.keepIn K (.ref f_looked_kinds) = true)
    (a_looked_length : PySem.W.nsIn K mainGlobals "looked_length" = some (some (.ref f_looked_length))) (l_looked_length : K.lookup f_looked_length = some ⟨oc_looked_length, od_looked_length, .func (PySem.W.fnOf "looked_length" "looked_length" (defArgs s_looked_length) (defBody s_looked_length) (defScope s_looked_length) .none kV_looked_length dc_looked_length pm_looked_length an_looked_length cd_looked_length ct_looked_length), sl_looked_length⟩) (c_looked_length : PySem.W.codeIn K cd_looked_length "looked_length" = true) (k_looked_length : PySem.W.keepIn K (.ref f_looked_length) = true)
    (a_letters : PySem.W.nsIn K mainGlobals "letters" = some (some (.ref f_letters))) (l_letters : K.lookup f_letters = some ⟨oc_letters, od_letters, .func (PySem.W.fnOf "letters" "letters" (defArgs s_letters) (defBody s_letters) (defScope s_letters) .none kV_letters dc_letters pm_letters an_letters cd_letters ct_letters), sl_letters⟩) (c_letters : PySem.W.codeIn K cd_letters "letters" = true) (k_letters : PySem.W.keepIn K (.ref f_letters) = true)
    (a_looked : PySem.W.nsIn K mainGlobals "looked" = some (some (.ref f_looked))) (l_looked : K.lookup f_looked = some ⟨oc_looked, od_looked, .func (PySem.W.fnOf "looked" "looked" (defArgs s_looked) (defBody s_looked) (defScope s_looked) .none kV_looked dc_looked pm_looked an_looked cd_looked ct_looked), sl_looked⟩) (c_looked : PySem.W.codeIn K cd_looked "looked" = true) (k_looked : PySem.W.keepIn K (.ref f_looked) = true)
    (a_row_windows : PySem.W.nsIn K mainGlobals "row_windows" = some (some (.ref f_row_windows))) (l_row_windows : K.lookup f_row_windows = some ⟨oc_row_windows, od_row_windows, .func (PySem.W.fnOf "row_windows" "row_windows" (defArgs s_row_windows) (defBody s_row_windows) (defScope s_row_windows) .none kV_row_windows dc_row_windows pm_row_windows an_row_windows cd_row_windows ct_row_windows), sl_row_windows⟩) (c_row_windows : PySem.W.codeIn K cd_row_windows "row_windows" = true) (k_row_windows : PySem.W.keepIn K (.ref f_row_windows) = true)
    (a_ring_windows : PySem.W.nsIn K mainGlobals "ring_windows" = some (some (.ref f_ring_windows))) (l_ring_windows : K.lookup f_ring_windows = some ⟨oc_ring_windows, od_ring_windows, .func (PySem.W.fnOf "ring_windows" "ring_windows" (defArgs s_ring_windows) (defBody s_ring_windows) (defScope s_ring_windows) .none kV_ring_windows dc_ring_windows pm_ring_windows an_ring_windows cd_ring_windows ct_ring_windows), sl_ring_windows⟩) (c_ring_windows : PySem.W.codeIn K cd_ring_windows "ring_windows" = true) (k_ring_windows : PySem.W.keepIn K (.ref f_ring_windows) = true)
    (a_windows : PySem.W.nsIn K mainGlobals "windows" = some (some (.ref f_windows))) (l_windows : K.lookup f_windows = some ⟨oc_windows, od_windows, .func (PySem.W.fnOf "windows" "windows" (defArgs s_windows) (defBody s_windows) (defScope s_windows) .none kV_windows dc_windows pm_windows an_windows cd_windows ct_windows), sl_windows⟩) (c_windows : PySem.W.codeIn K cd_windows "windows" = true) (k_windows : PySem.W.keepIn K (.ref f_windows) = true)
    (a_looked_web : PySem.W.nsIn K mainGlobals "looked_web" = some (some (.ref f_looked_web))) (l_looked_web : K.lookup f_looked_web = some ⟨oc_looked_web, od_looked_web, .func (PySem.W.fnOf "looked_web" "looked_web" (defArgs s_looked_web) (defBody s_looked_web) (defScope s_looked_web) .none kV_looked_web dc_looked_web pm_looked_web an_looked_web cd_looked_web ct_looked_web), sl_looked_web⟩) (c_looked_web : PySem.W.codeIn K cd_looked_web "looked_web" = true) (k_looked_web : PySem.W.keepIn K (.ref f_looked_web) = true)
    (a_Web_init : PySem.W.findIn K (.ref c_Web) "__init__" = some (some (.ref f_Web_init))) (l_Web_init : K.lookup f_Web_init = some ⟨oc_Web_init, od_Web_init, .func (PySem.W.fnOf "__init__" "Web.__init__" (defArgs s_Web_init) (defBody s_Web_init) (defScope s_Web_init) .none kV_Web_init dc_Web_init pm_Web_init an_Web_init cd_Web_init ct_Web_init), sl_Web_init⟩) (c_Web_init : PySem.W.codeIn K cd_Web_init "Web.__init__" = true) (k_Web_init : PySem.W.keepIn K (.ref f_Web_init) = true) (i_Web_init : PySem.W.isFn K (.ref f_Web_init) = true)
    (a_begin_of : PySem.W.nsIn K mainGlobals "begin_of" = some (some (.ref f_begin_of))) (l_begin_of : K.lookup f_begin_of = some ⟨oc_begin_of, od_begin_of, .func (PySem.W.fnOf "begin_of" "begin_of" (defArgs s_begin_of) (defBody s_begin_of) (defScope s_begin_of) .none kV_begin_of dc_begin_of pm_begin_of an_begin_of cd_begin_of ct_begin_of), sl_begin_of⟩) (c_begin_of : PySem.W.codeIn K cd_begin_of "begin_of" = true) (k_begin_of : PySem.W.keepIn K (.ref f_begin_of) = true)
    (a_is_turned_ring : PySem.W.nsIn K mainGlobals "is_turned_ring" = some (some (.ref f_is_turned_ring))) (l_is_turned_ring : K.lookup f_is_turned_ring = some ⟨oc_is_turned_ring, od_is_turned_ring, .func (PySem.W.fnOf "is_turned_ring" "is_turned_ring" (defArgs s_is_turned_ring) (defBody s_is_turned_ring) (defScope s_is_turned_ring) .none kV_is_turned_ring dc_is_turned_ring pm_is_turned_ring an_is_turned_ring cd_is_turned_ring ct_is_turned_ring), sl_is_turned_ring⟩) (c_is_turned_ring : PySem.W.codeIn K cd_is_turned_ring "is_turned_ring" = true) (k_is_turned_ring : PySem.W.keepIn K (.ref f_is_turned_ring) = true)
    (a_is_ring : PySem.W.nsIn K mainGlobals "is_ring" = some (some (.ref f_is_ring))) (l_is_ring : K.lookup f_is_ring = some ⟨oc_is_ring, od_is_ring, .func (PySem.W.fnOf "is_ring" "is_ring" (defArgs s_is_ring) (defBody s_is_ring) (defScope s_is_ring) .none kV_is_ring dc_is_ring pm_is_ring an_is_ring cd_is_ring ct_is_ring), sl_is_ring⟩) (c_is_ring : PySem.W.codeIn K cd_is_ring "is_ring" = true) (k_is_ring : PySem.W.keepIn K (.ref f_is_ring) = true)
    (a_pieces_met : PySem.W.nsIn K mainGlobals "pieces_met" = some (some (.ref f_pieces_met))) (l_pieces_met : K.lookup f_pieces_met = some ⟨oc_pieces_met, od_pieces_met, .func (PySem.W.fnOf "pieces_met" "pieces_met" (defArgs s_pieces_met) (defBody s_pieces_met) (defScope s_pieces_met) .none kV_pieces_met dc_pieces_met pm_pieces_met an_pieces_met cd_pieces_met ct_pieces_met), sl_pieces_met⟩) (c_pieces_met : PySem.W.codeIn K cd_pieces_met "pieces_met" = true) (k_pieces_met : PySem.W.keepIn K (.ref f_pieces_met) = true)
    (a_places_from : PySem.W.nsIn K mainGlobals "places_from" = some (some (.ref f_places_from))) (l_places_from : K.lookup f_places_from = some ⟨oc_places_from, od_places_from, .func (PySem.W.fnOf "places_from" "places_from" (defArgs s_places_from) (defBody s_places_from) (defScope s_places_from) .none kV_places_from dc_places_from pm_places_from an_places_from cd_places_from ct_places_from), sl_places_from⟩) (c_places_from : PySem.W.codeIn K cd_places_from "places_from" = true) (k_places_from : PySem.W.keepIn K (.ref f_places_from) = true)
    (a_is_exchange : PySem.W.nsIn K mainGlobals "is_exchange" = some (some (.ref f_is_exchange))) (l_is_exchange : K.lookup f_is_exchange = some ⟨oc_is_exchange, od_is_exchange, .func (PySem.W.fnOf "is_exchange" "is_exchange" (defArgs s_is_exchange) (defBody s_is_exchange) (defScope s_is_exchange) .none kV_is_exchange dc_is_exchange pm_is_exchange an_is_exchange cd_is_exchange ct_is_exchange), sl_is_exchange⟩) (c_is_exchange : PySem.W.codeIn K cd_is_exchange "is_exchange" = true) (k_is_exchange : PySem.W.keepIn K (.ref f_is_exchange) = true)
    (a_exchange : PySem.W.nsIn K mainGlobals "exchange" = some (some (.ref f_exchange))) (l_exchange : K.lookup f_exchange = some ⟨oc_exchange, od_exchange, .func (PySem.W.fnOf "exchange" "exchange" (defArgs s_exchange) (defBody s_exchange) (defScope s_exchange) .none kV_exchange dc_exchange pm_exchange an_exchange cd_exchange ct_exchange), sl_exchange⟩) (c_exchange : PySem.W.codeIn K cd_exchange "exchange" = true) (k_exchange : PySem.W.keepIn K (.ref f_exchange) = true)
    (a_deed_toward : PySem.W.nsIn K mainGlobals "deed_toward" = some (some (.ref f_deed_toward))) (l_deed_toward : K.lookup f_deed_toward = some ⟨oc_deed_toward, od_deed_toward, .func (PySem.W.fnOf "deed_toward" "deed_toward" (defArgs s_deed_toward) (defBody s_deed_toward) (defScope s_deed_toward) .none kV_deed_toward dc_deed_toward pm_deed_toward an_deed_toward cd_deed_toward ct_deed_toward), sl_deed_toward⟩) (c_deed_toward : PySem.W.codeIn K cd_deed_toward "deed_toward" = true) (k_deed_toward : PySem.W.keepIn K (.ref f_deed_toward) = true)
    (a_led : PySem.W.nsIn K mainGlobals "led" = some (some (.ref f_led))) (l_led : K.lookup f_led = some ⟨oc_led, od_led, .func (PySem.W.fnOf "led" "led" (defArgs s_led) (defBody s_led) (defScope s_led) .none kV_led dc_led pm_led an_led cd_led ct_led), sl_led⟩) (c_led : PySem.W.codeIn K cd_led "led" = true) (k_led : PySem.W.keepIn K (.ref f_led) = true)
    (a__law_mix : PySem.W.nsIn K mainGlobals "_law_mix" = some (some (.ref f__law_mix))) (l__law_mix : K.lookup f__law_mix = some ⟨oc__law_mix, od__law_mix, .func (PySem.W.fnOf "_law_mix" "_law_mix" (defArgs s__law_mix) (defBody s__law_mix) (defScope s__law_mix) .none kV__law_mix dc__law_mix pm__law_mix an__law_mix cd__law_mix ct__law_mix), sl__law_mix⟩) (c__law_mix : PySem.W.codeIn K cd__law_mix "_law_mix" = true) (k__law_mix : PySem.W.keepIn K (.ref f__law_mix) = true)
    (a__law_cell_at : PySem.W.nsIn K mainGlobals "_law_cell_at" = some (some (.ref f__law_cell_at))) (l__law_cell_at : K.lookup f__law_cell_at = some ⟨oc__law_cell_at, od__law_cell_at, .func (PySem.W.fnOf "_law_cell_at" "_law_cell_at" (defArgs s__law_cell_at) (defBody s__law_cell_at) (defScope s__law_cell_at) .none kV__law_cell_at dc__law_cell_at pm__law_cell_at an__law_cell_at cd__law_cell_at ct__law_cell_at), sl__law_cell_at⟩) (c__law_cell_at : PySem.W.codeIn K cd__law_cell_at "_law_cell_at" = true) (k__law_cell_at : PySem.W.keepIn K (.ref f__law_cell_at) = true)
    (a__law_round : PySem.W.nsIn K mainGlobals "_law_round" = some (some (.ref f__law_round))) (l__law_round : K.lookup f__law_round = some ⟨oc__law_round, od__law_round, .func (PySem.W.fnOf "_law_round" "_law_round" (defArgs s__law_round) (defBody s__law_round) (defScope s__law_round) .none kV__law_round dc__law_round pm__law_round an__law_round cd__law_round ct__law_round), sl__law_round⟩) (c__law_round : PySem.W.codeIn K cd__law_round "_law_round" = true) (k__law_round : PySem.W.keepIn K (.ref f__law_round) = true)
    (a__law_first_twice : PySem.W.nsIn K mainGlobals "_law_first_twice" = some (some (.ref f__law_first_twice))) (l__law_first_twice : K.lookup f__law_first_twice = some ⟨oc__law_first_twice, od__law_first_twice, .func (PySem.W.fnOf "_law_first_twice" "_law_first_twice" (defArgs s__law_first_twice) (defBody s__law_first_twice) (defScope s__law_first_twice) .none kV__law_first_twice dc__law_first_twice pm__law_first_twice an__law_first_twice cd__law_first_twice ct__law_first_twice), sl__law_first_twice⟩) (c__law_first_twice : PySem.W.codeIn K cd__law_first_twice "_law_first_twice" = true) (k__law_first_twice : PySem.W.keepIn K (.ref f__law_first_twice) = true)
    (a__law_once : PySem.W.nsIn K mainGlobals "_law_once" = some (some (.ref f__law_once))) (l__law_once : K.lookup f__law_once = some ⟨oc__law_once, od__law_once, .func (PySem.W.fnOf "_law_once" "_law_once" (defArgs s__law_once) (defBody s__law_once) (defScope s__law_once) .none kV__law_once dc__law_once pm__law_once an__law_once cd__law_once ct__law_once), sl__law_once⟩) (c__law_once : PySem.W.codeIn K cd__law_once "_law_once" = true) (k__law_once : PySem.W.keepIn K (.ref f__law_once) = true)
    (a__law_text : PySem.W.nsIn K mainGlobals "_law_text" = some (some (.ref f__law_text))) (l__law_text : K.lookup f__law_text = some ⟨oc__law_text, od__law_text, .func (PySem.W.fnOf "_law_text" "_law_text" (defArgs s__law_text) (defBody s__law_text) (defScope s__law_text) .none kV__law_text dc__law_text pm__law_text an__law_text cd__law_text ct__law_text), sl__law_text⟩) (c__law_text : PySem.W.codeIn K cd__law_text "_law_text" = true) (k__law_text : PySem.W.keepIn K (.ref f__law_text) = true)
    (a__law_ring : PySem.W.nsIn K mainGlobals "_law_ring" = some (some (.ref f__law_ring))) (l__law_ring : K.lookup f__law_ring = some ⟨oc__law_ring, od__law_ring, .func (PySem.W.fnOf "_law_ring" "_law_ring" (defArgs s__law_ring) (defBody s__law_ring) (defScope s__law_ring) .none kV__law_ring dc__law_ring pm__law_ring an__law_ring cd__law_ring ct__law_ring), sl__law_ring⟩) (c__law_ring : PySem.W.codeIn K cd__law_ring "_law_ring" = true) (k__law_ring : PySem.W.keepIn K (.ref f__law_ring) = true)
    (a__law_pieces : PySem.W.nsIn K mainGlobals "_law_pieces" = some (some (.ref f__law_pieces))) (l__law_pieces : K.lookup f__law_pieces = some ⟨oc__law_pieces, od__law_pieces, .func (PySem.W.fnOf "_law_pieces" "_law_pieces" (defArgs s__law_pieces) (defBody s__law_pieces) (defScope s__law_pieces) .none kV__law_pieces dc__law_pieces pm__law_pieces an__law_pieces cd__law_pieces ct__law_pieces), sl__law_pieces⟩) (c__law_pieces : PySem.W.codeIn K cd__law_pieces "_law_pieces" = true) (k__law_pieces : PySem.W.keepIn K (.ref f__law_pieces) = true)
    (a__law_fits : PySem.W.nsIn K mainGlobals "_law_fits" = some (some (.ref f__law_fits))) (l__law_fits : K.lookup f__law_fits = some ⟨oc__law_fits, od__law_fits, .func (PySem.W.fnOf "_law_fits" "_law_fits" (defArgs s__law_fits) (defBody s__law_fits) (defScope s__law_fits) .none kV__law_fits dc__law_fits pm__law_fits an__law_fits cd__law_fits ct__law_fits), sl__law_fits⟩) (c__law_fits : PySem.W.codeIn K cd__law_fits "_law_fits" = true) (k__law_fits : PySem.W.keepIn K (.ref f__law_fits) = true)
    (a__law_cut : PySem.W.nsIn K mainGlobals "_law_cut" = some (some (.ref f__law_cut))) (l__law_cut : K.lookup f__law_cut = some ⟨oc__law_cut, od__law_cut, .func (PySem.W.fnOf "_law_cut" "_law_cut" (defArgs s__law_cut) (defBody s__law_cut) (defScope s__law_cut) .none kV__law_cut dc__law_cut pm__law_cut an__law_cut cd__law_cut ct__law_cut), sl__law_cut⟩) (c__law_cut : PySem.W.codeIn K cd__law_cut "_law_cut" = true) (k__law_cut : PySem.W.keepIn K (.ref f__law_cut) = true)
    (a__law_hangs : PySem.W.nsIn K mainGlobals "_law_hangs" = some (some (.ref f__law_hangs))) (l__law_hangs : K.lookup f__law_hangs = some ⟨oc__law_hangs, od__law_hangs, .func (PySem.W.fnOf "_law_hangs" "_law_hangs" (defArgs s__law_hangs) (defBody s__law_hangs) (defScope s__law_hangs) .none kV__law_hangs dc__law_hangs pm__law_hangs an__law_hangs cd__law_hangs ct__law_hangs), sl__law_hangs⟩) (c__law_hangs : PySem.W.codeIn K cd__law_hangs "_law_hangs" = true) (k__law_hangs : PySem.W.keepIn K (.ref f__law_hangs) = true)
    (a__law_other : PySem.W.nsIn K mainGlobals "_law_other" = some (some (.ref f__law_other))) (l__law_other : K.lookup f__law_other = some ⟨oc__law_other, od__law_other, .func (PySem.W.fnOf "_law_other" "_law_other" (defArgs s__law_other) (defBody s__law_other) (defScope s__law_other) .none kV__law_other dc__law_other pm__law_other an__law_other cd__law_other ct__law_other), sl__law_other⟩) (c__law_other : PySem.W.codeIn K cd__law_other "_law_other" = true) (k__law_other : PySem.W.keepIn K (.ref f__law_other) = true)
    (a__law_leads : PySem.W.nsIn K mainGlobals "_law_leads" = some (some (.ref f__law_leads))) (l__law_leads : K.lookup f__law_leads = some ⟨oc__law_leads, od__law_leads, .func (PySem.W.fnOf "_law_leads" "_law_leads" (defArgs s__law_leads) (defBody s__law_leads) (defScope s__law_leads) .none kV__law_leads dc__law_leads pm__law_leads an__law_leads cd__law_leads ct__law_leads), sl__law_leads⟩) (c__law_leads : PySem.W.codeIn K cd__law_leads "_law_leads" = true) (k__law_leads : PySem.W.keepIn K (.ref f__law_leads) = true)
    (a_law : PySem.W.nsIn K mainGlobals "law" = some (some (.ref f_law))) (l_law : K.lookup f_law = some ⟨oc_law, od_law, .func (PySem.W.fnOf "law" "law" (defArgs s_law) (defBody s_law) (defScope s_law) .none kV_law dc_law pm_law an_law cd_law ct_law), sl_law⟩) (c_law : PySem.W.codeIn K cd_law "law" = true) (k_law : PySem.W.keepIn K (.ref f_law) = true)
    (z_all : PySem.W.nsIn K mainGlobals "all" = some none)
    (z_isinstance : PySem.W.nsIn K mainGlobals "isinstance" = some none)
    (z_len : PySem.W.nsIn K mainGlobals "len" = some none)
    (z_list : PySem.W.nsIn K mainGlobals "list" = some none)
    (z_max : PySem.W.nsIn K mainGlobals "max" = some none)
    (z_min : PySem.W.nsIn K mainGlobals "min" = some none)
    (z_range : PySem.W.nsIn K mainGlobals "range" = some none)
    (z_set : PySem.W.nsIn K mainGlobals "set" = some none)
    (z_sorted : PySem.W.nsIn K mainGlobals "sorted" = some none)
    (z_sum : PySem.W.nsIn K mainGlobals "sum" = some none)
    (z_tuple : PySem.W.nsIn K mainGlobals "tuple" = some none)
    (y_OnceError : PySem.W.nsIn K mainGlobals "OnceError" = some (some (.ref c_OnceError)))
    (y_BadKinds : PySem.W.nsIn K mainGlobals "BadKinds" = some (some (.ref c_BadKinds)))
    (y_BadWord : PySem.W.nsIn K mainGlobals "BadWord" = some (some (.ref c_BadWord)))
    (y_TooMany : PySem.W.nsIn K mainGlobals "TooMany" = some (some (.ref c_TooMany)))
    (y_NotOne : PySem.W.nsIn K mainGlobals "NotOne" = some (some (.ref c_NotOne)))
    (y_BadDeed : PySem.W.nsIn K mainGlobals "BadDeed" = some (some (.ref c_BadDeed)))
    (y_Web : PySem.W.nsIn K mainGlobals "Web" = some (some (.ref c_Web)))
    (e_BadKinds : PySem.W.excIn K c_BadKinds bmVE "ValueError.__new__" = true)
    (e_BadWord : PySem.W.excIn K c_BadWord bmVE "ValueError.__new__" = true)
    (e_TooMany : PySem.W.excIn K c_TooMany bmVE "ValueError.__new__" = true)
    (e_NotOne : PySem.W.excIn K c_NotOne bmVE "ValueError.__new__" = true)
    (e_BadDeed : PySem.W.excIn K c_BadDeed bmVE "ValueError.__new__" = true)
    (n1_BadDeed : PySem.W.findIn K (.ref c_BadDeed) "__getattribute__" = some (some (.builtin "BaseException.__getattribute__")))
    (n2_BadDeed : PySem.W.findIn K (.ref c_BadDeed) "__getattr__" = some none)
    (n3_BadDeed : PySem.W.findIn K (.ref c_BadDeed) "__class__" = some (some (.builtin "object.__class__")))
    (n4_BadDeed : PySem.W.specialIn K (.builtin "object.__class__") "__get__" = some (some (.builtin "getset_descriptor.__get__")))
    (n5_BadDeed : PySem.W.takesIn K (.builtin "object.__class__") = some true)
    (n6_BadDeed : PySem.W.mroIn K c_BadDeed (.type "object") = some true)
    (n7_BadDeed : PySem.W.mroIn K c_BadDeed (.type "BaseException") = some true)
    (n8_BadDeed : (PySem.W.clsIn K c_BadDeed).isSome = true)
    (g_LETTERS : PySem.W.nsIn K mainGlobals "LETTERS" = some (some u_LETTERS)) (r_LETTERS : RelV (T [97, 98, 99, 100, 101, 102]) u_LETTERS)
    (g_LONGEST : PySem.W.nsIn K mainGlobals "LONGEST" = some (some u_LONGEST)) (r_LONGEST : RelV (.int 24) u_LONGEST)
    (g_MOST_OF_A_WEB : PySem.W.nsIn K mainGlobals "MOST_OF_A_WEB" = some (some u_MOST_OF_A_WEB)) (r_MOST_OF_A_WEB : RelV (.int 64) u_MOST_OF_A_WEB)
    (g_LONGEST_OF_A_WEB : PySem.W.nsIn K mainGlobals "LONGEST_OF_A_WEB" = some (some u_LONGEST_OF_A_WEB)) (r_LONGEST_OF_A_WEB : RelV (.int 8) u_LONGEST_OF_A_WEB)
    (q_do : PySem.W.exmOne K (.ref c_BadDeed) (.ref c_OnceError) = some true)
    (q_dd : PySem.W.kitOne K (.ref c_BadDeed) (.ref c_BadDeed) = some true)
    (q_dn : PySem.W.kitOne K (.ref c_BadDeed) (.ref c_NotOne) = some false)
    (pg_Web : PySem.W.plainGet K c_Web Str.empty = true) (hd_Web : PySem.W.hasDictIn K c_Web = true) (po_Web : PySem.W.plainOver K c_Web = true) (sa_Web : PySem.W.findIn K (.ref c_Web) "__setattr__" = some (some (.builtin "object.__setattr__"))) (mk_Web : PySem.W.makesIn K c_Web = true) (kc_Web : PySem.W.keepIn K (.ref c_Web) = true)
    (na_Web_words : PySem.W.findIn K (.ref c_Web) "words" = some none)
    (na_Web_length : PySem.W.findIn K (.ref c_Web) "length" = some none) :
    ∃ fd : FuncData, (∀ (s : Shared) (v : Value), BindsTo s fd ⟨[v], []⟩ [("script", v)]) ∧ ∀ base : Heap, K.In base → base.Ns mainGlobals mg → FnOk l.prog w K mg base (CX1 l.prog w) 10 fa fd ["script"] (spLaw K) := by
  have e := hfa.symm.trans (PySem.W.mg_of X G a_law)
  cases e
  have tt : Txt K mg ⟨c_OnceError, c_BadKinds, c_BadWord, c_TooMany, c_NotOne, c_BadDeed, c_Web, u_LETTERS, u_LONGEST, u_MOST_OF_A_WEB, u_LONGEST_OF_A_WEB⟩ := ⟨PySem.W.mg_none_of X G z_all, PySem.W.mg_none_of X G z_isinstance, PySem.W.mg_none_of X G z_len, PySem.W.mg_none_of X G z_list, PySem.W.mg_none_of X G z_max, PySem.W.mg_none_of X G z_min, PySem.W.mg_none_of X G z_range, PySem.W.mg_none_of X G z_set, PySem.W.mg_none_of X G z_sorted, PySem.W.mg_none_of X G z_sum, PySem.W.mg_none_of X G z_tuple, PySem.W.mg_of X G y_OnceError, PySem.W.mg_of X G y_BadKinds, PySem.W.mg_of X G y_BadWord, PySem.W.mg_of X G y_TooMany, PySem.W.mg_of X G y_NotOne, PySem.W.mg_of X G y_BadDeed, PySem.W.mg_of X G y_Web, ⟨PySem.W.mg_of X G y_BadKinds, e_BadKinds⟩, ⟨PySem.W.mg_of X G y_BadWord, e_BadWord⟩, ⟨PySem.W.mg_of X G y_TooMany, e_TooMany⟩, ⟨PySem.W.mg_of X G y_NotOne, e_NotOne⟩, ⟨PySem.W.mg_of X G y_BadDeed, e_BadDeed⟩, ⟨n1_BadDeed, n2_BadDeed, n3_BadDeed, n4_BadDeed, n5_BadDeed, n6_BadDeed, n7_BadDeed, n8_BadDeed⟩, PySem.W.mg_of X G g_LETTERS, r_LETTERS, PySem.W.mg_of X G g_LONGEST, r_LONGEST, PySem.W.mg_of X G g_MOST_OF_A_WEB, r_MOST_OF_A_WEB, PySem.W.mg_of X G g_LONGEST_OF_A_WEB, r_LONGEST_OF_A_WEB, q_do, q_dd, q_dn, ⟨pg_Web, hd_Web, po_Web, sa_Web⟩, na_Web_words, na_Web_length⟩
  have F_looked_kinds := fun_mk (st := s_looked_kinds) l_looked_kinds c_looked_kinds k_looked_kinds
  have b_looked_kinds := F_looked_kinds.binds (ps := ["kinds"]) fun _ _ _ _ _ _ us hl => L2.on1 (C := fun us => bindArgs _ ⟨us, []⟩ = pure (List.zip _ us)) hl fun _ => rfl
  have F_looked_length := fun_mk (st := s_looked_length) l_looked_length c_looked_length k_looked_length
  have b_looked_length := F_looked_length.binds (ps := ["length", "kinds"]) fun _ _ _ _ _ _ us hl => L2.on2 (C := fun us => bindArgs _ ⟨us, []⟩ = pure (List.zip _ us)) hl fun _ _ => rfl
  have F_letters := fun_mk (st := s_letters) l_letters c_letters k_letters
  have b_letters := F_letters.binds (ps := ["kinds"]) fun _ _ _ _ _ _ us hl => L2.on1 (C := fun us => bindArgs _ ⟨us, []⟩ = pure (List.zip _ us)) hl fun _ => rfl
  have F_looked := fun_mk (st := s_looked) l_looked c_looked k_looked
  have b_looked := F_looked.binds (ps := ["word", "kinds"]) fun _ _ _ _ _ _ us hl => L2.on2 (C := fun us => bindArgs _ ⟨us, []⟩ = pure (List.zip _ us)) hl fun _ _ => rfl
  have F_row_windows := fun_mk (st := s_row_windows) l_row_windows c_row_windows k_row_windows
  have b_row_windows := F_row_windows.binds (ps := ["text", "length"]) fun _ _ _ _ _ _ us hl => L2.on2 (C := fun us => bindArgs _ ⟨us, []⟩ = pure (List.zip _ us)) hl fun _ _ => rfl
  have F_ring_windows := fun_mk (st := s_ring_windows) l_ring_windows c_ring_windows k_ring_windows
  have b_ring_windows := F_ring_windows.binds (ps := ["text", "length"]) fun _ _ _ _ _ _ us hl => L2.on2 (C := fun us => bindArgs _ ⟨us, []⟩ = pure (List.zip _ us)) hl fun _ _ => rfl
  have F_windows := fun_mk (st := s_windows) l_windows c_windows k_windows
  have b_windows := F_windows.binds (ps := ["text", "length", "ring"]) fun _ _ _ _ _ _ us hl => L2.on3 (C := fun us => bindArgs _ ⟨us, []⟩ = pure (List.zip _ us)) hl fun _ _ _ => rfl
  have F_looked_web := fun_mk (st := s_looked_web) l_looked_web c_looked_web k_looked_web
  have b_looked_web := F_looked_web.binds (ps := ["words"]) fun _ _ _ _ _ _ us hl => L2.on1 (C := fun us => bindArgs _ ⟨us, []⟩ = pure (List.zip _ us)) hl fun _ => rfl
  have F_Web_init := fun_mk (st := s_Web_init) l_Web_init c_Web_init k_Web_init
  have b_Web_init := F_Web_init.binds (ps := ["self", "words"]) fun _ _ _ _ _ _ us hl => L2.on2 (C := fun us => bindArgs _ ⟨us, []⟩ = pure (List.zip _ us)) hl fun _ _ => rfl
  have F_begin_of := fun_mk (st := s_begin_of) l_begin_of c_begin_of k_begin_of
  have b_begin_of := F_begin_of.binds (ps := ["word"]) fun _ _ _ _ _ _ us hl => L2.on1 (C := fun us => bindArgs _ ⟨us, []⟩ = pure (List.zip _ us)) hl fun _ => rfl
  have F_is_turned_ring := fun_mk (st := s_is_turned_ring) l_is_turned_ring c_is_turned_ring k_is_turned_ring
  have b_is_turned_ring := F_is_turned_ring.binds (ps := ["web", "text"]) fun _ _ _ _ _ _ us hl => L2.on2 (C := fun us => bindArgs _ ⟨us, []⟩ = pure (List.zip _ us)) hl fun _ _ => rfl
  have F_is_ring := fun_mk (st := s_is_ring) l_is_ring c_is_ring k_is_ring
  have b_is_ring := F_is_ring.binds (ps := ["web", "text"]) fun _ _ _ _ _ _ us hl => L2.on2 (C := fun us => bindArgs _ ⟨us, []⟩ = pure (List.zip _ us)) hl fun _ _ => rfl
  have F_pieces_met := fun_mk (st := s_pieces_met) l_pieces_met c_pieces_met k_pieces_met
  have b_pieces_met := F_pieces_met.binds (ps := ["web", "ring"]) fun _ _ _ _ _ _ us hl => L2.on2 (C := fun us => bindArgs _ ⟨us, []⟩ = pure (List.zip _ us)) hl fun _ _ => rfl
  have F_places_from := fun_mk (st := s_places_from) l_places_from c_places_from k_places_from
  have b_places_from := F_places_from.binds (ps := ["met", "piece", "start"]) fun _ _ _ _ _ _ us hl => L2.on3 (C := fun us => bindArgs _ ⟨us, []⟩ = pure (List.zip _ us)) hl fun _ _ _ => rfl
  have F_is_exchange := fun_mk (st := s_is_exchange) l_is_exchange c_is_exchange k_is_exchange
  have b_is_exchange := F_is_exchange.binds (ps := ["web", "ring", "deed"]) fun _ _ _ _ _ _ us hl => L2.on3 (C := fun us => bindArgs _ ⟨us, []⟩ = pure (List.zip _ us)) hl fun _ _ _ => rfl
  have F_exchange := fun_mk (st := s_exchange) l_exchange c_exchange k_exchange
  have b_exchange := F_exchange.binds (ps := ["web", "ring", "deed"]) fun _ _ _ _ _ _ us hl => L2.on3 (C := fun us => bindArgs _ ⟨us, []⟩ = pure (List.zip _ us)) hl fun _ _ _ => rfl
  have F_deed_toward := fun_mk (st := s_deed_toward) l_deed_toward c_deed_toward k_deed_toward
  have b_deed_toward := F_deed_toward.binds (ps := ["web", "ring", "goal"]) fun _ _ _ _ _ _ us hl => L2.on3 (C := fun us => bindArgs _ ⟨us, []⟩ = pure (List.zip _ us)) hl fun _ _ _ => rfl
  have F_led := fun_mk (st := s_led) l_led c_led k_led
  have b_led := F_led.binds (ps := ["web", "one", "two"]) fun _ _ _ _ _ _ us hl => L2.on3 (C := fun us => bindArgs _ ⟨us, []⟩ = pure (List.zip _ us)) hl fun _ _ _ => rfl
  have F__law_mix := fun_mk (st := s__law_mix) l__law_mix c__law_mix k__law_mix
  have b__law_mix := F__law_mix.binds (ps := ["cell", "k"]) fun _ _ _ _ _ _ us hl => L2.on2 (C := fun us => bindArgs _ ⟨us, []⟩ = pure (List.zip _ us)) hl fun _ _ => rfl
  have F__law_cell_at := fun_mk (st := s__law_cell_at) l__law_cell_at c__law_cell_at k__law_cell_at
  have b__law_cell_at := F__law_cell_at.binds (ps := ["script", "k"]) fun _ _ _ _ _ _ us hl => L2.on2 (C := fun us => bindArgs _ ⟨us, []⟩ = pure (List.zip _ us)) hl fun _ _ => rfl
  have F__law_round := fun_mk (st := s__law_round) l__law_round c__law_round k__law_round
  have b__law_round := F__law_round.binds (ps := ["text", "length"]) fun _ _ _ _ _ _ us hl => L2.on2 (C := fun us => bindArgs _ ⟨us, []⟩ = pure (List.zip _ us)) hl fun _ _ => rfl
  have F__law_first_twice := fun_mk (st := s__law_first_twice) l__law_first_twice c__law_first_twice k__law_first_twice
  have b__law_first_twice := F__law_first_twice.binds (ps := ["found"]) fun _ _ _ _ _ _ us hl => L2.on1 (C := fun us => bindArgs _ ⟨us, []⟩ = pure (List.zip _ us)) hl fun _ => rfl
  have F__law_once := fun_mk (st := s__law_once) l__law_once c__law_once k__law_once
  have b__law_once := F__law_once.binds (ps := ["text", "length"]) fun _ _ _ _ _ _ us hl => L2.on2 (C := fun us => bindArgs _ ⟨us, []⟩ = pure (List.zip _ us)) hl fun _ _ => rfl
  have F__law_text := fun_mk (st := s__law_text) l__law_text c__law_text k__law_text
  have b__law_text := F__law_text.binds (ps := ["script", "kinds", "many"]) fun _ _ _ _ _ _ us hl => L2.on3 (C := fun us => bindArgs _ ⟨us, []⟩ = pure (List.zip _ us)) hl fun _ _ _ => rfl
  have F__law_ring := fun_mk (st := s__law_ring) l__law_ring c__law_ring k__law_ring
  have b__law_ring := F__law_ring.binds (ps := ["script", "most"]) fun _ _ _ _ _ _ us hl => L2.on2 (C := fun us => bindArgs _ ⟨us, []⟩ = pure (List.zip _ us)) hl fun _ _ => rfl
  have F__law_pieces := fun_mk (st := s__law_pieces) l__law_pieces c__law_pieces k__law_pieces
  have b__law_pieces := F__law_pieces.binds (ps := ["ring", "length"]) fun _ _ _ _ _ _ us hl => L2.on2 (C := fun us => bindArgs _ ⟨us, []⟩ = pure (List.zip _ us)) hl fun _ _ => rfl
  have F__law_fits := fun_mk (st := s__law_fits) l__law_fits c__law_fits k__law_fits
  have b__law_fits := F__law_fits.binds (ps := ["along", "deed"]) fun _ _ _ _ _ _ us hl => L2.on2 (C := fun us => bindArgs _ ⟨us, []⟩ = pure (List.zip _ us)) hl fun _ _ => rfl
  have F__law_cut := fun_mk (st := s__law_cut) l__law_cut c__law_cut k__law_cut
  have b__law_cut := F__law_cut.binds (ps := ["ring", "deed"]) fun _ _ _ _ _ _ us hl => L2.on2 (C := fun us => bindArgs _ ⟨us, []⟩ = pure (List.zip _ us)) hl fun _ _ => rfl
  have F__law_hangs := fun_mk (st := s__law_hangs) l__law_hangs c__law_hangs k__law_hangs
  have b__law_hangs := F__law_hangs.binds (ps := ["words", "piece"]) fun _ _ _ _ _ _ us hl => L2.on2 (C := fun us => bindArgs _ ⟨us, []⟩ = pure (List.zip _ us)) hl fun _ _ => rfl
  have F__law_other := fun_mk (st := s__law_other) l__law_other c__law_other k__law_other
  have b__law_other := F__law_other.binds (ps := ["script", "words"]) fun _ _ _ _ _ _ us hl => L2.on2 (C := fun us => bindArgs _ ⟨us, []⟩ = pure (List.zip _ us)) hl fun _ _ => rfl
  have F__law_leads := fun_mk (st := s__law_leads) l__law_leads c__law_leads k__law_leads
  have b__law_leads := F__law_leads.binds (ps := ["web", "length", "one", "two"]) fun _ _ _ _ _ _ us hl => L2.on4 (C := fun us => bindArgs _ ⟨us, []⟩ = pure (List.zip _ us)) hl fun _ _ _ _ => rfl
  have F_law := fun_mk (st := s_law) l_law c_law k_law
  refine ⟨PySem.W.fnOf "law" "law" (defArgs s_law) (defBody s_law) (defScope s_law) .none kV_law dc_law pm_law an_law cd_law ct_law, fun s v => .of_eq rfl, fun base _ _ => ?_⟩
  have C_looked_kinds : Cal l.prog w K mg base (CX1 l.prog w) "looked_kinds" 1 ["kinds"] (spKindsX _) := ⟨⟨_, _, ok_looked_kinds F_looked_kinds tt, PySem.W.mg_of X G a_looked_kinds, F_looked_kinds.kp, b_looked_kinds⟩⟩
  have C_looked_length : Cal l.prog w K mg base (CX1 l.prog w) "looked_length" 2 ["length", "kinds"] (spLenX _) := ⟨⟨_, _, ok_looked_length F_looked_length tt C_looked_kinds, PySem.W.mg_of X G a_looked_length, F_looked_length.kp, b_looked_length⟩⟩
  have C_letters : Cal l.prog w K mg base (CX1 l.prog w) "letters" 2 ["kinds"] (spLettersX _) := ⟨⟨_, _, ok_letters F_letters tt C_looked_kinds, PySem.W.mg_of X G a_letters, F_letters.kp, b_letters⟩⟩
  have C_looked : Cal l.prog w K mg base (CX1 l.prog w) "looked" 3 ["word", "kinds"] (spLookedX _) := ⟨⟨_, _, ok_looked F_looked tt C_looked_length C_letters, PySem.W.mg_of X G a_looked, F_looked.kp, b_looked⟩⟩
  have C_row_windows : Cal l.prog w K mg base (CX1 l.prog w) "row_windows" 1 ["text", "length"] spRowW := ⟨⟨_, _, ok_row_windows F_row_windows tt, PySem.W.mg_of X G a_row_windows, F_row_windows.kp, b_row_windows⟩⟩
  have C_ring_windows : Cal l.prog w K mg base (CX1 l.prog w) "ring_windows" 1 ["text", "length"] spRingW := ⟨⟨_, _, ok_ring_windows F_ring_windows tt, PySem.W.mg_of X G a_ring_windows, F_ring_windows.kp, b_ring_windows⟩⟩
  have C_windows : Cal l.prog w K mg base (CX1 l.prog w) "windows" 2 ["text", "length", "ring"] spWin := ⟨⟨_, _, ok_windows F_windows tt C_row_windows C_ring_windows, PySem.W.mg_of X G a_windows, F_windows.kp, b_windows⟩⟩
  have C_looked_web : Cal l.prog w K mg base (CX1 l.prog w) "looked_web" 4 ["words"] (spWebL K) := ⟨⟨_, _, ok_looked_web F_looked_web tt C_looked, PySem.W.mg_of X G a_looked_web, F_looked_web.kp, b_looked_web⟩⟩
  have C_Web_init : Cam l.prog w K mg base (CX1 l.prog w) "Web" c_Web 5 ["self", "words"] (spWebI K _) := ⟨⟨_, _, ok_Web_init F_Web_init tt C_looked_web, ⟨mk_Web, a_Web_init, i_Web_init, kc_Web⟩, PySem.W.mg_of X G y_Web, b_Web_init⟩⟩
  have C_begin_of : Cal l.prog w K mg base (CX1 l.prog w) "begin_of" 1 ["word"] spBegin := ⟨⟨_, _, ok_begin_of F_begin_of tt, PySem.W.mg_of X G a_begin_of, F_begin_of.kp, b_begin_of⟩⟩
  have C_is_turned_ring : Cal l.prog w K mg base (CX1 l.prog w) "is_turned_ring" 3 ["web", "text"] (spIsTR c_Web) := ⟨⟨_, _, ok_is_turned_ring F_is_turned_ring tt C_windows, PySem.W.mg_of X G a_is_turned_ring, F_is_turned_ring.kp, b_is_turned_ring⟩⟩
  have C_is_ring : Cal l.prog w K mg base (CX1 l.prog w) "is_ring" 4 ["web", "text"] (spIsRing c_Web) := ⟨⟨_, _, ok_is_ring F_is_ring tt C_is_turned_ring C_windows, PySem.W.mg_of X G a_is_ring, F_is_ring.kp, b_is_ring⟩⟩
  have C_pieces_met : Cal l.prog w K mg base (CX1 l.prog w) "pieces_met" 5 ["web", "ring"] (spMet c_Web) := ⟨⟨_, _, ok_pieces_met F_pieces_met tt C_is_ring C_windows C_begin_of, PySem.W.mg_of X G a_pieces_met, F_pieces_met.kp, b_pieces_met⟩⟩
  have C_places_from : Cal l.prog w K mg base (CX1 l.prog w) "places_from" 1 ["met", "piece", "start"] (spPlc K) := ⟨⟨_, _, ok_places_from F_places_from tt, PySem.W.mg_of X G a_places_from, F_places_from.kp, b_places_from⟩⟩
  have C_is_exchange : Cal l.prog w K mg base (CX1 l.prog w) "is_exchange" 6 ["web", "ring", "deed"] (spIsEx K c_Web) := ⟨⟨_, _, ok_is_exchange F_is_exchange tt C_pieces_met, PySem.W.mg_of X G a_is_exchange, F_is_exchange.kp, b_is_exchange⟩⟩
  have C_exchange : Cal l.prog w K mg base (CX1 l.prog w) "exchange" 7 ["web", "ring", "deed"] (spExch K c_Web _) := ⟨⟨_, _, ok_exchange F_exchange tt C_is_exchange, PySem.W.mg_of X G a_exchange, F_exchange.kp, b_exchange⟩⟩
  have C_deed_toward : Cal l.prog w K mg base (CX1 l.prog w) "deed_toward" 6 ["web", "ring", "goal"] (spDeed c_Web) := ⟨⟨_, _, ok_deed_toward F_deed_toward tt C_pieces_met C_windows C_places_from, PySem.W.mg_of X G a_deed_toward, F_deed_toward.kp, b_deed_toward⟩⟩
  have C_led : Cal l.prog w K mg base (CX1 l.prog w) "led" 8 ["web", "one", "two"] (spLed c_Web) := ⟨⟨_, _, ok_led F_led tt C_is_ring C_deed_toward C_exchange, PySem.W.mg_of X G a_led, F_led.kp, b_led⟩⟩
  have C__law_mix : Cal l.prog w K mg base (CX1 l.prog w) "_law_mix" 1 ["cell", "k"] spMix := ⟨⟨_, _, ok__law_mix F__law_mix tt, PySem.W.mg_of X G a__law_mix, F__law_mix.kp, b__law_mix⟩⟩
  have C__law_cell_at : Cal l.prog w K mg base (CX1 l.prog w) "_law_cell_at" 1 ["script", "k"] (spCell K) := ⟨⟨_, _, ok__law_cell_at F__law_cell_at tt, PySem.W.mg_of X G a__law_cell_at, F__law_cell_at.kp, b__law_cell_at⟩⟩
  have C__law_round : Cal l.prog w K mg base (CX1 l.prog w) "_law_round" 1 ["text", "length"] spRingW := ⟨⟨_, _, ok__law_round F__law_round tt, PySem.W.mg_of X G a__law_round, F__law_round.kp, b__law_round⟩⟩
  have C__law_first_twice : Cal l.prog w K mg base (CX1 l.prog w) "_law_first_twice" 1 ["found"] (spTwice K) := ⟨⟨_, _, ok__law_first_twice F__law_first_twice tt, PySem.W.mg_of X G a__law_first_twice, F__law_first_twice.kp, b__law_first_twice⟩⟩
  have C__law_once : Cal l.prog w K mg base (CX1 l.prog w) "_law_once" 2 ["text", "length"] spOnceR := ⟨⟨_, _, ok__law_once F__law_once tt C__law_round C__law_first_twice, PySem.W.mg_of X G a__law_once, F__law_once.kp, b__law_once⟩⟩
  have C__law_text : Cal l.prog w K mg base (CX1 l.prog w) "_law_text" 2 ["script", "kinds", "many"] (spText K) := ⟨⟨_, _, ok__law_text F__law_text tt C__law_mix, PySem.W.mg_of X G a__law_text, F__law_text.kp, b__law_text⟩⟩
  have C__law_ring : Cal l.prog w K mg base (CX1 l.prog w) "_law_ring" 3 ["script", "most"] (spRingL K) := ⟨⟨_, _, ok__law_ring F__law_ring tt C__law_mix C__law_round C__law_once C__law_text, PySem.W.mg_of X G a__law_ring, F__law_ring.kp, b__law_ring⟩⟩
  have C__law_pieces : Cal l.prog w K mg base (CX1 l.prog w) "_law_pieces" 2 ["ring", "length"] spPcs := ⟨⟨_, _, ok__law_pieces F__law_pieces tt C__law_round, PySem.W.mg_of X G a__law_pieces, F__law_pieces.kp, b__law_pieces⟩⟩
  have C__law_fits : Cal l.prog w K mg base (CX1 l.prog w) "_law_fits" 1 ["along", "deed"] (spFits K) := ⟨⟨_, _, ok__law_fits F__law_fits tt, PySem.W.mg_of X G a__law_fits, F__law_fits.kp, b__law_fits⟩⟩
  have C__law_cut : Cal l.prog w K mg base (CX1 l.prog w) "_law_cut" 1 ["ring", "deed"] (spCut K) := ⟨⟨_, _, ok__law_cut F__law_cut tt, PySem.W.mg_of X G a__law_cut, F__law_cut.kp, b__law_cut⟩⟩
  have C__law_hangs : Cal l.prog w K mg base (CX1 l.prog w) "_law_hangs" 1 ["words", "piece"] (spHangs K) := ⟨⟨_, _, ok__law_hangs F__law_hangs tt, PySem.W.mg_of X G a__law_hangs, F__law_hangs.kp, b__law_hangs⟩⟩
  have C__law_other : Cal l.prog w K mg base (CX1 l.prog w) "_law_other" 2 ["script", "words"] (spOther K) := ⟨⟨_, _, ok__law_other F__law_other tt C__law_hangs C__law_cell_at C__law_mix, PySem.W.mg_of X G a__law_other, F__law_other.kp, b__law_other⟩⟩
  have C__law_leads : Cal l.prog w K mg base (CX1 l.prog w) "_law_leads" 9 ["web", "length", "one", "two"] (spLeads c_Web) := ⟨⟨_, _, ok__law_leads F__law_leads tt C_led C__law_pieces C__law_fits C__law_cut, PySem.W.mg_of X G a__law_leads, F__law_leads.kp, b__law_leads⟩⟩
  exact ok_law F_law tt C__law_round C__law_ring C_Web_init C__law_other C_led C__law_leads
theorem walk {l : PySem.W.OpenLaw} {q : Program} {loose : List Str} {XP : (Str → Option Value) → Heap → Prop} {YP : World → Heap → Prop} {d : DefRec} {K : Params → PySem.W.Frag} (hn : l.most = some 63) (hdf : d.params.defaults = [])
    (hY : ∀ (w : World) (h : Heap), YP w h → (K w.params).In h)
    (F : ∀ (w : World) (mg : Str → Option Value) (fa : Addr) (h : Heap), (K w.params).In h → h.Ns mainGlobals mg → mg d.name = some (.ref fa) →
      ∃ fd : FuncData, (∀ (s : Shared) (u : Value), BindsTo s fd ⟨[u], []⟩ [("script", u)]) ∧ ∀ base : Heap, (K w.params).In base → base.Ns mainGlobals mg → FnOk l.prog w (K w.params) mg base (CX1 l.prog w) 10 fa fd ["script"] (spLaw (K w.params))) :
    PySem.W.WalkO q loose XP YP l.row.toRowW d [] (fun f vs => PySem.call f vs) :=
  L2.walk_of (n := 63) (k := 10) (x := "script") (CX := fun w => CX1 l.prog w) (sp := fun w => spLaw (K w.params)) hn (by decide) hdf ⟨rfl, by decide, by decide⟩ hY F (fun _ _ a ns hl _ hS => ⟨a, ns, rfl, hS, hl, fun _ => rfl⟩) fun _ _ _ _ _ ⟨_, _, _, _, _, z⟩ => z
end K72
theorem PySem.W.Fast.tw3488848725806890272 : True := trivial
theorem PySem.W.Fast.tw17293192462226327328 : True := trivial
theorem PySem.W.Fast.tw2835454669742791520 : True := trivial
theorem PySem.W.Fast.tw17508461509902027201 : True := trivial
theorem PySem.W.Fast.tw1980294176075708097 : True := trivial
theorem PySem.W.Fast.tw11606656131591776993 : True := trivial
theorem PySem.W.Fast.tw14363292716475931393 : True := trivial
theorem PySem.W.Fast.tw6737433924885934977 : True := trivial
theorem PySem.W.Fast.tw14426251964652607490 : True := trivial
theorem PySem.W.Fast.tw3362189654341037314 : True := trivial
theorem PySem.W.Fast.tw4228403681283357346 : True := trivial
theorem PySem.W.Fast.tw1406833940795205314 : True := trivial
theorem PySem.W.Fast.tw14843655577840800035 : True := trivial
theorem PySem.W.Fast.tw8347795315064737796 : True := trivial
theorem PySem.W.Fast.tw15730972693465056292 : True := trivial
theorem PySem.W.Fast.tw17487964938672046276 : True := trivial
theorem PySem.W.Fast.tw1910731664698841604 : True := trivial
theorem PySem.W.Fast.tw10825775486055000676 : True := trivial
theorem PySem.W.Fast.tw12234169769571955332 : True := trivial
theorem PySem.W.Fast.tw12209947845581387588 : True := trivial
theorem PySem.W.Fast.tw7710609024950226053 : True := trivial
theorem PySem.W.Fast.tw15119558654231930437 : True := trivial
theorem PySem.W.Fast.tw9736067304681147141 : True := trivial
theorem PySem.W.Fast.tw14084526316936357958 : True := trivial
theorem PySem.W.Fast.tw4356398393181819302 : True := trivial
theorem PySem.W.Fast.tw6209777923008588550 : True := trivial
theorem PySem.W.Fast.tw3166554143672672134 : True := trivial
theorem PySem.W.Fast.tw13995305965843712199 : True := trivial
theorem PySem.W.Fast.tw12435347373693186503 : True := trivial
theorem PySem.W.Fast.tw8336344534172587495 : True := trivial
theorem PySem.W.Fast.tw9218928910484504103 : True := trivial
theorem PySem.W.Fast.tw17800300802989327079 : True := trivial
theorem PySem.W.Fast.tw10731782566016744231 : True := trivial
theorem PySem.W.Fast.tw7851172628047838280 : True := trivial
theorem PySem.W.Fast.tw15486707633096986760 : True := trivial
theorem PySem.W.Fast.tw13083703544120659144 : True := trivial
theorem PySem.W.Fast.tw12124460272148793576 : True := trivial
theorem PySem.W.Fast.tw1766091662276490536 : True := trivial
theorem PySem.W.Fast.tw11607717776133820200 : True := trivial
theorem PySem.W.Fast.tw13339978536582818728 : True := trivial
theorem PySem.W.Fast.tw7234763900544053321 : True := trivial
theorem PySem.W.Fast.tw6593551670238956745 : True := trivial
theorem PySem.W.Fast.tw6153347248990468650 : True := trivial
theorem PySem.W.Fast.tw18358084526060591850 : True := trivial
theorem PySem.W.Fast.tw13498906705038819114 : True := trivial
theorem PySem.W.Fast.tw8002966530714434603 : True := trivial
theorem PySem.W.Fast.tw1315296352927914475 : True := trivial
theorem PySem.W.Fast.tw13899043871740176907 : True := trivial
theorem PySem.W.Fast.tw2491164511612351275 : True := trivial
theorem PySem.W.Fast.tw5971565828821162188 : True := trivial
theorem PySem.W.Fast.tw11095112395693487372 : True := trivial
theorem PySem.W.Fast.tw7615507483932260972 : True := trivial
theorem PySem.W.Fast.tw7637885290493505228 : True := trivial
theorem PySem.W.Fast.tw5586385358766066444 : True := trivial
theorem PySem.W.Fast.tw10929072109994515308 : True := trivial
theorem PySem.W.Fast.tw10322628588663582668 : True := trivial
theorem PySem.W.Fast.tw14068641850810096781 : True := trivial
theorem PySem.W.Fast.tw994710208502048973 : True := trivial
theorem PySem.W.Fast.tw12061398037115317453 : True := trivial
theorem PySem.W.Fast.tw6188965906006307277 : True := trivial
theorem PySem.W.Fast.tw4758847743762807341 : True := trivial
theorem PySem.W.Fast.tw9619222096456838701 : True := trivial
theorem PySem.W.Fast.tw12938159332728995501 : True := trivial
theorem PySem.W.Fast.tw14807204481420355277 : True := trivial
theorem PySem.W.Fast.tw9105282893972758413 : True := trivial
theorem PySem.W.Fast.tw7432245052557985773 : True := trivial
theorem PySem.W.Fast.tw11871968768547467374 : True := trivial
theorem PySem.W.Fast.tw13742970531884912910 : True := trivial
theorem PySem.W.Fast.tw10365779324912023950 : True := trivial
theorem PySem.W.Fast.tw2882148752334278190 : True := trivial
theorem PySem.W.Fast.tw2591042162646711343 : True := trivial
theorem PySem.W.Fast.tw6192174431999428847 : True := trivial
theorem PySem.W.Fast.tw17971533705464794575 : True := trivial
theorem PySem.W.Fast.tw14659069107441891791 : True := trivial
theorem PySem.W.Fast.tw49037776133044911 : True := trivial
theorem PySem.W.Fast.tw5411323547305698223 : True := trivial
theorem PySem.W.Fast.tw5147742861554483119 : True := trivial
theorem PySem.W.Fast.tw17257144187890253840 : True := trivial
theorem PySem.W.Fast.tw10120931408022147760 : True := trivial
theorem PySem.W.Fast.tw14045779191482226737 : True := trivial
theorem PySem.W.Fast.tw4636252459767957649 : True := trivial
theorem PySem.W.Fast.tw11052441337670492529 : True := trivial
theorem PySem.W.Fast.tw5960276369453313266 : True := trivial
theorem PySem.W.Fast.tw9274316987244722578 : True := trivial
theorem PySem.W.Fast.tw9224981529268986706 : True := trivial
theorem PySem.W.Fast.tw5104863199792233394 : True := trivial
theorem PySem.W.Fast.tw9623821290063879122 : True := trivial
theorem PySem.W.Fast.tw16170075678639503411 : True := trivial
theorem PySem.W.Fast.tw479462258288352403 : True := trivial
theorem PySem.W.Fast.tw7998076148130491635 : True := trivial
theorem PySem.W.Fast.tw10941009929833601427 : True := trivial
theorem PySem.W.Fast.tw3302924542645271283 : True := trivial
theorem PySem.W.Fast.tw10889536804388264883 : True := trivial
theorem PySem.W.Fast.tw2016522486196254932 : True := trivial
theorem PySem.W.Fast.tw11253659889853669716 : True := trivial
theorem PySem.W.Fast.tw689015031631051124 : True := trivial
theorem PySem.W.Fast.tw14940422374092148180 : True := trivial
theorem PySem.W.Fast.tw10897196840282947156 : True := trivial
theorem PySem.W.Fast.tw12176002216828147412 : True := trivial
theorem PySem.W.Fast.tw10134534173638963924 : True := trivial
theorem PySem.W.Fast.tw14649180963180297012 : True := trivial
theorem PySem.W.Fast.tw5248216247629526101 : True := trivial
theorem PySem.W.Fast.tw10082292958934245653 : True := trivial
theorem PySem.W.Fast.tw7928728339985378613 : True := trivial
theorem PySem.W.Fast.tw14344918584046833078 : True := trivial
theorem PySem.W.Fast.tw11700201965869069782 : True := trivial
theorem PySem.W.Fast.tw4120566868880883158 : True := trivial
theorem PySem.W.Fast.tw14417347971397087734 : True := trivial
theorem PySem.W.Fast.tw6194248329627626006 : True := trivial
theorem PySem.W.Fast.tw16838419930608505430 : True := trivial
theorem PySem.W.Fast.tw5331178499687389014 : True := trivial
theorem PySem.W.Fast.tw3264409235778163670 : True := trivial
theorem PySem.W.Fast.tw9545278094822501943 : True := trivial
theorem PySem.W.Fast.tw3607186791928280823 : True := trivial
theorem PySem.W.Fast.tw2493087721929686807 : True := trivial
theorem PySem.W.Fast.tw13266500142394099543 : True := trivial
theorem PySem.W.Fast.tw874400698733273176 : True := trivial
theorem PySem.W.Fast.tw12609977806616817944 : True := trivial
theorem PySem.W.Fast.tw9649127610997686872 : True := trivial
theorem PySem.W.Fast.tw12987019577916224120 : True := trivial
theorem PySem.W.Fast.te3175575876388033176 : True := trivial
theorem PySem.W.Fast.tw10645704760103619288 : True := trivial
theorem PySem.W.Fast.tw2471828021295889336 : True := trivial
theorem PySem.W.Fast.tw16660163163383037017 : True := trivial
theorem PySem.W.Fast.tw464898165351678681 : True := trivial
theorem PySem.W.Fast.tw8301141160697755545 : True := trivial
theorem PySem.W.Fast.tw10465390455400451898 : True := trivial
theorem PySem.W.Fast.tw4067941127617843259 : True := trivial
theorem PySem.W.Fast.tw4333595265839848667 : True := trivial
theorem PySem.W.Fast.tw18081781051001246971 : True := trivial
theorem PySem.W.Fast.tw11702911685964511515 : True := trivial
theorem PySem.W.Fast.tw5248078738035661147 : True := trivial
theorem PySem.W.Fast.tw7381427855854874011 : True := trivial
theorem PySem.W.Fast.tw11016810274808921563 : True := trivial
theorem PySem.W.Fast.tw15491328000564524539 : True := trivial
theorem PySem.W.Fast.tw6106005596746308251 : True := trivial
theorem PySem.W.Fast.tw4509990133169335163 : True := trivial
theorem PySem.W.Fast.tw16192625354119446427 : True := trivial
theorem PySem.W.Fast.tw13780121860023706652 : True := trivial
theorem PySem.W.Fast.tw8231418913110421532 : True := trivial
theorem PySem.W.Fast.tw14010369360491751740 : True := trivial
theorem PySem.W.Fast.tw5996107842955472252 : True := trivial
theorem PySem.W.Fast.tw17265711338398320092 : True := trivial
theorem PySem.W.Fast.tw4348283886724861596 : True := trivial
theorem PySem.W.Fast.tw10749015075431329532 : True := trivial
theorem PySem.W.Fast.tw13461726426074104604 : True := trivial
theorem PySem.W.Fast.tw11739362820291675996 : True := trivial
theorem PySem.W.Fast.tw3358761978004750589 : True := trivial
theorem PySem.W.Fast.tw17926808956549083453 : True := trivial
theorem PySem.W.Fast.tw16621034755180990941 : True := trivial
theorem PySem.W.Fast.tw13706168450099188445 : True := trivial
theorem PySem.W.Fast.tw4541612042189442877 : True := trivial
theorem PySem.W.Fast.tw5434417777969392445 : True := trivial
theorem PySem.W.Fast.tw13135188766527051773 : True := trivial
theorem PySem.W.Fast.tw6566690860213716062 : True := trivial
theorem PySem.W.Fast.tw16869259284896382270 : True := trivial
theorem PySem.W.Fast.tw9052357573339958686 : True := trivial
theorem PySem.W.Fast.tw2795306369294245406 : True := trivial
theorem PySem.W.Fast.tw10545947071792777311 : True := trivial
theorem PySem.W.Fast.tw14116599768932363423 : True := trivial
theorem PySem.W.Fast.tw1157115938056158527 : True := trivial
theorem PySem.W.Fast.tw1279785633358299455 : True := trivial
theorem PySem.W.Fast.tw6401585073704123871 : True := trivial
theorem PySem.W.Fast.tw16726171286977432063 : True := trivial
theorem PySem.W.Fast.tw2884468150652962719 : True := trivial
theorem PySem.W.Fast.tw16681364723917731743 : True := trivial
def PySem.W.Fast.tw3896891532075842449 := PySem.Challenge.pw_onceround_k72_whole_led
theorem PySem.W.Fast.te3896891532075842449 : PySem.Challenge.pw_onceround_k72_whole_led = PySem.W.Fast.tw3896891532075842449 := rfl
open PySem PySem.W PyProof.Rows
set_option maxRecDepth 100000 in
set_option maxHeartbeats 0 in
theorem PySem.Challenge.cw_onceround_k72_whole_led_holds : PySem.Challenge.rw_onceround_k72_whole_led.Holds := by
  w_on; o_law; k_head; (case hw => w_witness2)
  k_fill
  refine K72.walk (l := PySem.Challenge.rw_onceround_k72_whole_led) rfl rfl (fun w h Y => PySem.W.kIn_of Y) ?F
  case F =>
    intro w mg fa h KX G hmg
    refine' K72.all_mk KX G hmg ?a_looked_kinds ?l_looked_kinds ?c_looked_kinds ?k_looked_kinds ?a_looked_length ?l_looked_length ?c_looked_length ?k_looked_length ?a_letters ?l_letters ?c_letters ?k_letters ?a_looked ?l_looked ?c_looked ?k_looked ?a_row_windows ?l_row_windows ?c_row_windows ?k_row_windows ?a_ring_windows ?l_ring_windows ?c_ring_windows ?k_ring_windows ?a_windows ?l_windows ?c_windows ?k_windows ?a_looked_web ?l_looked_web ?c_looked_web ?k_looked_web ?a_Web_init ?l_Web_init ?c_Web_init ?k_Web_init ?i_Web_init ?a_begin_of ?l_begin_of ?c_begin_of ?k_begin_of ?a_is_turned_ring ?l_is_turned_ring ?c_is_turned_ring ?k_is_turned_ring ?a_is_ring ?l_is_ring ?c_is_ring ?k_is_ring ?a_pieces_met ?l_pieces_met ?c_pieces_met ?k_pieces_met ?a_places_from ?l_places_from ?c_places_from ?k_places_from ?a_is_exchange ?l_is_exchange ?c_is_exchange ?k_is_exchange ?a_exchange ?l_exchange ?c_exchange ?k_exchange ?a_deed_toward ?l_deed_toward ?c_deed_toward ?k_deed_toward ?a_led ?l_led ?c_led ?k_led ?a__law_mix ?l__law_mix ?c__law_mix ?k__law_mix ?a__law_cell_at ?l__law_cell_at ?c__law_cell_at ?k__law_cell_at ?a__law_round ?l__law_round ?c__law_round ?k__law_round ?a__law_first_twice ?l__law_first_twice ?c__law_first_twice ?k__law_first_twice ?a__law_once ?l__law_once ?c__law_once ?k__law_once ?a__law_text ?l__law_text ?c__law_text ?k__law_text ?a__law_ring ?l__law_ring ?c__law_ring ?k__law_ring ?a__law_pieces ?l__law_pieces ?c__law_pieces ?k__law_pieces ?a__law_fits ?l__law_fits ?c__law_fits ?k__law_fits ?a__law_cut ?l__law_cut ?c__law_cut ?k__law_cut ?a__law_hangs ?l__law_hangs ?c__law_hangs ?k__law_hangs ?a__law_other ?l__law_other ?c__law_other ?k__law_other ?a__law_leads ?l__law_leads ?c__law_leads ?k__law_leads ?a_law ?l_law ?c_law ?k_law ?z_all ?z_isinstance ?z_len ?z_list ?z_max ?z_min ?z_range ?z_set ?z_sorted ?z_sum ?z_tuple ?y_OnceError ?y_BadKinds ?y_BadWord ?y_TooMany ?y_NotOne ?y_BadDeed ?y_Web ?e_BadKinds ?e_BadWord ?e_TooMany ?e_NotOne ?e_BadDeed ?n1_BadDeed ?n2_BadDeed ?n3_BadDeed ?n4_BadDeed ?n5_BadDeed ?n6_BadDeed ?n7_BadDeed ?n8_BadDeed ?g_LETTERS ?r_LETTERS ?g_LONGEST ?r_LONGEST ?g_MOST_OF_A_WEB ?r_MOST_OF_A_WEB ?g_LONGEST_OF_A_WEB ?r_LONGEST_OF_A_WEB ?q_do ?q_dd ?q_dn ?pg_Web ?hd_Web ?po_Web ?sa_Web ?mk_Web ?kc_Web ?na_Web_words ?na_Web_length
    (case y_Web => k_is)
    (case a_looked_kinds => k_is)
    (case l_looked_kinds => k_is)
    (case c_looked_kinds => k_is)
    (case k_looked_kinds => k_is)
    (case a_looked_length => k_is)
    (case l_looked_length => k_is)
    (case c_looked_length => k_is)
    (case k_looked_length => k_is)
    (case a_letters => k_is)
    (case l_letters => k_is)
    (case c_letters => k_is)
    (case k_letters => k_is)
    (case a_looked => k_is)
    (case l_looked => k_is)
    (case c_looked => k_is)
    (case k_looked => k_is)
    (case a_row_windows => k_is)
    (case l_row_windows => k_is)
    (case c_row_windows => k_is)
    (case k_row_windows => k_is)
    (case a_ring_windows => k_is)
    (case l_ring_windows => k_is)
    (case c_ring_windows => k_is)
    (case k_ring_windows => k_is)
    (case a_windows => k_is)
    (case l_windows => k_is)
    (case c_windows => k_is)
    (case k_windows => k_is)
    (case a_looked_web => k_is)
    (case l_looked_web => k_is)
    (case c_looked_web => k_is)
    (case k_looked_web => k_is)
    (case a_Web_init => k_is)
    (case l_Web_init => k_is)
    (case c_Web_init => k_is)
    (case k_Web_init => k_is)
    (case a_begin_of => k_is)
    (case l_begin_of => k_is)
    (case c_begin_of => k_is)
    (case k_begin_of => k_is)
    (case a_is_turned_ring => k_is)
    (case l_is_turned_ring => k_is)
    (case c_is_turned_ring => k_is)
    (case k_is_turned_ring => k_is)
    (case a_is_ring => k_is)
    (case l_is_ring => k_is)
    (case c_is_ring => k_is)
    (case k_is_ring => k_is)
    (case a_pieces_met => k_is)
    (case l_pieces_met => k_is)
    (case c_pieces_met => k_is)
    (case k_pieces_met => k_is)
    (case a_places_from => k_is)
    (case l_places_from => k_is)
    (case c_places_from => k_is)
    (case k_places_from => k_is)
    (case a_is_exchange => k_is)
    (case l_is_exchange => k_is)
    (case c_is_exchange => k_is)
    (case k_is_exchange => k_is)
    (case a_exchange => k_is)
    (case l_exchange => k_is)
    (case c_exchange => k_is)
    (case k_exchange => k_is)
    (case a_deed_toward => k_is)
    (case l_deed_toward => k_is)
    (case c_deed_toward => k_is)
    (case k_deed_toward => k_is)
    (case a_led => k_is)
    (case l_led => k_is)
    (case c_led => k_is)
    (case k_led => k_is)
    (case a__law_mix => k_is)
    (case l__law_mix => k_is)
    (case c__law_mix => k_is)
    (case k__law_mix => k_is)
    (case a__law_cell_at => k_is)
    (case l__law_cell_at => k_is)
    (case c__law_cell_at => k_is)
    (case k__law_cell_at => k_is)
    (case a__law_round => k_is)
    (case l__law_round => k_is)
    (case c__law_round => k_is)
    (case k__law_round => k_is)
    (case a__law_first_twice => k_is)
    (case l__law_first_twice => k_is)
    (case c__law_first_twice => k_is)
    (case k__law_first_twice => k_is)
    (case a__law_once => k_is)
    (case l__law_once => k_is)
    (case c__law_once => k_is)
    (case k__law_once => k_is)
    (case a__law_text => k_is)
    (case l__law_text => k_is)
    (case c__law_text => k_is)
    (case k__law_text => k_is)
    (case a__law_ring => k_is)
    (case l__law_ring => k_is)
    (case c__law_ring => k_is)
    (case k__law_ring => k_is)
    (case a__law_pieces => k_is)
    (case l__law_pieces => k_is)
    (case c__law_pieces => k_is)
    (case k__law_pieces => k_is)
    (case a__law_fits => k_is)
    (case l__law_fits => k_is)
    (case c__law_fits => k_is)
    (case k__law_fits => k_is)
    (case a__law_cut => k_is)
    (case l__law_cut => k_is)
    (case c__law_cut => k_is)
    (case k__law_cut => k_is)
    (case a__law_hangs => k_is)
    (case l__law_hangs => k_is)
    (case c__law_hangs => k_is)
    (case k__law_hangs => k_is)
    (case a__law_other => k_is)
    (case l__law_other => k_is)
    (case c__law_other => k_is)
    (case k__law_other => k_is)
    (case a__law_leads => k_is)
    (case l__law_leads => k_is)
    (case c__law_leads => k_is)
    (case k__law_leads => k_is)
    (case a_law => k_is)
    (case l_law => k_is)
    (case c_law => k_is)
    (case k_law => k_is)
    (case z_all => k_is)
    (case z_isinstance => k_is)
    (case z_len => k_is)
    (case z_list => k_is)
    (case z_max => k_is)
    (case z_min => k_is)
    (case z_range => k_is)
    (case z_set => k_is)
    (case z_sorted => k_is)
    (case z_sum => k_is)
    (case z_tuple => k_is)
    (case y_OnceError => k_is)
    (case y_BadKinds => k_is)
    (case y_BadWord => k_is)
    (case y_TooMany => k_is)
    (case y_NotOne => k_is)
    (case y_BadDeed => k_is)
    (case e_BadKinds => kernel_rfl)
    (case e_BadWord => kernel_rfl)
    (case e_TooMany => kernel_rfl)
    (case e_NotOne => kernel_rfl)
    (case e_BadDeed => kernel_rfl)
    (case n1_BadDeed => k_is)
    (case n2_BadDeed => k_is)
    (case n3_BadDeed => k_is)
    (case n4_BadDeed => k_is)
    (case n5_BadDeed => k_is)
    (case n6_BadDeed => k_is)
    (case n7_BadDeed => k_is)
    (case n8_BadDeed => kernel_rfl)
    (case g_LETTERS => k_is)
    (case r_LETTERS => exact ⟨_, rfl⟩)
    (case g_LONGEST => k_is)
    (case r_LONGEST => exact ⟨_, rfl⟩)
    (case g_MOST_OF_A_WEB => k_is)
    (case r_MOST_OF_A_WEB => exact ⟨_, rfl⟩)
    (case g_LONGEST_OF_A_WEB => k_is)
    (case r_LONGEST_OF_A_WEB => exact ⟨_, rfl⟩)
    (case q_do => kts_exm)
    (case q_dd => kit_is)
    (case q_dn => kit_is)
    (case pg_Web => k_is)
    (case hd_Web => k_is)
    (case po_Web => k_is)
    (case sa_Web => k_is)
    (case mk_Web => k_is)
    (case kc_Web => k_is)
    (case na_Web_words => k_is)
    (case na_Web_length => k_is)
    (case i_Web_init => k_is)
#print axioms PySem.Challenge.cw_onceround_k72_whole_led_holds
