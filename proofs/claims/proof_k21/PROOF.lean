import PyProof.Rows.All
import Wide.All
import OpenK.AllK
import Wide.FinOn
import Lean
import PyProof.EqAt
import PyProof.EqKinds
import PyProof.TupleCall
import PySem.Challenge.RW_onceround_k21_whole_row_ends
set_option genSizeOfSpec false
set_option bootstrap.genMatcherCode false
-- CHANGE: your row's module here, as the last of these rows
set_option Elab.async false
set_option linter.all false
set_option maxRecDepth 100000
namespace L2
open PySem PySem.Spec PyProof.Rows

noncomputable abbrev Key := Sum Int Str
noncomputable def keyIs : Key → Value → Bool
  | .inl k, v => Value.isInt k v
  | .inr x, v => Value.isStrOf x v
noncomputable def keyH (w : World) : Key → Int
  | .inl k => hashInt k
  | .inr x => hashStr w x
theorem keyIs_shape : ∀ {k : Key} {v : Value}, keyIs k v = true → (∃ i t, k = Sum.inl i ∧ v = Value.int i t) ∨ (∃ x t, k = Sum.inr x ∧ v = Value.str x t)
  | .inl i, v, h => by
    obtain ⟨t, e⟩ := Value.isInt_shape (k := i) (v := v) h
    exact .inl ⟨i, t, rfl, e⟩
  | .inr x, v, h => by
    obtain ⟨t, e⟩ := Value.isStrOf_shape (x := x) (v := v) h
    exact .inr ⟨x, t, rfl, e⟩
theorem keyIs_int (i : Int) (t : Tok) : keyIs (.inl i) (.int i t) = true := by simp [keyIs, Value.isInt]
theorem keyIs_str (x : Str) (t : Tok) : keyIs (.inr x) (.str x t) = true := by simp [keyIs, Value.isStrOf]
theorem key_ll (a b : Int) : decide ((Sum.inl a : Key) = Sum.inl b) = (a == b) := by
  by_cases e : a = b
  · subst e; simp
  · have h : ¬ (Sum.inl a : Key) = Sum.inl b := fun q => e (Sum.inl.inj q)
    rw [decide_eq_false h]
    exact (beq_eq_false_iff_ne.mpr e).symm
theorem key_rr (a b : Str) : decide ((Sum.inr a : Key) = Sum.inr b) = decide (a = b) := by
  by_cases e : a = b
  · subst e; simp
  · have h : ¬ (Sum.inr a : Key) = Sum.inr b := fun q => e (Sum.inr.inj q)
    rw [decide_eq_false h, decide_eq_false e]
theorem key_lr (a : Int) (b : Str) : decide ((Sum.inl a : Key) = Sum.inr b) = false := decide_eq_false (fun q => nomatch q)
theorem key_rl (a : Str) (b : Int) : decide ((Sum.inr a : Key) = Sum.inl b) = false := decide_eq_false (fun q => nomatch q)

noncomputable def mixKind (prog : Program) (w : World) : PySem.KeyKind prog w Key where
  is := keyIs
  hash := keyH w
  inj := fun v a b ha hb => by
    rcases keyIs_shape ha with ⟨i, t, rfl, rfl⟩ | ⟨x, t, rfl, rfl⟩
    · rcases keyIs_shape hb with ⟨j, u, rfl, e⟩ | ⟨y, u, rfl, e⟩
      · injection e with e1 _; rw [e1]
      · exact nomatch e
    · rcases keyIs_shape hb with ⟨j, u, rfl, e⟩ | ⟨y, u, rfl, e⟩
      · exact nomatch e
      · injection e with e1 _; rw [e1]
  byValue := fun k v h => by
    rcases keyIs_shape h with ⟨i, t, rfl, rfl⟩ | ⟨x, t, rfl, rfl⟩ <;> rfl
  pyHash := fun hv h => by
    rcases keyIs_shape hv with ⟨i, t, rfl, rfl⟩ | ⟨x, t, rfl, rfl⟩
    · exact wpAny_pyHash_int h
    · exact wpAny_pyHash_str h
  eqBool := fun hu hv h => by
    rcases keyIs_shape hu with ⟨i, t, rfl, rfl⟩ | ⟨x, t, rfl, rfl⟩
    · rcases keyIs_shape hv with ⟨j, u, rfl, rfl⟩ | ⟨y, u, rfl, rfl⟩
      · rw [key_ll] at h; exact wpAny_eqBool_int h
      · rw [key_lr] at h; exact SeqAt.EqAt.int_str i t y u _ _ _ _ h
    · rcases keyIs_shape hv with ⟨j, u, rfl, rfl⟩ | ⟨y, u, rfl, rfl⟩
      · rw [key_rl] at h; exact SeqAt.EqAt.str_int x t j u _ _ _ _ h
      · rw [key_rr] at h; exact wpAny_eqBool_str h
  «strs» := fun k x t v h => by
    rcases keyIs_shape h with ⟨i, u, rfl, e⟩ | ⟨y, u, rfl, e⟩
    · exact nomatch e
    · injection e with e1 _
      subst e1
      cases v <;> rfl

theorem mixKind_int (prog : Program) (w : World) (i : Int) (t : Tok) : (mixKind prog w).is (.inl i) (.int i t) = true := keyIs_int i t
theorem mixKind_str (prog : Program) (w : World) (x : Str) (t : Tok) : (mixKind prog w).is (.inr x) (.str x t) = true := keyIs_str x t
end L2

namespace L2
open PySem PySem.Spec PyProof.Rows

inductive V where
  | non | bl (b : Bool) | int (i : Int) | str (x : Str) | byt (b : Array UInt8) | flt (b : UInt64) | ref (a : Addr) | ty (n : String)
  deriving DecidableEq

noncomputable def RelV : V → Value → Prop
  | .non, u => u = Value.none
  | .bl b, u => u = Value.bool b
  | .int i, u => ∃ t, u = Value.int i t
  | .str x, u => ∃ t, u = Value.str x t
  | .byt b, u => ∃ t, u = Value.bytes b t
  | .flt b, u => ∃ t, u = Value.float b t
  | .ref a, u => u = Value.ref a
  | .ty n, u => u = Value.type n

noncomputable abbrev Vals : List V → List Value → Prop := Paired RelV
theorem Vals.length {xs : List V} {us : List Value} (r : Vals xs us) : xs.length = us.length := Paired.length r
theorem Vals.get : ∀ {xs : List V} {us : List Value} {i : Nat} {x : V}, Vals xs us → xs[i]? = some x → ∃ u, us[i]? = some u ∧ RelV x u
  | _, _, _, _, .nil, e => by simp at e
  | _, _, 0, _, .cons r _, e => by simp at e; subst e; exact ⟨_, rfl, r⟩
  | _, _, i + 1, x, .cons _ t, e => by
    obtain ⟨u, h1, h2⟩ := Vals.get (i := i) (x := x) t (by simpa using e)
    exact ⟨u, by simpa using h1, h2⟩
theorem Vals.append : ∀ {xs ys : List V} {us ws : List Value}, Vals xs us → Vals ys ws → Vals (xs ++ ys) (us ++ ws)
  | _, _, _, _, .nil, s => s
  | _, _, _, _, .cons r t, s => .cons r (Vals.append t s)
theorem Vals.take : ∀ {xs : List V} {us : List Value} (n : Nat), Vals xs us → Vals (xs.take n) (us.take n)
  | _, _, 0, _ => .nil
  | _, _, _ + 1, .nil => .nil
  | _, _, n + 1, .cons r t => .cons r (Vals.take n t)
theorem Vals.drop : ∀ {xs : List V} {us : List Value} (n : Nat), Vals xs us → Vals (xs.drop n) (us.drop n)
  | _, _, 0, r => r
  | _, _, _ + 1, .nil => .nil
  | _, _, n + 1, .cons _ t => Vals.drop n t
noncomputable def RelO : Option V → Option Value → Prop
  | some v, some u => RelV v u
  | none, none => True
  | _, _ => False
noncomputable def KV {κ : Type} : List (κ × V) → List (κ × Value) → Prop := Paired fun (p : κ × V) (q : κ × Value) => p.1 = q.1 ∧ RelV p.2 q.2

noncomputable def kV : Key → V
  | .inl i => .int i
  | .inr x => .str x

inductive HO where
    | lst (xs : List V)
    | tup (xs : List V)
    | dK (kvs : List (Key × V)) | dT (kvs : List (List Key × V))
    | set (S : Int → Bool) (n : Nat)
    | ins (C dx : Addr) (fs : List (Str × V))
    | own (x : Addr)
    | xd (fs : List (Str × V))
    | met (f x : Addr)
    | rng (lo hi : Int)
    | frz (o : Obj) (u : HO)
    | tbl (ps : Array Value)
    | ext (φ : Heap → Prop)

noncomputable abbrev Hp := Addr → Option HO
noncomputable def upd (H : Hp) (a : Addr) (o : HO) : Hp := fun b => if b = a then some o else H b
theorem upd_same {H : Hp} {a : Addr} {o : HO} : upd H a o a = some o := by unfold upd; rw [if_pos rfl]
theorem upd_ne {H : Hp} {a b : Addr} {o : HO} (h : b ≠ a) : upd H a o b = H b := by unfold upd; rw [if_neg h]
theorem upd_upd {H : Hp} {a : Addr} {o u : HO} : upd (upd H a o) a u = upd H a u := by
  funext b; unfold upd; split <;> rfl
theorem ne_of {H : Hp} {a b : Addr} {o u : HO} (h : H a = some o) (h' : H b = some u) (d : o ≠ u) : a ≠ b := by
  intro e; subst e; rw [h] at h'; exact d (Option.some.inj h')
theorem ne_of_none {H : Hp} {a b : Addr} {o : HO} (h : H a = some o) (h' : H b = none) : a ≠ b := by
  intro e; subst e; rw [h] at h'; cases h'

section
variable (P : Program) (w : World)
noncomputable def ObjOk (H : Hp) (h : Heap) (a : Addr) : HO → Prop
  | .lst xs => xs.length ≤ sizeLine ∧ ∃ (its : List Value) (n : Nat), Vals xs its ∧ h.get? a = some { cls := .type "list", data := .seq its.toArray n }
  | .tup xs => xs.length ≤ sizeLine ∧ ∃ its : List Value, Vals xs its ∧ IsTup h a its.toArray
  | .dK kvs => kvs.length ≤ sizeLine ∧ (a == sysModules) = false ∧ ∃ vs, KV kvs vs ∧ h.DictOf (mixKind P w) a vs
  | .dT kvs => kvs.length ≤ sizeLine ∧ (a == sysModules) = false ∧ ∃ xs : List (List Key × Addr × Value),
      Paired (fun (p : List Key × V) (q : List Key × Addr × Value) => p.1 = q.1 ∧ H q.2.1 = some (.tup (p.1.map kV)) ∧ RelV p.2 q.2.2) kvs xs ∧
      ∃ o es ep, h.get? a = some o ∧ o.ExactDict ∧ o.data = .dict es ep ∧ es.toList = xs.map (entryOfKey (tupleKind (mixKind P w))) ∧ (xs.map (·.1)).Nodup
  | .set S n => h.SetOf (intKind P w) a S n
  | .ins C dx fs => H dx = some (.own a) ∧ fs.length ≤ 1000 ∧ dx ≠ a ∧ h.get? a = some (PySem.W.instObj C dx) ∧
      ∃ mA, h.Ns1 dx mA ∧ (∀ f, RelO (fs.lookup f) (mA f)) ∧ PySem.Within mA (fs.map (·.1))
  | .own _ => ∃ o, h.get? a = some o
  | .xd fs => ∃ mA, h.Ns1 a mA ∧ ∀ f, RelO (fs.lookup f) (mA f)
  | .rng lo hi => ∃ t u v, h.get? a = some { cls := .type "range", data := .fields #[.int lo t, .int hi u, .int 1 v] }
  | .frz o u => h.get? a = some o ∧ ObjOk H h a u
  | .tbl ps => h.get? a = some { cls := .none, data := .fields ps }
  | .met f x => h.get? a = some (PySem.W.methodObj (.ref f) (.ref x))
  | .ext φ => φ h ∧ (∃ o, h.get? a = some o) ∧ ∀ h1 h2 : Heap, φ h1 → (∀ o, h1.get? a = some o → h2.get? a = some o) → φ h2
noncomputable def HOk (H : Hp) (h : Heap) : Prop := ∀ a o, H a = some o → ObjOk P w H h a o
end

section
variable {P : Program} {w : World} {H H' : Hp} {h h' : Heap} {a : Addr} {o : HO}
theorem ObjOk.lt (x : ObjOk P w H h a o) : a < h.objs.size := by
  cases o with
  | lst xs => obtain ⟨_, _, _, _, e⟩ := x; exact Heap.lt_size e
  | tup xs => obtain ⟨_, _, _, p⟩ := x; exact p.lt
  | dK kvs => obtain ⟨_, _, _, _, o, _, _, e, _⟩ := x; exact Heap.lt_size e
  | dT kvs => obtain ⟨_, _, _, _, o, _, _, e, _⟩ := x; exact Heap.lt_size e
  | set S n => obtain ⟨o, _, _, _, e, _⟩ := x; exact Heap.lt_size e
  | ins C dx fs => obtain ⟨_, _, _, e, _⟩ := x; exact Heap.lt_size e
  | own y => obtain ⟨_, e⟩ := x; exact Heap.lt_size e
  | xd fs => obtain ⟨_, ⟨_, _, _, e, _⟩, _⟩ := x; exact Heap.lt_size e
  | rng lo hi => obtain ⟨_, _, _, e⟩ := x; exact Heap.lt_size e
  | frz ob u => obtain ⟨e, _⟩ := x; exact Heap.lt_size e
  | tbl ps => exact Heap.lt_size (show h.get? a = some _ from x)
  | met f y => exact Heap.lt_size (show h.get? a = some _ from x)
  | ext φ => obtain ⟨_, ⟨_, e⟩, _⟩ := x; exact Heap.lt_size e
theorem Paired.mapP {α β : Type} {F G : α → β → Prop} : ∀ {l₁ : List α} {l₂ : List β}, Paired F l₁ l₂ → (∀ a b, F a b → G a b) → Paired G l₁ l₂
  | _, _, .nil, _ => .nil
  | _, _, .cons r t, f => .cons (f _ _ r) (Paired.mapP t f)
theorem ObjOk.stay (x : ObjOk P w H h a o) (k : ∀ b u, (b = a ∨ H b = some (.own a)) → h.get? b = some u → h'.get? b = some u)
    (ho : ∀ b, H b = some (.own a) → H' b = some (.own a)) (ht : ∀ b xs, H b = some (.tup xs) → H' b = some (.tup xs)) : ObjOk P w H' h' a o := by
  induction o with
  | lst xs => obtain ⟨z, its, n, r, e⟩ := x; exact ⟨z, its, n, r, k _ _ (.inl rfl) e⟩
  | tup xs => obtain ⟨z, its, r, ob, e, c⟩ := x; exact ⟨z, its, r, ob, k _ _ (.inl rfl) e, c⟩
  | dK kvs => obtain ⟨z, y, vs, r, ob, es, ep, e, c⟩ := x; exact ⟨z, y, vs, r, ob, es, ep, k _ _ (.inl rfl) e, c⟩
  | dT kvs =>
    obtain ⟨z, y, xs, r, ob, es, ep, e, c⟩ := x
    exact ⟨z, y, xs, Paired.mapP r fun p q z => ⟨z.1, ht _ _ z.2.1, z.2.2⟩, ob, es, ep, k _ _ (.inl rfl) e, c⟩
  | set S n => obtain ⟨ob, es, ep, t, e, c⟩ := x; exact ⟨ob, es, ep, t, k _ _ (.inl rfl) e, c⟩
  | ins C dx fs =>
    obtain ⟨d, z, ne, e, mA, ⟨od, es, ep, e2, c⟩, r⟩ := x
    exact ⟨ho _ d, z, ne, k _ _ (.inl rfl) e, mA, ⟨od, es, ep, k _ _ (.inr d) e2, c⟩, r⟩
  | own y => obtain ⟨ob, e⟩ := x; exact ⟨ob, k _ _ (.inl rfl) e⟩
  | xd fs => obtain ⟨mA, ⟨od, es, ep, e, c⟩, r⟩ := x; exact ⟨mA, ⟨od, es, ep, k _ _ (.inl rfl) e, c⟩, r⟩
  | rng lo hi => obtain ⟨t, u, v, e⟩ := x; exact ⟨t, u, v, k _ _ (.inl rfl) e⟩
  | frz ob u ih => obtain ⟨e, q⟩ := x; exact ⟨k _ _ (.inl rfl) e, ih q⟩
  | tbl ps =>
    have e : h.get? a = some { cls := .none, data := .fields ps } := x
    show h'.get? a = some { cls := .none, data := .fields ps }
    exact k a _ (.inl rfl) e
  | met f y =>
    have e : h.get? a = some (PySem.W.methodObj (.ref f) (.ref y)) := x
    show h'.get? a = some (PySem.W.methodObj (.ref f) (.ref y))
    exact k a _ (.inl rfl) e
  | ext φ => obtain ⟨p, ⟨o, e⟩, st⟩ := x; exact ⟨st _ _ p fun o q => k _ _ (.inl rfl) q, ⟨o, k _ _ (.inl rfl) e⟩, st⟩
theorem HOk.lt (x : HOk P w H h) (e : H a = some o) : a < h.objs.size := (x a o e).lt
theorem HOk.fresh (x : HOk P w H h) (e : h.objs.size ≤ a) : H a = none := by
  cases q : H a with
  | none => rfl
  | some u => exact absurd (Nat.lt_of_lt_of_le (x.lt q) e) (Nat.lt_irrefl _)
theorem HOk.kept (x : HOk P w H h) (k : ∀ b u, h.get? b = some u → h'.get? b = some u) : HOk P w H h' := fun a o e =>
  (x a o e).stay (fun b u _ q => k b u q) (fun _ q => q) fun _ _ q => q
theorem HOk.laid (x : HOk P w H h) (k : ∀ b u, h.get? b = some u → h'.get? b = some u) (hp : h.objs.size ≤ a) (new : ObjOk P w (upd H a o) h' a o) : HOk P w (upd H a o) h' := fun b u e => by
  have hn := x.fresh hp
  by_cases hb : b = a
  · subst hb; rw [upd_same] at e; cases e; exact new
  · rw [upd_ne hb] at e
    exact (x b u e).stay (fun c v _ q => k c v q) (fun c q => by rw [upd_ne (ne_of_none q hn)]; exact q) fun c xs q => by rw [upd_ne (ne_of_none q hn)]; exact q
end

noncomputable def Rd (H : Hp) (a : Addr) (u : HO) : Prop := H a = some u ∨ ∃ o, H a = some (.frz o u)
theorem Rd.ok {P : Program} {w : World} {H : Hp} {h : Heap} {a : Addr} {u : HO} (r : Rd H a u) (x : HOk P w H h) : ObjOk P w H h a u := by
  rcases r with r | ⟨o, r⟩
  · exact x a u r
  · obtain ⟨_, q⟩ := x a _ r
    exact q
noncomputable def Mut : Option HO → Prop
  | some (.lst _) => True
  | some (.dK _) => True
  | some (.dT _) => True
  | some (.set _ _) => True
  | some (.ins _ _ _) => True
  | some (.ext _) => True
  | _ => False
section
variable {P : Program} {w : World} {H : Hp} {h h' : Heap} {x e : Addr} {o' : HO}
theorem HOk.write (ok : HOk P w H h) (mu : Mut (H x)) (he : e = x ∨ H e = some (.own x)) (k : ∀ b u, b ≠ e → h.get? b = some u → h'.get? b = some u) (heo : ∃ u, h'.get? e = some u)
    (new : ObjOk P w (upd H x o') h' x o') : HOk P w (upd H x o') h' := fun b u q => by
  have nown : ∀ c y, H c = some (.own y) → c ≠ x := fun c y r z => by subst z; rw [r] at mu; exact mu
  have ntup : ∀ c xs, H c = some (.tup xs) → c ≠ x := fun c xs r z => by subst z; rw [r] at mu; exact mu
  by_cases hb : b = x
  · subst hb; rw [upd_same] at q; cases q; exact new
  · rw [upd_ne hb] at q
    by_cases hbe : b = e
    · have q' : H b = some (.own x) := by
        rcases he with z | z
        · exact absurd (hbe.trans z) hb
        · rw [hbe]; exact z
      rw [q] at q'; cases q'
      obtain ⟨v, hv⟩ := heo
      exact ⟨v, by rw [hbe]; exact hv⟩
    · refine (ok b u q).stay (fun c v hc r => k c v ?_ r) (fun c r => by rw [upd_ne (nown c b r)]; exact r) fun c xs r => by rw [upd_ne (ntup c xs r)]; exact r
      rcases hc with rfl | hc
      · exact hbe
      · rintro rfl
        rcases he with z | z
        · exact nown c b hc z
        · rw [hc] at z; cases z; exact hb rfl
end

set_option genInjectivity false in
structure Un (fs ex : List Addr) (H H' : Hp) (h h' : Heap) : Prop where
  keep : ∀ b o, h.get? b = some o → H b = none → b ∉ fs → b ∉ ex → h'.get? b = some o
  slot : ∀ b o, h.get? b = some o → H b = none → b ∈ fs → b ∉ ex → ∃ sl, h'.get? b = some { o with slots := sl }
  free : ∀ b o, h.get? b = some o → H b = none → b ∉ ex → H' b = none
  there : ∀ b o, h.get? b = some o → b ∉ ex → ∃ o', h'.get? b = some o'
  tups : ∀ b xs, H b = some (.tup xs) → H' b = some (.tup xs)
  frzs : ∀ b o u, H b = some (.frz o u) → H' b = some (.frz o u)
  tbls : ∀ b ps, H b = some (.tbl ps) → ∃ more, H' b = some (.tbl (ps ++ more))
section
variable {fs fs' ex ex' : List Addr} {H H1 H2 : Hp} {h h1 h2 h' : Heap} {a x e : Addr} {o : HO}
theorem Un.any (u : Un fs ex H H1 h h1) {b : Addr} {ob : Obj} (q : h.get? b = some ob) (n : H b = none) (hx : b ∉ ex) : ∃ sl, h1.get? b = some { ob with slots := sl } := by
  by_cases hb : b ∈ fs
  · exact u.slot b ob q n hb hx
  · exact ⟨ob.slots, u.keep b ob q n hb hx⟩
theorem Un.kept (k : ∀ b u, h.get? b = some u → h'.get? b = some u) : Un fs ex H H h h' :=
  ⟨fun b ob q _ _ _ => k b ob q, fun b ob q _ _ _ => ⟨ob.slots, k b ob q⟩, fun _ _ _ n _ => n, fun b ob q _ => ⟨ob, k b ob q⟩, fun _ _ q => q, fun _ _ _ q => q, fun _ ps q => ⟨#[], by rw [q]; simp⟩⟩
theorem Un.refl : Un fs ex H H h h := Un.kept fun _ _ q => q
theorem Un.laid (k : ∀ b u, h.get? b = some u → h'.get? b = some u) (hp : h.objs.size ≤ a) (hn : H a = none) : Un fs ex H (upd H a o) h h' where
  keep := fun b u q _ _ _ => k b u q
  slot := fun b u q _ _ _ => ⟨u.slots, k b u q⟩
  free := fun b u q n _ => by rw [upd_ne (Nat.ne_of_lt (Nat.lt_of_lt_of_le (Heap.lt_size q) hp))]; exact n
  there := fun b u q _ => ⟨u, k b u q⟩
  tups := fun b xs q => by rw [upd_ne (ne_of_none q hn)]; exact q
  frzs := fun b u xs q => by rw [upd_ne (ne_of_none q hn)]; exact q
  tbls := fun b ps q => ⟨#[], by rw [upd_ne (ne_of_none q hn), q]; simp⟩
theorem Un.write (mu : Mut (H x)) (he : e = x ∨ H e = some (.own x)) (k : ∀ b u, b ≠ e → h.get? b = some u → h'.get? b = some u) (heo : ∃ u, h'.get? e = some u) : Un fs ex H (upd H x o) h h' := by
  have hx : ∀ b, H b = none → b ≠ x := fun b n z => by subst z; rw [n] at mu; exact mu
  have hb : ∀ b, H b = none → b ≠ e := fun b n z => by
    subst z
    rcases he with r | r
    · exact hx b n r
    · rw [n] at r; cases r
  have hm : ∀ b u, H b = some u → ¬ Mut (some u) → b ≠ x := fun b u q nm z => by subst z; rw [q] at mu; exact nm mu
  refine ⟨fun b u q n _ _ => k b u (hb b n) q, fun b u q n _ _ => ⟨u.slots, k b u (hb b n) q⟩, fun b u q n _ => by rw [upd_ne (hx b n)]; exact n, fun b u q _ => ?_,
    fun b xs q => by rw [upd_ne (hm b _ q fun z => z)]; exact q, fun b u xs q => by rw [upd_ne (hm b _ q fun z => z)]; exact q, fun b ps q => ⟨#[], by rw [upd_ne (hm b _ q fun z => z), q]; simp⟩⟩
  by_cases hbe : b = e
  · subst hbe; exact heo
  · exact ⟨u, k b u hbe q⟩
end

noncomputable def trk (h : Heap) (H : Hp) : List Addr := (List.range h.objs.size).filter fun a => (H a).isSome
noncomputable def hidT (h : Heap) (H : Hp) : Heap := PySem.W.hideAll h (trk h H)
theorem hidT_size (h : Heap) (H : Hp) : (hidT h H).objs.size = h.objs.size := PySem.W.hideAll_size _ _
theorem hidT_get {h : Heap} {H : Hp} {b : Addr} {o : Obj} (e : h.get? b = some o) (n : H b = none) : (hidT h H).get? b = some o :=
  PySem.W.hideAll_get _ e fun hm => by
    have q : (H b).isSome = true := (List.mem_filter.mp hm).2
    rw [n] at q; simp at q
theorem of_hidT {h : Heap} {H : Hp} {b : Addr} {o : Obj} (e : (hidT h H).get? b = some o) : h.get? b = some o ∧ H b = none := by
  have e' : h.get? b = some o := PySem.W.of_hideAll (trk h H) e
  refine ⟨e', ?_⟩
  cases q : H b with
  | none => rfl
  | some x =>
    have hm : b ∈ trk h H := List.mem_filter.mpr ⟨List.mem_range.mpr (Heap.lt_size e'), by simp [q]⟩
    have z : (hidT h H).get? b = none := PySem.W.hideAll_none (trk h H) hm
    rw [z] at e; cases e

noncomputable def allNews (g h : Heap) (L : Addr) : List (Addr × Obj) := (List.range h.objs.size).filterMap fun a => if a = L ∨ (g.get? a).isSome = true then none else (h.get? a).map fun o => (a, o)
noncomputable def rest (g h : Heap) (L d : Addr) : List (Addr × Obj) := (allNews g h L).filter fun p => decide (p.1 ≠ d)
end L2

namespace L2
open PySem PySem.Spec PyProof.Rows

set_option genInjectivity false in
structure Mod (K : PySem.W.Frag) (mg : Str → Option Value) (base : Heap) : Prop where
  kin : K.In base
  glob : base.Ns mainGlobals mg
  blt : ∃ mb, base.Ns builtinsNs mb ∧ ∀ x : Str, x ≠ "__name__" → mb x = bootBuiltins x
  nolimit : base.NoLimit

set_option genInjectivity false in
structure Cx where
  prog : Program
  w : World
  K : PySem.W.Frag
  mg : Str → Option Value
  base : Heap
  A : Around
  N : List Str
  s₀ : Shared
  H₀ : Hp
  env : Env
  outer : List Env
  stack : List Env
  ex : List Addr
  fn : Str → Bool
  calm : Bool
  pn : List (Addr × Obj)
  xe : Value → Shared → Prop
noncomputable def frs (l : List Env) : List Addr := l.filterMap (·.frame)
noncomputable abbrev Cx.fs (X : Cx) : List Addr := frs X.outer

noncomputable def Vis (sc : Scope) (x : Str) : Prop := sc.names.lookup x = some .local ∨ sc.names.lookup x = some .cell ∨ sc.names.lookup x = some .free
noncomputable def Loc (sc : Scope) (x : Str) : Prop := sc.names.lookup x = some .local ∨ sc.names.lookup x = some .cell
noncomputable def Look (env : Env) (h : Heap) (m : Str → Option Value) (x : Str) (u : Value) : Prop :=
  (env.kindOf x = some .local ∧ m x = some u) ∨ ((env.kindOf x = some .cell ∨ env.kindOf x = some .free) ∧ ∃ c, env.cells.lookup x = some c ∧ h.IsCell c (some u))

set_option genInjectivity false in
structure Cx.Ok (X : Cx) : Prop where
  mod : Mod X.K X.mg X.base
  kind : X.env.scope.kind = .function
  glob : X.env.globals = mainGlobals
  blt : X.env.builtins = builtinsNs
  above : X.s₀.heap.objs.size ≤ X.env.locals
  inj : ∀ x y c, X.env.cells.lookup x = some c → X.env.cells.lookup y = some c → x = y
  has : ∀ x, (X.env.kindOf x = some .cell ∨ X.env.kindOf x = some .free) → ∃ c, X.env.cells.lookup x = some c
  cab : ∀ x c, X.fn x = true → X.env.cells.lookup x = some c → X.s₀.heap.objs.size ≤ c
  hd : X.calm = true → X.A.handled = none
  frames : X.A.frames = some X.stack
  stk : X.stack = X.outer ∨ (X.stack = X.env :: X.outer ∧ X.env.frame = some X.env.locals)
  exf : ∀ b ∈ X.ex, b ≠ X.env.locals ∧ ∀ x c, X.env.cells.lookup x = some c → c ≠ b
  bs : ∀ b o, X.base.get? b = some o → X.s₀.heap.get? b = some o ∧ X.H₀ b = none
  bsz : X.base.objs.size ≤ X.s₀.heap.objs.size
  noex : ∀ b o, X.base.get? b = some o → b ∉ X.ex
  exfs : ∀ b ∈ X.ex, b ∉ X.fs
  funs : X.s₀.heap.FunFrames X.base X.outer
  frf : ∀ b ∈ X.fs, X.H₀ b = none

set_option genInjectivity false in
structure Inv (X : Cx) (pins : List (Addr × Obj)) (σ : List (Option V)) (H : Hp) (s : Shared) : Prop where
  ok : X.Ok
  os : s.os = X.s₀.os
  bare : AllBare s.gens
  base : Un X.fs X.ex X.H₀ H X.s₀.heap s.heap
  loc : ∃ m, s.heap.Ns X.env.locals m ∧ ∀ (i : Nat) (x : Str) (v : V), X.N[i]? = some x → σ[i]? = some (some v) → Vis X.env.scope x → ∃ u, RelV v u ∧ Look X.env s.heap m x u
  cell : ∀ x c, X.env.cells.lookup x = some c → ∃ v, s.heap.IsCell c v
  free : H X.env.locals = none
  freeC : ∀ x c, X.env.cells.lookup x = some c → H c = none
  pin : ∀ p ∈ X.pn ++ pins, s.heap.get? p.1 = some p.2 ∧ H p.1 = none ∧ p.1 ≠ X.env.locals ∧ p.1 ∉ X.fs ∧ ∀ v, p.2.data ≠ .cell v
  hok : HOk X.prog X.w H s.heap
  len : σ.length = X.N.length

section
variable {X : Cx} {pins : List (Addr × Obj)} {σ : List (Option V)} {H H' : Hp} {s : Shared} {h' : Heap}

theorem Cx.Ok.nofr (ok : X.Ok) {b : Addr} {o : Obj} (e : X.base.get? b = some o) : b ∉ X.fs := fun hb => by
  have := (ok.funs.mem hb).1
  rw [e] at this; cases this
theorem Inv.bs (I : Inv X pins σ H s) : ∀ b o, X.base.get? b = some o → s.heap.get? b = some o ∧ H b = none := fun b o e =>
  ⟨I.base.keep b o (I.ok.bs b o e).1 (I.ok.bs b o e).2 (I.ok.nofr e) (I.ok.noex b o e), I.base.free b o (I.ok.bs b o e).1 (I.ok.bs b o e).2 (I.ok.noex b o e)⟩
theorem Inv.bk (I : Inv X pins σ H s) : ∀ b o, X.base.get? b = some o → s.heap.get? b = some o := fun b o e => (I.bs b o e).1
theorem Inv.mod (I : Inv X pins σ H s) : Mod X.K X.mg X.base := I.ok.mod
theorem Inv.kIn (I : Inv X pins σ H s) : X.K.In s.heap := I.ok.mod.kin.keeps I.bk
theorem Inv.lt (I : Inv X pins σ H s) : X.env.locals < s.heap.objs.size := let ⟨_, hn, _⟩ := I.loc; hn.lt
theorem Inv.sz (I : Inv X pins σ H s) : X.s₀.heap.objs.size ≤ s.heap.objs.size := Nat.le_trans I.ok.above (Nat.le_of_lt I.lt)
theorem Inv.nofs (I : Inv X pins σ H s) {a : Addr} (h : s.heap.objs.size ≤ a) : a ∉ X.fs := fun hb => by
  obtain ⟨_, o, ho, _⟩ := I.ok.funs.mem hb
  exact absurd (Nat.lt_of_lt_of_le (Heap.lt_size ho) (Nat.le_trans I.sz h)) (Nat.lt_irrefl _)
theorem Inv.cne (I : Inv X pins σ H s) : ∀ x c, X.env.cells.lookup x = some c → c ≠ X.env.locals := fun x c e z => by
  obtain ⟨v, o, ho, hd⟩ := I.cell x c e
  obtain ⟨m, ⟨o', es, ep, ho', hd', _⟩, _⟩ := I.loc
  rw [z, ho'] at ho; cases ho; rw [hd'] at hd; cases hd
theorem Inv.funs (I : Inv X pins σ H s) : s.heap.FunFrames X.base X.outer := by
  have all : ∀ (l : List Env), (∀ b ∈ frs l, b ∈ X.fs) → X.s₀.heap.FunFrames X.base l → s.heap.FunFrames X.base l := by
    intro l
    induction l with
    | nil => intro _ _; trivial
    | cons env r ih =>
      intro hs hl
      obtain ⟨hk, ⟨L, o, hf, hn, ho, hd⟩, hr⟩ := hl
      have hL : L ∈ X.fs := hs L (by unfold frs; rw [List.filterMap_cons, hf]; exact List.mem_cons_self)
      obtain ⟨sl, e⟩ := I.base.slot L o ho (I.ok.frf L hL) hL fun z => I.ok.exfs L z hL
      exact ⟨hk, ⟨L, _, hf, hn, e, hd⟩, ih (fun b hb => hs b (by unfold frs; rw [List.filterMap_cons, hf]; exact List.mem_cons_of_mem _ hb)) hr⟩
  exact all X.outer (fun _ hb => hb) I.ok.funs

theorem Inv.stack (I : Inv X pins σ H s) : s.heap.FunFrames X.base X.stack := by
  rcases I.ok.stk with e | ⟨e, hf⟩
  · rw [e]; exact I.funs
  · rw [e]
    obtain ⟨m, hn, _⟩ := I.loc
    refine .cons (by rw [I.ok.kind]; decide) hf hn ?_ I.funs
    exact Heap.get?_none_of_le (Nat.le_trans I.ok.bsz I.ok.above)
theorem Inv.stkSub (I : Inv X pins σ H s) : ∀ b ∈ frs X.stack, b ∈ X.env.locals :: X.fs := fun b hb => by
  rcases I.ok.stk with e | ⟨e, hf⟩
  · rw [e] at hb; exact List.mem_cons_of_mem _ hb
  · rw [e] at hb
    unfold frs at hb
    rw [List.filterMap_cons, hf] at hb
    exact hb
theorem Inv.stkFree (I : Inv X pins σ H s) : ∀ b ∈ frs X.stack, H b = none := fun b hb => by
  rcases List.mem_cons.mp (I.stkSub b hb) with e | hb
  · rw [e]; exact I.free
  · obtain ⟨_, o, ho, _⟩ := I.ok.funs.mem hb
    exact I.base.free b o ho (I.ok.frf b hb) fun z => I.ok.exfs b z hb

theorem Inv.step {g' : Array GenState} {t' : Nat} {d' : Drawn} {ch : List Addr} (I : Inv X pins σ H s)
    (hch : ∀ b ∈ ch, (b ∈ X.ex ∨ X.s₀.heap.objs.size ≤ b) ∧ b ≠ X.env.locals ∧ (∀ x c, X.env.cells.lookup x = some c → c ≠ b) ∧ ∀ p ∈ X.pn ++ pins, p.1 ≠ b)
    (keep : ∀ b o, b ≠ X.env.locals → b ∉ X.fs → b ∉ ch → s.heap.get? b = some o → H b = none → h'.get? b = some o)
    (slot : ∀ b o, b ≠ X.env.locals → b ∈ X.fs → b ∉ ch → s.heap.get? b = some o → H b = none → ∃ sl, h'.get? b = some { o with slots := sl }) (free : ∀ b o, b ∉ ch → s.heap.get? b = some o → H b = none → H' b = none)
    (there : ∀ b o, b ∉ ch → s.heap.get? b = some o → ∃ o', h'.get? b = some o')
    (tups : ∀ b xs, H b = some (.tup xs) → H' b = some (.tup xs)) (frzs : ∀ b o u, H b = some (.frz o u) → H' b = some (.frz o u)) (tbls : ∀ b ps, H b = some (.tbl ps) → ∃ more, H' b = some (.tbl (ps ++ more)))
    (ns : ∀ m, s.heap.Ns X.env.locals m → h'.Ns X.env.locals m) (hok : HOk X.prog X.w H' h') (hg : AllBare g') :
    Inv X pins σ H' { s with heap := h', gens := g', drawn := d', toks := t' } := by
  have neL : ∀ b o, X.s₀.heap.get? b = some o → b ≠ X.env.locals := fun b o e => Nat.ne_of_lt (Nat.lt_of_lt_of_le (Heap.lt_size e) I.ok.above)
  have neC : ∀ b o, X.s₀.heap.get? b = some o → b ∉ X.ex → b ∉ ch := fun b o e hx hb => by
    rcases (hch b hb).1 with z | z
    · exact hx z
    · exact absurd (Nat.lt_of_lt_of_le (Heap.lt_size e) z) (Nat.lt_irrefl _)
  have cellK : ∀ x c, X.env.cells.lookup x = some c → ∀ v, s.heap.IsCell c v → h'.IsCell c v := fun x c e v ⟨o, ho, hd⟩ => by
    have nch : c ∉ ch := fun z => (hch c z).2.2.1 x c e rfl
    by_cases hc : c ∈ X.fs
    · obtain ⟨sl, q⟩ := slot c o (I.cne x c e) hc nch ho (I.freeC x c e)
      exact ⟨_, q, hd⟩
    · exact ⟨o, keep c o (I.cne x c e) hc nch ho (I.freeC x c e), hd⟩
  refine ⟨I.ok, I.os, hg, ⟨fun b o e n hb hx => ?_, fun b o e n hb hx => ?_, fun b o e n hx => ?_, fun b o e hx => ?_, fun b xs e => tups b xs (I.base.tups b xs e), fun b o xs e => frzs b o xs (I.base.frzs b o xs e), fun b ps e => ?_⟩, ?_, fun x c e => ?_, ?_, fun x c e => ?_, fun p hp => ?_, hok, I.len⟩
  · exact keep b o (neL b o e) hb (neC b o e hx) (I.base.keep b o e n hb hx) (I.base.free b o e n hx)
  · obtain ⟨sl, e1⟩ := I.base.slot b o e n hb hx
    obtain ⟨sl', e2⟩ := slot b _ (neL b o e) hb (neC b o e hx) e1 (I.base.free b o e n hx)
    exact ⟨sl', e2⟩
  · obtain ⟨o', e1⟩ := I.base.there b o e hx
    exact free b o' (neC b o e hx) e1 (I.base.free b o e n hx)
  · obtain ⟨o', e1⟩ := I.base.there b o e hx
    exact there b o' (neC b o e hx) e1
  · obtain ⟨m1, e1⟩ := I.base.tbls b ps e
    obtain ⟨m2, e2⟩ := tbls b _ e1
    exact ⟨m1 ++ m2, by rw [e2, Array.append_assoc]⟩
  · obtain ⟨m, hn, hl⟩ := I.loc
    refine ⟨m, ns m hn, fun i x v e1 e2 e3 => ?_⟩
    obtain ⟨u, r, l⟩ := hl i x v e1 e2 e3
    refine ⟨u, r, ?_⟩
    rcases l with l | ⟨k, c, e, z⟩
    · exact .inl l
    · exact .inr ⟨k, c, e, cellK x c e _ z⟩
  · obtain ⟨v, z⟩ := I.cell x c e
    exact ⟨v, cellK x c e v z⟩
  · obtain ⟨m, ⟨o, _, _, ho, _⟩, _⟩ := I.loc
    exact free _ o (fun z => (hch _ z).2.1 rfl) ho I.free
  · obtain ⟨v, o, ho, hd⟩ := I.cell x c e
    exact free c o (fun z => (hch c z).2.2.1 x c e rfl) ho (I.freeC x c e)
  · obtain ⟨e, n, ne, nf, d⟩ := I.pin p hp
    have nch : p.1 ∉ ch := fun z => (hch p.1 z).2.2.2 p hp rfl
    exact ⟨keep p.1 p.2 ne nf nch e n, free p.1 p.2 nch e n, ne, nf, d⟩
theorem Inv.un {t' : Nat} (I : Inv X pins σ H s) (u : Un X.fs [] H H' s.heap h') (hok : HOk X.prog X.w H' h') : Inv X pins σ H' { s with heap := h', toks := t' } := by
  obtain ⟨m, ⟨o, es, ep, ho, r⟩, _⟩ := id I.loc
  obtain ⟨sl, hL⟩ := u.any ho I.free (by simp)
  exact I.step (g' := s.gens) (d' := s.drawn) (ch := []) (fun _ z => nomatch z) (fun b o _ hb _ e n => u.keep b o e n hb (by simp)) (fun b o _ hb _ e n => u.slot b o e n hb (by simp)) (fun b o _ e n => u.free b o e n (by simp)) (fun b o _ e => u.there b o e (by simp)) u.tups u.frzs u.tbls (fun m' hm => by
    obtain ⟨o', es', ep', ho', r'⟩ := hm
    rw [ho] at ho'; cases ho'
    exact ⟨_, es', ep', hL, r'⟩) hok I.bare
theorem Inv.call {g' : Array GenState} {t' : Nat} {d' : Drawn} {ch : List Addr} (I : Inv X pins σ H s) (u : Un (frs X.stack) ch H H' s.heap h') (hok : HOk X.prog X.w H' h') (hg : AllBare g')
    (hch : ∀ b ∈ ch, (b ∈ X.ex ∨ X.s₀.heap.objs.size ≤ b) ∧ b ≠ X.env.locals ∧ (∀ x c, X.env.cells.lookup x = some c → c ≠ b) ∧ ∀ p ∈ X.pn ++ pins, p.1 ≠ b) :
    Inv X pins σ H' { s with heap := h', gens := g', drawn := d', toks := t' } := by
  obtain ⟨m, ⟨o, es, ep, ho, r⟩, _⟩ := id I.loc
  obtain ⟨sl, hL⟩ := u.any ho I.free fun z => (hch _ z).2.1 rfl
  exact I.step (ch := ch) hch (fun b o hL hb hc e n => u.keep b o e n (fun z => (List.mem_cons.mp (I.stkSub b z)).elim hL hb) hc) (fun b o _ _ hc e n => u.any e n hc) (fun b o hc e n => u.free b o e n hc) (fun b o hc e => u.there b o e hc) u.tups u.frzs u.tbls (fun m' hm => by
    obtain ⟨o', es', ep', ho', r'⟩ := hm
    rw [ho] at ho'; cases ho'
    exact ⟨_, es', ep', hL, r'⟩) hok hg
theorem Inv.turned {t' : Nat} {it : Addr} (I : Inv X pins σ H s) (k : ∀ b o, b ≠ it → s.heap.get? b = some o → h'.get? b = some o) (hn : H it = none) (hL : it ≠ X.env.locals)
    (h1 : it ∈ X.ex ∨ X.s₀.heap.objs.size ≤ it) (h2 : ∀ x c, X.env.cells.lookup x = some c → c ≠ it) (h3 : ∀ p ∈ X.pn ++ pins, p.1 ≠ it) : Inv X pins σ H { s with heap := h', toks := t' } := by
  have nit : ∀ b u, H b = some u → b ≠ it := fun b u e z => by rw [z, hn] at e; cases e
  refine I.step (g' := s.gens) (d' := s.drawn) (ch := [it]) (fun b hb => ?_) (fun b o _ _ hc e _ => k b o (fun z => hc (by simp [z])) e) (fun b o _ _ hc e _ => ⟨o.slots, k b o (fun z => hc (by simp [z])) e⟩) (fun _ _ _ _ n => n)
    (fun b o hc e => ⟨o, k b o (fun z => hc (by simp [z])) e⟩) (fun _ _ e => e) (fun _ _ _ e => e) (fun b ps e => ⟨#[], by rw [e]; simp⟩) (fun m hm => ?_) (fun b u e => ?_) I.bare
  · have e : b = it := by simpa using hb
    subst e
    exact ⟨h1, hL, h2, h3⟩
  · obtain ⟨o, es, ep, ho, r⟩ := hm
    exact ⟨o, es, ep, k _ o (Ne.symm hL) ho, r⟩
  · refine (I.hok b u e).stay (fun c v hc q => k c v ?_ q) (fun _ q => q) fun _ _ q => q
    rcases hc with z | z
    · rw [z]; exact nit b u e
    · exact nit c _ z
theorem Inv.tok (I : Inv X pins σ H s) (t : Nat) : Inv X pins σ H { s with toks := t } := I.un (h' := s.heap) (t' := t) Un.refl I.hok
theorem Inv.kept {t' : Nat} (I : Inv X pins σ H s) (k : ∀ b u, s.heap.get? b = some u → h'.get? b = some u) : Inv X pins σ H { s with heap := h', toks := t' } := I.un (Un.kept k) (I.hok.kept k)
theorem Inv.laid {a : Addr} {o : HO} {t' : Nat} (I : Inv X pins σ H s) (k : ∀ b u, s.heap.get? b = some u → h'.get? b = some u) (hp : s.heap.objs.size ≤ a) (new : ObjOk X.prog X.w (upd H a o) h' a o) :
    Inv X pins σ (upd H a o) { s with heap := h', toks := t' } := I.un (Un.laid k hp (I.hok.fresh hp)) (I.hok.laid k hp new)
theorem Inv.write {x e : Addr} {o : HO} {t' : Nat} (I : Inv X pins σ H s) (mu : Mut (H x)) (he : e = x ∨ H e = some (.own x)) (k : ∀ b u, b ≠ e → s.heap.get? b = some u → h'.get? b = some u) (heo : ∃ u, h'.get? e = some u)
    (new : ObjOk X.prog X.w (upd H x o) h' x o) : Inv X pins σ (upd H x o) { s with heap := h', toks := t' } := I.un (Un.write mu he k heo) (I.hok.write mu he k heo new)
theorem Inv.pins_of {pins' : List (Addr × Obj)} (I : Inv X pins σ H s) (h : ∀ p ∈ pins', s.heap.get? p.1 = some p.2 ∧ H p.1 = none ∧ p.1 ≠ X.env.locals ∧ p.1 ∉ X.fs ∧ ∀ v, p.2.data ≠ .cell v) : Inv X pins' σ H s :=
  ⟨I.ok, I.os, I.bare, I.base, I.loc, I.cell, I.free, I.freeC, fun p hp => (List.mem_append.mp hp).elim (fun z => I.pin p (List.mem_append_left _ z)) (h p), I.hok, I.len⟩

theorem nodup_ix {N : List Str} (hN : N.Nodup) {i j : Nat} {x : Str} (a : N[i]? = some x) (b : N[j]? = some x) : i = j := by
  obtain ⟨h1, e1⟩ := List.getElem?_eq_some_iff.mp a
  obtain ⟨h2, e2⟩ := List.getElem?_eq_some_iff.mp b
  exact (List.getElem_inj hN).mp (e1.trans e2.symm)

theorem store_ok2 {M : Model} {A : Around} {E : Value → Shared → Prop} {i : Nat} {x : Str} {v : V} {u : Value} {Q : Unit → Shared → Prop} (I : Inv X pins σ H s) (hN : X.N.Nodup) (hi : X.N[i]? = some x) (hx : Loc X.env.scope x) (r : RelV v u)
    (h : ∀ s', Inv X pins (σ.set i (some v)) H s' → (∃ a, Heap.SameBut a s.heap s'.heap ∧ (a = X.env.locals ∨ X.env.cells.lookup x = some a)) → Q () s') (hf : X.fn x = true ∨ X.env.scope.names.lookup x = some .local := by first | exact .inl rfl | exact .inr rfl | assumption) : wpAny M A (storeName X.env x u) Q E s := by
  obtain ⟨m, hn, hl⟩ := id I.loc
  have hcls : (X.env.scope.kind == .class || (X.env.scope.kind == .module && X.env.locals != X.env.globals)) = false := by rw [I.ok.kind]; rfl
  have hiσ : i < σ.length := by rw [I.len]; exact (List.getElem?_eq_some_iff.mp hi).1
  have cne := I.cne
  have tracked : ∀ {a : Addr} {h' : Heap}, (∃ o, s.heap.get? a = some o ∧ H a = none) → Heap.SameBut a s.heap h' → HOk X.prog X.w H h' := fun {a h'} ha hs b ob e => by
    obtain ⟨_, _, hfree⟩ := ha
    refine (I.hok b ob e).stay (fun c w' hc q => (hs.2 c ?_).trans q) (fun _ q => q) fun _ _ q => q
    rintro rfl
    rcases hc with rfl | hc
    · rw [hfree] at e; cases e
    · rw [hfree] at hc; cases hc
  rcases hx with hk | hk
  · refine wpAny_storeName_local hk hn (fun h' hn' hs => ?_) hcls
    obtain ⟨oL, _, _, hoL, _⟩ := id hn
    refine h _ ⟨I.ok, I.os, I.bare, ⟨fun b o e n hb hx => ?_, fun b o e n hb hx => ?_, I.base.free, fun b o e hx => ?_, I.base.tups, I.base.frzs, I.base.tbls⟩, ⟨_, hn', fun j y v' e1 e2 e3 => ?_⟩, fun y c e => ?_, I.free, I.freeC, fun p hp => ?_, tracked ⟨oL, hoL, I.free⟩ hs, by simpa using I.len⟩ ⟨_, hs, .inl rfl⟩
    · exact (hs.2 b (Nat.ne_of_lt (Nat.lt_of_lt_of_le (Heap.lt_size e) I.ok.above))).trans (I.base.keep b o e n hb hx)
    · obtain ⟨sl, e1⟩ := I.base.slot b o e n hb hx
      exact ⟨sl, (hs.2 b (Nat.ne_of_lt (Nat.lt_of_lt_of_le (Heap.lt_size e) I.ok.above))).trans e1⟩
    · obtain ⟨o', e1⟩ := I.base.there b o e hx
      exact ⟨o', (hs.2 b (Nat.ne_of_lt (Nat.lt_of_lt_of_le (Heap.lt_size e) I.ok.above))).trans e1⟩
    · by_cases hj : j = i
      · subst hj
        rw [hi] at e1; cases e1
        rw [List.getElem?_set_self hiσ] at e2
        cases e2
        exact ⟨u, r, .inl ⟨hk, by simp⟩⟩
      · rw [List.getElem?_set_ne (Ne.symm hj)] at e2
        obtain ⟨u', r', q⟩ := hl j y v' e1 e2 e3
        refine ⟨u', r', ?_⟩
        rcases q with ⟨k, e⟩ | ⟨k, c, e, z⟩
        · refine .inl ⟨k, ?_⟩
          have : y ≠ x := fun e => hj (nodup_ix hN e1 (e ▸ hi))
          simp [this, e]
        · exact .inr ⟨k, c, e, z.sameBut hs (cne y c e)⟩
    · obtain ⟨w', z⟩ := I.cell y c e
      exact ⟨w', z.sameBut hs (cne y c e)⟩
    · obtain ⟨e, n, ne, nf, d⟩ := I.pin p hp
      exact ⟨(hs.2 p.1 ne).trans e, n, ne, nf, d⟩
  · have hfn : X.fn x = true := by
      rcases hf with z | z
      · exact z
      · rw [z] at hk; cases hk
    obtain ⟨c, hc⟩ := I.ok.has x (.inl hk)
    obtain ⟨w', z⟩ := I.cell x c hc
    refine wpAny_storeName_cell I.ok.kind hk hc z (fun h' hc' hs => ?_)
    obtain ⟨oc, hoc, hocd⟩ := id z
    refine h { s with heap := h' } ⟨I.ok, I.os, I.bare, ⟨fun b o e n hb hx => ?_, fun b o e n hb hx => ?_, I.base.free, fun b o e hx => ?_, I.base.tups, I.base.frzs, I.base.tbls⟩, ⟨m, hn.sameBut hs (Ne.symm (cne x c hc)), fun j y v' e1 e2 e3 => ?_⟩, fun y c' e => ?_, I.free, I.freeC, fun p hp => ?_, tracked ⟨oc, hoc, I.freeC x c hc⟩ hs, by simpa using I.len⟩ ⟨c, hs, .inr hc⟩
    · exact (hs.2 b (Nat.ne_of_lt (Nat.lt_of_lt_of_le (Heap.lt_size e) (I.ok.cab x c hfn hc)))).trans (I.base.keep b o e n hb hx)
    · obtain ⟨sl, e1⟩ := I.base.slot b o e n hb hx
      exact ⟨sl, (hs.2 b (Nat.ne_of_lt (Nat.lt_of_lt_of_le (Heap.lt_size e) (I.ok.cab x c hfn hc)))).trans e1⟩
    · obtain ⟨o', e1⟩ := I.base.there b o e hx
      exact ⟨o', (hs.2 b (Nat.ne_of_lt (Nat.lt_of_lt_of_le (Heap.lt_size e) (I.ok.cab x c hfn hc)))).trans e1⟩
    · by_cases hj : j = i
      · subst hj
        rw [hi] at e1; cases e1
        rw [List.getElem?_set_self hiσ] at e2
        cases e2
        exact ⟨u, r, .inr ⟨.inl hk, c, hc, hc'⟩⟩
      · rw [List.getElem?_set_ne (Ne.symm hj)] at e2
        obtain ⟨u', r', q⟩ := hl j y v' e1 e2 e3
        refine ⟨u', r', ?_⟩
        rcases q with q | ⟨k, c', e, z'⟩
        · exact .inl q
        · refine .inr ⟨k, c', e, z'.sameBut hs ?_⟩
          rintro rfl
          exact hj (nodup_ix hN e1 (I.ok.inj _ _ _ e hc ▸ hi))
    · by_cases hcc : c' = c
      · subst hcc; exact ⟨_, hc'⟩
      · obtain ⟨w2, z2⟩ := I.cell y c' e
        exact ⟨w2, z2.sameBut hs hcc⟩
    · obtain ⟨e, n, ne, nf, d⟩ := I.pin p hp
      refine ⟨(hs.2 p.1 ?_).trans e, n, ne, nf, d⟩
      intro q
      rw [q, hoc] at e
      have q' : oc = p.2 := Option.some.inj e
      exact d w' (by rw [← q']; exact hocd)
theorem store_ok {M : Model} {A : Around} {E : Value → Shared → Prop} {i : Nat} {x : Str} {v : V} {u : Value} {Q : Unit → Shared → Prop} (I : Inv X pins σ H s) (hN : X.N.Nodup) (hi : X.N[i]? = some x) (hx : Loc X.env.scope x) (r : RelV v u)
    (h : ∀ s', Inv X pins (σ.set i (some v)) H s' → Q () s') (hf : X.fn x = true ∨ X.env.scope.names.lookup x = some .local := by first | exact .inl rfl | exact .inr rfl | assumption) : wpAny M A (storeName X.env x u) Q E s :=
  store_ok2 I hN hi hx r (fun s' I' _ => h s' I') hf
theorem Inv.call' {s' : Shared} {ch : List Addr} (I : Inv X pins σ H s) (ho : s'.os = s.os) (u : Un (frs X.stack) ch H H' s.heap s'.heap) (hok : HOk X.prog X.w H' s'.heap) (hg : AllBare s'.gens)
    (hch : ∀ b ∈ ch, (b ∈ X.ex ∨ X.s₀.heap.objs.size ≤ b) ∧ b ≠ X.env.locals ∧ (∀ x c, X.env.cells.lookup x = some c → c ≠ b) ∧ ∀ p ∈ X.pn ++ pins, p.1 ≠ b) : Inv X pins σ H' s' := by
  obtain ⟨h', g', d', t', o'⟩ := s'
  have e : o' = s.os := ho
  subst e
  exact I.call (g' := g') (t' := t') (d' := d') u hok hg hch
end

noncomputable abbrev XK := Value → Option Addr → Hp → Prop
noncomputable abbrev St := List (Option V)
noncomputable abbrev VK := V → Hp → Prop
noncomputable abbrev TE := St → Hp → VK → Prop
noncomputable abbrev TT := St → Hp → (Bool → Hp → Prop) → Prop
noncomputable abbrev TA := St → Hp → (List V → Hp → Prop) → Prop
set_option genInjectivity false in
structure Ends where
  nx : St → Hp → Prop
  rt : VK
  bk : St → Hp → Prop := fun _ _ => False
  ct : St → Hp → Prop := fun _ _ => False
noncomputable abbrev TS := Ends → St → Hp → Prop

noncomputable def EP (X : Cx) (pins : List (Addr × Obj)) (σ : St) (Q : VK) (u : Value) (s' : Shared) : Prop := ∃ v H', Inv X pins σ H' s' ∧ RelV v u ∧ Q v H'
noncomputable def TP (X : Cx) (pins : List (Addr × Obj)) (σ : St) (Q : Bool → Hp → Prop) (b : Bool) (s' : Shared) : Prop := ∃ H', Inv X pins σ H' s' ∧ Q b H'
noncomputable def AP (X : Cx) (pins : List (Addr × Obj)) (σ : St) (Q : List V → Hp → Prop) (us : List Value) (s' : Shared) : Prop := ∃ vs H', Inv X pins σ H' s' ∧ Vals vs us ∧ Q vs H'
noncomputable def SP (X : Cx) (pins : List (Addr × Obj)) (D : Ends) (f : Flow) (s' : Shared) : Prop :=
  match f with
  | .next => ∃ σ' H', Inv X pins σ' H' s' ∧ D.nx σ' H'
  | .brk => ∃ σ' H', Inv X pins σ' H' s' ∧ D.bk σ' H'
  | .cont => ∃ σ' H', Inv X pins σ' H' s' ∧ D.ct σ' H'
  | .ret u => ∃ v σ' H', Inv X pins σ' H' s' ∧ RelV v u ∧ D.rt v H'

noncomputable def PE (X : Cx) (e : Expr) (t : TE) : Prop :=
  ∀ (pins : List (Addr × Obj)) (s : Shared) (σ : St) (H : Hp) (Q : VK), Inv X pins σ H s → t σ H Q → wpAny (model X.prog X.w) X.A (eval e X.env) (EP X pins σ Q) X.xe s
noncomputable def PT (X : Cx) (e : Expr) (t : TT) : Prop :=
  ∀ (pins : List (Addr × Obj)) (s : Shared) (σ : St) (H : Hp) (Q : Bool → Hp → Prop), Inv X pins σ H s → t σ H Q → wpAny (model X.prog X.w) X.A (isTrue e X.env (eval e X.env)) (TP X pins σ Q) X.xe s
noncomputable def PW (X : Cx) (e : Expr) (t : TT) : Prop :=
  ∀ (whole : Sem Value) (pins : List (Addr × Obj)) (s : Shared) (σ : St) (H : Hp) (Q : Bool → Hp → Prop), Inv X pins σ H s → t σ H Q → wpAny (model X.prog X.w) X.A (isTrue e X.env whole) (TP X pins σ Q) X.xe s
theorem PW.pt {X : Cx} {e : Expr} {t : TT} (h : PW X e t) : PT X e t := h _
noncomputable def PA (X : Cx) (es : List Expr) (t : TA) : Prop :=
  ∀ (pos : Pos) (pins : List (Addr × Obj)) (s : Shared) (σ : St) (H : Hp) (Q : List V → Hp → Prop), Inv X pins σ H s → t σ H Q → wpAny (model X.prog X.w) X.A (spliced (backTo pos (starEach es X.env))) (AP X pins σ Q) X.xe s
noncomputable def PS (X : Cx) (st : Stmt) (t : TS) : Prop :=
  ∀ (pins : List (Addr × Obj)) (s : Shared) (σ : St) (H : Hp) (D : Ends), Inv X pins σ H s → t D σ H → wpAny (model X.prog X.w) X.A (exec st X.env) (SP X pins D) X.xe s
noncomputable def PSs (X : Cx) (st : List Stmt) (t : TS) : Prop :=
  ∀ (pins : List (Addr × Obj)) (s : Shared) (σ : St) (H : Hp) (D : Ends), Inv X pins σ H s → t D σ H → wpAny (model X.prog X.w) X.A (execs st X.env) (SP X pins D) X.xe s
theorem thn {α : Type} {t : Sem α} {Q Q' : α → Shared → Prop} {M : Model} {A : Around} {E : Value → Shared → Prop} {s : Shared} (h : wpAny M A t Q E s) (hQ : ∀ a s, Q a s → Q' a s) : wpAny M A t Q' E s := wpAny_mono h hQ fun _ _ x => x
end L2

namespace L2
open PySem PySem.Spec PyProof.Rows
section
variable {X : Cx}

noncomputable def tVar (i : Nat) : TE := fun σ H Q => ∃ v, σ[i]? = some (some v) ∧ Q v H
noncomputable def tC (v : V) : TE := fun _ H Q => Q v H
theorem pe_var {i : Nat} {x : Str} {pos : Pos} (hN : X.N[i]? = some x) (hv : Vis X.env.scope x) (hd : (x == ("__debug__" : Str)) = false := by decide) (hcd : (x == ("__classdict__" : Str)) = false := by decide) : PE X (.Name x pos) (tVar i) := by
  intro pins s σ H Q I h
  obtain ⟨v, e, h⟩ := h
  obtain ⟨m, hn, hl⟩ := I.loc
  obtain ⟨u, r, l⟩ := hl i x v hN e hv
  have fin : EP X pins σ Q u s := ⟨v, H, I, r, h⟩
  rcases l with ⟨hk, hm⟩ | ⟨hk, c, hc, hcell⟩
  · exact wpAny_Name (wpAny_loadName_local I.ok.kind hk hn hm fin) hd
  · rcases hk with hk | hk
    · exact wpAny_Name (wpAny_loadName_cell I.ok.kind hk hc hcell fin) hd
    · exact wpAny_Name (wpAny_loadName_free I.ok.kind hk hc hcell fin hcd) hd
theorem pe_int {i j pos} : PE X (.Constant (.int i) j pos) (tC (.int i)) := fun _ _ _ H _ I h => wpAny_Constant_int ⟨.int i, H, I.tok _, ⟨_, rfl⟩, h⟩
theorem pe_bl {b j pos} : PE X (.Constant (.bool b) j pos) (tC (.bl b)) := fun _ _ _ H _ I h => Constant_bool ⟨.bl b, H, I, rfl, h⟩
theorem pe_non {j pos} : PE X (.Constant .none j pos) (tC .non) := fun _ _ _ H _ I h => Constant_none ⟨.non, H, I, rfl, h⟩
theorem pe_str {x j pos} : PE X (.Constant (.str x) j pos) (tC (.str x)) := fun _ _ _ H _ I h => Calls.Constant_str ⟨.str x, H, I.tok _, ⟨_, rfl⟩, h⟩

noncomputable def Gl (X : Cx) (x : Str) : Prop := X.env.kindOf x = some .globalImplicit
theorem ld_glob {E : Value → Shared → Prop} {pins : List (Addr × Obj)} {s : Shared} {σ : St} {H : Hp} {x : Str} {u : Value} {pos : Pos} {Q : Value → Shared → Prop} (I : Inv X pins σ H s) (hg : Gl X x) (hm : X.mg x = some u) (h : Q u s)
    (hd : (x == ("__debug__" : Str)) = false := by decide) : wpAny (model X.prog X.w) X.A (eval (.Name x pos) X.env) Q E s :=
  Calls.Name_function_global I.ok.kind hg (Calls.loadGlobal_global (by rw [I.ok.glob]; exact I.mod.glob.keeps I.bk) hm h) hd
theorem ld_blt {E : Value → Shared → Prop} {pins : List (Addr × Obj)} {s : Shared} {σ : St} {H : Hp} {x : Str} {u : Value} {pos : Pos} {Q : Value → Shared → Prop} (I : Inv X pins σ H s) (hg : Gl X x) (hm : X.mg x = none) (hv : bootBuiltins x = some u) (h : Q u s)
    (hn : x ≠ "__name__" := by decide) (hd : (x == ("__debug__" : Str)) = false := by decide) : wpAny (model X.prog X.w) X.A (eval (.Name x pos) X.env) Q E s := by
  obtain ⟨mb, h1, h2⟩ := I.mod.blt
  exact Calls.Name_function_global I.ok.kind hg (Calls.loadGlobal_builtin (by rw [I.ok.glob]; exact I.mod.glob.keeps I.bk) hm (by rw [I.ok.blt]; exact h1.keeps I.bk) ((h2 x hn).trans hv) h) hd
theorem pe_glob {x : Str} {v : V} {u : Value} {pos : Pos} (hg : Gl X x) (hm : X.mg x = some u) (r : RelV v u) (hd : (x == ("__debug__" : Str)) = false := by decide) : PE X (.Name x pos) (tC v) :=
  fun _ _ _ H _ I h => ld_glob I hg hm ⟨v, H, I, r, h⟩ hd
theorem pe_bltn {x : Str} {v : V} {u : Value} {pos : Pos} (hg : Gl X x) (hm : X.mg x = none) (hv : bootBuiltins x = some u) (r : RelV v u) (hn : x ≠ "__name__" := by decide) (hd : (x == ("__debug__" : Str)) = false := by decide) : PE X (.Name x pos) (tC v) :=
  fun _ _ _ H _ I h => ld_blt I hg hm hv ⟨v, H, I, r, h⟩ hn hd

variable {a b : Expr} {ta tb : TE} {pos : Pos}
noncomputable def PC (X : Cx) (op : CmpOp) (a b : Expr) (t : TE) : Prop :=
  ∀ (pins : List (Addr × Obj)) (s : Shared) (σ : St) (H : Hp) (Q : VK), Inv X pins σ H s → t σ H Q →
    wpAny (model X.prog X.w) X.A (eval a X.env) (fun v s₁ => wpAny (model X.prog X.w) X.A (eval b X.env) (fun u s₂ => wpAny (model X.prog X.w) X.A (compareOp op v u) (EP X pins σ Q) X.xe s₂) X.xe s₁) X.xe s
theorem nobehind (b : Expr) {op : CmpOp} (h : op ≠ .In) (h2 : op ≠ .NotIn) : behindInMarks op b = false := by
  have e1 : (op == CmpOp.In) = false := by cases op <;> first | rfl | exact absurd rfl h
  have e2 : (op == CmpOp.NotIn) = false := by cases op <;> first | rfl | exact absurd rfl h2
  cases b <;> simp [behindInMarks, e1, e2]
noncomputable def tIsN (ta : TE) : TE := fun σ H Q => ta σ H fun x H1 => Q (.bl (decide (x = .non))) H1
noncomputable def tNotN (ta : TE) : TE := fun σ H Q => ta σ H fun x H1 => Q (.bl (!decide (x = .non))) H1
theorem RelV.none_iff {x : V} {v : Value} (r : RelV x v) : (v == Value.none) = decide (x = .non) := by
  cases x with
  | non => cases r; rfl
  | bl _ => cases r; rfl
  | int _ => obtain ⟨t, rfl⟩ := r; rfl
  | str _ => obtain ⟨t, rfl⟩ := r; rfl
  | byt _ => obtain ⟨t, rfl⟩ := r; rfl
  | flt _ => obtain ⟨t, rfl⟩ := r; rfl
  | ref _ => cases r; rfl
  | ty _ => cases r; rfl
theorem pc_isN {j pos'} (ha : PE X a ta) : PC X .Is a (.Constant .none j pos') (tIsN ta) := by
  intro pins s σ H Q I h
  refine thn (ha pins s σ H _ I h) fun v s1 ⟨x, H1, I1, r1, q1⟩ => ?_
  exact Constant_none (is_none_gen ⟨.bl _, H1, I1, by rw [r1.none_iff]; rfl, q1⟩)
theorem pc_notN {j pos'} (ha : PE X a ta) : PC X .IsNot a (.Constant .none j pos') (tNotN ta) := by
  intro pins s σ H Q I h
  refine thn (ha pins s σ H _ I h) fun v s1 ⟨x, H1, I1, r1, q1⟩ => ?_
  exact Constant_none (isnot_none_gen ⟨.bl _, H1, I1, by rw [r1.none_iff]; rfl, q1⟩)
noncomputable def tB (t : TE) : TT := fun σ H Q => t σ H fun x H1 => ∃ c, x = .bl c ∧ Q c H1
theorem pe_cmp {op : CmpOp} {t : TE} (h : PC X op a b t) (h1 : behindInMarks op b = false := by first | exact nobehind _ (by decide) (by decide) | rfl) : PE X (.Compare a [op] [b] pos) t := fun pins s σ H Q I hw => wpAny_Compare1 (h pins s σ H Q I hw) h1
theorem pt_cmp {op : CmpOp} {t : TE} (h : PC X op a b t) (h1 : behindInMarks op b = false := by first | exact nobehind _ (by decide) (by decide) | rfl) : PT X (.Compare a [op] [b] pos) (tB t) := by
  intro pins s σ H Q I hw
  refine wpAny_isTrue_Compare1 (thn (h pins s σ H _ I hw) fun v s1 h1 => thn h1 fun u s2 h2 => thn h2 fun c s3 ⟨x, H1, I1, r1, q1⟩ => ?_) h1
  obtain ⟨d, rfl, q⟩ := q1
  cases r1
  exact wpAny_truthy_bool ⟨H1, I1, q⟩
theorem pt_val {e : Expr} {t : TE} (h : PE X e t) (he : ∀ whole, isTrue e X.env whole = (do let v ← whole; standAt e.pos; holding [v] (truthy v)) := by intro _; rfl) : PT X e (tB t) := by
  intro pins s σ H Q I hw
  refine isTrue_plain (thn (h pins s σ H _ I hw) fun v s1 ⟨x, H1, I1, r1, q1⟩ => ?_) (he _)
  obtain ⟨d, rfl, q⟩ := q1
  cases r1
  exact wpAny_truthy_bool ⟨H1, I1, q⟩

variable {tA tB' : TT} {rest : List Expr}
noncomputable def tAnd (t u : TT) : TT := fun σ H Q => t σ H fun c H1 => if c = true then u σ H1 Q else Q false H1
noncomputable def tOr (t u : TT) : TT := fun σ H Q => t σ H fun c H1 => if c = true then Q true H1 else u σ H1 Q
noncomputable def tNot (t : TT) : TT := fun σ H Q => t σ H fun c H1 => Q (!c) H1
theorem pw_and1 (ha : PT X a tA) : PW X (.BoolOp .And [a] pos) tA := by
  intro wh pins s σ H Q I h
  refine isTrue_and (thn (ha pins s σ H Q I h) fun c s1 e => ?_)
  cases c with
  | true => exact isTrue_and_nil e
  | false => exact e
theorem pw_or1 (ha : PT X a tA) : PW X (.BoolOp .Or [a] pos) tA := by
  intro wh pins s σ H Q I h
  refine isTrue_or (thn (ha pins s σ H Q I h) fun c s1 e => ?_)
  cases c with
  | false => exact isTrue_or_nil e
  | true => exact e
theorem pw_and (ha : PT X a tA) (hb : PW X (.BoolOp .And (b :: rest) pos) tB') : PW X (.BoolOp .And (a :: b :: rest) pos) (tAnd tA tB') := by
  intro wh pins s σ H Q I h
  refine isTrue_and (thn (ha pins s σ H _ I h) fun c s1 ⟨H1, I1, q1⟩ => ?_)
  cases c with
  | true => exact hb wh pins s1 σ H1 Q I1 q1
  | false => exact ⟨H1, I1, q1⟩
theorem pw_or (ha : PT X a tA) (hb : PW X (.BoolOp .Or (b :: rest) pos) tB') : PW X (.BoolOp .Or (a :: b :: rest) pos) (tOr tA tB') := by
  intro wh pins s σ H Q I h
  refine isTrue_or (thn (ha pins s σ H _ I h) fun c s1 ⟨H1, I1, q1⟩ => ?_)
  cases c with
  | true => exact ⟨H1, I1, q1⟩
  | false => exact hb wh pins s1 σ H1 Q I1 q1
theorem pt_not (ha : PT X a tA) : PT X (.UnaryOp .Not a pos) (tNot tA) := by
  intro pins s σ H Q I h
  exact isTrue_not (ha pins s σ H (fun c H1 => Q (!c) H1) I h)
noncomputable def tAndV (ta tb : TE) : TE := fun σ H Q => ta σ H fun x H1 => ∃ c, x = .bl c ∧ if c = true then tb σ H1 Q else Q (.bl false) H1
noncomputable def tNotV (ta : TE) : TE := fun σ H Q => ta σ H fun x H1 => ∃ c, x = .bl c ∧ Q (.bl (!c)) H1
theorem pe_one {op} {t : TE} (h : PE X a t) : PE X (.BoolOp op [a] pos) t := fun pins s σ H Q I hw => BoolOp_one (h pins s σ H Q I hw)
theorem pe_and (ha : PE X a ta) (hb : PE X (.BoolOp .And (b :: rest) pos) tb) : PE X (.BoolOp .And (a :: b :: rest) pos) (tAndV ta tb) := by
  intro pins s σ H Q I h
  refine BoolOp_and (thn (ha pins s σ H _ I h) fun v s1 ⟨x, H1, I1, r1, q1⟩ => ?_)
  obtain ⟨c, rfl, q1⟩ := q1
  cases r1
  refine wpAny_truthy_bool ?_
  cases c with
  | true => exact hb pins s1 σ H1 Q I1 q1
  | false => exact ⟨.bl false, H1, I1, rfl, q1⟩
theorem pe_not (ha : PE X a ta) : PE X (.UnaryOp .Not a pos) (tNotV ta) := by
  intro pins s σ H Q I h
  refine UnaryOp_ (thn (ha pins s σ H _ I h) fun v s1 ⟨x, H1, I1, r1, q1⟩ => ?_)
  obtain ⟨c, rfl, q1⟩ := q1
  cases r1
  exact not_of (wpAny_truthy_bool ⟨.bl (!c), H1, I1, rfl, q1⟩)
end
end L2

namespace L2
open PySem PySem.Spec PyProof.Rows

noncomputable def SqL (K : PySem.W.Frag) (H : Hp) (a : Addr) (xs : List V) : Prop :=
  Rd H a (.lst xs) ∨
    ∃ (o : Obj) (its : Array Value) (n : Nat), K.lookup a = some o ∧ o.cls = .type "list" ∧ o.dict = none ∧ o.data = .seq its n ∧ its.size ≤ sizeLine ∧ Vals xs its.toList
noncomputable def SqT (K : PySem.W.Frag) (H : Hp) (a : Addr) (xs : List V) : Prop :=
  Rd H a (.tup xs) ∨
    ∃ (o : Obj) (its : Array Value) (n : Nat), K.lookup a = some o ∧ o.cls = .type "tuple" ∧ o.data = .seq its n ∧ its.size ≤ sizeLine ∧ Vals xs its.toList
noncomputable def absV : Value → Option V
  | .none => some .non
  | .bool b => some (.bl b)
  | .int i _ => some (.int i)
  | .str x _ => some (.str x)
  | .bytes b _ => some (.byt b)
  | .float b _ => some (.flt b)
  | .ref a => some (.ref a)
  | .type n => some (.ty n)
  | _ => none
theorem RelV.abs {x : V} {u : Value} (r : RelV x u) : absV u = some x := by
  cases x with
  | non => cases r; rfl
  | bl _ => cases r; rfl
  | int _ => obtain ⟨t, rfl⟩ := r; rfl
  | str _ => obtain ⟨t, rfl⟩ := r; rfl
  | byt _ => obtain ⟨t, rfl⟩ := r; rfl
  | flt _ => obtain ⟨t, rfl⟩ := r; rfl
  | ref _ => cases r; rfl
  | ty _ => cases r; rfl
theorem RelV.inj {x y : V} {u : Value} (r : RelV x u) (q : RelV y u) : x = y := Option.some.inj (r.abs.symm.trans q.abs)
theorem Vals.inj : ∀ {xs ys : List V} {us : List Value}, Vals xs us → Vals ys us → xs = ys
  | _, _, _, .nil, .nil => rfl
  | _, _, _, .cons r t, .cons r' t' => by rw [r.inj r', Vals.inj t t']
section
variable {X : Cx} {pins : List (Addr × Obj)} {σ : St} {H : Hp} {s : Shared} {a : Addr} {xs ys : List V}
theorem SqL.of {K : PySem.W.Frag} (h : H a = some (.lst xs)) : SqL K H a xs := .inl (.inl h)
theorem SqT.of {K : PySem.W.Frag} (h : H a = some (.tup xs)) : SqT K H a xs := .inl (.inl h)
theorem Inv.list (I : Inv X pins σ H s) (h : SqL X.K H a xs) : ∃ its : List Value, Vals xs its ∧ PlainL s.heap a its.toArray ∧ xs.length ≤ sizeLine := by
  rcases h with h | ⟨o, its, n, hk, hc, hd, hs, hz, r⟩
  · obtain ⟨z, its, n, r, e⟩ := h.ok I.hok
    exact ⟨its, r, ⟨_, n, e, rfl, rfl, rfl⟩, z⟩
  · refine ⟨its.toList, r, ⟨o, n, I.kIn a o hk, hc, hd, by simpa using hs⟩, ?_⟩
    have e := r.length
    simp only [Array.length_toList] at e
    omega
theorem Inv.tuple (I : Inv X pins σ H s) (h : SqT X.K H a xs) : ∃ its : List Value, Vals xs its ∧ IsTup s.heap a its.toArray ∧ xs.length ≤ sizeLine := by
  rcases h with h | ⟨o, its, n, hk, hc, hs, hz, r⟩
  · obtain ⟨z, its, r, p⟩ := h.ok I.hok
    exact ⟨its, r, p, z⟩
  · refine ⟨its.toList, r, ⟨o, I.kIn a o hk, hc, n, by simpa using hs⟩, ?_⟩
    have e := r.length
    simp only [Array.length_toList] at e
    omega
theorem Inv.list_inj (I : Inv X pins σ H s) (h : SqL X.K H a xs) (h' : SqL X.K H a ys) : xs = ys := by
  obtain ⟨its, r, ⟨o, n, e, _, _, d⟩, _⟩ := I.list h
  obtain ⟨its', r', ⟨o', n', e', _, _, d'⟩, _⟩ := I.list h'
  rw [e] at e'; cases e'
  rw [d] at d'
  injection d' with d1 _
  have : its = its' := by simpa using congrArg Array.toList d1
  subst this
  exact r.inj r'
theorem Inv.tuple_inj (I : Inv X pins σ H s) (h : SqT X.K H a xs) (h' : SqT X.K H a ys) : xs = ys := by
  obtain ⟨its, r, ⟨o, e, _, n, d⟩, _⟩ := I.tuple h
  obtain ⟨its', r', ⟨o', e', _, n', d'⟩, _⟩ := I.tuple h'
  rw [e] at e'; cases e'
  rw [d] at d'
  injection d' with d1 _
  have : its = its' := by simpa using congrArg Array.toList d1
  subst this
  exact r.inj r'
end

noncomputable abbrev Cx.wish (X : Cx) (E : Value → Shared → Prop) : Cx := { X with xe := E }
noncomputable abbrev Cx.nox (X : Cx) : Cx := X.wish fun _ _ => False
theorem Cx.Ok.wish {X : Cx} (ok : X.Ok) (E : Value → Shared → Prop) : (X.wish E).Ok :=
  ⟨ok.mod, ok.kind, ok.glob, ok.blt, ok.above, ok.inj, ok.has, ok.cab, ok.hd, ok.frames, ok.stk, ok.exf, ok.bs, ok.bsz, ok.noex, ok.exfs, ok.funs, ok.frf⟩
theorem Cx.Ok.unwish {X : Cx} {E : Value → Shared → Prop} (ok : (X.wish E).Ok) : X.Ok :=
  ⟨ok.mod, ok.kind, ok.glob, ok.blt, ok.above, ok.inj, ok.has, ok.cab, ok.hd, ok.frames, ok.stk, ok.exf, ok.bs, ok.bsz, ok.noex, ok.exfs, ok.funs, ok.frf⟩
section
variable {X : Cx} {pins : List (Addr × Obj)} {σ : St} {H : Hp} {s : Shared} {E : Value → Shared → Prop}
theorem Inv.wish (I : Inv X pins σ H s) (E : Value → Shared → Prop) : Inv (X.wish E) pins σ H s := ⟨I.ok.wish E, I.os, I.bare, I.base, I.loc, I.cell, I.free, I.freeC, I.pin, I.hok, I.len⟩
theorem Inv.unwish (I : Inv (X.wish E) pins σ H s) : Inv X pins σ H s := ⟨I.ok.unwish, I.os, I.bare, I.base, I.loc, I.cell, I.free, I.freeC, I.pin, I.hok, I.len⟩
theorem SP.unwish {D : Ends} {f : Flow} {s' : Shared} (h : SP (X.wish E) pins D f s') : SP X pins D f s' := by
  cases f with
  | next => obtain ⟨σ', H', I, q⟩ := h; exact ⟨σ', H', I.unwish, q⟩
  | brk => obtain ⟨σ', H', I, q⟩ := h; exact ⟨σ', H', I.unwish, q⟩
  | cont => obtain ⟨σ', H', I, q⟩ := h; exact ⟨σ', H', I.unwish, q⟩
  | ret u => obtain ⟨v, σ', H', I, r, q⟩ := h; exact ⟨v, σ', H', I.unwish, r, q⟩
theorem PSs.nox {st : List Stmt} {t : TS} (h : PSs X.nox st t) : PSs X st t := fun pins s σ H D I hw =>
  wpAny_mono (h pins s σ H D (I.wish _) hw) (fun _ _ q => q.unwish) fun _ _ z => False.elim z
end

section
variable {X : Cx} {st : Stmt} {rest : List Stmt} {t u : TS} {e : Expr} {te : TE} {pos : Pos}
noncomputable def tNext : TS := fun D σ H => D.nx σ H
noncomputable def tSeq (t u : TS) : TS := fun D σ H => t { D with nx := u D } σ H
theorem pss_nil : PSs X [] tNext := fun _ _ σ H _ I h => wpAny_execs_nil ⟨σ, H, I, h⟩
theorem pss_cons (h1 : PS X st t) (h2 : PSs X rest u) : PSs X (st :: rest) (tSeq t u) := by
  intro pins s σ H D I h
  refine wpAny_execs_cons (thn (h1 pins s σ H { D with nx := u D } I h) fun f s1 q => ?_)
  cases f with
  | next =>
    obtain ⟨σ', H', I', q⟩ := q
    exact h2 pins s1 σ' H' D I' q
  | ret v => exact q
  | brk => exact q
  | cont => exact q
theorem pss_one (h1 : PS X st t) : PSs X [st] t := by
  intro pins s σ H D I h
  refine wpAny_execs_cons (thn (h1 pins s σ H D I h) fun f s1 q => ?_)
  cases f with
  | next => exact wpAny_execs_nil q
  | ret v => exact q
  | brk => exact q
  | cont => exact q
noncomputable def tBreak : TS := fun D σ H => D.bk σ H
theorem ps_break : PS X (.Break pos) tBreak := fun _ _ σ H _ I h => wpAny_Break ⟨σ, H, I, h⟩
theorem Inv.quiet {pins : List (Addr × Obj)} {σ : St} {H : Hp} {s : Shared} (I : Inv X pins σ H s) : interactive X.env = false := by simp [interactive, I.ok.kind]
noncomputable def tDrop (te : TE) : TS := fun D σ H => te σ H fun _ H1 => D.nx σ H1
theorem ps_expr (he : PE X e te) (hs : swapsWith e none pos.line X.env = pure false := by rfl) : PS X (.Expr e pos) (tDrop te) := by
  intro pins s σ H D I h
  exact wpAny_Expr_any (thn (he pins s σ H _ I h) fun v s1 ⟨x, H1, I1, r1, q1⟩ => ⟨σ, H1, I1, q1⟩) I.quiet hs
noncomputable def tRet (te : TE) : TS := fun D σ H => te σ H D.rt
theorem ps_ret (he : PE X e te) : PS X (.Return (some e) pos) (tRet te) := by
  intro pins s σ H D I h
  exact wpAny_Return_some (thn (he pins s σ H _ I h) fun v s1 ⟨x, H1, I1, r1, q1⟩ => ⟨x, σ, H1, I1, r1, q1⟩)
noncomputable def tIfS (c : TT) (t u : TS) : TS := fun D σ H => c σ H fun b H1 => if b = true then t D σ H1 else u D σ H1
theorem ps_if {c : Expr} {a b : List Stmt} {tc : TT} (hc : PT X c tc) (ha : PSs X a t) (hb : PSs X b u) : PS X (.If c a b pos) (tIfS tc t u) := by
  intro pins s σ H D I h
  refine wpAny_If (thn (hc pins s σ H _ I h) fun d s1 ⟨H1, I1, q1⟩ => ?_)
  cases d with
  | true => exact ha pins s1 σ H1 D I1 q1
  | false => exact hb pins s1 σ H1 D I1 q1
end

noncomputable abbrev TG := V → St → Hp → (St → Hp → Prop) → Prop
noncomputable abbrev TGs := List V → St → Hp → (St → Hp → Prop) → Prop
noncomputable def PG (X : Cx) (target : Expr) (t : TG) : Prop :=
  ∀ (pins : List (Addr × Obj)) (s : Shared) (σ : St) (H : Hp) (v : V) (u : Value) (Q : St → Hp → Prop), Inv X pins σ H s → RelV v u → t v σ H Q →
    wpAny (model X.prog X.w) X.A (assign target X.env u) (fun _ s' => ∃ σ' H', Inv X pins σ' H' s' ∧ Q σ' H') X.xe s
noncomputable def PGs (X : Cx) (ts : List Expr) (t : TGs) : Prop :=
  ∀ (pins : List (Addr × Obj)) (s : Shared) (σ : St) (H : Hp) (vs : List V) (us : List Value) (Q : St → Hp → Prop), Inv X pins σ H s → Vals vs us → t vs σ H Q →
    wpAny (model X.prog X.w) X.A (assignInOrder ((assignEach ts X.env).map (·.2)) us) (fun _ s' => ∃ σ' H', Inv X pins σ' H' s' ∧ Q σ' H') X.xe s
noncomputable abbrev TSet := V → V → V → Hp → (Hp → Prop) → Prop
noncomputable def PSet (X : Cx) (t : TSet) : Prop :=
  ∀ (pins : List (Addr × Obj)) (s : Shared) (σ : St) (H : Hp) (o i v : V) (ov iv u : Value) (Q : Hp → Prop), Inv X pins σ H s → RelV o ov → RelV i iv → RelV v u → t o i v H Q →
    wpAny (model X.prog X.w) X.A (setItem ov iv u) (fun _ s' => ∃ H', Inv X pins σ H' s' ∧ Q H') X.xe s
section
variable {X : Cx} {pos : Pos}
noncomputable def gName (i : Nat) : TG := fun v σ H Q => Q (σ.set i (some v)) H
theorem pg_name {i : Nat} {x : Str} (hN : X.N.Nodup) (hi : X.N[i]? = some x) (hx : Loc X.env.scope x) (hf : X.fn x = true ∨ X.env.scope.names.lookup x = some .local := by first | exact .inl rfl | exact .inr rfl | assumption) : PG X (.Name x pos) (gName i) := by
  intro pins s σ H v u Q I r h
  exact wpAny_assign_Name (store_ok I hN hi hx r (fun s' I' => ⟨_, H, I', h⟩) hf)
noncomputable def gNil : TGs := fun vs σ H Q => vs = [] ∧ Q σ H
noncomputable def gCons (t : TG) (u : TGs) : TGs := fun vs σ H Q => ∃ v r, vs = v :: r ∧ t v σ H fun σ' H' => u r σ' H' Q
theorem pgs_nil : PGs X [] gNil := by
  intro pins s σ H vs us Q I r h
  obtain ⟨e, h⟩ := h
  subst e
  cases r
  exact assignInOrder_nil ⟨σ, H, I, h⟩
theorem pgs_cons {e : Expr} {es : List Expr} {t : TG} {u : TGs} (h1 : PG X e t) (h2 : PGs X es u)
    (hs : (assignEach (e :: es) X.env).map (·.2) = assign e X.env :: (assignEach es X.env).map (·.2) := by rfl) : PGs X (e :: es) (gCons t u) := by
  intro pins s σ H vs us Q I r h
  obtain ⟨v, vr, e1, h⟩ := h
  subst e1
  cases r with
  | cons r rr =>
    rw [hs]
    refine assignInOrder_cons (thn (h1 pins s σ H _ _ _ I r h) fun _ s1 ⟨σ1, H1, I1, q1⟩ => ?_)
    exact h2 pins s1 σ1 H1 _ _ Q I1 rr q1
noncomputable def gTup (K : PySem.W.Frag) (n : Nat) (t : TGs) : TG := fun v σ H Q => ∃ a xs, v = .ref a ∧ SqT K H a xs ∧ xs.length = n ∧ t xs σ H Q
theorem pg_tup {es : List Expr} {k : Nat} {t : TGs} {n : Nat} (hc : X.calm = true) (h : PGs X es t)
    (hn : (assignEach es X.env).length = n := by rfl) (hst : (assignEach es X.env).findIdx? (·.1) = none := by rfl) : PG X (.Tuple es k pos) (gTup X.K n t) := by
  intro pins s σ H v u Q I r hw
  obtain ⟨a, xs, e1, hq, hl, hw⟩ := hw
  subst e1
  cases r
  obtain ⟨its, rv, ht, hz⟩ := I.tuple hq
  refine assign_Tuple_tuple (I.ok.hd hc) ht (by simp [hn, ← hl, rv.length]) hst fun h' hx => ?_
  have I1 : Inv X pins σ H { s with heap := h' } := I.kept (t' := s.toks) fun b o e => hx b o (Nat.ne_of_lt (Heap.lt_size e)) e
  exact h pins _ σ H xs _ Q I1 (by simpa using rv) hw
noncomputable def tAsg (te : TE) (g : TG) : TS := fun D σ H => te σ H fun x H1 => g x σ H1 D.nx
theorem ps_asg {tg e : Expr} {te : TE} {g : TG} (he : PE X e te) (hg : PG X tg g) (hs : swapsWithSole [tg] e pos.line X.env = pure false := by rfl) (hw : swappedStores [tg] e X.env = pure none := by rfl)
    (h1 : (assignEach [tg] X.env).map (·.2) = [assign tg X.env] := by rfl) : PS X (.Assign [tg] e pos) (tAsg te g) := by
  intro pins s σ H D I h
  refine wpAny_Assign_stores (thn (he pins s σ H _ I h) fun v s1 ⟨x, H1, I1, r1, q1⟩ => ?_) hs hw
  rw [h1]
  exact thn (hg pins s1 σ H1 x v _ I1 r1 q1) fun _ s2 q => q
theorem ps_set {i : Nat} {x : Str} {e : Expr} {te : TE} {pos' : Pos} (hN : X.N.Nodup) (hi : X.N[i]? = some x) (hx : Loc X.env.scope x) (he : PE X e te) (hs : swapsWith e (some (.Name x pos')) pos.line X.env = pure false := by rfl) (hf : X.fn x = true ∨ X.env.scope.names.lookup x = some .local := by first | exact .inl rfl | exact .inr rfl | assumption) :
    PS X (.Assign [.Name x pos'] e pos) (tAsg te (gName i)) := by
  intro pins s σ H D I h
  refine wpAny_Assign_Name (thn (he pins s σ H _ I h) fun v s1 ⟨y, H1, I1, r1, q1⟩ => ?_) hs
  exact store_ok I1 hN hi hx r1 (fun s2 I2 => ⟨_, H1, I2, q1⟩) hf
end

section
variable {X : Cx} {pos : Pos}
noncomputable def tWhile (c : TT) (tb : TS) : TS := fun D σ H => ∃ W : Nat → St → Hp → Prop, (∃ m, W m σ H) ∧ ∀ m σ H, W m σ H →
  c σ H fun b H1 => if b = true then ∃ N : St → Hp → Prop, (∀ σ' H', N σ' H' → ∃ m', m' < m ∧ W m' σ' H') ∧ tb { D with nx := N, ct := N, bk := D.nx } σ H1 else D.nx σ H1
theorem ps_while {c : Expr} {body : List Stmt} {tc : TT} {tb : TS} (hp : PassesOwn (model X.prog X.w) X.A X.env X.xe) (hc : PT X c tc) (hb : PSs X body tb) : PS X (.While c body [] pos) (tWhile tc tb) := by
  intro pins s σ H D I h
  obtain ⟨W, ⟨m0, w0⟩, turn⟩ := h
  refine wpAny_While (codeAny_whileLoop (fun n s' => ∃ σ' H', Inv X pins σ' H' s' ∧ W n σ' H') ?_ m0 ⟨σ, H, I, w0⟩)
  rintro n s1 ⟨σ1, H1, I1, w1⟩
  refine wpAny_passesOwn hp (thn (hc pins s1 σ1 H1 _ I1 (turn n σ1 H1 w1)) fun b s2 ⟨H2, I2, q2⟩ => ?_)
  cases b with
  | true =>
    obtain ⟨N, hN, q2⟩ := q2
    rw [if_pos rfl]
    refine wpAny_passesOwn hp (thn (hb pins s2 σ1 H2 _ I2 q2) fun f s3 q3 => ?_)
    cases f with
    | next =>
      obtain ⟨σ3, H3, I3, n3⟩ := q3
      obtain ⟨m', hm, w3⟩ := hN σ3 H3 n3
      exact ⟨m', hm, σ3, H3, I3, w3⟩
    | cont =>
      obtain ⟨σ3, H3, I3, n3⟩ := q3
      obtain ⟨m', hm, w3⟩ := hN σ3 H3 n3
      exact ⟨m', hm, σ3, H3, I3, w3⟩
    | brk => exact q3
    | ret v => exact q3
  | false =>
    rw [if_neg Bool.false_ne_true]
    exact wpAny_execs_nil ⟨σ1, H2, I2, q2⟩
end

set_option genInjectivity false in
structure It where
  go : Nat → Hp → Prop
  yld : Nat → Hp → V → Hp → Prop
  stop : Nat → Hp → Prop
noncomputable def FpOk (X : Cx) (pins : List (Addr × Obj)) (H : Hp) (b : Addr) : Prop :=
  H b = none ∧ b ≠ X.env.locals ∧ b ∉ X.fs ∧ (b ∈ X.ex ∨ X.s₀.heap.objs.size ≤ b) ∧ (∀ x c, X.env.cells.lookup x = some c → c ≠ b) ∧ ∀ p ∈ X.pn ++ pins, p.1 ≠ b
theorem Inv.fpOk {X : Cx} {pins : List (Addr × Obj)} {σ : St} {H H' : Hp} {s : Shared} {b : Addr} (I : Inv X pins σ H s) (hb : s.heap.objs.size ≤ b) (hn : H' b = none) : FpOk X pins H' b := by
  refine ⟨hn, Nat.ne_of_gt (Nat.lt_of_lt_of_le I.lt hb), I.nofs hb, .inr (Nat.le_trans I.sz hb), fun x c e z => ?_, fun p hp z => ?_⟩
  · obtain ⟨v, q⟩ := I.cell x c e
    exact absurd (Nat.lt_of_lt_of_le q.lt (by rw [z]; exact hb)) (Nat.lt_irrefl _)
  · exact absurd (Nat.lt_of_lt_of_le (Heap.lt_size (I.pin p hp).1) (by rw [z]; exact hb)) (Nat.lt_irrefl _)
set_option genInjectivity false in
structure Turn (P : Program) (w : World) (K : PySem.W.Frag) (tg : Expr) (J : It) (fp : List Addr) (it : Addr) (tn : Nat → Heap → Prop) : Prop where
  mem : it ∈ fp
  obj : ∀ i h, tn i h → ∀ b ∈ fp, ∃ o, h.get? b = some o ∧ ∀ v, o.data ≠ .cell v
  keep : ∀ i h h', tn i h → (∀ b ∈ fp, ∀ o, h.get? b = some o → h'.get? b = some o) → tn i h'
  item : ∀ (X : Cx), X.prog = P → X.w = w → X.K = K → X.calm = true → ∀ (i : Nat) (pins : List (Addr × Obj)) (s : Shared) (σ : St) (H : Hp) (E : Value → Shared → Prop), Inv X pins σ H s → (∀ b ∈ fp, FpOk X pins H b) → tn i s.heap → J.go i H →
    wpAny (model P w) X.A (pyNext (.ref it)) (fun r s1 => ∃ u, r = some u ∧
      wpAny (model P w) X.A (letOwnedTupleGo tg (.ref it) u) (fun _ s2 => ∃ x H', Inv X pins σ H' s2 ∧ RelV x u ∧ J.yld i H x H' ∧ tn (i + 1) s2.heap ∧ ∀ b ∈ fp, H' b = none) E s1) E s
  done : ∀ (X : Cx), X.prog = P → X.w = w → X.K = K → X.calm = true → ∀ (i : Nat) (pins : List (Addr × Obj)) (s : Shared) (σ : St) (H : Hp) (E : Value → Shared → Prop), Inv X pins σ H s → (∀ b ∈ fp, FpOk X pins H b) → tn i s.heap → J.stop i H →
    wpAny (model P w) X.A (pyNext (.ref it)) (fun r s1 => r = none ∧ Inv X pins σ H s1) E s
  self : ∀ (A : Around) (i : Nat) (s : Shared) (Q : Value → Shared → Prop) (E : Value → Shared → Prop), tn i s.heap → Q (.ref it) s → wpAny (model P w) A (pyIter (.ref it)) Q E s
noncomputable abbrev TI := St → Hp → (It → Hp → Prop) → Prop
noncomputable def PIE (X : Cx) (pins : List (Addr × Obj)) (σ : St) (tg : Expr) (R : It → Hp → Prop) (itv : Value) (s2 : Shared) : Prop :=
  ∃ (it : Addr) (fp : List Addr) (tn : Nat → Heap → Prop) (J : It) (H' : Hp), itv = .ref it ∧ Inv X pins σ H' s2 ∧ Turn X.prog X.w X.K tg J fp it tn ∧ tn 0 s2.heap ∧ (∀ b ∈ fp, FpOk X pins H' b) ∧ R J H'
noncomputable def PI (X : Cx) (tg iter : Expr) (wi : TI) : Prop :=
  ∀ (pins : List (Addr × Obj)) (s : Shared) (σ : St) (H : Hp) (R : It → Hp → Prop), Inv X pins σ H s → wi σ H R →
    wpAny (model X.prog X.w) X.A (eval iter X.env) (fun v s1 => wpAny (model X.prog X.w) X.A (pyIter v) (PIE X pins σ tg R) X.xe s1) X.xe s

theorem go_of {M : Model} {A : Around} {E : Value → Shared → Prop} {s : Shared} {tg : Expr} {it : Addr} {u : Value} {o : Obj} {n : String} {vs : Array Value} {Q : Unit → Shared → Prop} (ho : s.heap.get? it = some o) (hc : o.cls = .type n) (hd : o.data = .fields vs)
    (hn : ["enumerate", "zip", "dict_itemiterator", "dict_reverseitemiterator", "odict_iterator", "itertools.zip_longest", "itertools.pairwise"].contains n = false) (hQ : Q () s) : wpAny M A (letOwnedTupleGo tg (.ref it) u) Q E s := by
  unfold letOwnedTupleGo
  cases tg <;> first
    | exact wpAny_pure hQ
    | (cases u <;> first
        | exact wpAny_pure hQ
        | (refine wpAny_bind (wpAny_load ho ?_)
           rw [hc, hd]
           show wpAny M A (if (["enumerate", "zip", "dict_itemiterator", "dict_reverseitemiterator", "odict_iterator", "itertools.zip_longest", "itertools.pairwise"].contains n && vs[0]? == some (rawInt _)) = true then _ else _) Q E s
           rw [if_neg (by intro h; rw [hn, Bool.false_and] at h; cases h)]
           exact wpAny_pure hQ))

noncomputable def Itl (K : PySem.W.Frag) (a : Addr) : It :=
  ⟨fun i H => ∃ xs x, SqL K H a xs ∧ xs[i]? = some x, fun i H x H' => H' = H ∧ ∀ xs, SqL K H a xs → xs[i]? = some x, fun i H => ∃ xs, SqL K H a xs ∧ xs.length ≤ i⟩
noncomputable def Itt (K : PySem.W.Frag) (a : Addr) : It :=
  ⟨fun i H => ∃ xs x, SqT K H a xs ∧ xs[i]? = some x, fun i H x H' => H' = H ∧ ∀ xs, SqT K H a xs → xs[i]? = some x, fun i H => ∃ xs, SqT K H a xs ∧ xs.length ≤ i⟩
noncomputable def Itr (lo : Int) (n : Nat) : It := ⟨fun i _ => i < n, fun i H x H' => H' = H ∧ x = .int (lo + i), fun i _ => n ≤ i⟩
theorem turn_list {P : Program} {w : World} {K : PySem.W.Frag} {tg : Expr} (a it : Addr) : Turn P w K tg (Itl K a) [it] it (fun i h => h.IsListIter it a i) where
  mem := by simp
  obj := fun i h st b hb => by
    have e : b = it := by simpa using hb
    subst e
    obtain ⟨o, e, c, d⟩ := st
    exact ⟨o, e, fun v z => by rw [d] at z; cases z⟩
  keep := fun i h h' st k => st.at fun o e => k it (by simp) o e
  item := by
    intro X hP hw hK hc i pins s σ H E I hf st hg
    subst hP hw hK
    obtain ⟨xs, x, hq, hx⟩ := hg
    obtain ⟨its, rv, p, hz⟩ := I.list hq
    obtain ⟨u, hu, ru⟩ := rv.get hx
    obtain ⟨f0, f1, f2, f3, f4, f5⟩ := hf it (by simp)
    refine wpAny_pyNext_list_item st p.isList (x := u) (by simpa using hu) fun h' st' sb => ?_
    have I1 : Inv X pins σ H { s with heap := h' } := I.turned (t' := s.toks) (fun b o hb e => (sb.2 b hb).trans e) f0 f1 f3 f4 f5
    obtain ⟨o, e, c, d⟩ := id st'
    exact ⟨u, rfl, go_of (s := { s with heap := h' }) e c d (by decide) ⟨x, H, I1, ru, ⟨rfl, fun ys hy => by rw [I.list_inj hy hq]; exact hx⟩, st', fun b hb => (hf b hb).1⟩⟩
  done := by
    intro X hP hw hK hc i pins s σ H E I hf st hg
    subst hP hw hK
    obtain ⟨xs, hq, hx⟩ := hg
    obtain ⟨its, rv, p, hz⟩ := I.list hq
    obtain ⟨f0, f1, f2, f3, f4, f5⟩ := hf it (by simp)
    have hl := rv.length
    exact wpAny_pyNext_list_end (I.ok.hd hc) st p.isList (by simp; omega) fun h' eb => ⟨rfl, I.turned (t' := s.toks) (fun b o hb e => eb b o hb e) f0 f1 f3 f4 f5⟩
  self := fun _ _ _ _ _ st h => wpAny_pyIter_listiter st h
theorem turn_tuple {P : Program} {w : World} {K : PySem.W.Frag} {tg : Expr} (a it : Addr) : Turn P w K tg (Itt K a) [it] it (fun i h => h.IsTupleIter it a i) where
  mem := by simp
  obj := fun i h st b hb => by
    have e : b = it := by simpa using hb
    subst e
    obtain ⟨o, e, c, d⟩ := st
    exact ⟨o, e, fun v z => by rw [d] at z; cases z⟩
  keep := fun i h h' st k => st.at fun o e => k it (by simp) o e
  item := by
    intro X hP hw hK hc i pins s σ H E I hf st hg
    subst hP hw hK
    obtain ⟨xs, x, hq, hx⟩ := hg
    obtain ⟨its, rv, p, hz⟩ := I.tuple hq
    obtain ⟨u, hu, ru⟩ := rv.get hx
    obtain ⟨f0, f1, f2, f3, f4, f5⟩ := hf it (by simp)
    refine wpAny_pyNext_tuple_item st (show s.heap.IsTuple a its.toArray from p) (x := u) (by simpa using hu) fun h' st' sb => ?_
    have I1 : Inv X pins σ H { s with heap := h' } := I.turned (t' := s.toks) (fun b o hb e => (sb.2 b hb).trans e) f0 f1 f3 f4 f5
    obtain ⟨o, e, c, d⟩ := id st'
    exact ⟨u, rfl, go_of (s := { s with heap := h' }) e c d (by decide) ⟨x, H, I1, ru, ⟨rfl, fun ys hy => by rw [I.tuple_inj hy hq]; exact hx⟩, st', fun b hb => (hf b hb).1⟩⟩
  done := by
    intro X hP hw hK hc i pins s σ H E I hf st hg
    subst hP hw hK
    obtain ⟨xs, hq, hx⟩ := hg
    obtain ⟨its, rv, p, hz⟩ := I.tuple hq
    obtain ⟨f0, f1, f2, f3, f4, f5⟩ := hf it (by simp)
    have hl := rv.length
    exact wpAny_pyNext_tuple_end (I.ok.hd hc) st (show s.heap.IsTuple a its.toArray from p) (by simp; omega) fun h' eb => ⟨rfl, I.turned (t' := s.toks) (fun b o hb e => eb b o hb e) f0 f1 f3 f4 f5⟩
  self := fun _ _ _ _ _ st h => wpAny_pyIter_tupleiter st h
theorem turn_range {P : Program} {w : World} {K : PySem.W.Frag} {tg : Expr} (it : Addr) (lo : Int) (n : Nat) : Turn P w K tg (Itr lo n) [it] it (fun i h => IsRangeIter h it (lo + (i : Nat) * 1) ((n : Int) - (i : Nat)) 1) where
  mem := by simp
  obj := fun i h st b hb => by
    have e : b = it := by simpa using hb
    subst e
    exact ⟨_, st, fun v z => by
      have z' : Data.fields _ = Data.cell v := z
      cases z'⟩
  keep := fun i h h' st k => k it (by simp) _ st
  item := by
    intro X hP hw hK hc i pins s σ H E I hf st hg
    subst hP hw hK
    obtain ⟨f0, f1, f2, f3, f4, f5⟩ := hf it (by simp)
    have W := Walks.range (prog := X.prog) (w := X.w) (I.ok.hd hc) it lo 1 n
    refine W.item i s _ _ hg st fun v h' tk hv st' kk => ?_
    obtain ⟨t, rfl⟩ := hv
    have I1 : Inv X pins σ H { s with heap := h', toks := tk } := I.turned (fun b o hb e => kk b o (by simpa using hb) e) f0 f1 f3 f4 f5
    refine ⟨_, rfl, go_of (s := { s with heap := h', toks := tk }) (n := "range_iterator") st' rfl rfl (by decide) ⟨.int (lo + i), H, I1, ⟨t, ?_⟩, ⟨rfl, rfl⟩, st', fun b hb => (hf b hb).1⟩⟩
    rw [Int.mul_one]
  done := by
    intro X hP hw hK hc i pins s σ H E I hf st hg
    subst hP hw hK
    obtain ⟨f0, f1, f2, f3, f4, f5⟩ := hf it (by simp)
    exact wpAny_pyNext_range_end (I.ok.hd hc) st (by have : n ≤ i := hg; omega) fun h' eb => ⟨rfl, I.turned (t' := s.toks) (fun b o hb e => eb b o hb e) f0 f1 f3 f4 f5⟩
  self := fun _ _ _ _ _ st h => wpAny_pyIter_rangeiter st h
end L2

namespace L2
open PySem PySem.Spec PyProof.Rows
section
variable {X : Cx} {tg : Expr}
noncomputable def iList (K : PySem.W.Frag) (tl : TE) : TI := fun σ H R => tl σ H fun x H1 => ∃ a, x = .ref a ∧ (∃ xs, SqL K H1 a xs) ∧ R (Itl K a) H1
noncomputable def iTup (K : PySem.W.Frag) (tl : TE) : TI := fun σ H R => tl σ H fun x H1 => ∃ a, x = .ref a ∧ (∃ xs, SqT K H1 a xs) ∧ R (Itt K a) H1
theorem pi_list {l : Expr} {tl : TE} (hl : PE X l tl) : PI X tg l (iList X.K tl) := by
  intro pins s σ H R I h
  refine thn (hl pins s σ H _ I h) fun v s1 ⟨x, H1, I1, r1, q1⟩ => ?_
  obtain ⟨a, e, ⟨xs, hq⟩, q⟩ := q1
  subst e
  cases r1
  obtain ⟨its, rv, p, hz⟩ := I1.list hq
  refine wpAny_pyIter_list p.isList ?_
  refine ⟨s1.heap.objs.size, [s1.heap.objs.size], _, _, H1, rfl, I1.kept (t' := s1.toks) fun b o e => Heap.get?_push_of_some _ e, turn_list a _, ⟨_, Heap.get?_push_size _ rfl, rfl, rfl⟩, fun b hb => ?_, q⟩
  have e : b = s1.heap.objs.size := by simpa using hb
  subst e
  exact I1.fpOk (Nat.le_refl _) (I1.hok.fresh (Nat.le_refl _))
theorem pi_tup {l : Expr} {tl : TE} (hl : PE X l tl) : PI X tg l (iTup X.K tl) := by
  intro pins s σ H R I h
  refine thn (hl pins s σ H _ I h) fun v s1 ⟨x, H1, I1, r1, q1⟩ => ?_
  obtain ⟨a, e, ⟨xs, hq⟩, q⟩ := q1
  subst e
  cases r1
  obtain ⟨its, rv, p, hz⟩ := I1.tuple hq
  refine wpAny_pyIter_tuple (show s1.heap.IsTuple a its.toArray from p) ?_
  refine ⟨s1.heap.objs.size, [s1.heap.objs.size], _, _, H1, rfl, I1.kept (t' := s1.toks) fun b o e => Heap.get?_push_of_some _ e, turn_tuple a _, ⟨_, Heap.get?_push_size _ rfl, rfl, rfl⟩, fun b hb => ?_, q⟩
  have e : b = s1.heap.objs.size := by simpa using hb
  subst e
  exact I1.fpOk (Nat.le_refl _) (I1.hok.fresh (Nat.le_refl _))
theorem range_it {pins : List (Addr × Obj)} {σ : St} {H : Hp} {s : Shared} {R : It → Hp → Prop} {E : Value → Shared → Prop} {lo hi : Int} {t u v : Tok} {tk : Nat} (I : Inv X pins σ H s) (h1 : -(2 ^ 62) ≤ lo) (h2 : lo < 2 ^ 62) (h3 : -(2 ^ 62) ≤ hi) (h4 : hi < 2 ^ 62)
    (q : R (Itr lo (hi - lo).toNat) H) : wpAny (model X.prog X.w) X.A (pyIter (.ref s.heap.objs.size)) (PIE X pins σ tg R) E { s with heap := s.heap.push { cls := .type "range", data := .fields #[.int lo t, .int hi u, .int 1 v] }, toks := tk } := by
  refine wpAny_pyIter_range (IsRange.new ..) (small_one h1 h2 h3 h4) ?_
  have I1 : Inv X pins σ H { s with heap := s.heap.push { cls := .type "range", data := .fields #[.int lo t, .int hi u, .int 1 v] }, toks := tk } := I.kept fun b o e => Heap.get?_push_of_some _ e
  refine ⟨(s.heap.push { cls := .type "range", data := .fields #[.int lo t, .int hi u, .int 1 v] }).objs.size, [(s.heap.push { cls := .type "range", data := .fields #[.int lo t, .int hi u, .int 1 v] }).objs.size], _, _, H, rfl,
    I1.kept (t' := tk) fun b o e => Heap.get?_push_of_some _ e, turn_range _ lo (hi - lo).toNat, ?_, fun b hb => ?_, q⟩
  · have e1 : lo + ((0 : Nat) : Int) * 1 = lo := by simp
    have e2 : (((hi - lo).toNat : Nat) : Int) - ((0 : Nat) : Int) = Builtin.Range.rangeSize lo hi 1 := by rw [rangeSize_one]; split <;> omega
    show IsRangeIter _ _ (lo + ((0 : Nat) : Int) * 1) ((((hi - lo).toNat : Nat) : Int) - ((0 : Nat) : Int)) 1
    rw [e1, e2]
    exact Heap.get?_push_size _ rfl
  · have e : b = (s.heap.push { cls := .type "range", data := .fields #[.int lo t, .int hi u, .int 1 v] }).objs.size := by simpa using hb
    subst e
    exact I1.fpOk (Nat.le_refl _) (I1.hok.fresh (Nat.le_refl _))
noncomputable def iRng1 (ta : TA) : TI := fun σ H R => ta σ H fun vs H1 => ∃ j : Int, vs = [.int j] ∧ -(2 ^ 62) ≤ j ∧ j < 2 ^ 62 ∧ R (Itr 0 j.toNat) H1
theorem pi_range1 {a : Expr} {ta : TA} {p pos : Pos} (hg : Gl X "range") (hm : X.mg "range" = none) (ha : PA X [a] ta) (hs : starEach [a] X.env = [(false, eval a X.env)] := by rfl) : PI X tg (.Call (.Name "range" p) [a] [] pos) (iRng1 ta) := by
  intro pins s σ H R I h
  refine Call_ (ld_blt I hg hm boot_range (PyProof.Rows.callWith_type1 (thn (ha pos pins s σ H _ I h) fun us s1 ⟨vs, H1, I1, r1, q1⟩ => ?_) hs rfl))
  obtain ⟨j, e, q1, q2, q⟩ := q1
  subst e
  cases r1 with
  | cons r rr =>
    cases rr
    obtain ⟨t, rfl⟩ := r
    exact call_range_1 (range_it I1 (by omega) (by omega) q1 q2 (by simpa using q))
noncomputable def tFor (wi : TI) (g : TG) (tb : TS) : TS := fun D σ H => wi σ H fun J H1 => ∃ W : Nat → Nat → St → Hp → Prop, (∃ m, W 0 m σ H1) ∧ ∀ i m σ H, W i m σ H →
  (J.stop i H ∧ D.nx σ H) ∨ (J.go i H ∧ ∃ N : St → Hp → Prop, (∀ σ' H', N σ' H' → ∃ m', m' < m ∧ W (i + 1) m' σ' H') ∧ ∀ x H', J.yld i H x H' → g x σ H' fun σ2 H2 => tb { D with nx := N, ct := N, bk := D.nx } σ2 H2)
noncomputable def pinsAt (fp : List Addr) (h : Heap) : List (Addr × Obj) := fp.filterMap fun b => (h.get? b).map fun o => (b, o)
theorem mem_pinsAt {fp : List Addr} {h : Heap} {b : Addr} {o : Obj} (hb : b ∈ fp) (e : h.get? b = some o) : (b, o) ∈ pinsAt fp h := List.mem_filterMap.mpr ⟨b, hb, by rw [e]; rfl⟩
theorem of_pinsAt {fp : List Addr} {h : Heap} {p : Addr × Obj} (hp : p ∈ pinsAt fp h) : p.1 ∈ fp ∧ h.get? p.1 = some p.2 := by
  obtain ⟨b, hb, e⟩ := List.mem_filterMap.mp hp
  cases q : h.get? b with
  | none => rw [q] at e; cases e
  | some o =>
    rw [q] at e
    have e' : (b, o) = p := Option.some.inj e
    subst e'
    exact ⟨hb, q⟩
theorem Inv.pinned {pins : List (Addr × Obj)} {σ : St} {H : Hp} {s : Shared} {fp : List Addr} (I : Inv X pins σ H s) (hf : ∀ b ∈ fp, FpOk X pins H b) (ho : ∀ b ∈ fp, ∃ o, s.heap.get? b = some o ∧ ∀ v, o.data ≠ .cell v) : Inv X (pins ++ pinsAt fp s.heap) σ H s :=
  I.pins_of fun p hp => (List.mem_append.mp hp).elim (fun z => I.pin p (List.mem_append_right _ z)) fun z => by
    obtain ⟨hb, e⟩ := of_pinsAt z
    obtain ⟨f0, f1, f2, _⟩ := hf p.1 hb
    obtain ⟨o, e', d⟩ := ho p.1 hb
    rw [e] at e'; cases e'
    exact ⟨e, f0, f1, f2, d⟩
theorem Inv.unpinned {pins pl : List (Addr × Obj)} {σ : St} {H : Hp} {s : Shared} (I : Inv X (pins ++ pl) σ H s) : Inv X pins σ H s := I.pins_of fun p hp => I.pin p (List.mem_append_right _ (List.mem_append_left _ hp))
theorem ps_for {iter : Expr} {body : List Stmt} {wi : TI} {g : TG} {tb : TS} {pos : Pos} (hp : PassesOwn (model X.prog X.w) X.A X.env X.xe) (hc : X.calm = true) (hi : PI X tg iter wi) (hg : PG X tg g) (hb : PSs X body tb)
    (hs : ∀ x, foldedSetIterable iter X.env x = pure x := by intro _; rfl) : PS X (.For tg iter body [] pos) (tFor wi g tb) := by
  intro pins s σ H D I h
  refine wpAny_For (thn (hi pins s σ H _ I h) fun v s1 h1 => thn h1 fun itv s2 h2 => ?_) hs
  obtain ⟨it, fp, tn, J, H2, e, I2, T, st2, f2, W, ⟨m0, w0⟩, turn⟩ := h2
  subst e

  have stat : ∀ {H' : Hp}, (∀ b ∈ fp, H' b = none) → ∀ b ∈ fp, FpOk X pins H' b := fun hn b hb => ⟨hn b hb, (f2 b hb).2⟩
  refine codeAny_forLoop_any (fun n s' => ∃ i σ' H', Inv X pins σ' H' s' ∧ tn i s'.heap ∧ (∀ b ∈ fp, H' b = none) ∧ W i n σ' H') ?_ m0 ⟨0, σ, H2, I2, st2, fun b hb => (f2 b hb).1, w0⟩
  rintro n s3 ⟨i, σ3, H3, I3, st3, fr3, w3⟩
  rcases turn i n σ3 H3 w3 with ⟨stop, qn⟩ | ⟨go, N, hN, step⟩
  · refine wpAny_passesOwn hp (thn (T.done X rfl rfl rfl hc i pins s3 σ3 H3 X.xe I3 (stat fr3) st3 stop) fun r s4 ⟨hr, I4⟩ => ?_)
    subst hr
    exact wpAny_execs_nil ⟨σ3, H3, I4, qn⟩
  · refine wpAny_passesOwn hp (thn (T.item X rfl rfl rfl hc i pins s3 σ3 H3 X.xe I3 (stat fr3) st3 go) fun r s4 ⟨u, hr, h4⟩ => ?_)
    subst hr
    refine wpAny_passesOwn hp (thn h4 fun _ s5 ⟨x, H5, I5, r5, y5, st5, fr5⟩ => ?_)
    have I5' := I5.pinned (stat fr5) (T.obj _ _ st5)
    refine wpAny_passesOwn hp (thn (hg _ s5 σ3 H5 x u _ I5' r5 (step x H5 y5)) fun _ s6 ⟨σ6, H6, I6, q6⟩ => ?_)
    refine wpAny_passesOwn hp (thn (hb _ s6 σ6 H6 _ I6 q6) fun f s7 q7 => ?_)
    have again : ∀ {σ7 : St} {H7 : Hp}, Inv X (pins ++ pinsAt fp s5.heap) σ7 H7 s7 → N σ7 H7 → ∃ m, m < n ∧ ∃ i σ' H', Inv X pins σ' H' s7 ∧ tn i s7.heap ∧ (∀ b ∈ fp, H' b = none) ∧ W i m σ' H' := fun {σ7 H7} I7 n7 => by
      obtain ⟨m', hm, w7⟩ := hN σ7 H7 n7
      refine ⟨m', hm, i + 1, σ7, H7, I7.unpinned, T.keep _ _ _ st5 fun b hb o e => (I7.pin (b, o) (List.mem_append_right _ (List.mem_append_right _ (mem_pinsAt hb e)))).1, fun b hb => ?_, w7⟩
      obtain ⟨o, e, d⟩ := T.obj _ _ st5 b hb
      exact (I7.pin (b, o) (List.mem_append_right _ (List.mem_append_right _ (mem_pinsAt hb e)))).2.1
    cases f with
    | next => obtain ⟨σ7, H7, I7, n7⟩ := q7; exact again I7 n7
    | cont => obtain ⟨σ7, H7, I7, n7⟩ := q7; exact again I7 n7
    | brk => obtain ⟨σ7, H7, I7, q7⟩ := q7; exact ⟨σ7, H7, I7.unpinned, q7⟩
    | ret v => obtain ⟨x7, σ7, H7, I7, r7, q7⟩ := q7; exact ⟨x7, σ7, H7, I7.unpinned, r7, q7⟩
end

theorem for_list {K : PySem.W.Frag} {a : Addr} {xs : List V} {g : TG} {tb : TS} {D : Ends} {σ : St} {H : Hp} (Pv : Nat → St → Hp → Prop) (h0 : Pv 0 σ H) (hl : ∀ i σ H, i ≤ xs.length → Pv i σ H → SqL K H a xs)
    (hs : ∀ i x σ H, xs[i]? = some x → Pv i σ H → g x σ H fun σ2 H2 => tb { D with nx := Pv (i + 1), ct := Pv (i + 1), bk := D.nx } σ2 H2) (hd : ∀ σ H, Pv xs.length σ H → D.nx σ H) :
    ∃ W : Nat → Nat → St → Hp → Prop, (∃ m, W 0 m σ H) ∧ ∀ i m σ H, W i m σ H →
      ((Itl K a).stop i H ∧ D.nx σ H) ∨ ((Itl K a).go i H ∧ ∃ N : St → Hp → Prop, (∀ σ' H', N σ' H' → ∃ m', m' < m ∧ W (i + 1) m' σ' H') ∧ ∀ x H', (Itl K a).yld i H x H' → g x σ H' fun σ2 H2 => tb { D with nx := N, ct := N, bk := D.nx } σ2 H2) := by
  refine ⟨fun i m σ H => m = xs.length - i ∧ i ≤ xs.length ∧ Pv i σ H, ⟨xs.length, by simp, Nat.zero_le _, h0⟩, ?_⟩
  rintro i m σ H ⟨rfl, hi, p⟩
  have q := hl i σ H hi p
  by_cases hlt : i < xs.length
  · refine .inr ⟨⟨xs, xs[i], q, by simp [hlt]⟩, Pv (i + 1), fun σ' H' p' => ⟨xs.length - (i + 1), by omega, rfl, hlt, p'⟩, fun x H' y => ?_⟩
    obtain ⟨e, y⟩ := y
    subst e
    exact hs i x σ _ (y xs q) p
  · have e : i = xs.length := by omega
    subst e
    exact .inl ⟨⟨xs, q, Nat.le_refl _⟩, hd σ H p⟩
theorem for_tup {K : PySem.W.Frag} {a : Addr} {xs : List V} {g : TG} {tb : TS} {D : Ends} {σ : St} {H : Hp} (Pv : Nat → St → Hp → Prop) (h0 : Pv 0 σ H) (hl : ∀ i σ H, i ≤ xs.length → Pv i σ H → SqT K H a xs)
    (hs : ∀ i x σ H, xs[i]? = some x → Pv i σ H → g x σ H fun σ2 H2 => tb { D with nx := Pv (i + 1), ct := Pv (i + 1), bk := D.nx } σ2 H2) (hd : ∀ σ H, Pv xs.length σ H → D.nx σ H) :
    ∃ W : Nat → Nat → St → Hp → Prop, (∃ m, W 0 m σ H) ∧ ∀ i m σ H, W i m σ H →
      ((Itt K a).stop i H ∧ D.nx σ H) ∨ ((Itt K a).go i H ∧ ∃ N : St → Hp → Prop, (∀ σ' H', N σ' H' → ∃ m', m' < m ∧ W (i + 1) m' σ' H') ∧ ∀ x H', (Itt K a).yld i H x H' → g x σ H' fun σ2 H2 => tb { D with nx := N, ct := N, bk := D.nx } σ2 H2) := by
  refine ⟨fun i m σ H => m = xs.length - i ∧ i ≤ xs.length ∧ Pv i σ H, ⟨xs.length, by simp, Nat.zero_le _, h0⟩, ?_⟩
  rintro i m σ H ⟨rfl, hi, p⟩
  have q := hl i σ H hi p
  by_cases hlt : i < xs.length
  · refine .inr ⟨⟨xs, xs[i], q, by simp [hlt]⟩, Pv (i + 1), fun σ' H' p' => ⟨xs.length - (i + 1), by omega, rfl, hlt, p'⟩, fun x H' y => ?_⟩
    obtain ⟨e, y⟩ := y
    subst e
    exact hs i x σ _ (y xs q) p
  · have e : i = xs.length := by omega
    subst e
    exact .inl ⟨⟨xs, q, Nat.le_refl _⟩, hd σ H p⟩
theorem for_range {lo : Int} {n : Nat} {g : TG} {tb : TS} {D : Ends} {σ : St} {H : Hp} (Pv : Nat → St → Hp → Prop) (h0 : Pv 0 σ H)
    (hs : ∀ i σ H, i < n → Pv i σ H → g (.int (lo + i)) σ H fun σ2 H2 => tb { D with nx := Pv (i + 1), ct := Pv (i + 1), bk := D.nx } σ2 H2) (hd : ∀ σ H, Pv n σ H → D.nx σ H) :
    ∃ W : Nat → Nat → St → Hp → Prop, (∃ m, W 0 m σ H) ∧ ∀ i m σ H, W i m σ H →
      ((Itr lo n).stop i H ∧ D.nx σ H) ∨ ((Itr lo n).go i H ∧ ∃ N : St → Hp → Prop, (∀ σ' H', N σ' H' → ∃ m', m' < m ∧ W (i + 1) m' σ' H') ∧ ∀ x H', (Itr lo n).yld i H x H' → g x σ H' fun σ2 H2 => tb { D with nx := N, ct := N, bk := D.nx } σ2 H2) := by
  refine ⟨fun i m σ H => m = n - i ∧ i ≤ n ∧ Pv i σ H, ⟨n, by simp, Nat.zero_le _, h0⟩, ?_⟩
  rintro i m σ H ⟨rfl, hi, p⟩
  by_cases hlt : i < n
  · refine .inr ⟨hlt, Pv (i + 1), fun σ' H' p' => ⟨n - (i + 1), by omega, rfl, hlt, p'⟩, fun x H' y => ?_⟩
    obtain ⟨e, y⟩ := y
    subst e y
    exact hs i σ _ hlt p
  · have e : i = n := by omega
    subst e
    exact .inl ⟨Nat.le_refl _, hd σ H p⟩
end L2

namespace L2
open PySem PySem.Spec PyProof.Rows

noncomputable abbrev R2 := V → V → Hp → VK → Prop
noncomputable def OpR (X : Cx) (f : Value → Value → Sem Value) (r : R2) : Prop :=
  ∀ (pins : List (Addr × Obj)) (s : Shared) (σ : St) (H : Hp) (x y : V) (v u : Value) (Q : VK), Inv X pins σ H s → RelV x v → RelV y u → r x y H Q →
    wpAny (model X.prog X.w) X.A (f v u) (EP X pins σ Q) X.xe s
noncomputable def UnR (X : Cx) (f : Value → Sem Value) (r : V → Hp → VK → Prop) : Prop :=
  ∀ (pins : List (Addr × Obj)) (s : Shared) (σ : St) (H : Hp) (x : V) (v : Value) (Q : VK), Inv X pins σ H s → RelV x v → r x H Q →
    wpAny (model X.prog X.w) X.A (f v) (EP X pins σ Q) X.xe s
noncomputable def CallR (X : Cx) (f : Value) (r : List V → Hp → VK → Prop) : Prop :=
  ∀ (pins : List (Addr × Obj)) (s : Shared) (σ : St) (H : Hp) (xs : List V) (us : List Value) (Q : VK), Inv X pins σ H s → Vals xs us → r xs H Q →
    wpAny (model X.prog X.w) X.A (call f us) (EP X pins σ Q) X.xe s
noncomputable def tOp (r : R2) (ta tb : TE) : TE := fun σ H Q => ta σ H fun x H1 => tb σ H1 fun y H2 => r x y H2 Q
noncomputable def tUn (r : V → Hp → VK → Prop) (ta : TE) : TE := fun σ H Q => ta σ H fun x H1 => r x H1 Q
noncomputable def rI (C : Int → Int → Prop) (g : Int → Int → V) : R2 := fun x y H Q => ∃ i j, x = .int i ∧ y = .int j ∧ C i j ∧ Q (g i j) H
noncomputable def rI0 (g : Int → Int → V) : R2 := fun x y H Q => ∃ i j, x = .int i ∧ y = .int j ∧ Q (g i j) H
noncomputable def rU (g : Int → V) : V → Hp → VK → Prop := fun x H Q => ∃ i, x = .int i ∧ Q (g i) H

section
variable {X : Cx} {a b c : Expr} {ta tb tc : TE} {pos : Pos}

theorem binT (ha : PE X a ta) (hb : PE X b tb) {pins : List (Addr × Obj)} {s : Shared} {σ : St} {H : Hp} {R : V → V → Hp → Prop} (I : Inv X pins σ H s)
    (h : ta σ H fun x H1 => tb σ H1 fun y H2 => R x y H2) {Q : Value → Shared → Prop} {f : Value → Value → Sem Value}
    (hf : ∀ v u s2 x y H2, Inv X pins σ H2 s2 → RelV x v → RelV y u → R x y H2 → wpAny (model X.prog X.w) X.A (f v u) Q X.xe s2) :
    wpAny (model X.prog X.w) X.A (eval a X.env) (fun v s₁ => wpAny (model X.prog X.w) X.A (eval b X.env) (fun u s₂ => wpAny (model X.prog X.w) X.A (f v u) Q X.xe s₂) X.xe s₁) X.xe s := by
  refine thn (ha pins s σ H _ I h) fun v s1 ⟨x, H1, I1, r1, q1⟩ => ?_
  refine thn (hb pins s1 σ H1 _ I1 q1) fun u s2 ⟨y, H2, I2, r2, q2⟩ => ?_
  exact hf v u s2 x y H2 I2 r1 r2 q2

theorem pe_op {op : Operator} {r : R2} (ho : OpR X (binaryOp op) r) (ha : PE X a ta) (hb : PE X b tb) : PE X (.BinOp a op b pos) (tOp r ta tb) := by
  intro pins s σ H Q I h
  exact wpAny_BinOp (binT ha hb I h fun v u s2 x y H2 I2 rx ry q => ho pins s2 σ H2 x y v u Q I2 rx ry q)
theorem pe_un {op : UnaryOp} {r : V → Hp → VK → Prop} (ho : UnR X (unaryOp op) r) (ha : PE X a ta) : PE X (.UnaryOp op a pos) (tUn r ta) := by
  intro pins s σ H Q I h
  exact UnaryOp_ (thn (ha pins s σ H _ I h) fun v s1 ⟨x, H1, I1, r1, q1⟩ => ho pins s1 σ H1 x v Q I1 r1 q1)
theorem opI {f : Value → Value → Sem Value} {C : Int → Int → Prop} {g : Int → Int → Int}
    (rule : ∀ (i j : Int) (t u : Tok) (s : Shared) (Q : Value → Shared → Prop) (E : Value → Shared → Prop), C i j → Q (.int (g i j) s.toks) { s with toks := s.toks + 1 } → wpAny (model X.prog X.w) X.A (f (.int i t) (.int j u)) Q E s) :
    OpR X f (rI C fun i j => .int (g i j)) := by
  intro pins s σ H x y v u Q I rx ry h
  obtain ⟨i, j, rfl, rfl, hc, q⟩ := h
  obtain ⟨t, rfl⟩ := rx
  obtain ⟨t', rfl⟩ := ry
  exact rule i j t t' s _ _ hc ⟨.int (g i j), H, I.tok _, ⟨_, rfl⟩, q⟩
theorem opI0 {f : Value → Value → Sem Value} {g : Int → Int → Int}
    (rule : ∀ (i j : Int) (t u : Tok) (s : Shared) (Q : Value → Shared → Prop) (E : Value → Shared → Prop), Q (.int (g i j) s.toks) { s with toks := s.toks + 1 } → wpAny (model X.prog X.w) X.A (f (.int i t) (.int j u)) Q E s) :
    OpR X f (rI0 fun i j => .int (g i j)) := by
  intro pins s σ H x y v u Q I rx ry h
  obtain ⟨i, j, rfl, rfl, q⟩ := h
  obtain ⟨t, rfl⟩ := rx
  obtain ⟨t', rfl⟩ := ry
  exact rule i j t t' s _ _ ⟨.int (g i j), H, I.tok _, ⟨_, rfl⟩, q⟩
theorem opB0 {f : Value → Value → Sem Value} {g : Int → Int → Bool}
    (rule : ∀ (i j : Int) (t u : Tok) (s : Shared) (Q : Value → Shared → Prop) (E : Value → Shared → Prop), Q (.bool (g i j)) s → wpAny (model X.prog X.w) X.A (f (.int i t) (.int j u)) Q E s) :
    OpR X f (rI0 fun i j => .bl (g i j)) := by
  intro pins s σ H x y v u Q I rx ry h
  obtain ⟨i, j, rfl, rfl, q⟩ := h
  obtain ⟨t, rfl⟩ := rx
  obtain ⟨t', rfl⟩ := ry
  exact rule i j t t' s _ _ ⟨.bl (g i j), H, I, rfl, q⟩

noncomputable def CDiv (i j : Int) : Prop := 0 < j ∧ j < 1073741824
noncomputable def CPow (i j : Int) : Prop := 0 ≤ j ∧ j ≤ 1000000 ∧ i.natAbs < 2 ^ 64
noncomputable def CMul (i j : Int) : Prop := (-(2 ^ 64) < i ∧ i < 2 ^ 64) ∨ (-(2 ^ 64) < j ∧ j < 2 ^ 64)
theorem CMul.ok {i j : Int} (h : CMul i j) : IntMulOk i j := by
  rcases h with ⟨h1, h2⟩ | ⟨h1, h2⟩
  · exact .of_left (intBits_le_64 h1 h2)
  · exact .of_right (intBits_le_64 h1 h2)
theorem op_add : OpR X (binaryOp .Add) (rI0 fun i j => .int (i + j)) := opI0 fun _ _ _ _ _ _ _ q => add_int q
theorem op_sub : OpR X (binaryOp .Sub) (rI0 fun i j => .int (i - j)) := opI0 fun _ _ _ _ _ _ _ q => sub_int q
theorem op_mul : OpR X (binaryOp .Mult) (rI CMul fun i j => .int (i * j)) := opI fun _ _ _ _ _ _ _ hc q => mul_int q hc.ok
theorem op_fdiv : OpR X (binaryOp .FloorDiv) (rI CDiv fun i j => .int (i / j)) := opI fun i j _ _ _ _ _ hc q => by
  have h1 : (0 : Int) < j := hc.1
  have h2 : j < 1073741824 := hc.2
  exact floordiv_int (by omega) (by rw [Int.fdiv_eq_ediv_of_nonneg i (by omega)]; exact q) (.inl (PyProof.noPylong_small (by omega)))
theorem op_mod : OpR X (binaryOp .Mod) (rI (fun _ j => 0 < j) fun i j => .int (i % j)) := opI fun i j _ _ _ _ _ hc q => by
  have h1 : (0 : Int) < j := hc
  exact mod_int' (by omega) (by rw [Int.fmod_eq_emod_of_nonneg i (by omega)]; exact q)
theorem op_pow : OpR X (binaryOp .Pow) (rI CPow fun i j => .int (i ^ j.toNat)) := opI fun _ _ _ _ _ _ _ hc q => pow_int_small hc.1 hc.2.1 hc.2.2 q
theorem unI {f : Value → Sem Value} {g : Int → Int}
    (rule : ∀ (i : Int) (t : Tok) (s : Shared) (Q : Value → Shared → Prop) (E : Value → Shared → Prop), Q (.int (g i) s.toks) { s with toks := s.toks + 1 } → wpAny (model X.prog X.w) X.A (f (.int i t)) Q E s) :
    UnR X f (rU fun i => .int (g i)) := by
  intro pins s σ H x v Q I rx h
  obtain ⟨i, rfl, q⟩ := h
  obtain ⟨t, rfl⟩ := rx
  exact rule i t s _ _ ⟨.int (g i), H, I.tok _, ⟨_, rfl⟩, q⟩
theorem un_neg : UnR X (unaryOp .USub) (rU fun i => .int (-i)) := unI fun _ _ _ _ _ q => neg_int q
end

noncomputable def scal : V → V → Bool
  | .non, .non => true | .non, .int _ => true | .int _, .non => true | .non, .bl _ => true | .bl _, .non => true | .non, .str _ => true | .str _, .non => true
  | .int _, .int _ => true | .bl _, .bl _ => true | .str _, .str _ => true | .byt _, .byt _ => true
  | .int _, .str _ => true | .str _, .int _ => true | .bl _, .str _ => true | .str _, .bl _ => true
  | _, _ => false
noncomputable def rEq : R2 := fun x y H Q => scal x y = true ∧ Q (.bl (decide (x = y))) H
noncomputable def rNe : R2 := fun x y H Q => scal x y = true ∧ Q (.bl (!decide (x = y))) H

theorem dec_int {i j : Int} : decide (V.int i = V.int j) = (i == j) := by
  rw [Bool.eq_iff_iff]
  simp
theorem dec_bl {i j : Bool} : decide (V.bl i = V.bl j) = (i == j) := by
  rw [Bool.eq_iff_iff]
  simp
theorem dec_str {i j : Str} : decide (V.str i = V.str j) = (i == j) := by
  rw [Bool.eq_iff_iff]
  simp
theorem dec_byt {i j : Array UInt8} : decide (V.byt i = V.byt j) = (i.toList == j.toList) := by
  rw [Bool.eq_iff_iff]
  cases i
  cases j
  simp

section
variable {X : Cx} {a b c : Expr} {ta tb tc : TE} {pos : Pos}
theorem fin_bl {pins : List (Addr × Obj)} {σ : St} {H : Hp} {s : Shared} {Q : VK} {k k' : Bool} (I : Inv X pins σ H s) (q : Q (.bl k) H) (e : k = k') : EP X pins σ Q (.bool k') s := by
  subst e
  exact ⟨.bl k, H, I, rfl, q⟩
theorem op_eq : OpR X (compareOp .Eq) rEq := by
  intro pins s σ H x y v u Q I rx ry h
  obtain ⟨hs, q⟩ := h
  cases x with
  | non =>
    cases rx
    cases y with
    | non => cases ry; exact PySem.EqNone.eq_none_none (fin_bl I q (by simp))
    | bl j => cases ry; exact PySem.EqNone.eq_none_bool (fin_bl I q (by simp))
    | int j => obtain ⟨t', rfl⟩ := ry; exact PySem.EqNone.eq_none_int (fin_bl I q (by simp))
    | str j => obtain ⟨t', rfl⟩ := ry; exact PySem.EqNone.eq_none_str (fin_bl I q (by simp))
    | _ => exact absurd (show false = true from hs) Bool.false_ne_true
  | bl i =>
    cases rx
    cases y with
    | non => cases ry; exact PySem.EqNone.eq_bool_none (fin_bl I q (by simp))
    | bl j => cases ry; exact eq_bool (fin_bl I q dec_bl)
    | str j => obtain ⟨t', rfl⟩ := ry; exact PySem.EqMixed.eq_bool_str (fin_bl I q (by simp))
    | _ => exact absurd (show false = true from hs) Bool.false_ne_true
  | int i =>
    obtain ⟨t, rfl⟩ := rx
    cases y with
    | non => cases ry; exact PySem.EqNone.eq_int_none (fin_bl I q (by simp))
    | int j => obtain ⟨t', rfl⟩ := ry; exact eq_int (fin_bl I q dec_int)
    | str j => obtain ⟨t', rfl⟩ := ry; exact PySem.EqMixed.eq_int_str (fin_bl I q (by simp))
    | _ => exact absurd (show false = true from hs) Bool.false_ne_true
  | str i =>
    obtain ⟨t, rfl⟩ := rx
    cases y with
    | non => cases ry; exact PySem.EqNone.eq_str_none (fin_bl I q (by simp))
    | bl j => cases ry; exact PySem.EqMixed.eq_str_bool (fin_bl I q (by simp))
    | int j => obtain ⟨t', rfl⟩ := ry; exact PySem.EqMixed.eq_str_int (fin_bl I q (by simp))
    | str j => obtain ⟨t', rfl⟩ := ry; exact eq_str (fin_bl I q dec_str)
    | _ => exact absurd (show false = true from hs) Bool.false_ne_true
  | byt i =>
    obtain ⟨t, rfl⟩ := rx
    cases y with
    | byt j => obtain ⟨t', rfl⟩ := ry; exact PySem.W.eq_bytes (fin_bl I q dec_byt)
    | _ => exact absurd (show false = true from hs) Bool.false_ne_true
  | _ => cases y <;> exact absurd (show false = true from hs) Bool.false_ne_true
theorem op_ne : OpR X (compareOp .NotEq) rNe := by
  intro pins s σ H x y v u Q I rx ry h
  obtain ⟨hs, q⟩ := h
  cases x with
  | non =>
    cases rx
    cases y with
    | non => cases ry; exact PySem.EqNone.ne_none_none (fin_bl I q (by simp))
    | bl j => cases ry; exact PySem.EqNone.ne_none_bool (fin_bl I q (by simp))
    | int j => obtain ⟨t', rfl⟩ := ry; exact PySem.EqNone.ne_none_int (fin_bl I q (by simp))
    | str j => obtain ⟨t', rfl⟩ := ry; exact PySem.EqNone.ne_none_str (fin_bl I q (by simp))
    | _ => exact absurd (show false = true from hs) Bool.false_ne_true
  | bl i =>
    cases rx
    cases y with
    | non => cases ry; exact PySem.EqNone.ne_bool_none (fin_bl I q (by simp))
    | bl j => cases ry; exact ne_bool (fin_bl I q (congrArg not dec_bl))
    | str j => obtain ⟨t', rfl⟩ := ry; exact PySem.EqMixed.ne_bool_str (fin_bl I q (by simp))
    | _ => exact absurd (show false = true from hs) Bool.false_ne_true
  | int i =>
    obtain ⟨t, rfl⟩ := rx
    cases y with
    | non => cases ry; exact PySem.EqNone.ne_int_none (fin_bl I q (by simp))
    | int j => obtain ⟨t', rfl⟩ := ry; exact ne_int (fin_bl I q (congrArg not dec_int))
    | str j => obtain ⟨t', rfl⟩ := ry; exact PySem.EqMixed.ne_int_str (fin_bl I q (by simp))
    | _ => exact absurd (show false = true from hs) Bool.false_ne_true
  | str i =>
    obtain ⟨t, rfl⟩ := rx
    cases y with
    | non => cases ry; exact PySem.EqNone.ne_str_none (fin_bl I q (by simp))
    | bl j => cases ry; exact PySem.EqMixed.ne_str_bool (fin_bl I q (by simp))
    | int j => obtain ⟨t', rfl⟩ := ry; exact PySem.EqMixed.ne_str_int (fin_bl I q (by simp))
    | str j => obtain ⟨t', rfl⟩ := ry; exact ne_str (fin_bl I q (congrArg not dec_str))
    | _ => exact absurd (show false = true from hs) Bool.false_ne_true
  | byt i =>
    obtain ⟨t, rfl⟩ := rx
    cases y with
    | byt j => obtain ⟨t', rfl⟩ := ry; exact PySem.W.ne_bytes (fin_bl I q (congrArg not dec_byt))
    | _ => exact absurd (show false = true from hs) Bool.false_ne_true
  | _ => cases y <;> exact absurd (show false = true from hs) Bool.false_ne_true

theorem op_lt : OpR X (compareOp .Lt) (rI0 fun i j => .bl (decide (i < j))) := opB0 fun _ _ _ _ _ _ _ q => lt_int q
theorem op_gt : OpR X (compareOp .Gt) (rI0 fun i j => .bl (decide (j < i))) := opB0 fun _ _ _ _ _ _ _ q => gt_int q
theorem op_ge : OpR X (compareOp .GtE) (rI0 fun i j => .bl (decide (j ≤ i))) := opB0 fun _ _ _ _ _ _ _ q => ge_int q
theorem op_notin_str : OpR X (compareOp .NotIn) (fun x y H Q => ∃ i j, x = .str i ∧ y = .str j ∧ Q (.bl (!(!(Builtin.Str.occurrences j i 0 j.length 1).isEmpty))) H) := by
  intro pins s σ H x y v u Q I rx ry h
  obtain ⟨i, j, rfl, rfl, q⟩ := h
  obtain ⟨t, rfl⟩ := rx
  obtain ⟨t', rfl⟩ := ry
  exact notIn_str (fin_bl I q rfl)
theorem nomark (b : Expr) {op : CmpOp} (h : op ≠ .In := by decide) (h2 : op ≠ .NotIn := by decide) : behindInMarks op b = false := by
  have e1 : (op == CmpOp.In) = false := by cases op <;> first | rfl | exact absurd rfl h
  have e2 : (op == CmpOp.NotIn) = false := by cases op <;> first | rfl | exact absurd rfl h2
  cases b <;> simp [behindInMarks, e1, e2]
theorem pe_cmpR {op : CmpOp} {r : R2} (ho : OpR X (compareOp op) r) (ha : PE X a ta) (hb : PE X b tb) (hm : behindInMarks op b = false) : PE X (.Compare a [op] [b] pos) (tOp r ta tb) := by
  intro pins s σ H Q I h
  exact wpAny_Compare1 (binT ha hb I h fun v u s2 x y H2 I2 rx ry q => ho pins s2 σ H2 x y v u Q I2 rx ry q) hm
noncomputable def tTest (t : TE) : TT := fun σ H Q => t σ H fun x H' => ∃ k, x = .bl k ∧ Q k H'
theorem pt_cmpR {op : CmpOp} {r : R2} (ho : OpR X (compareOp op) r) (ha : PE X a ta) (hb : PE X b tb) (hm : behindInMarks op b = false) : PT X (.Compare a [op] [b] pos) (tTest (tOp r ta tb)) := by
  intro pins s σ H Q I h
  refine wpAny_isTrue_Compare1 (thn (ha pins s σ H _ I h) fun v s1 ⟨x, H1, I1, r1, q1⟩ => thn (hb pins s1 σ H1 _ I1 q1) fun u s2 ⟨y, H2, I2, r2, q2⟩ =>
    thn (ho pins s2 σ H2 x y v u _ I2 r1 r2 q2) fun c s3 ⟨z, H3, I3, r3, k, e, q3⟩ => ?_) hm
  subst e
  cases r3
  exact wpAny_truthy_bool ⟨H3, I3, q3⟩
theorem line63 : (sizeLine : Nat) < 2 ^ 63 := by rw [sizeLine_eq]; decide
theorem op_add_str : OpR X (binaryOp .Add) (fun x y H Q => ∃ i j, x = .str i ∧ y = .str j ∧ i.length + j.length ≤ sizeLine ∧ Q (.str (i ++ j)) H) := by
  intro pins s σ H x y v u Q I rx ry h
  obtain ⟨i, j, rfl, rfl, hz, q⟩ := h
  obtain ⟨t, rfl⟩ := rx
  obtain ⟨t', rfl⟩ := ry
  exact add_str (fun t' tk => ⟨.str (i ++ j), H, I.tok _, ⟨_, rfl⟩, q⟩) hz
theorem vals1 {x : V} {us : List Value} (r : Vals [x] us) : ∃ u, us = [u] ∧ RelV x u := by
  cases r with
  | cons r1 r2 => cases r2; exact ⟨_, rfl, r1⟩
theorem vals2 {x y : V} {us : List Value} (r : Vals [x, y] us) : ∃ u w', us = [u, w'] ∧ RelV x u ∧ RelV y w' := by
  cases r with
  | cons r1 r2 =>
    cases r2 with
    | cons r3 r4 => cases r4; exact ⟨_, _, rfl, r1, r3⟩
theorem call_abs : CallR X (.builtin "abs") (fun xs H Q => ∃ i, xs = [.int i] ∧ Q (.int (if i < 0 then -i else i)) H) := by
  intro pins s σ H xs us Q I r h
  obtain ⟨i, rfl, q⟩ := h
  obtain ⟨u, rfl, t, rfl⟩ := vals1 r
  exact call_abs_int fun u tk => ⟨.int (if i < 0 then -i else i), H, I.tok _, ⟨_, rfl⟩, q⟩
end
end L2

namespace L2
open PySem PySem.Spec PyProof.Rows

set_option genInjectivity false in
structure ObjM (h : Heap) (x dx C : Addr) (mA : Str → Option Value) : Prop where
  obj : h.get? x = some (PySem.W.instObj C dx)
  ns : h.Ns1 dx mA
  ne : dx ≠ x

theorem lookIn_ns {h : Heap} {dx : Addr} {mA : Str → Option Value} (n : h.Ns1 dx mA) : ∃ od, h.get? dx = some od ∧ ∀ name, PySem.W.lookIn name od = some (mA name) := by
  obtain ⟨o, es, ep, ho, hd, hk, _, hm⟩ := n
  refine ⟨o, ho, fun name => ?_⟩
  have e := hm name
  unfold nsFind findBy at e
  rw [← Array.find?_toList] at e
  unfold PySem.W.lookIn
  rw [hd]
  dsimp only
  split
  · rename_i y q
    rw [q] at e
    exact congrArg some e
  · rename_i q
    rw [q] at e
    have a : es.toList.any (·.refKey) = false := by
      rw [List.any_eq_false]
      intro y hy
      obtain ⟨z, t, hkey⟩ := hk y (Array.mem_toList_iff.mp hy)
      simp [DictEntry.refKey, hkey]
    have a' : ¬ es.toList.any (·.refKey) = true := by rw [a]; exact Bool.false_ne_true
    rw [if_neg a']
    exact congrArg some e

theorem ObjM.look {h : Heap} {x dx C : Addr} {mA : Str → Option Value} (I : ObjM h x dx C mA) : ∃ od, PySem.W.InstAt h x (PySem.W.instObj C dx) C (some od) ∧ ∀ name, PySem.W.lookIn name od = some (mA name) :=
  let ⟨od, ho, hl⟩ := lookIn_ns I.ns
  ⟨od, ⟨I.obj, rfl, rfl, ho⟩, hl⟩

section
variable {prog : Program} {w : World} {A : Around} {E : Value → Shared → Prop} {s : Shared} {K : PySem.W.Frag} {x dx C f : Addr} {mA : Str → Option Value} {name : Str} {v : Value}

theorem get_map {expr : Bool} {Q : Value → Shared → Prop} (X : K.In s.heap) (I : ObjM s.heap x dx C mA) (hg : PySem.W.plainGet K C name = true) (hh : PySem.W.hasDictIn K C = true)
    (ha : PySem.W.findIn K (.ref C) name = some none) (hv : mA name = some v) (hv' : PySem.W.handedIn v = true) (h : Q v { s with toks := s.toks + 1 }) :
    wpAny (model prog w) A (getAttr (.ref x) name expr) Q E s := by
  obtain ⟨od, J, hl⟩ := I.look
  exact PySem.W.get_value X J (PySem.W.plainGet_of hg).1 (PySem.W.findObj_own hh ha rfl (by rw [hl, hv])) hv' h

theorem set_map {ns : List Str} {Q : Unit → Shared → Prop} (X : K.In s.heap) (I : ObjM s.heap x dx C mA)
    (hs : PySem.W.findIn K (.ref C) "__setattr__" = some (some (.builtin "object.__setattr__"))) (hp : PySem.W.plainOver K C = true) (ht : PySem.W.takerIn K C name = some none) (hh : PySem.W.hasDictIn K C = true)
    (hw : PySem.Within mA ns) (hsz : ns.length ≤ sizeLine)
    (h : ∀ h', ObjM h' x dx C (fun y => if y = name then some v else mA y) → Heap.SameBut dx s.heap h' → Q () { s with heap := h', toks := s.toks + 2 }) :
    wpAny (model prog w) A (setAttr (.ref x) name v) Q E s := by
  obtain ⟨od, J, hl⟩ := I.look
  refine PySem.W.set_plain X J hs (PySem.W.osa_open (s := { s with toks := s.toks + 1 }) (r := none) X J hp ht fun b => ?_)
  obtain ⟨cd, hc, hd'⟩ := PySem.W.any_some hh
  have hx : s.heap.get? x = some ⟨.ref C, some dx, .plain, #[]⟩ := I.obj
  refine wpAny_bind (wpAny_pure (wpAny_bind (wpAny_bind (wpAny_loadPart hx (wpAny_bind (PySem.W.Looks.here (s := { s with toks := s.toks + 1 }) (PySem.W.looks_clsIn X hc) ?_))))))
  rw [hd']
  refine wpAny_pure (a := some dx) (wpAny_bind (wpAny_pure (wpAny_bind ?_)))
  refine wpAny_nsSet1 (s := { s with toks := s.toks + 1 }) I.ns fun h' hn2 hs2 => ?_
  obtain ⟨oD, esD, epD, hoD, hdD, hcD⟩ := hn2.count (PySem.Within.cons name v hw)
  refine wpAny_bind (wpAny_lookBehind hoD (by rw [hdD]; exact pastItsLine_dict (Nat.le_trans hcD (by rw [List.length_cons]; omega))) ?_)
  exact wpAny_pure (h _ ⟨(hs2.2 _ (Ne.symm I.ne)).trans I.obj, hn2, I.ne⟩ hs2)

theorem make_map {R : Result → Shared → Prop} {vs : List Value} {kw : List (Str × Value)} (X : K.In s.heap) (hm : PySem.W.makesIn K C = true)
    (hi : PySem.W.findIn K (.ref C) "__init__" = some (some (.ref f))) (hf : PySem.W.typeIn K (.ref f) = some (.type "function"))
    (h : codeAny (model prog w) (A.under (.builtin "type.__call__" ⟨.ref C :: vs, kw⟩)) (.call (.ref f) ⟨.ref (s.heap.objs.size + 1) :: vs, kw⟩) (PySem.W.InitBack (s.heap.objs.size + 1) R)
      { s with heap := (s.heap.push PySem.W.emptyDict).push (PySem.W.instObj C s.heap.objs.size) }) :
    codeAny (model prog w) A (.call (.ref C) ⟨vs, kw⟩) R s := by
  obtain ⟨hh, g, d, t, os⟩ := s
  exact PySem.W.make_core (PySem.W.makes_of X hm) (PySem.W.looks_findIn X hi) (fun self => PySem.W.bind_fn X self hf) (.inl rfl) h
end

noncomputable def putF (f : Str) (v : V) : List (Str × V) → List (Str × V)
  | [] => [(f, v)]
  | (g, x) :: r => if g = f then (g, v) :: r else (g, x) :: putF f v r
theorem lookup_putF (f g : Str) (v : V) : ∀ fs : List (Str × V), (putF f v fs).lookup g = if g = f then some v else fs.lookup g
  | [] => by
    show List.lookup g [(f, v)] = _
    by_cases h : g = f
    · have hb : (g == f) = true := beq_iff_eq.mpr h
      simp only [List.lookup, hb, if_pos h]
    · have hb : (g == f) = false := beq_eq_false_iff_ne.mpr h
      simp only [List.lookup, hb, if_neg h]
  | (k, x) :: r => by
    have ih := lookup_putF f g v r
    rw [show putF f v ((k, x) :: r) = (if k = f then (k, v) :: r else (k, x) :: putF f v r) from rfl]
    by_cases hk : k = f
    · rw [if_pos hk]
      by_cases h : g = k
      · have hb : (g == k) = true := beq_iff_eq.mpr h
        simp only [List.lookup, hb, if_pos (h.trans hk)]
      · have hb : (g == k) = false := beq_eq_false_iff_ne.mpr h
        simp only [List.lookup, hb, if_neg (fun e : g = f => h (e.trans hk.symm))]
    · rw [if_neg hk]
      by_cases h : g = k
      · have hb : (g == k) = true := beq_iff_eq.mpr h
        simp only [List.lookup, hb, if_neg (fun e : g = f => hk (h.symm.trans e))]
      · have hb : (g == k) = false := beq_eq_false_iff_ne.mpr h
        simp only [List.lookup, hb]
        exact ih
theorem keys_putF (f : Str) (v : V) : ∀ fs : List (Str × V), f ∈ (putF f v fs).map (·.1) ∧ ∀ g, g ∈ fs.map (·.1) → g ∈ (putF f v fs).map (·.1)
  | [] => ⟨by simp [putF], fun g h => by simp at h⟩
  | (k, x) :: r => by
    obtain ⟨i1, i2⟩ := keys_putF f v r
    rw [show putF f v ((k, x) :: r) = (if k = f then (k, v) :: r else (k, x) :: putF f v r) from rfl]
    by_cases hk : k = f
    · rw [if_pos hk]
      subst hk
      exact ⟨by simp, fun g h => by simpa using h⟩
    · rw [if_neg hk]
      refine ⟨?_, fun g h => ?_⟩
      · rw [List.map_cons]
        exact List.mem_cons_of_mem _ i1
      · rw [List.map_cons] at h ⊢
        rcases List.mem_cons.mp h with e | e
        · exact List.mem_cons.mpr (.inl e)
        · exact List.mem_cons_of_mem _ (i2 g e)
theorem length_putF (f : Str) (v : V) : ∀ fs : List (Str × V), (putF f v fs).length ≤ fs.length + 1
  | [] => by simp [putF]
  | (k, x) :: r => by
    have ih := length_putF f v r
    rw [show putF f v ((k, x) :: r) = (if k = f then (k, v) :: r else (k, x) :: putF f v r) from rfl]
    by_cases hk : k = f
    · rw [if_pos hk, List.length_cons, List.length_cons]; omega
    · rw [if_neg hk, List.length_cons, List.length_cons]; omega

theorem RelO.some_of {v : V} {o : Option Value} (r : RelO (some v) o) : ∃ u, o = some u ∧ RelV v u := by
  cases o with
  | none => exact (show False from r).elim
  | some u => exact ⟨u, rfl, r⟩
theorem handed_of {v : V} {u : Value} (r : RelV v u) : PySem.W.handedIn u = true := by
  cases v with
  | non => cases (show u = Value.none from r); rfl
  | bl b => cases (show u = Value.bool b from r); rfl
  | int i => obtain ⟨t, e⟩ := (show ∃ t, u = Value.int i t from r); cases e; rfl
  | str x => obtain ⟨t, e⟩ := (show ∃ t, u = Value.str x t from r); cases e; rfl
  | byt b => obtain ⟨t, e⟩ := (show ∃ t, u = Value.bytes b t from r); cases e; rfl
  | flt b => obtain ⟨t, e⟩ := (show ∃ t, u = Value.float b t from r); cases e; rfl
  | ref a => cases (show u = Value.ref a from r); rfl
  | ty n => cases (show u = Value.type n from r); rfl

section
variable {P : Program} {w : World} {H H' : Hp} {h h' : Heap} {a C dx : Addr} {fs fs' : List (Str × V)}
theorem ins_get (hok : HOk P w H h) (e : H a = some (.ins C dx fs)) : ∃ mA, ObjM h a dx C mA ∧ (∀ f, RelO (fs.lookup f) (mA f)) ∧ PySem.Within mA (fs.map (·.1)) ∧ fs.length ≤ 1000 ∧ H dx = some (.own a) := by
  obtain ⟨d, z, ne, ob, mA, n, r, q⟩ := (show ObjOk P w H h a (.ins C dx fs) from hok a _ e)
  exact ⟨mA, ⟨ob, n, ne⟩, r, q, z, d⟩
end

set_option genInjectivity false in
structure Cls (K : PySem.W.Frag) (C : Addr) : Prop where
  pg : PySem.W.plainGet K C Str.empty = true
  hd : PySem.W.hasDictIn K C = true
  po : PySem.W.plainOver K C = true
  sa : PySem.W.findIn K (.ref C) "__setattr__" = some (some (.builtin "object.__setattr__"))
theorem Cls.get {K : PySem.W.Frag} {C : Addr} (c : Cls K C) (f : Str) : PySem.W.plainGet K C f = true := c.pg
noncomputable def NoAttr (K : PySem.W.Frag) (C : Addr) (f : Str) : Prop := PySem.W.findIn K (.ref C) f = some none
theorem NoAttr.taker {K : PySem.W.Frag} {C : Addr} {f : Str} (n : NoAttr K C f) : PySem.W.takerIn K C f = some none := by
  unfold PySem.W.takerIn
  rw [show PySem.W.findIn K (.ref C) f = some none from n]
  rfl
section
variable {X : Cx} {pins : List (Addr × Obj)} {σ : St} {H : Hp} {s : Shared} {a C dx : Addr} {fs : List (Str × V)} {f : Str} {v : V} {A : Around} {E : Value → Shared → Prop}

theorem getattr_ok {b : Bool} {Q : Value → Shared → Prop} (I : Inv X pins σ H s) (e : H a = some (.ins C dx fs)) (c : Cls X.K C) (n : NoAttr X.K C f) (l : fs.lookup f = some v)
    (h : ∀ u s', Inv X pins σ H s' → RelV v u → Q u s') : wpAny (model X.prog X.w) A (getAttr (.ref a) f b) Q E s := by
  obtain ⟨mA, O, r, _, _, _⟩ := ins_get I.hok e
  obtain ⟨u, hu, ru⟩ := RelO.some_of (v := v) (o := mA f) (by rw [← l]; exact r f)
  exact get_map I.kIn O (c.get f) c.hd n hu (handed_of ru) (h u _ (I.tok _) ru)

theorem setattr_ok {y : V} {u : Value} {Q : Unit → Shared → Prop} (I : Inv X pins σ H s) (e : H a = some (.ins C dx fs)) (c : Cls X.K C) (n : NoAttr X.K C f) (hl : fs.length < 1000) (ry : RelV y u)
    (h : ∀ s', Inv X pins σ (upd H a (.ins C dx (putF f y fs))) s' → Q () s') : wpAny (model X.prog X.w) A (setAttr (.ref a) f u) Q E s := by
  obtain ⟨mA, O, r, wi, _, ho⟩ := ins_get I.hok e
  have hz : (fs.map (·.1)).length ≤ sizeLine := by rw [List.length_map, sizeLine_eq]; omega
  refine set_map I.kIn O c.sa c.po n.taker c.hd wi hz fun h' O' sb => h _ ?_
  have hd : ∃ o, h'.get? dx = some o := let ⟨o, _, _, e', _⟩ := O'.ns; ⟨o, e'⟩
  refine I.write (x := a) (e := dx) (by rw [e]; exact True.intro) (.inr ho) (fun b q hb z => (sb.2 b hb).trans z) hd ?_
  refine ⟨by rw [upd_ne O.ne]; exact ho, ?_, O.ne, O'.obj, _, O'.ns, fun g => ?_, fun g hg => ?_⟩
  · have := length_putF f y fs; omega
  · show RelO ((putF f y fs).lookup g) (if g = f then some u else mA g)
    rw [lookup_putF]
    by_cases q : g = f
    · rw [if_pos q, if_pos q]; exact ry
    · rw [if_neg q, if_neg q]; exact r g
  · by_cases q : g = f
    · rw [q]; exact (keys_putF f y fs).1
    · refine (keys_putF f y fs).2 g (wi g fun z => hg ?_)
      show (if g = f then some u else mA g) = none
      rw [if_neg q]; exact z

theorem Inv.made (I : Inv X pins σ H s) : Inv X pins σ (upd (upd H s.heap.objs.size (.own (s.heap.objs.size + 1))) (s.heap.objs.size + 1) (.ins C s.heap.objs.size []))
    { s with heap := (s.heap.push PySem.W.emptyDict).push (PySem.W.instObj C s.heap.objs.size) } := by
  have e1 : (s.heap.push PySem.W.emptyDict).get? s.heap.objs.size = some PySem.W.emptyDict := Heap.get?_push_size s.heap rfl
  have e2 : ((s.heap.push PySem.W.emptyDict).push (PySem.W.instObj C s.heap.objs.size)).get? (s.heap.objs.size + 1) = some (PySem.W.instObj C s.heap.objs.size) := by
    have := Heap.get?_push_size (s.heap.push PySem.W.emptyDict) (o := PySem.W.instObj C s.heap.objs.size) rfl
    rwa [Heap.size_push] at this
  have e3 : (s.heap.push PySem.W.emptyDict).Ns s.heap.objs.size (fun _ => none) := ⟨PySem.W.emptyDict, #[], _, e1, rfl, (fun e he => absurd he (by simp)), fun _ => rfl⟩
  have I1 := I.laid (a := s.heap.objs.size) (o := .own (s.heap.objs.size + 1)) (h' := s.heap.push PySem.W.emptyDict) (t' := s.toks) (fun b u q => Heap.get?_push_of_some _ q) (Nat.le_refl _) ⟨_, e1⟩
  refine I1.laid (a := s.heap.objs.size + 1) (o := .ins C s.heap.objs.size []) (t' := s.toks) (fun b u q => Heap.get?_push_of_some _ q) (Nat.le_of_eq (Heap.size_push _ _)) ?_
  have ne : s.heap.objs.size ≠ s.heap.objs.size + 1 := Nat.ne_of_lt (Nat.lt_succ_self _)
  refine ⟨by rw [upd_ne ne, upd_same], Nat.zero_le _, ne, e2, fun _ => none, (Heap.Ns1.of_empty e3).at fun o q => Heap.get?_push_of_some _ q, fun _ => True.intro, fun y hy => absurd rfl hy⟩

theorem attr_of {prog : Program} {w : World} {env : Env} {e : Expr} {f : Str} {pos : Pos} {s : Shared} {Q : Value → Shared → Prop} (hb : attributeBase e f env (eval e env) = eval e env)
    (h : wpAny (model prog w) A (eval e env) (fun o s₁ => wpAny (model prog w) A (getAttr o f true) Q E s₁) E s) : wpAny (model prog w) A (eval (.Attribute e f pos) env) Q E s :=
  Attribute_any_ h (by rw [arm_eval_Attribute, hb])
end

noncomputable def tFld (K : PySem.W.Frag) (ta : TE) (f : Str) : TE := fun σ H Q => ta σ H fun x H1 => ∃ a C dx fs v, x = .ref a ∧ H1 a = some (.ins C dx fs) ∧ Cls K C ∧ NoAttr K C f ∧ fs.lookup f = some v ∧ Q v H1
noncomputable def sFld (K : PySem.W.Frag) (ta tv : TE) (f : Str) : TS := fun D σ H => tv σ H fun y H1 => ta σ H1 fun x H2 => ∃ a C dx fs, x = .ref a ∧ H2 a = some (.ins C dx fs) ∧ Cls K C ∧ NoAttr K C f ∧ fs.length < 1000 ∧
  D.nx σ (upd H2 a (.ins C dx (putF f y fs)))
section
variable {X : Cx} {o e value : Expr} {f : Str} {pos pos' tpos : Pos} {ta tv : TE}
theorem pe_fld (he : PE X e ta) (hb : attributeBase e f X.env (eval e X.env) = eval e X.env) : PE X (.Attribute e f pos) (tFld X.K ta f) := by
  intro pins s σ H Q I h
  refine attr_of hb (thn (he pins s σ H _ I h) fun u s1 ⟨x, H1, I1, rx, a, C, dx, fs, v, ex, ea, c, n, l, q⟩ => ?_)
  subst ex
  obtain rfl : u = Value.ref a := rx
  exact getattr_ok I1 ea c n l fun u' s2 I2 ru => ⟨v, H1, I2, ru, q⟩
theorem ps_fld (ha : PE X o ta) (hv : PE X value tv) (hs : swapsWith value (some (.Attribute o f pos')) pos.line X.env = pure false) : PS X (.Assign [.Attribute o f pos'] value pos) (sFld X.K ta tv f) := by
  intro pins s σ H D I h
  refine plainObj_wpAny_Assign_Attribute (thn (hv pins s σ H _ I h) fun u s1 ⟨y, H1, I1, ry, q⟩ => thn (ha pins s1 σ H1 _ I1 q) fun ov s2 ⟨x, H2, I2, rx, a, C, dx, fs, ex, ea, c, n, l, q2⟩ => ?_) hs
  subst ex
  obtain rfl : ov = Value.ref a := rx
  exact setattr_ok I2 ea c n l ry fun s3 I3 => ⟨σ, _, I3, q2⟩
end

section
variable {X : Cx} {pins : List (Addr × Obj)} {σ : St} {H : Hp} {s : Shared} {A : Around} {E : Value → Shared → Prop} {Q : Value → Shared → Prop} {c : Value} {b : Bool}
inductive TyOf (K : PySem.W.Frag) (H : Hp) : V → Value → Prop where
  | non : TyOf K H .non (.type "NoneType")
  | bl (x : Bool) : TyOf K H (.bl x) (.type "bool")
  | int (i : Int) : TyOf K H (.int i) (.type "int")
  | str (x : Str) : TyOf K H (.str x) (.type "str")
  | flt (x : UInt64) : TyOf K H (.flt x) (.type "float")
  | lst {a : Addr} {xs : List V} (e : H a = some (.lst xs)) : TyOf K H (.ref a) (.type "list")
  | frz {a : Addr} {o : Obj} {xs : List V} (e : H a = some (.frz o (.lst xs))) : TyOf K H (.ref a) (.type "list")
  | tup {a : Addr} {xs : List V} (e : H a = some (.tup xs)) : TyOf K H (.ref a) (.type "tuple")
  | dK {a : Addr} {kvs : List (Key × V)} (e : H a = some (.dK kvs)) : TyOf K H (.ref a) (.type "dict")
  | dT {a : Addr} {kvs : List (List Key × V)} (e : H a = some (.dT kvs)) : TyOf K H (.ref a) (.type "dict")
  | ins {a C dx : Addr} {fs : List (Str × V)} (e : H a = some (.ins C dx fs)) (cl : Cls K C) (ha : PySem.W.findIn K (.ref C) "__class__" = some (some (.builtin "object.__class__")))
      (hn : PySem.W.specialIn K (.builtin "object.__class__") "__get__" = some (some (.builtin "getset_descriptor.__get__"))) (htk : PySem.W.takesIn K (.builtin "object.__class__") = some true)
      (hm : PySem.W.mroIn K C (.type "object") = some true) : TyOf K H (.ref a) (.ref C)
theorem isinst_ok {x : V} {u t : Value} (I : Inv X pins σ H s) (rx : RelV x u) (ty : TyOf X.K H x t) (e : PySem.W.kitOne X.K t c = some b) (h : ∀ tk, Q (.bool b) { s with toks := tk }) :
    wpAny (model X.prog X.w) A (call (.builtin "isinstance") [u, c]) Q E s := by
  cases ty with
  | non => cases (show u = Value.none from rx); exact PySem.W.kia_one PySem.W.kitx_none I.kIn True.intro e (fun z => nomatch z) h
  | bl y => cases (show u = Value.bool y from rx); exact PySem.W.kia_one PySem.W.kitx_bool I.kIn True.intro e (fun z => nomatch z) h
  | int i => obtain ⟨t, q⟩ := (show ∃ t, u = Value.int i t from rx); cases q; exact PySem.W.kia_one PySem.W.kitx_int I.kIn True.intro e (fun z => nomatch z) h
  | str y => obtain ⟨t, q⟩ := (show ∃ t, u = Value.str y t from rx); cases q; exact PySem.W.kia_one PySem.W.kitx_str I.kIn True.intro e (fun z => nomatch z) h
  | flt y => obtain ⟨t, q⟩ := (show ∃ t, u = Value.float y t from rx); cases q; exact PySem.W.kia_one PySem.W.kitx_float I.kIn True.intro e (fun z => nomatch z) h
  | @lst a xs ea =>
    cases (show u = Value.ref a from rx)
    obtain ⟨_, _, n, _, h1⟩ := (show ObjOk X.prog X.w H s.heap a (.lst xs) from I.hok a _ ea)
    exact PySem.W.kia_one PySem.W.kitx_list I.kIn ⟨_, h1, rfl⟩ e (fun z => nomatch z) h
  | @frz a ob xs ea =>
    cases (show u = Value.ref a from rx)
    obtain ⟨_, _, _, n, _, h1⟩ := (show ObjOk X.prog X.w H s.heap a (.frz ob (.lst xs)) from I.hok a _ ea)
    exact PySem.W.kia_one PySem.W.kitx_list I.kIn ⟨_, h1, rfl⟩ e (fun z => nomatch z) h
  | @tup a xs ea =>
    cases (show u = Value.ref a from rx)
    obtain ⟨_, _, _, p⟩ := (show ObjOk X.prog X.w H s.heap a (.tup xs) from I.hok a _ ea)
    obtain ⟨o, h1, h2, _⟩ := p
    exact PySem.W.kia_one PySem.W.kitx_tuple I.kIn ⟨o, h1, h2⟩ e (fun z => nomatch z) h
  | @dK a kvs ea =>
    cases (show u = Value.ref a from rx)
    obtain ⟨_, _, vs, _, p⟩ := (show ObjOk X.prog X.w H s.heap a (.dK kvs) from I.hok a _ ea)
    obtain ⟨o, es, ep, h1, h2, _⟩ := p
    exact PySem.W.kia_one PySem.W.kitx_dict I.kIn ⟨o, h1, h2.1⟩ e (fun z => nomatch z) h
  | @dT a kvs ea =>
    cases (show u = Value.ref a from rx)
    obtain ⟨_, _, xs, _, o, es, ep, h1, h2, _⟩ := (show ObjOk X.prog X.w H s.heap a (.dT kvs) from I.hok a _ ea)
    exact PySem.W.kia_one PySem.W.kitx_dict I.kIn ⟨o, h1, h2.1⟩ e (fun z => nomatch z) h
  | @ins a C dx fs ea cl ha hn htk hm =>
    cases (show u = Value.ref a from rx)
    obtain ⟨mA, O, _⟩ := ins_get I.hok ea
    obtain ⟨od, J, _⟩ := O.look
    exact PySem.W.kia_one (PySem.W.kitx_own (cl.get _) cl.hd ha hn htk hm) I.kIn J e (fun z => nomatch z) h
end
end L2

namespace L2
open PySem PySem.Spec PyProof.Rows

set_option genInjectivity false in
structure Room (k : Nat) (A : Around) : Prop where
  hd : A.handled = none
  dp : A.depth + 3 * k + 5 < recursionLimit
  un : A.units + 16 * k + 200 < cLine
theorem Room.mono {j k : Nat} {A : Around} (r : Room k A) (h : j ≤ k) : Room j A := ⟨r.hd, by have := r.dp; omega, by have := r.un; omega⟩
theorem Room.deeper {k : Nat} {A : Around} (r : Room (k + 1) A) (env : Env) : Room k (A.deeper env) :=
  ⟨r.hd, by have := r.dp; show A.depth + 1 + 3 * k + 5 < _; omega, by have := r.un; show A.units + 3 + 16 * k + 200 < _; omega⟩
theorem make_depth {A : Around} {C : Addr} {us : List Value} {kw : List (Str × Value)} : (A.under (.builtin "type.__call__" ⟨.ref C :: us, kw⟩)).depth = A.depth + 1 := by
  first | rfl | simp [Around.under, Code.weight, Code.isCreation, Code.isGuard, Code.isCaller, Code.frames, Code.isFrame, guardIds]
theorem make_units {A : Around} {C : Addr} {us : List Value} {kw : List (Str × Value)} : (A.under (.builtin "type.__call__" ⟨.ref C :: us, kw⟩)).units = A.units + 1 := by
  first | rfl | simp [Around.under, Code.cUnits, Code.frames, Code.isFrame]
theorem Room.make {k : Nat} {A : Around} (r : Room (k + 1) A) (C : Addr) (us : List Value) (kw : List (Str × Value)) : Room k (A.under (.builtin "type.__call__" ⟨.ref C :: us, kw⟩)) :=
  ⟨r.hd, by have := r.dp; rw [make_depth]; omega, by have := r.un; rw [make_units]; omega⟩
theorem Room.depth {k : Nat} {A : Around} (r : Room k A) : A.depth < recursionLimit := by have := r.dp; omega
theorem Room.units {k : Nat} {A : Around} (r : Room k A) : A.units + 64 < cLine := by have := r.un; omega
noncomputable def tNil : TA := fun _ H Q => Q [] H
noncomputable def tCons (ta : TE) (tr : TA) : TA := fun σ H Q => ta σ H fun x H1 => tr σ H1 fun xs H2 => Q (x :: xs) H2
section
variable {X : Cx} {e : Expr} {es : List Expr} {te : TE} {t : TA} {pos : Pos}
theorem pa_nil : PA X [] tNil := fun _ _ _ _ H Q I h => Calls.spliced_nil ⟨[], H, I, .nil, h⟩
theorem pa_cons (ha : PE X e te) (hr : PA X es t) (hs : starEach (e :: es) X.env = (false, eval e X.env) :: starEach es X.env := by rfl) : PA X (e :: es) (tCons te t) := by
  intro pos pins s σ H Q I h
  rw [hs]
  show wpAny _ _ (spliced ((false, eval e X.env) :: backTo pos (starEach es X.env))) _ _ s
  refine Calls.spliced_cons (thn (ha pins s σ H _ I h) fun u s1 ⟨x, H1, I1, r1, q1⟩ => ?_)
  exact thn (hr pos pins s1 σ H1 _ I1 q1) fun us s2 ⟨xs, H2, I2, r2, q2⟩ => ⟨x :: xs, H2, I2, .cons r1 r2, q2⟩

noncomputable def tTup (t : TA) : TE := fun σ H Q => t σ H fun xs H1 => xs.length ≤ sizeLine ∧ ∀ p, H1 p = none → Q (.ref p) (upd H1 p (.tup xs))
noncomputable def tLst (t : TA) : TE := fun σ H Q => t σ H fun xs H1 => xs.length ≤ sizeLine ∧ ∀ p, H1 p = none → Q (.ref p) (upd H1 p (.lst xs))
theorem pe_tup {x1} (h : PA X es t) : PE X (.Tuple es x1 pos) (tTup t) := by
  intro pins s σ H Q I hq
  refine wpAny_Tuple_spliced (thn (h pos pins s σ H _ I hq) fun us s1 ⟨xs, H1, I1, r, z, q⟩ => ⟨by rw [← r.length]; exact z, ?_⟩)
  have hf : H1 s1.heap.objs.size = none := I1.hok.fresh (Nat.le_refl _)
  refine ⟨.ref s1.heap.objs.size, upd H1 s1.heap.objs.size (.tup xs), I1.laid (t' := s1.toks) (fun b u e => Heap.get?_push_of_some _ e) (Nat.le_refl _) ?_, rfl, q _ hf⟩
  exact ⟨z, us, r, ⟨_, Heap.get?_push_size _ rfl, rfl, _, rfl⟩⟩
theorem pe_lst (h : PA X es t) : PE X (.List es pos) (tLst t) := by
  intro pins s σ H Q I hq
  refine wpAny_List_spliced (thn (h pos pins s σ H _ I hq) fun us s1 ⟨xs, H1, I1, r, z, q⟩ => ⟨by rw [← r.length]; exact z, ?_⟩)
  have hf : H1 s1.heap.objs.size = none := I1.hok.fresh (Nat.le_refl _)
  refine ⟨.ref s1.heap.objs.size, upd H1 s1.heap.objs.size (.lst xs), I1.laid (t' := s1.toks) (fun b u e => Heap.get?_push_of_some _ e) (Nat.le_refl _) ?_, rfl, q _ hf⟩
  exact ⟨z, us, 0, r, Heap.get?_push_size _ rfl⟩
end

noncomputable abbrev Sp := List V → Hp → VK → XK → Prop
noncomputable abbrev CXT := List Env → Hp → Shared → XK → Value → Shared → Prop

set_option genInjectivity false in
structure Env0 (P : Program) (w : World) (K : PySem.W.Frag) (mg : Str → Option Value) (base : Heap) (A : Around) (outer : List Env) (s : Shared) (H : Hp) : Prop where
  frames : A.frames = some outer
  mod : Mod K mg base
  bs : ∀ b o, base.get? b = some o → s.heap.get? b = some o ∧ H b = none
  bsz : base.objs.size ≤ s.heap.objs.size
  funs : s.heap.FunFrames base outer
  frf : ∀ b ∈ frs outer, H b = none
  hok : HOk P w H s.heap
  bare : AllBare s.gens
noncomputable def CE (outer : List Env) (P : Program) (w : World) (H : Hp) (s : Shared) (Q : VK) (u : Value) (s' : Shared) : Prop :=
  ∃ v H', s'.os = s.os ∧ AllBare s'.gens ∧ Un (frs outer) [] H H' s.heap s'.heap ∧ HOk P w H' s'.heap ∧ RelV v u ∧ Q v H'
noncomputable def CR (CX : CXT) (outer : List Env) (P : Program) (w : World) (H : Hp) (s : Shared) (Q : VK) (E : XK) (r : Result) (s' : Shared) : Prop :=
  match r with
  | .ok (.ret u) => CE outer P w H s Q u s'
  | .ok _ => False
  | .error e => CX outer H s E e s'
set_option genInjectivity false in
structure FnOk (P : Program) (w : World) (K : PySem.W.Frag) (mg : Str → Option Value) (base : Heap) (CX : CXT) (k : Nat) (f : Addr) (fd : FuncData) (ps : List Str) (sp : Sp) : Prop where
  len : ∀ vs H Q E, sp vs H Q E → vs.length = ps.length
  run : ∀ (A : Around) (outer : List Env) (s : Shared) (H : Hp) (args : Args) (us : List Value) (vs : List V) (Q : VK) (E : XK), Room k A → Env0 P w K mg base A outer s H → BindsTo s fd args (ps.zip us) → Vals vs us → sp vs H Q E →
    codeAny (model P w) A (.call (.ref f) args) (CR CX outer P w H s Q E) s
theorem Env0.make {P : Program} {w : World} {K : PySem.W.Frag} {mg : Str → Option Value} {base : Heap} {A : Around} {outer : List Env} {s : Shared} {H : Hp} (e : Env0 P w K mg base A outer s H) (C : Addr) (us : List Value) (kw : List (Str × Value)) :
    Env0 P w K mg base (A.under (.builtin "type.__call__" ⟨.ref C :: us, kw⟩)) outer s H := ⟨by first | exact e.frames | (simpa [Around.under, Code.envs, Code.isFrame, pushEnvs] using e.frames), e.mod, e.bs, e.bsz, e.funs, e.frf, e.hok, e.bare⟩
section
variable {X : Cx} {pins : List (Addr × Obj)} {σ : St} {H : Hp} {s s' : Shared}
theorem Inv.env0 (I : Inv X pins σ H s) : Env0 X.prog X.w X.K X.mg X.base X.A X.stack s H :=
  ⟨I.ok.frames, I.ok.mod, I.bs, Nat.le_trans I.ok.bsz I.sz, I.stack, I.stkFree, I.hok, I.bare⟩
theorem Inv.after {Q : VK} {u : Value} (I : Inv X pins σ H s) (h : CE X.stack X.prog X.w H s Q u s') : EP X pins σ Q u s' := by
  obtain ⟨v, H', os, bare, un, hok, r, q⟩ := h
  obtain ⟨hh, g, d, t, os'⟩ := s'
  obtain rfl : os' = s.os := os
  exact ⟨v, H', I.call (h' := hh) (g' := g) (d' := d) (t' := t) (ch := []) un hok bare (fun b z => absurd z (by simp)), r, q⟩
end

noncomputable def tCall (sp : Sp) (dvs : List V) (E : XK) (t : TA) : TE := fun σ H Q => t σ H fun vs H1 => sp (vs ++ dvs) H1 Q E
noncomputable def tMake (C : Addr) (sp : Sp) (dvs : List V) (E : XK) (t : TA) : TE := fun σ H Q => t σ H fun vs H1 => ∀ x dx, H1 x = none → H1 dx = none → dx ≠ x →
  sp (.ref x :: (vs ++ dvs)) (upd (upd H1 dx (.own x)) x (.ins C dx [])) (fun v H2 => v = .non ∧ Q (.ref x) H2) E

noncomputable def Binds (K : PySem.W.Frag) (fd : FuncData) (ps : List Str) (ds : List Value) : Prop :=
  ∀ (s : Shared) (us : List Value), K.In s.heap → (us ++ ds).length = ps.length → BindsTo s fd ⟨us, []⟩ (ps.zip (us ++ ds))
theorem Binds.all {K : PySem.W.Frag} {fd : FuncData} {ps : List Str} (h : ∀ us : List Value, us.length = ps.length → bindArgs fd ⟨us, []⟩ = pure (ps.zip us)) : Binds K fd ps [] := fun s us _ hl => by
  rw [List.append_nil] at hl ⊢
  exact .of_eq (h us hl)

noncomputable def Passes (CX : CXT) (X : Cx) (E : XK) : Prop := ∀ (pins : List (Addr × Obj)) (σ : St) (H : Hp) (s : Shared) (e : Value) (s' : Shared), Inv X pins σ H s → CX X.stack H s E e s' → X.xe e s'

section
variable {X : Cx} {CX : CXT} {k : Nat} {f C : Addr} {fd : FuncData} {ps : List Str} {sp : Sp} {dvs : List V} {ds : List Value} {E : XK} {x m : Str} {p pos apos : Pos} {e o : Expr} {es : List Expr} {ta : TE} {t : TA}

theorem run_fn {pins : List (Addr × Obj)} {σ : St} {H : Hp} {s : Shared} {Q : VK} {us : List Value} {vs : List V} (F : FnOk X.prog X.w X.K X.mg X.base CX k f fd ps sp) (hr : Room k X.A) (hb : Binds X.K fd ps ds) (hd : Vals dvs ds) (hx : Passes CX X E)
    (I : Inv X pins σ H s) (r : Vals vs us) (h : sp (vs ++ dvs) H Q E) : wpAny (model X.prog X.w) X.A (call (.ref f) us) (EP X pins σ Q) X.xe s := by
  have r2 : Vals (vs ++ dvs) (us ++ ds) := r.append hd
  have hl : (us ++ ds).length = ps.length := by rw [← r2.length]; exact F.len _ _ _ _ h
  refine wpAny_call (codeAny_mono (F.run X.A X.stack s H ⟨us, []⟩ (us ++ ds) (vs ++ dvs) Q E hr I.env0 (hb s us I.kIn hl) r2 h) fun r s' hq => ?_)
  cases r with
  | error e => exact hx pins σ H s e s' I hq
  | ok fl =>
    cases fl with
    | ret u => exact I.after hq
    | next => exact False.elim hq
    | brk => exact False.elim hq
    | cont => exact False.elim hq

theorem pe_call (F : FnOk X.prog X.w X.K X.mg X.base CX k f fd ps sp) (hr : Room k X.A) (hg : Gl X x) (hm : X.mg x = some (.ref f)) (hk : PySem.W.keepIn X.K (.ref f) = true) (hb : Binds X.K fd ps ds) (hd : Vals dvs ds) (hx : Passes CX X E)
    (ha : PA X (e :: es) t) (hdb : (x == ("__debug__" : Str)) = false := by decide) (he : starEach (e :: es) X.env = (false, eval e X.env) :: starEach es X.env := by rfl) (hpl : (backTo pos (starEach es X.env)).any (·.1) = false := by rfl) :
    PE X (.Call (.Name x p) (e :: es) [] pos) (tCall sp dvs E t) := by
  intro pins s σ H Q I h
  refine wpAny_Call_Name_kw (ld_glob I hg hm ?_ hdb)
  refine PySem.W.callWith_K (h₀ := X.base) I.ok.mod.kin hk (thn (ha pos pins s σ H _ I h) fun us s1 ⟨vs, H1, I1, r, q⟩ => ⟨I1.kIn, ?_⟩) he hpl
  exact run_fn F hr hb hd hx I1 r q
set_option genInjectivity false in
structure Mk (K : PySem.W.Frag) (C f : Addr) : Prop where
  makes : PySem.W.makesIn K C = true
  init : PySem.W.findIn K (.ref C) "__init__" = some (some (.ref f))
  fn : PySem.W.isFn K (.ref f) = true
  kp : PySem.W.keepIn K (.ref C) = true

theorem run_make {pins : List (Addr × Obj)} {σ : St} {H : Hp} {s : Shared} {Q : VK} {us : List Value} {vs : List V} (M : Mk X.K C f) (F : FnOk X.prog X.w X.K X.mg X.base CX k f fd ps sp) (hr : Room (k + 1) X.A) (hb : Binds X.K fd ps ds) (hd : Vals dvs ds)
    (hx : Passes CX X E) (I : Inv X pins σ H s) (r : Vals vs us)
    (h : ∀ x dx, H x = none → H dx = none → dx ≠ x → sp (.ref x :: (vs ++ dvs)) (upd (upd H dx (.own x)) x (.ins C dx [])) (fun v H2 => v = .non ∧ Q (.ref x) H2) E) :
    wpAny (model X.prog X.w) X.A (call (.ref C) us) (EP X pins σ Q) X.xe s := by
  have hq := h (s.heap.objs.size + 1) s.heap.objs.size (I.hok.fresh (Nat.le_succ _)) (I.hok.fresh (Nat.le_refl _)) (Nat.ne_of_lt (Nat.lt_succ_self _))
  have I2 := Inv.made (C := C) I
  have r2 : Vals (V.ref (s.heap.objs.size + 1) :: (vs ++ dvs)) (Value.ref (s.heap.objs.size + 1) :: (us ++ ds)) := .cons rfl (r.append hd)
  have hl : (Value.ref (s.heap.objs.size + 1) :: us ++ ds).length = ps.length := by
    have e := r2.length
    rw [F.len _ _ _ _ hq] at e
    exact e.symm
  refine wpAny_call (make_map (f := f) I.kIn M.makes M.init (beq_iff_eq.mp M.fn) (codeAny_mono (F.run _ X.stack _ _ ⟨Value.ref (s.heap.objs.size + 1) :: us, []⟩ (Value.ref (s.heap.objs.size + 1) :: (us ++ ds)) _ _ E (hr.make C us [])
    (I2.env0.make C us []) (hb _ (Value.ref (s.heap.objs.size + 1) :: us) I2.kIn hl) r2 hq) fun r s' hq' => ?_))
  cases r with
  | error e => exact hx pins σ _ _ e s' I2 hq'
  | ok fl =>
    cases fl with
    | ret u =>
      obtain ⟨v, H', I3, rv, ev, q3⟩ := I2.after hq'
      subst ev
      exact ⟨rv, ⟨V.ref (s.heap.objs.size + 1), H', I3, rfl, q3⟩⟩
    | next => exact False.elim hq'
    | brk => exact False.elim hq'
    | cont => exact False.elim hq'
theorem pe_make (M : Mk X.K C f) (F : FnOk X.prog X.w X.K X.mg X.base CX k f fd ps sp) (hr : Room (k + 1) X.A) (hg : Gl X x) (hm : X.mg x = some (.ref C)) (hb : Binds X.K fd ps ds) (hd : Vals dvs ds) (hx : Passes CX X E)
    (ha : PA X (e :: es) t) (hdb : (x == ("__debug__" : Str)) = false := by decide) (he : starEach (e :: es) X.env = (false, eval e X.env) :: starEach es X.env := by rfl) (hpl : (backTo pos (starEach es X.env)).any (·.1) = false := by rfl) :
    PE X (.Call (.Name x p) (e :: es) [] pos) (tMake C sp dvs E t) := by
  intro pins s σ H Q I h
  refine wpAny_Call_Name_kw (ld_glob I hg hm ?_ hdb)
  refine PySem.W.callWith_K (h₀ := X.base) I.ok.mod.kin M.kp (thn (ha pos pins s σ H _ I h) fun us s1 ⟨vs, H1, I1, r, q⟩ => ⟨I1.kIn, ?_⟩) he hpl
  exact run_make M F hr hb hd hx I1 r q
end

section
variable {X : Cx} {CX : CXT} {k : Nat} {f C : Addr} {fd : FuncData} {ps ks : List Str} {sp : Sp} {E : XK} {x m : Str} {p pos apos kpos : Pos} {e o : Expr} {es : List Expr} {kws : List Keyword} {te ta : TE} {t tk : TA} {nm : Option Str}
variable {g : List Value → List Value → List Value} {gV : List V → List V → List V}
end

set_option genInjectivity false in
structure FnScope (N P : List Str) (sc : Scope) : Prop where
  kind : sc.kind = .function
  co : sc.isCoroutine = false
  gen : sc.isGenerator = false
  nd : N.Nodup
  pre : N.take P.length = P
  par : ∀ x ∈ P, sc.names.lookup x = some .local ∨ sc.names.lookup x = some .cell
  nofree : ∀ y ∈ sc.names, y.2 ≠ .free

theorem bindL_out {kindOf : Str → Option NameKind} {x : Str} : ∀ {binds : List (Str × Value)} {m : Str → Option Value}, (∀ v, (x, v) ∉ binds) → bindL kindOf binds m x = m x
  | [], _, _ => rfl
  | (n, v) :: r, m, h => by
    unfold bindL
    rw [bindL_out fun w hw => h w (List.mem_cons_of_mem _ hw)]
    split
    · have : x ≠ n := by rintro rfl; exact h v List.mem_cons_self
      simp [this]
    · rfl
theorem bindC_out {kindOf : Str → Option NameKind} {x : Str} : ∀ {binds : List (Str × Value)} {m : Str → Option Value}, (∀ v, (x, v) ∉ binds) → bindC kindOf binds m x = m x
  | [], _, _ => rfl
  | (n, v) :: r, m, h => by
    unfold bindC
    rw [bindC_out fun w hw => h w (List.mem_cons_of_mem _ hw)]
    split
    · rfl
    · have : x ≠ n := by rintro rfl; exact h v List.mem_cons_self
      simp [this]
theorem bindL_get {kindOf : Str → Option NameKind} {x : Str} {v : Value} : ∀ {P : List Str} {vs : List Value} {i : Nat} {m : Str → Option Value}, P.Nodup → P[i]? = some x → vs[i]? = some v → kindOf x = some .local →
    bindL kindOf (P.zip vs) m x = some v
  | [], _, _, _, _, h, _, _ => by simp at h
  | _ :: _, [], _, _, _, _, h, _ => by simp at h
  | p :: P, w :: vs, 0, m, nd, h1, h2, hk => by
    simp at h1 h2; subst h1; subst h2
    show bindL kindOf ((p, w) :: P.zip vs) m p = _
    unfold bindL
    rw [bindL_out fun v hv => (List.nodup_cons.mp nd).1 (List.of_mem_zip hv).1, if_pos hk]
    simp
  | p :: P, w :: vs, i + 1, m, nd, h1, h2, hk => by
    show bindL kindOf ((p, w) :: P.zip vs) m x = _
    unfold bindL
    exact bindL_get (i := i) (List.nodup_cons.mp nd).2 (by simpa using h1) (by simpa using h2) hk
theorem bindC_get {kindOf : Str → Option NameKind} {x : Str} {v : Value} : ∀ {P : List Str} {vs : List Value} {i : Nat} {m : Str → Option Value}, P.Nodup → P[i]? = some x → vs[i]? = some v → kindOf x ≠ some .local →
    bindC kindOf (P.zip vs) m x = some v
  | [], _, _, _, _, h, _, _ => by simp at h
  | _ :: _, [], _, _, _, _, h, _ => by simp at h
  | p :: P, w :: vs, 0, m, nd, h1, h2, hk => by
    simp at h1 h2; subst h1; subst h2
    show bindC kindOf ((p, w) :: P.zip vs) m p = _
    unfold bindC
    rw [bindC_out fun v hv => (List.nodup_cons.mp nd).1 (List.of_mem_zip hv).1, if_neg hk]
    simp
  | p :: P, w :: vs, i + 1, m, nd, h1, h2, hk => by
    show bindC kindOf ((p, w) :: P.zip vs) m x = _
    unfold bindC
    exact bindC_get (i := i) (List.nodup_cons.mp nd).2 (by simpa using h1) (by simpa using h2) hk

noncomputable def start (N : List Str) (vs : List V) : St := vs.map some ++ List.replicate (N.length - vs.length) none

noncomputable def cxOf (CX : CXT) (P : Program) (w : World) (K : PySem.W.Frag) (mg : Str → Option Value) (base : Heap) (N : List Str) (qual : Str) (scope : Scope) (f : Addr) (cd : Value) (A : Around) (outer : List Env) (s : Shared) (H : Hp) (E : XK) : Cx where
  prog := P
  w := w
  K := K
  mg := mg
  base := base
  A := A.deeper (envOfC qual scope s.heap.objs.size f cd)
  N := N
  s₀ := s
  H₀ := H
  env := envOfC qual scope s.heap.objs.size f cd
  outer := outer
  stack := envOfC qual scope s.heap.objs.size f cd :: outer
  ex := []
  calm := true
  fn := fun _ => true
  pn := []
  xe := fun e s' => wpAny (model P w) (A.deeper (envOfC qual scope s.heap.objs.size f cd)) (leaving (envOfC qual scope s.heap.objs.size f cd) e) (fun _ s'' => CX outer H s E e s'') (fun e' s'' => CX outer H s E e' s'') s'

theorem cell_has {sc : Scope} {n : Nat} {x : Str} (h : sc.names.lookup x = some .cell) : ∃ c, (cellsFrom n sc.names []).lookup x = some c := by
  have q := PySem.W.cellsFrom_some sc.names n [] (.inl h)
  exact Option.isSome_iff_exists.mp q

theorem inv_start {CX : CXT} {P : Program} {w : World} {K : PySem.W.Frag} {mg : Str → Option Value} {base : Heap} {N ps : List Str} {qual : Str} {scope : Scope} {f : Addr} {cd : Value} {A : Around} {outer : List Env} {s s1 : Shared} {H : Hp} {E : XK} {us : List Value} {vs : List V}
    (S : FnScope N ps scope) (hd : A.handled = none) (e0 : Env0 P w K mg base A outer s H) (hl : vs.length = ps.length) (r : Vals vs us)
    (x : InCallC s s.heap.objs.size (bindL (envOfC qual scope s.heap.objs.size f cd).kindOf (ps.zip us) fun _ => none) (cellsFrom (s.heap.objs.size + 1) scope.names []) (bindC (envOfC qual scope s.heap.objs.size f cd).kindOf (ps.zip us) fun _ => none) s1) :
    Inv (cxOf CX P w K mg base N qual scope f cd A outer s H E) [] (start N vs) H s1 := by
  have hpl : ps.length ≤ N.length := by have := congrArg List.length S.pre; rw [List.length_take] at this; omega
  obtain ⟨h1, tk, rfl, hk⟩ := x.done
  have noA : ∀ b : Addr, b ∉ (cxOf CX P w K mg base N qual scope f cd A outer s H E).ex := fun b z => absurd (show b ∈ ([] : List Addr) from z) (by simp)
  refine ⟨⟨e0.mod, S.kind, rfl, rfl, Nat.le_refl _, fun y z c h1 h2 => ?_, fun y hy => ?_, fun y c _ h => ?_, fun _ => hd, Around.frames_deeper e0.frames, .inr ⟨rfl, rfl⟩, fun b z => absurd z (noA b), e0.bs, e0.bsz, fun b _ _ => noA b, fun b z => absurd z (noA b), e0.funs, e0.frf⟩,
    rfl, e0.bare, Un.kept hk, ⟨_, x.toInCall.ns, fun i y v h1 h2 h3 => ?_⟩, fun y c h => ⟨_, x.cell y c h⟩, e0.hok.fresh (Nat.le_refl _), fun y c h => ?_, fun p hp => absurd (show p ∈ ([] : List (Addr × Obj)) from hp) (by simp), e0.hok.kept hk, ?_⟩
  · exact name_of_addr x.apart (PySem.mem_of_lookup h1) (PySem.mem_of_lookup h2)
  · have hy : scope.names.lookup y = some .cell ∨ scope.names.lookup y = some .free := hy
    rcases hy with hy | hy
    · exact cell_has hy
    · exact absurd rfl (S.nofree _ (PySem.mem_of_lookup hy))
  · exact Nat.le_of_lt (x.above y c (PySem.mem_of_lookup h))
  · have hi : i < vs.length := by
      unfold start at h2
      by_cases hi : i < vs.length
      · exact hi
      · rw [List.getElem?_append_right (by simpa using hi)] at h2
        rw [List.getElem?_replicate] at h2
        split at h2 <;> cases h2
    have ha : vs[i]? = some v := by
      unfold start at h2
      rw [List.getElem?_append_left (by simpa using hi), List.getElem?_map] at h2
      cases e : vs[i]? with
      | none => rw [e] at h2; cases h2
      | some a => rw [e] at h2; cases h2; rfl
    obtain ⟨u, hu, rv⟩ := r.get ha
    have hp : ps[i]? = some y := by
      rw [← S.pre, List.getElem?_take_of_lt (by omega)]; exact h1
    have ndP : ps.Nodup := by rw [← S.pre]; exact S.nd.sublist (List.take_sublist _ _)
    refine ⟨u, rv, ?_⟩
    rcases S.par y (List.mem_of_getElem? hp) with k | k
    · exact .inl ⟨k, bindL_get ndP hp hu k⟩
    · obtain ⟨c, e⟩ := cell_has (n := s.heap.objs.size + 1) k
      refine .inr ⟨.inl k, c, e, ?_⟩
      have q := x.cell y c e
      rw [bindC_get ndP hp hu (by show scope.names.lookup y ≠ _; rw [k]; decide)] at q
      exact q
  · exact e0.hok.fresh (Nat.le_of_lt (x.above y c (PySem.mem_of_lookup h)))
  · unfold start
    show _ = N.length
    rw [List.length_append, List.length_map, List.length_replicate]
    omega

theorem fn_of {CX : CXT} {P : Program} {w : World} {K : PySem.W.Frag} {mg : Str → Option Value} {base : Heap} {k : Nat} {f : Addr} {name qual : Str} {params : Arguments} {body : List Stmt} {scope : Scope} {dV kV doc pm cdv ct oc : Value} {an od : Option Addr}
    {osl : Array (Option Value)} {N ps : List Str} {sp : Sp} (lk : K.lookup f = some ⟨oc, od, .func (PySem.W.fnOf name qual params body scope dV kV doc pm an cdv ct), osl⟩) (hcd : PySem.W.codeIn K cdv qual = true) (S : FnScope N ps scope)
    (len : ∀ vs H Q E, sp vs H Q E → vs.length = ps.length)
    (hbody : ∀ (A : Around) (outer : List Env) (s : Shared) (H : Hp) (vs : List V) (Q : VK) (E : XK), Room k (A.deeper (envOfC qual scope s.heap.objs.size f cdv)) → sp vs H Q E →
      ∃ t, PSs (cxOf CX P w K mg base N qual scope f cdv A outer s H E) body t ∧ t { nx := fun _ H' => Q .non H', rt := Q } (start N vs) H) :
    FnOk P w K mg base CX (k + 1) f (PySem.W.fnOf name qual params body scope dV kV doc pm an cdv ct) ps sp := by
  refine ⟨len, fun A outer s H args us vs Q E hr e0 hb r hsp => ?_⟩
  have hl := len _ _ _ _ hsp
  have KX : K.In s.heap := e0.mod.kin.keeps fun b o e => (e0.bs b o e).1
  have lim : s.heap.NoLimit := e0.mod.nolimit.keeps fun b o e => (e0.bs b o e).1
  have hkind : ∀ y ∈ ps.zip us, scope.names.lookup y.1 = some .local ∨ (scope.names.lookup y.1 = some .cell ∧ ((cellsFrom (s.heap.objs.size + 1) scope.names []).lookup y.1).isSome = true) := fun ⟨n, v⟩ hy => by
    rcases S.par n (List.of_mem_zip hy).1 with q | q
    · exact .inl q
    · exact .inr ⟨q, PySem.W.cellsFrom_some _ _ _ (.inl q)⟩
  refine codeAny_call_function hr.depth (KX _ _ lk) rfl S.co S.gen rfl (PySem.W.codeRec_of KX hcd) (hb _ _ _ _ ?_)
  refine wpAny_newFunctionEnv_cells S.kind hkind fun env he s1 x => ?_
  subst he
  refine ⟨lim.keeps x.toInCall.keep, codeAny_func ?_⟩
  obtain ⟨t, ht, hq⟩ := hbody A outer s H vs Q E (hr.deeper _) hsp
  have I : Inv (cxOf CX P w K mg base N qual scope f cdv A outer s H E) [] (start N vs) H s1 := inv_start S hr.hd e0 hl r x
  refine wpAny_mono (ht [] s1 (start N vs) H _ I hq) (fun fl s' hs => ?_) fun e s' hs => hs
  have fin : ∀ {σ' : St} {H' : Hp} {v : V} {u : Value}, Inv (cxOf CX P w K mg base N qual scope f cdv A outer s H E) [] σ' H' s' → RelV v u → Q v H' → CE outer P w H s Q u s' :=
    fun {σ' H' v u} J rv q => ⟨v, H', J.os, J.bare, J.base, J.hok, rv, q⟩
  cases fl with
  | ret u =>
    obtain ⟨v, σ', H', J, rv, q⟩ := hs
    exact fin J rv q
  | next =>
    obtain ⟨σ', H', J, q⟩ := hs
    exact fin (v := V.non) (u := Value.none) J rfl q
  | brk =>
    obtain ⟨_, _, _, q⟩ := hs
    exact False.elim q
  | cont =>
    obtain ⟨_, _, _, q⟩ := hs
    exact False.elim q
end L2

namespace L2
open PySem PySem.Spec PyProof.Rows
section
variable {X : Cx} {x : Str} {p pos : Pos} {e : Expr} {es : List Expr} {t : TA} {id T : String} {r : List V → Hp → VK → Prop}

noncomputable def tCB (r : List V → Hp → VK → Prop) (t : TA) : TE := fun σ H Q => t σ H fun vs H1 => r vs H1 Q
theorem pe_callB (hc : CallR X (.builtin id) r) (hg : Gl X x) (hm : X.mg x = none) (hv : bootBuiltins x = some (.builtin id)) (ha : PA X (e :: es) t) (hn : x ≠ "__name__" := by decide) (hdb : (x == ("__debug__" : Str)) = false := by decide)
    (he : starEach (e :: es) X.env = (false, eval e X.env) :: starEach es X.env := by rfl) (hpl : (backTo pos (starEach es X.env)).any (·.1) = false := by rfl) : PE X (.Call (.Name x p) (e :: es) [] pos) (tCB r t) := by
  intro pins s σ H Q I h
  refine wpAny_Call_Name_kw (ld_blt I hg hm hv ?_ hn hdb)
  exact PyProof.Rows.callWith_builtin1 (thn (ha pos pins s σ H _ I h) fun us s1 ⟨vs, H1, I1, r1, q1⟩ => hc pins s1 σ H1 vs us Q I1 r1 q1) he hpl
theorem pe_callTy (hc : CallR X (.type T) r) (hg : Gl X x) (hm : X.mg x = none) (hv : bootBuiltins x = some (.type T)) (ha : PA X (e :: es) t) (hn : x ≠ "__name__" := by decide) (hdb : (x == ("__debug__" : Str)) = false := by decide)
    (he : starEach (e :: es) X.env = (false, eval e X.env) :: starEach es X.env := by rfl) (hpl : (backTo pos (starEach es X.env)).any (·.1) = false := by rfl) : PE X (.Call (.Name x p) (e :: es) [] pos) (tCB r t) := by
  intro pins s σ H Q I h
  refine wpAny_Call_Name_kw (ld_blt I hg hm hv ?_ hn hdb)
  exact PyProof.Rows.callWith_type1 (thn (ha pos pins s σ H _ I h) fun us s1 ⟨vs, H1, I1, r1, q1⟩ => hc pins s1 σ H1 vs us Q I1 r1 q1) he hpl
end
end L2

namespace HT
open PySem PyProof.Rows

section
open PySem.SeqAt
open PySem.AutoSeq1 (wpAny_loadPart')
open PySem.MeetsSeq PySem.MeetsSeq2 PySem.MeetsSeq3

end

section
variable {prog : Program} {w : World} {A : Around} {E : Value → Shared → Prop} {s : Shared}

noncomputable def sIx (n d : Nat) : Option Int → Nat
  | none => d
  | some v => if v < 0 then (v + (n : Int)).toNat else min v.toNat n
theorem sIx_none (n d : Nat) : sIx n d none = d := rfl
theorem sIx_nat (n d k : Nat) : sIx n d (some (k : Int)) = min k n := by
  show (if (k : Int) < 0 then ((k : Int) + (n : Int)).toNat else min (k : Int).toNat n) = min k n
  rw [if_neg (by omega), Int.toNat_natCast]
theorem sIx_le (n d : Nat) (hd : d ≤ n) (o : Option Int) : sIx n d o ≤ n := by
  cases o with
  | none => exact hd
  | some v =>
    show (if v < 0 then (v + (n : Int)).toNat else min v.toNat n) ≤ n
    by_cases hv : v < 0
    · rw [if_pos hv]; omega
    · rw [if_neg hv]; exact Nat.min_le_right _ _
end
end HT

namespace L2
open PySem PySem.Spec PyProof.Rows

noncomputable abbrev TO := St → Hp → (Option Int → Hp → Prop) → Prop
noncomputable def PO (X : Cx) (e : Option Expr) (t : TO) : Prop :=
  ∀ (pins : List (Addr × Obj)) (s : Shared) (σ : St) (H : Hp) (Q : Option Int → Hp → Prop), Inv X pins σ H s → t σ H Q →
    wpAny (model X.prog X.w) X.A (evalPart e X.env) (fun u s' => ∃ o H', Inv X pins σ H' s' ∧ IsPart u o ∧ Q o H') X.xe s
noncomputable def tNoPart : TO := fun _ H Q => Q none H
noncomputable def tPart (t : TE) : TO := fun σ H Q => t σ H fun x H1 => ∃ i, x = .int i ∧ Q (some i) H1

theorem intsAre_of {ns : List Int} : ∀ {us : List Value}, Vals (ns.map V.int) us → IntsAre us ns := by
  induction ns with
  | nil => intro us r; rw [List.map_nil] at r; cases r; exact .nil
  | cons n ns ih =>
    intro us r
    rw [List.map_cons] at r
    cases r with
    | cons r1 r2 =>
      obtain ⟨t, e⟩ := r1
      subst e
      exact .cons n t (ih r2)

section
variable {X : Cx} {e : Expr} {te : TE} {lo hi : Option Expr} {tl th : TO} {pos p2 : Pos}

theorem po_none : PO X none tNoPart := by
  intro pins s σ H Q I h
  rw [evalPart_none]
  exact wpAny_pure ⟨none, H, I, .none, h⟩
theorem po_some (h : PE X e te) : PO X (some e) (tPart te) := by
  intro pins s σ H Q I hw
  rw [evalPart_some]
  refine thn (h pins s σ H _ I hw) fun u s1 ⟨x, H1, I1, r1, q1⟩ => ?_
  obtain ⟨i, rfl, q⟩ := q1
  obtain ⟨t, rfl⟩ := r1
  exact ⟨some i, H1, I1, .int i t, q⟩

noncomputable def SlR (X : Cx) (r : V → Option Int → Option Int → Hp → VK → Prop) : Prop :=
  ∀ (pins : List (Addr × Obj)) (s : Shared) (σ : St) (H : Hp) (x : V) (v vl vu : Value) (lo hi : Option Int) (sl : Addr) (Q : VK), Inv X pins σ H s → RelV x v → s.heap.IsSliceOf sl vl vu .none → IsPart vl lo → IsPart vu hi → r x lo hi H Q →
    ∃ T id, typeLookup (.type T) "__getitem__" = pure (some (.builtin id)) ∧ s.TypeIs v T ∧ wpAny (model X.prog X.w) X.A (getItem v (.ref sl)) (EP X pins σ Q) X.xe s
noncomputable def tSl (r : V → Option Int → Option Int → Hp → VK → Prop) (te : TE) (tl th : TO) : TE := fun σ H Q => te σ H fun x H1 => tl σ H1 fun l H2 => th σ H2 fun u H3 => r x l u H3 Q
theorem pe_slice {r : V → Option Int → Option Int → Hp → VK → Prop} (hr : SlR X r) (he : PE X e te) (hl : PO X lo tl) (hu : PO X hi th) : PE X (.Subscript e (.Slice lo hi none p2) pos) (tSl r te tl th) := by
  intro pins s σ H Q I h
  refine Subscript_ (thn (he pins s σ H _ I h) fun v s1 ⟨x, H1, I1, r1, q1⟩ => ?_)
  refine wpAny_Slice (thn (hl pins s1 σ H1 _ I1 q1) fun vl s2 ⟨l, H2, I2, pl, q2⟩ => thn (hu pins s2 σ H2 _ I2 q2) fun vu s3 ⟨u, H3, I3, pu, q3⟩ => ?_)
  rw [evalPart_none]
  refine wpAny_pure ?_
  have I4 : Inv X pins σ H3 { s3 with heap := s3.heap.push { cls := .type "slice", data := .fields #[vl, vu, .none] } } := I3.kept (t' := s3.toks) fun b ob q => Heap.get?_push_of_some _ q
  obtain ⟨T, id, hT, ht, hg⟩ := hr pins { s3 with heap := s3.heap.push { cls := .type "slice", data := .fields #[vl, vu, .none] } } σ H3 x v vl vu l u s3.heap.objs.size Q I4 r1 (Heap.IsSliceOf.new ..) pl pu q3
  show wpAny (model X.prog X.w) X.A (subscriptTail e (.Slice lo hi none p2) v (.ref s3.heap.objs.size)) (EP X pins σ Q) X.xe { s3 with heap := s3.heap.push { cls := .type "slice", data := .fields #[vl, vu, .none] } }
  exact tail_any (ops := [.ref s3.heap.objs.size, v]) ht hT hg (by with_unfolding_all rfl)

noncomputable def cutV (xs : List V) (lo hi : Option Int) : List V := (xs.drop (HT.sIx xs.length 0 lo)).take (HT.sIx xs.length xs.length hi - HT.sIx xs.length 0 lo)
theorem cutV_length (xs : List V) (lo hi : Option Int) : (cutV xs lo hi).length ≤ xs.length := by
  unfold cutV
  rw [List.length_take, List.length_drop]
  omega
end
end L2

namespace L2
open PySem PySem.Spec PyProof.Rows

noncomputable def ixN (n : Nat) (i : Int) : Option Nat := if 0 ≤ i then (if i < n then some i.toNat else none) else if -(n : Int) ≤ i then some (i + n).toNat else none
noncomputable def atI {α : Type} (xs : List α) (i : Int) : Option α := (ixN xs.length i).bind fun j => xs[j]?
theorem ixN_seq {n : Nat} {i : Int} {j : Nat} (h : ixN n i = some j) : seqIndex? i n = some j ∧ j < n ∧ -(n : Int) ≤ i ∧ i < n := by
  unfold ixN at h
  by_cases h0 : 0 ≤ i
  · rw [if_pos h0] at h
    by_cases h1 : i < n
    · rw [if_pos h1] at h
      have e : i.toNat = j := Option.some.inj h
      exact ⟨by rw [seqIndex_of h0 h1, e], by omega, by omega, h1⟩
    · rw [if_neg h1] at h; cases h
  · rw [if_neg h0] at h
    by_cases h1 : -(n : Int) ≤ i
    · rw [if_pos h1] at h
      have e : (i + n).toNat = j := Option.some.inj h
      exact ⟨by rw [seqIndex_neg (by omega) h1, e], by omega, h1, by omega⟩
    · rw [if_neg h1] at h; cases h
theorem atI_get {α : Type} {xs : List α} {i : Int} {v : α} (h : atI xs i = some v) : ∃ j, seqIndex? i xs.length = some j ∧ xs[j]? = some v ∧ j < xs.length ∧ -(xs.length : Int) ≤ i ∧ i < xs.length := by
  unfold atI at h
  cases e : ixN xs.length i with
  | none => rw [e] at h; cases h
  | some j =>
    rw [e] at h
    obtain ⟨h1, h2, h3, h4⟩ := ixN_seq e
    exact ⟨j, h1, h, h2, h3, h4⟩
theorem atI_nat {α : Type} {xs : List α} {j : Nat} {v : α} (h : xs[j]? = some v) : atI xs (j : Int) = some v := by
  have hj : j < xs.length := (List.getElem?_eq_some_iff.mp h).1
  have e : ixN xs.length (j : Int) = some j := by
    unfold ixN
    rw [if_pos (by omega), if_pos (by omega)]; simp
  unfold atI; rw [e]; exact h
noncomputable def PlainIx (b : Expr) : Prop := ∀ o i, subscripted b false o i = operate [o, i] (getItem o i)
noncomputable def IxR (X : Cx) (r : R2) : Prop :=
  ∀ (value slice : Expr) (pins : List (Addr × Obj)) (s : Shared) (σ : St) (H : Hp) (x y : V) (v u : Value) (Q : VK), Inv X pins σ H s → RelV x v → RelV y u → r x y H Q →
    subscripted slice false v u = operate [v, u] (getItem v u) → wpAny (model X.prog X.w) X.A (subscriptTail value slice v u) (EP X pins σ Q) X.xe s
noncomputable def MtR (X : Cx) (id : String) (r : V → List V → Hp → VK → Prop) : Prop :=
  ∀ (pins : List (Addr × Obj)) (s : Shared) (σ : St) (H : Hp) (x : V) (xs : List V) (v : Value) (us : List Value) (Q : VK), Inv X pins σ H s → RelV x v → Vals xs us → r x xs H Q →
    wpAny (model X.prog X.w) X.A (call (.builtin id) (v :: us)) (EP X pins σ Q) X.xe s
section
variable {X : Cx} {a b : Expr} {ta tb : TE} {pos : Pos}
theorem pe_ix {r : R2} (hr : IxR X r) (ha : PE X a ta) (hb : PE X b tb) (hs : PlainIx b) : PE X (.Subscript a b pos) (tOp r ta tb) := by
  intro pins s σ H Q I h
  exact Subscript_ (binT ha hb I h fun v u s2 x y H2 I2 rx ry q => hr a b pins s2 σ H2 x y v u Q I2 rx ry q (hs _ _))

noncomputable def rIxL (K : PySem.W.Frag) : R2 := fun x y H Q => ∃ p xs i v, x = .ref p ∧ y = .int i ∧ SqL K H p xs ∧ atI xs i = some v ∧ Q v H
noncomputable def rIxT (K : PySem.W.Frag) : R2 := fun x y H Q => ∃ p xs i v, x = .ref p ∧ y = .int i ∧ SqT K H p xs ∧ atI xs i = some v ∧ Q v H
noncomputable def rIxS : R2 := fun x y H Q => ∃ z i c, x = .str z ∧ y = .int i ∧ z.length ≤ sizeLine ∧ atI z.cps.toList i = some c ∧ Q (.str ⟨#[c]⟩) H
theorem ix_list : IxR X (rIxL X.K) := by
  intro value slice pins s σ H x y v u Q I rx ry h hs
  obtain ⟨p, xs, i, z, rfl, rfl, hq, he, q⟩ := h
  cases rx
  obtain ⟨t, rfl⟩ := ry
  obtain ⟨its, r, pl, hz⟩ := I.list hq
  obtain ⟨j, h1, h2, h3, h4, h5⟩ := atI_get he
  obtain ⟨w, ew, rw'⟩ := r.get h2
  have hl := r.length
  have hn := line63
  have fin : EP X pins σ Q w s := ⟨z, H, I, rw', q⟩
  by_cases h0 : 0 ≤ i
  · have hj : i.toNat = j := by
      rw [seqIndex_of h0 h5] at h1
      exact Option.some.inj h1
    exact item_listR pl.isList h0 (by omega) (by rw [hj]; simpa using ew) fin hs
  · have hj : (i + (its.toArray.size : Int)).toNat = j := by
      rw [seqIndex_neg (by omega) h4] at h1
      rw [List.size_toArray, ← hl]
      exact Option.some.inj h1
    exact subscriptTail_builtinR (x := w) pl.isList.typeIs slot_list_getitem.lookup
      (wpAny_getItem_list_neg (Q := fun r s' => r = w ∧ EP X pins σ Q r s') pl.isList (by omega) (by rw [List.size_toArray] <;> omega) (by omega) (by rw [hj]; simpa using ew) ⟨rfl, fin⟩) hs
theorem ix_tup : IxR X (rIxT X.K) := by
  intro value slice pins s σ H x y v u Q I rx ry h hs
  obtain ⟨p, xs, i, z, rfl, rfl, hq, he, q⟩ := h
  cases rx
  obtain ⟨t, rfl⟩ := ry
  obtain ⟨its, r, pl, hz⟩ := I.tuple hq
  obtain ⟨j, h1, h2, h3, h4, h5⟩ := atI_get he
  obtain ⟨w, ew, rw'⟩ := r.get h2
  have hl := r.length
  have hn := line63
  have fin : EP X pins σ Q w s := ⟨z, H, I, rw', q⟩
  exact subscriptTail_builtinR (x := w) pl.typeIs slot_tuple_getitem.lookup
    (getItem_tuple (j := j) (Q := fun r s' => r = w ∧ EP X pins σ Q r s') pl (by omega) (by omega) (by rw [List.size_toArray, ← hl]; exact h1) (by simpa using ew) ⟨rfl, fin⟩) hs
theorem ix_str : IxR X rIxS := by
  intro value slice pins s σ H x y v u Q I rx ry h hs
  obtain ⟨z, i, c, rfl, rfl, hz, he, q⟩ := h
  obtain ⟨t, rfl⟩ := rx
  obtain ⟨t', rfl⟩ := ry
  obtain ⟨j, h1, h2, h3, h4, h5⟩ := atI_get he
  have hl : z.cps.toList.length = z.length := by simp [Str.length]
  rw [hl] at h1 h4 h5
  have hn := line63
  exact tail_any (typeIs_str s z t) slot_str_getitem.lookup (getItem_str (c := c) (by
    have e1 : decide (i < -(2 ^ 63 : Int)) = false := decide_eq_false (by omega)
    have e2 : decide (i ≥ 2 ^ 63) = false := decide_eq_false (by omega)
    rw [e1, e2, Bool.or_false]) (by rw [h1]; simpa using h2) ⟨.str ⟨#[c]⟩, H, I.tok _, ⟨_, rfl⟩, q⟩) hs
theorem slice_bounds (lo hi : Option Int) (n : Nat) : (sliceBounds lo hi none n).1 = ((HT.sIx n 0 lo : Nat) : Int) ∧ (sliceBounds lo hi none n).2.1 = ((HT.sIx n n hi : Nat) : Int) ∧ (sliceBounds lo hi none n).2.2 = 1 := by
  refine ⟨?_, ?_, rfl⟩
  · cases lo with
    | none => simp [sliceBounds, HT.sIx]
    | some i =>
      simp only [sliceBounds, HT.sIx, Option.getD_none, show (1 : Int) > 0 by decide, if_true]
      by_cases h : i < 0
      · simp only [h, if_true] <;> omega
      · simp only [h, if_false] <;> omega
  · cases hi with
    | none => simp [sliceBounds, HT.sIx]
    | some i =>
      simp only [sliceBounds, HT.sIx, Option.getD_none, show (1 : Int) > 0 by decide, if_true]
      by_cases h : i < 0
      · simp only [h, if_true] <;> omega
      · simp only [h, if_false] <;> omega
theorem slicePick_cut (its : List Value) (lo hi : Option Int) : slicePick its.toArray lo hi none = ((its.drop (HT.sIx its.length 0 lo)).take (HT.sIx its.length its.length hi - HT.sIx its.length 0 lo)).toArray := by
  obtain ⟨h1, h2, h3⟩ := slice_bounds lo hi its.toArray.size
  unfold slicePick
  rw [h1, h2, h3]
  simp only [sliceRange_one, pick_run, List.size_toArray] <;> rfl
noncomputable def rSlL (K : PySem.W.Frag) : V → Option Int → Option Int → Hp → VK → Prop := fun x lo hi H Q => ∃ a xs, x = .ref a ∧ SqL K H a xs ∧ ∀ p, H p = none → Q (.ref p) (upd H p (.lst (cutV xs lo hi)))
theorem sl_list : SlR X (rSlL X.K) := by
  intro pins s σ H x v vl vu lo hi sl Q I rx hs pl pu h
  obtain ⟨a, xs, rfl, hx, q⟩ := h
  cases rx
  obtain ⟨its, r, ht, hz⟩ := I.list hx
  have hlen := r.length
  refine ⟨"list", _, slot_list_getitem.lookup, ht.isList.typeIs, ?_⟩
  refine wpAny_getItem_list_slice ht.isList hs pl pu .none (by simp) ?_ (by rw [List.size_toArray] <;> omega)
  rw [slicePick_cut, ← hlen]
  refine ⟨.ref s.heap.objs.size, _, I.laid (t' := s.toks) (o := .lst (cutV xs lo hi)) (fun b ob q => Heap.get?_push_of_some _ q) (Nat.le_refl _) ?_, rfl, q _ (I.hok.fresh (Nat.le_refl _))⟩
  exact ⟨Nat.le_trans (cutV_length xs lo hi) hz, _, 0, (r.drop (HT.sIx xs.length 0 lo)).take (HT.sIx xs.length xs.length hi - HT.sIx xs.length 0 lo), Heap.get?_push_size _ rfl⟩

noncomputable def flatV : V → Bool
  | .non => true
  | .bl _ => true
  | .int _ => true
  | .str _ => true
  | _ => false
noncomputable def eqV : V → V → Bool
  | .non, .non => true
  | .bl a, .bl b => a == b
  | .bl a, .int b => (if a then 1 else 0) == b
  | .int a, .bl b => a == (if b then 1 else 0)
  | .int a, .int b => a == b
  | .str a, .str b => a == b
  | _, _ => false
theorem eqAt_V {A : Around} {s : Shared} {y x : V} {u v : Value} (ry : RelV y u) (rx : RelV x v) (fy : flatV y = true) (fx : flatV x = true) : SeqAt.EqAt A s u v (eqV y x) := by
  cases y with
  | non =>
    cases ry
    cases x with
    | non => cases rx; exact SeqAt.EqAt.same _
    | bl b => cases rx; exact SeqAt.EqAt.none_bool b
    | int b => obtain ⟨t, rfl⟩ := rx; exact SeqAt.EqAt.none_int b t
    | str b => obtain ⟨t, rfl⟩ := rx; exact SeqAt.EqAt.none_str b t
    | _ => exact absurd (show false = true from fx) Bool.false_ne_true
  | bl a =>
    cases ry
    cases x with
    | non => cases rx; exact SeqAt.EqAt.bool_none a
    | bl b => cases rx; exact SeqAt.EqAt.bool_bool a b
    | int b => obtain ⟨t, rfl⟩ := rx; exact SeqAt.EqAt.bool_int a b t
    | str b => obtain ⟨t, rfl⟩ := rx; exact SeqAt.EqAt.bool_str a b t
    | _ => exact absurd (show false = true from fx) Bool.false_ne_true
  | int a =>
    obtain ⟨t', rfl⟩ := ry
    cases x with
    | non => cases rx; exact SeqAt.EqAt.int_none a t'
    | bl b => cases rx; exact SeqAt.EqAt.int_bool a t' b
    | int b => obtain ⟨t, rfl⟩ := rx; exact SeqAt.EqAt.int_int a t' b t
    | str b => obtain ⟨t, rfl⟩ := rx; exact SeqAt.EqAt.int_str a t' b t
    | _ => exact absurd (show false = true from fx) Bool.false_ne_true
  | str a =>
    obtain ⟨t', rfl⟩ := ry
    cases x with
    | non => cases rx; exact SeqAt.EqAt.str_none a t'
    | bl b => cases rx; exact SeqAt.EqAt.str_bool a t' b
    | int b => obtain ⟨t, rfl⟩ := rx; exact SeqAt.EqAt.str_int a t' b t
    | str b => obtain ⟨t, rfl⟩ := rx; exact SeqAt.EqAt.str_str a t' b t
    | _ => exact absurd (show false = true from fx) Bool.false_ne_true
  | _ => exact absurd (show false = true from fy) Bool.false_ne_true
noncomputable def eqU (x : V) (u : Value) : Bool := match u with
  | .none => eqV .non x
  | .bool b => eqV (.bl b) x
  | .int i _ => eqV (.int i) x
  | .str z _ => eqV (.str z) x
  | _ => false
theorem eqU_of {x y : V} {u : Value} (r : RelV y u) (f : flatV y = true) : eqU x u = eqV y x := by
  cases y with
  | non => cases r; rfl
  | bl b => cases r; rfl
  | int i => obtain ⟨t, rfl⟩ := r; rfl
  | str z => obtain ⟨t, rfl⟩ := r; rfl
  | _ => exact absurd (show false = true from f) Bool.false_ne_true
theorem any_eqU {x : V} : ∀ {xs : List V} {us : List Value}, Vals xs us → xs.all flatV = true → us.any (eqU x) = xs.any fun y => eqV y x
  | _, _, .nil, _ => rfl
  | y :: xs, u :: us, .cons r t, f => by
    rw [List.all_cons, Bool.and_eq_true] at f
    rw [List.any_cons, List.any_cons, eqU_of r f.1, any_eqU t f.2]
theorem mem_eqAt {A : Around} {s : Shared} {x : V} {v : Value} (rx : RelV x v) (fx : flatV x = true) : ∀ {xs : List V} {us : List Value}, Vals xs us → xs.all flatV = true → ∀ u ∈ us, SeqAt.EqAt A s u v (eqU x u)
  | _, _, .nil, _ => fun u hu => by cases hu
  | y :: xs, u :: us, .cons r t, f => fun u' hu => by
    rw [List.all_cons, Bool.and_eq_true] at f
    rcases List.mem_cons.mp hu with rfl | hu
    · rw [eqU_of r f.1]; exact eqAt_V r rx f.1 fx
    · exact mem_eqAt rx fx t f.2 u' hu
noncomputable def inV (x : V) (xs : List V) : Bool := xs.any fun y => eqV y x
noncomputable def rIn (K : PySem.W.Frag) (neg : Bool) : R2 := fun x y H Q => ∃ p xs, y = .ref p ∧ (SqL K H p xs ∨ SqT K H p xs) ∧ flatV x = true ∧ xs.all flatV = true ∧ Q (.bl (if neg then !inV x xs else inV x xs)) H
theorem op_in_seq : OpR X (compareOp .In) (rIn X.K false) := by
  intro pins s σ H x y v u Q I rx ry h
  obtain ⟨p, xs, rfl, hq, fx, fs, q⟩ := h
  cases ry
  rcases hq with hq | hq
  · obtain ⟨its, r, pl, hz⟩ := I.list hq
    refine SeqAt.in_listAt (eqU x) pl.isList (fun w hw => mem_eqAt rx fx r fs w (by simpa using hw)) ⟨.bl _, H, I, rfl, ?_⟩
    rw [show its.toArray.any (eqU x) = its.any (eqU x) by simp, any_eqU r fs]
    exact q
  · obtain ⟨its, r, pl, hz⟩ := I.tuple hq
    refine SeqAt.in_tupleAt (eqU x) pl (fun w hw => mem_eqAt rx fx r fs w (by simpa using hw)) ⟨.bl _, H, I, rfl, ?_⟩
    rw [show its.toArray.any (eqU x) = its.any (eqU x) by simp, any_eqU r fs]
    exact q
theorem op_notIn_seq : OpR X (compareOp .NotIn) (rIn X.K true) := by
  intro pins s σ H x y v u Q I rx ry h
  obtain ⟨p, xs, rfl, hq, fx, fs, q⟩ := h
  cases ry
  rcases hq with hq | hq
  · obtain ⟨its, r, pl, hz⟩ := I.list hq
    refine SeqAt.notIn_listAt (eqU x) pl.isList (fun w hw => mem_eqAt rx fx r fs w (by simpa using hw)) ⟨.bl _, H, I, rfl, ?_⟩
    rw [show its.toArray.any (eqU x) = its.any (eqU x) by simp, any_eqU r fs]
    exact q
  · obtain ⟨its, r, pl, hz⟩ := I.tuple hq
    refine SeqAt.notIn_tupleAt (eqU x) pl (fun w hw => mem_eqAt rx fx r fs w (by simpa using hw)) ⟨.bl _, H, I, rfl, ?_⟩
    rw [show its.toArray.any (eqU x) = its.any (eqU x) by simp, any_eqU r fs]
    exact q
theorem call_len_seq : CallR X (.builtin "len") (fun xs H Q => ∃ p ys, xs = [.ref p] ∧ (SqL X.K H p ys ∨ SqT X.K H p ys) ∧ Q (.int ys.length) H) := by
  intro pins s σ H xs us Q I r h
  obtain ⟨p, ys, rfl, hq, q⟩ := h
  obtain ⟨u, rfl, rx⟩ := vals1 r
  cases rx
  have hn := line63
  rcases hq with hq | hq
  · obtain ⟨its, r', pl, hz⟩ := I.list hq
    have hlen := r'.length
    exact Calls.call_len_list pl.isList (by simp only [List.size_toArray] <;> omega) ⟨.int ys.length, H, I.tok _, ⟨s.toks + 1, by rw [List.size_toArray, hlen]⟩, q⟩
  · obtain ⟨its, r', pl, hz⟩ := I.tuple hq
    have hlen := r'.length
    exact len_tuple pl (by simp only [List.size_toArray] <;> omega) ⟨.int ys.length, H, I.tok _, ⟨s.toks + 1, by rw [List.size_toArray, hlen]⟩, q⟩
theorem call_len_str : CallR X (.builtin "len") (fun xs H Q => ∃ z, xs = [.str z] ∧ z.length ≤ sizeLine ∧ Q (.int z.length) H) := by
  intro pins s σ H xs us Q I r h
  obtain ⟨z, rfl, hz, q⟩ := h
  obtain ⟨u, rfl, t, rfl⟩ := vals1 r
  have hn := line63
  exact len_str (by omega) ⟨.int z.length, H, I.tok _, ⟨_, rfl⟩, q⟩
theorem call_list_of : CallR X (.type "list") (fun xs H Q => ∃ p ys, xs = [.ref p] ∧ (SqL X.K H p ys ∨ SqT X.K H p ys) ∧ ∀ l, H l = none → Q (.ref l) (upd H l (.lst ys))) := by
  intro pins s σ H xs us Q I r h
  obtain ⟨p, ys, rfl, hq, q⟩ := h
  obtain ⟨u, rfl, rx⟩ := vals1 r
  cases rx
  have fin : ∀ (its : List Value), Vals ys its → ys.length ≤ sizeLine → ∀ (h' : Heap) (c' : Nat), (∀ b o', s.heap.get? b = some o' → h'.get? b = some o') →
      h'.get? s.heap.objs.size = some { cls := .type "list", dict := none, data := .seq its.toArray c', slots := #[] } → EP X pins σ Q (.ref s.heap.objs.size) { s with heap := h' } := fun its r' hz h' c' kp e =>
    ⟨.ref s.heap.objs.size, _, I.laid (t' := s.toks) kp (Nat.le_refl _) (show ObjOk X.prog X.w _ h' _ (.lst ys) from ⟨hz, its, c', r', e⟩), rfl, q _ (I.hok.fresh (Nat.le_refl _))⟩
  rcases hq with hq | hq
  · obtain ⟨its, r', pl, hz⟩ := I.list hq
    have hlen := r'.length
    obtain ⟨o, ho, hc, n, hd⟩ := pl.isList
    exact call_list_seq p (.inl rfl) ho hc hd (fun h' c' kp e => fin its r' hz h' c' kp e) (by simp only [List.size_toArray] <;> omega)
  · obtain ⟨its, r', pl, hz⟩ := I.tuple hq
    have hlen := r'.length
    obtain ⟨o, ho, hc, n, hd⟩ := pl
    exact call_list_seq p (.inr rfl) ho hc hd (fun h' c' kp e => fin its r' hz h' c' kp e) (by simp only [List.size_toArray] <;> omega)
theorem call_tuple_of : CallR X (.type "tuple") (fun xs H Q => ∃ p ys, xs = [.ref p] ∧ ((SqL X.K H p ys ∧ ∀ l, H l = none → Q (.ref l) (upd H l (.tup ys))) ∨ (SqT X.K H p ys ∧ Q (.ref p) H))) := by
  intro pins s σ H xs us Q I r h
  obtain ⟨p, ys, rfl, h⟩ := h
  obtain ⟨u, rfl, rx⟩ := vals1 r
  cases rx
  rcases h with ⟨hq, q⟩ | ⟨hq, q⟩
  · obtain ⟨its, r', pl, hz⟩ := I.list hq
    have hlen := r'.length
    refine call_tuple_list pl.isList (fun h' kp => ?_) (by simp only [List.size_toArray] <;> omega)
    have I1 : Inv X pins σ H { s with heap := h' } := I.kept (t' := s.toks) kp
    have I2 : Inv X pins σ (upd H h'.objs.size (.tup ys)) { s with heap := h'.push { cls := .type "tuple", data := .seq its.toArray } } :=
      I1.laid (t' := s.toks) (fun b o e => Heap.get?_push_of_some _ e) (Nat.le_refl _) (show ObjOk X.prog X.w _ _ _ (.tup ys) from ⟨hz, its, r', IsTup.new _ _⟩)
    exact ⟨.ref h'.objs.size, _, I2, rfl, q _ (I1.hok.fresh (Nat.le_refl _))⟩
  · obtain ⟨its, r', pl, hz⟩ := I.tuple hq
    exact call_tuple_same pl ⟨.ref p, H, I, rfl, q⟩

noncomputable def tyV (K : PySem.W.Frag) (T : String) (x : V) (H : Hp) : Prop := match x with
  | .str _ => T = "str"
  | .int _ => T = "int"
  | .ref p => (T = "list" ∧ ∃ xs, SqL K H p xs) ∨ (T = "tuple" ∧ ∃ o, K.lookup p = some o ∧ o.cls = .type "tuple" ∧ o.dict = none) ∨
      (T = "dict" ∧ ((∃ kvs, H p = some (.dK kvs)) ∨ ∃ kvs, H p = some (.dT kvs))) ∨ (T = "set" ∧ ∃ S n, H p = some (.set S n))
  | _ => False
theorem tyV_is {pins : List (Addr × Obj)} {σ : St} {H : Hp} {s : Shared} {T : String} {x : V} {v : Value} (I : Inv X pins σ H s) (r : RelV x v) (ty : tyV X.K T x H) :
    s.TypeIs v T ∧ ∀ a, v = .ref a → ∃ ob, s.heap.get? a = some ob ∧ ob.dict = none := by
  cases x with
  | str z =>
    obtain ⟨t, rfl⟩ := r
    cases (show T = "str" from ty)
    exact ⟨typeIs_str s z t, fun _ e => nomatch e⟩
  | int i =>
    obtain ⟨t, rfl⟩ := r
    cases (show T = "int" from ty)
    exact ⟨typeIs_int s i t, fun _ e => nomatch e⟩
  | ref p =>
    cases r
    rcases ty with ⟨rfl, xs, hq⟩ | ⟨rfl, o, hk, hc, hd⟩ | ⟨rfl, hk⟩ | ⟨rfl, S, n, hk⟩
    · obtain ⟨its, _, pl, _⟩ := I.list hq
      refine ⟨pl.isList.typeIs, fun a e => ?_⟩
      cases e
      obtain ⟨o, n, e, c, hd, _⟩ := pl
      exact ⟨o, e, hd⟩
    · refine ⟨⟨o, I.kIn p o hk, hc⟩, fun a e => ?_⟩
      cases e
      exact ⟨o, I.kIn _ o hk, hd⟩
    · have z : ∃ o, s.heap.get? p = some o ∧ o.ExactDict := by
        rcases hk with ⟨kvs, hk⟩ | ⟨kvs, hk⟩
        · obtain ⟨_, _, _, _, o, _, _, e, ex, _⟩ := I.hok p _ hk
          exact ⟨o, e, ex⟩
        · obtain ⟨_, _, _, _, o, _, _, e, ex, _⟩ := I.hok p _ hk
          exact ⟨o, e, ex⟩
      obtain ⟨o, e, ex⟩ := z
      refine ⟨⟨o, e, ex.1⟩, fun a e2 => ?_⟩
      cases e2
      exact ⟨o, e, ex.2.1⟩
    · obtain ⟨o, _, _, _, e, ex, _⟩ := I.hok p _ hk
      refine ⟨⟨o, e, ex.1⟩, fun a e2 => ?_⟩
      cases e2
      exact ⟨o, e, ex.2.1⟩
  | _ => exact False.elim ty
noncomputable def tBM (K : PySem.W.Frag) (T : String) (r : V → List V → Hp → VK → Prop) (to : TE) (t : TA) : TE := fun σ H Q => to σ H fun x H1 => tyV K T x H1 ∧ t σ H1 fun xs H2 => r x xs H2 Q
variable {o e : Expr} {es : List Expr} {to : TE} {t : TA} {name : Str} {apos cpos : Pos} {T id : String} {r : V → List V → Hp → VK → Prop}
theorem pe_bm (pa : PlainAttrs T) (slot : Slot T name id) (hty : typeOf (.builtin id) = pure (.type "method_descriptor")) (hm : MtR X id r) (ho : PE X o to) (ha : PA X (e :: es) t)
    (hbase : attributeBase o name X.env (eval o X.env) = eval o X.env := by rfl)
    (hfew : ((backTo cpos (starEach (e :: es) X.env)).all (fun x => !x.1) && (backToKw cpos (keywordEach [] X.env)).all (fun x => x.1.isSome)
      && decide ((e :: es).length + ([] : List Keyword).length + (if ([] : List Keyword).isEmpty then 0 else 1) < 30)) = true := by rfl)
    (hline : (apos.endLine == cpos.line) = true := by rfl) (hs : starEach (e :: es) X.env = (false, eval e X.env) :: starEach es X.env := by rfl) (hplain : (backTo cpos (starEach es X.env)).any (·.1) = false := by rfl) :
    PE X (.Call (.Attribute o name apos) (e :: es) [] cpos) (tBM X.K T r to t) := by
  intro pins s σ H Q I h
  refine wpAny_Call_method_late hbase hfew hline rfl (thn (ho pins s σ H _ I h) fun v s1 ⟨x, H1, I1, r1, ty, q1⟩ => ?_)
  obtain ⟨h1, h2⟩ := tyV_is I1 r1 ty
  refine ⟨T, id, pa, slot, hty, h1, h2, ?_⟩
  have hA := ha cpos pins s1 σ H1 _ I1 q1
  rw [hs] at hA ⊢
  refine Calls.callWith_builtin (by show (false || (backTo cpos (starEach es X.env)).any (·.1)) = false; rw [hplain] <;> rfl) (Calls.evalArgs_plain ?_)
  exact thn hA fun us s2 ⟨vs, H2, I2, r2, q2⟩ => hm pins s2 σ H2 x vs v us Q I2 r1 r2 q2
end
end L2

namespace L2
open PySem PySem.Spec PyProof.Rows

noncomputable def MtM (X : Cx) (id : String) (r : V → List V → Hp → VK → Prop) : Prop :=
  ∀ (pins : List (Addr × Obj)) (s : Shared) (σ : St) (H : Hp) (x : V) (xs : List V) (v : Value) (us : List Value) (Q : VK), Inv X pins σ H s → RelV x v → Vals xs us → r x xs H Q →
    wpAny (model X.prog X.w) X.A (call (.builtin id) (v :: us)) (EP X pins σ Q) X.xe s

theorem Vals.one : ∀ {x : V} {us : List Value}, Vals [x] us → ∃ u, us = [u] ∧ RelV x u
  | _, _, .cons r .nil => ⟨_, rfl, r⟩
section
variable {X : Cx} {pins : List (Addr × Obj)} {σ : St} {H : Hp} {s : Shared} {l b : Addr} {xs ys zs : List V}

theorem Inv.lset {its its' : List Value} {n : Nat} {f : Array Value → Array Value} {t' : Nat} (I : Inv X pins σ H s) (hH : H l = some (.lst xs))
    (e : s.heap.get? l = some { cls := .type "list", data := .seq its.toArray n }) (hf : f its.toArray = its'.toArray) (hv : Vals ys its') (hz : ys.length ≤ sizeLine) :
    Inv X pins σ (upd H l (.lst ys)) { s with heap := s.heap.update l (Obj.mapSeq f), toks := t' } := by
  have q := PySem.IsL.update e f
  rw [hf] at q
  refine I.write (x := l) (e := l) (by rw [hH]; exact trivial) (.inl rfl) (fun b' u hb hu => (Heap.get?_update_other s.heap (Obj.mapSeq f) (Ne.symm hb)).trans hu) ⟨_, q⟩ ?_
  exact ⟨hz, its', _, hv, q⟩
theorem Inv.lnew {its : List Value} {t' : Nat} (I : Inv X pins σ H s) (hv : Vals ys its) (hz : ys.length ≤ sizeLine) :
    Inv X pins σ (upd H s.heap.objs.size (.lst ys)) { s with heap := s.heap.push { cls := .type "list", data := .seq its.toArray }, toks := t' } :=
  I.laid (fun _ _ q => Heap.get?_push_of_some _ q) (Nat.le_refl _) ⟨hz, its, 0, hv, Heap.get?_push_size _ rfl⟩
theorem Inv.fresh (I : Inv X pins σ H s) : H s.heap.objs.size = none := I.hok.fresh (Nat.le_refl _)
theorem Inv.lstM (I : Inv X pins σ H s) (hH : H l = some (.lst xs)) : xs.length ≤ sizeLine ∧ ∃ (its : List Value) (n : Nat), Vals xs its ∧ xs.length = its.length ∧ s.heap.get? l = some { cls := .type "list", data := .seq its.toArray n } := by
  obtain ⟨z, its, n, r, e⟩ := I.hok l _ hH
  exact ⟨z, its, n, r, r.length, e⟩

theorem notLongL {n : Nat} (h : n ≤ sizeLine) : Builtin.List.listTooLong n = false := by
  unfold Builtin.List.listTooLong
  exact decide_eq_false (by omega)
end

section
variable {X : Cx}

noncomputable def rAppend : V → List V → Hp → VK → Prop := fun x vs H Q => ∃ l xs y, x = .ref l ∧ vs = [y] ∧ H l = some (.lst xs) ∧ xs.length < sizeLine ∧ Q .non (upd H l (.lst (xs ++ [y])))
theorem mt_append : MtM X "list.append" rAppend := by
  intro pins s σ H x vs v us Q I rx rv h
  obtain ⟨l, xs, y, rfl, rfl, hH, hz, q⟩ := h
  cases rx
  obtain ⟨u, rfl, ru⟩ := rv.one
  obtain ⟨z, its, n, r, hl, e⟩ := I.lstM hH
  refine call_meets F.slot_list_append ⟨_, e, rfl⟩ F.entry_list_append (F.args_list_append_2 _ _) (PySem.list_append l its.toArray n u (by rw [List.size_toArray]; omega)) ⟨e, ?_⟩
  refine ⟨.non, _, I.lset (its' := its ++ [u]) hH e (by simp) (r.append (.cons ru .nil)) ?_, rfl, q⟩
  rw [List.length_append, List.length_singleton]
  omega

noncomputable def rExtend : V → List V → Hp → VK → Prop := fun x vs H Q => ∃ l b xs zs, x = .ref l ∧ vs = [.ref b] ∧ H l = some (.lst xs) ∧ H b = some (.lst zs) ∧ xs.length + zs.length ≤ sizeLine ∧ Q .non (upd H l (.lst (xs ++ zs)))
theorem mt_extend : MtM X "list.extend" rExtend := by
  intro pins s σ H x vs v us Q I rx rv h
  obtain ⟨l, b, xs, zs, rfl, rfl, hH, hB, hz, q⟩ := h
  cases rx
  obtain ⟨u, rfl, ru⟩ := rv.one
  cases ru
  obtain ⟨z, its, n, r, hl, e⟩ := I.lstM hH
  obtain ⟨z2, its2, n2, r2, hl2, e2⟩ := I.lstM hB
  have hsz : its.toArray.size + its2.toArray.size ≤ sizeLine := by rw [List.size_toArray, List.size_toArray]; omega
  have hlong : ¬ (!its.toArray.isEmpty && Builtin.List.listTooLong (its.toArray.size + its2.toArray.size)) = true := by
    rw [notLongL hsz, Bool.and_false]
    exact Bool.false_ne_true
  refine call_meets F.slot_list_extend ⟨_, e, rfl⟩ F.entry_list_extend (F.args_list_extend_2 _ _)
    (AutoSeq1.list_extend_list_list_0 l its.toArray n b its2.toArray n2 hlong (by rw [List.size_toArray]; omega) (by omega)) ⟨e, e2, ?_⟩
  refine ⟨.non, _, I.lset (its' := its ++ its2) hH e (by simp) (r.append r2) ?_, rfl, q⟩
  rw [List.length_append]
  omega

end

section
variable {prog : Program} {w : World} {A : Around} {E : Value → Shared → Prop} {s : Shared}
end

section
variable {X : Cx}
end
end L2

namespace Att
open PySem PySem.W PySem.Calls PyProof.Rows

theorem ints_of_wellAll {P : Params} {h : Heap} : ∀ (ns : List Int) (vs : List Value), WellAll P h vs (ns.map WData.int) → IntsAre vs ns := by
  intro ns
  induction ns with
  | nil =>
    intro vs w
    rw [List.map_nil] at w
    cases w
    exact .nil
  | cons n ns ih =>
    intro vs w
    rw [List.map_cons] at w
    cases w with
    | cons a b =>
      cases a
      exact .cons _ _ (ih _ b)

theorem script_of {l : OpenLaw} {n : Nat} (hn : l.most = some n) {P : Params} {h : Heap} {args : List WData} {vals : List Value}
    (hpre : l.row.toRowW.claim.pre args = true) (hwl : WellAll P h vals args) :
    ∃ a vs ns, vals = [Value.ref a] ∧ args = [WData.list (ns.map WData.int)] ∧ h.get? a = some { cls := .type "list", data := .seq vs.toArray } ∧ IntsAre vs ns ∧ ns.length ≤ n := by
  have hsh : WShape.hasAll [] args [.list .int] = true := (pre_splitW hpre).1
  have hc : l.pre.holds [] { args := args } = true := (pre_splitW hpre).2
  obtain ⟨d, r, rfl, h1, h2⟩ := hasAllW_cons hsh
  obtain rfl := hasAllW_nil h2
  obtain ⟨xs, rfl, h3⟩ := hasW_list h1
  obtain ⟨ns, rfl⟩ := items_int h3
  have hlen : ns.length ≤ n := by
    unfold OpenLaw.pre at hc
    have h4 : (WTm.not (.lt (.lit (.int (n : Int))) (.len (.arg 0)))).holds [] { args := [.list (ns.map .int)] } = true := by
      have h4 := (holds_andW hc).1
      rw [hn] at h4
      exact h4
    have h5 := condW_of h4 (w_not (w_lt w_lit (w_len_list (w_arg rfl))))
    rw [List.length_map] at h5
    refine Nat.le_of_not_lt fun q => ?_
    have q' : (n : Int) < ((ns.length : Nat) : Int) := by omega
    first
      | (rw [decide_eq_true q'] at h5; exact absurd h5 (by decide))
      | (simp at h5; omega)
  cases hwl with
  | cons w1 w2 =>
    cases w2
    cases w1 with
    | list ho hall => exact ⟨_, _, ns, rfl, rfl, ho, ints_of_wellAll ns _ hall, hlen⟩

theorem post_true (l : OpenLaw) (args : List WData) : l.row.toRowW.claim.post args (.bool true) args = true :=
  postW_of (r := l.row.toRowW) (X := (true == true))
    (show WShape.has [] (.bool true) .bool = true by first | rfl | decide | simp [WShape.has, WShape.arms, WShape.armsAll])
    (show (WTm.eq .res (.lit (.bool true))).value [] { args := args, res := some (.bool true), after := args } = some (.bool (true == true)) from w_eq_bool (w_res rfl) w_lit) rfl

theorem attach_call {l : OpenLaw} {n : Nat} {q : Program} {loose : List Str} {XP : (Str → Option Value) → Heap → Prop} {YP : World → Heap → Prop} {d : DefRec}
    (hn : l.most = some n) (hdf : d.params.defaults = [])
    (call : ∀ (w : World) (s₀ s₁ : Shared) (mg mb : Str → Option Value) (fa : Addr) (o : Obj) (pm cd doc : Value) (a : Addr) (vs : List Value) (ns : List Int),
      Ground q loose [] XP w s₀ mg mb s₁.heap → YP w s₁.heap →
      s₁.heap.get? fa = some o → o.data = .func (docDef d.name d.params d.body d.scope pm cd doc) → s₁.heap.CodeRec cd d.name → mg d.name = some (.ref fa) →
      s₁.heap.get? a = some { cls := .type "list", data := .seq vs.toArray } → IntsAre vs ns → ns.length ≤ n → s₁.gens = #[] →
      codeAny (model l.prog w) callerA (.call (.ref fa) ⟨[.ref a], []⟩) (fun r s' => r = .ok (.ret (.bool true)) ∧ OldK s₁.heap s'.heap ∧ s'.os = s₁.os ∧ AllBare s'.gens) s₁) :
    WalkO q loose XP YP l.row.toRowW d [] (fun f vs => PySem.call f vs) := by
  intro w s₀ s₁ mg mb G Y fa o pm cd doc dV kV ho hd hcd hD hmg hg args vals as hpre hlay hrd hwl hlo
  obtain rfl : dV = .none := Dflts.none hD hdf
  obtain rfl : kV = .none := Dflts.noKw hD
  obtain ⟨a, vs, ns, rfl, rfl, hobj, hints, hlen⟩ := script_of hn hpre hwl
  refine enter_call (codeAny_mono (call w s₀ s₁ mg mb fa o pm cd doc a vs ns G Y ho (fd_plain hd) hcd hmg hobj hints hlen hg) fun r s' hq => ?_)
  obtain ⟨rfl, h2, h3, h4⟩ := hq
  exact ⟨.inl ⟨.bool true, .bool true, [], rfl, fun _ => rfl, .bool true, post_true l _, fun _ => ⟨List.Pairwise.nil, fun _ hm => (nomatch hm)⟩⟩, h2, h3, h4⟩

section
variable {prog : Program} {w : World} {A : Around} {E : Value → Shared → Prop} {s : Shared} {K : Frag}

end
end Att

namespace L2
open PySem PySem.Spec PyProof.Rows

theorem vals_ints : ∀ {vs : List Value} {ns : List Int}, IntsAre vs ns → Vals (ns.map V.int) vs
  | _, _, .nil => .nil
  | _, _, .cons n t h => .cons ⟨t, rfl⟩ (vals_ints h)

noncomputable def Only (H : Hp) : Prop := ∀ b, H b = none ∨ ∃ o xs, H b = some (.frz o (.lst xs))

theorem law_call {P : Program} {w : World} {K : PySem.W.Frag} {mg mb : Str → Option Value} {CX : CXT} {k : Nat} {fa a : Addr} {fd : FuncData} {x : Str} {sp : Sp} {s₁ : Shared} {vs : List Value} {ns : List Int}
    (KX : K.In s₁.heap) (hns : s₁.heap.Ns mainGlobals mg) (hb : s₁.heap.Ns builtinsNs mb) (hbb : ∀ x : Str, x ≠ "__name__" → mb x = bootBuiltins x) (hlim : s₁.heap.NoLimit) (hg : s₁.gens = #[])
    (ha : s₁.heap.get? a = some { cls := .type "list", data := .seq vs.toArray }) (hi : IntsAre vs ns) (hl : ns.length ≤ sizeLine) (hr : Room k callerA)
    (F : ∀ base : Heap, K.In base → base.Ns mainGlobals mg → FnOk P w K mg base CX k fa fd [x] sp) (hbind : ∀ (s : Shared) (u : Value), BindsTo s fd ⟨[u], []⟩ [(x, u)])
    (hsp : ∀ H : Hp, Only H → SqL K H a (ns.map V.int) → sp [.ref a] H (fun v _ => v = .bl true) fun _ _ _ => False)
    (hCX : ∀ H e s', CX [] H s₁ (fun _ _ _ => False) e s' → False) :
    codeAny (model P w) callerA (.call (.ref fa) ⟨[.ref a], []⟩) (fun r s' => r = .ok (.ret (.bool true)) ∧ OldK s₁.heap s'.heap ∧ s'.os = s₁.os ∧ AllBare s'.gens) s₁ := by
  have rv := vals_ints hi
  have lenV := hi.length

  have core : ∀ H : Hp, Only H → SqL K H a (ns.map V.int) → HOk P w H s₁.heap → (∀ b, H b ≠ none → b = a) → (H a ≠ none → K.lookup a = none) →
      codeAny (model P w) callerA (.call (.ref fa) ⟨[.ref a], []⟩) (fun r s' => r = .ok (.ret (.bool true)) ∧ OldK s₁.heap s'.heap ∧ s'.os = s₁.os ∧ AllBare s'.gens) s₁ := by
    intro H hO hS hok hA hK
    have base_of : ∀ {b : Addr} {o : Obj}, s₁.heap.get? b = some o → H b = none → (hidT s₁.heap H).get? b = some o := fun e n => hidT_get e n
    have noA : ∀ {b : Addr} {o : Obj} {es : Array DictEntry} {ep : Nat}, s₁.heap.get? b = some o → o.data = .dict es ep → H b = none := fun {b o es ep} e d => by
      cases q : H b with
      | none => rfl
      | some u =>
        have e' : b = a := hA b (by rw [q]; simp)
        subst e'
        rw [ha] at e; cases e
        have d' : Data.seq vs.toArray _ = Data.dict es ep := d
        cases d'
    have nsK : ∀ {b : Addr} {m : Str → Option Value}, s₁.heap.Ns b m → (hidT s₁.heap H).Ns b m := fun {b m} ⟨o, es, ep, e, d, r⟩ => ⟨o, es, ep, base_of e (noA e d), d, r⟩
    have hKb : K.In (hidT s₁.heap H) := fun b o e => base_of (KX b o e) (by
      cases q : H b with
      | none => rfl
      | some u =>
        have e' : b = a := hA b (by rw [q]; simp)
        subst e'
        rw [hK (by rw [q]; simp)] at e; cases e)
    have hM : Mod K mg (hidT s₁.heap H) := ⟨hKb, nsK hns, ⟨mb, nsK hb, hbb⟩, let ⟨mc, h1, h2⟩ := hlim; ⟨mc, nsK h1, h2⟩⟩
    have e0 : Env0 P w K mg (hidT s₁.heap H) callerA [] s₁ H := ⟨rfl, hM, fun b o e => of_hidT e, Nat.le_of_eq (hidT_size _ _), trivial, fun b hb => absurd (show b ∈ ([] : List Addr) from hb) (by simp), hok, .of_eq hg⟩
    refine codeAny_mono ((F _ hKb (nsK hns)).run callerA [] s₁ H ⟨[.ref a], []⟩ [.ref a] [.ref a] _ _ hr e0 (hbind s₁ (.ref a)) (.cons rfl .nil) (hsp H hO hS)) fun r s' h => ?_
    cases r with
    | error e => exact (hCX H e s' h).elim
    | ok fl =>
      cases fl with
      | next => exact False.elim h
      | brk => exact False.elim h
      | cont => exact False.elim h
      | ret u =>
        obtain ⟨v, H', os, bare, un, hok', r', q⟩ := h
        have q' : v = .bl true := q
        subst q'
        obtain rfl : u = Value.bool true := r'
        refine ⟨rfl, OldK.of_keep fun b o e => ?_, os, bare⟩
        cases q : H b with
        | none => exact un.keep b o e q (by intro z; exact absurd (show b ∈ ([] : List Addr) from z) (by simp)) (by simp)
        | some u =>
          rcases hO b with z | ⟨ob, xs, z⟩
          · rw [q] at z; cases z
          · have z2 := un.frzs b ob _ z
            obtain ⟨e1, _⟩ := hok b _ z
            obtain ⟨e2, _⟩ := hok' b _ z2
            rw [e] at e1; cases e1
            exact e2
  cases hk : K.lookup a with
  | some o =>
  
    have e := KX a o hk
    rw [ha] at e
    cases e
    refine core (fun _ => none) (fun _ => .inl rfl) (.inr ⟨_, vs.toArray, _, hk, rfl, rfl, rfl, by rw [List.size_toArray, lenV]; exact hl, by simpa using rv⟩) (fun b u z => by have z' : (none : Option HO) = some u := z; cases z') (fun b z => absurd rfl z) fun z => absurd rfl z
  | none =>
    refine core (fun b => if b = a then some (.frz { cls := .type "list", data := .seq vs.toArray } (.lst (ns.map V.int))) else none) (fun b => ?_) (.inl (.inr ⟨{ cls := .type "list", data := .seq vs.toArray }, if_pos rfl⟩)) (fun b u z => ?_) (fun b z => ?_) fun _ => hk
    · by_cases hb : b = a
      · exact .inr ⟨_, _, if_pos hb⟩
      · exact .inl (if_neg hb)
    · by_cases hb : b = a
      · have z' := (if_pos hb).symm.trans z
        cases z'
        subst hb
        exact ⟨ha, by rw [List.length_map]; exact hl, vs, _, rv, ha⟩
      · have z' := (if_neg hb).symm.trans z
        cases z'
    · by_cases hb : b = a
      · exact hb
      · exact absurd (if_neg hb) z
end L2

namespace L2
open PySem PySem.Spec PyProof.Rows

theorem walk_of {l : PySem.W.OpenLaw} {n k : Nat} {q : Program} {loose : List Str} {XP : (Str → Option Value) → Heap → Prop} {YP : World → Heap → Prop} {d : DefRec} {K : Params → PySem.W.Frag} {CX : World → CXT} {sp : World → Sp} {x : Str}
    (hn : l.most = some n) (hn2 : n ≤ sizeLine) (hdf : d.params.defaults = []) (hr : Room k callerA)
    (hY : ∀ (w : World) (h : Heap), YP w h → (K w.params).In h)
    (F : ∀ (w : World) (mg : Str → Option Value) (fa : Addr) (h : Heap), (K w.params).In h → h.Ns mainGlobals mg → mg d.name = some (.ref fa) →
      ∃ fd : FuncData, (∀ (s : Shared) (u : Value), BindsTo s fd ⟨[u], []⟩ [(x, u)]) ∧
        ∀ base : Heap, (K w.params).In base → base.Ns mainGlobals mg → FnOk l.prog w (K w.params) mg base (CX w) k fa fd [x] (sp w))
    (hsp : ∀ (w : World) (H : Hp) (a : Addr) (ns : List Int), ns.length ≤ n → Only H → SqL (K w.params) H a (ns.map V.int) → sp w [.ref a] H (fun v _ => v = .bl true) fun _ _ _ => False)
    (hCX : ∀ (w : World) (H : Hp) (s : Shared) (e : Value) (s' : Shared), CX w [] H s (fun _ _ _ => False) e s' → False) :
    PySem.W.WalkO q loose XP YP l.row.toRowW d [] (fun f vs => PySem.call f vs) := by
  refine Att.attach_call hn hdf fun w s₀ s₁ mg mb fa o pm cd doc a vs ns G Y ho hd hcd hmg hobj hints hlen hg => ?_
  have KX := hY w _ Y
  obtain ⟨fd, hb, hF⟩ := F w mg fa _ KX G.T.g hmg
  exact law_call KX G.T.g G.T.b G.T.builtins G.T.nolimit hg hobj hints (Nat.le_trans hlen hn2) hr hF hb (fun H hO hS => hsp w H a ns hlen hO hS) fun H e s' => hCX w H s₁ e s'
end L2


namespace L2
open PySem PySem.Spec PyProof.Rows

noncomputable def inClass (s : Stmt) (j : Nat) : Stmt := match s with
  | .ClassDef _ _ _ body _ _ _ _ _ _ _ => body.getD j (.Pass ⟨0, 0, 0, 0⟩)
  | _ => .Pass ⟨0, 0, 0, 0⟩
noncomputable def defArgs (s : Stmt) : Arguments := match s with
  | .FunctionDef _ a _ _ _ _ _ _ _ _ => a
  | _ => { posonlyargs := [], args := [], vararg := none, kwonlyargs := [], kw_defaults := [], kwarg := none, defaults := [] }
noncomputable def defBody (s : Stmt) : List Stmt := match s with
  | .FunctionDef _ _ b _ _ _ _ _ _ _ => b
  | _ => []
noncomputable def defScope (s : Stmt) : Scope := match s with
  | .FunctionDef _ _ _ _ _ _ sc _ _ _ => sc
  | _ => { kind := .function, names := [], isGenerator := false, isCoroutine := false }

noncomputable abbrev E0 : XK := fun _ _ _ => False
set_option genInjectivity false in
structure Fun (K : PySem.W.Frag) (x qual : Str) (st : Stmt) (f : Addr) (fd : FuncData) : Prop where
  ex : ∃ (oc : Value) (od : Option Addr) (kV doc pm : Value) (an : Option Addr) (cdv ct : Value) (osl : Array (Option Value)),
    fd = PySem.W.fnOf x qual (defArgs st) (defBody st) (defScope st) .none kV doc pm an cdv ct ∧ K.lookup f = some ⟨oc, od, .func fd, osl⟩ ∧ PySem.W.codeIn K cdv qual = true
  kp : PySem.W.keepIn K (.ref f) = true
section
variable {P : Program} {w : World} {K : PySem.W.Frag} {mg : Str → Option Value} {base : Heap}
theorem Fun.binds {x qual : Str} {st : Stmt} {f : Addr} {fd : FuncData} {ps : List Str} (F : Fun K x qual st f fd)
    (h : ∀ (kV doc pm : Value) (an : Option Addr) (cdv ct : Value) (us : List Value), us.length = ps.length → bindArgs (PySem.W.fnOf x qual (defArgs st) (defBody st) (defScope st) .none kV doc pm an cdv ct) ⟨us, []⟩ = pure (ps.zip us)) : Binds K fd ps [] := by
  obtain ⟨oc, od, kV, doc, pm, an, cdv, ct, osl, rfl, lk, hcd⟩ := F.ex
  exact .all (h kV doc pm an cdv ct)
theorem fun_mk {x qual : Str} {st : Stmt} {f : Addr} {oc : Value} {od an : Option Addr} {osl : Array (Option Value)} {kV doc pm cdv ct : Value} (l : K.lookup f = some ⟨oc, od, .func (PySem.W.fnOf x qual (defArgs st) (defBody st) (defScope st) .none kV doc pm an cdv ct), osl⟩)
    (c : PySem.W.codeIn K cdv qual = true) (k : PySem.W.keepIn K (.ref f) = true) : Fun K x qual st f (PySem.W.fnOf x qual (defArgs st) (defBody st) (defScope st) .none kV doc pm an cdv ct) := ⟨⟨oc, od, kV, doc, pm, an, cdv, ct, osl, rfl, l, c⟩, k⟩
end
theorem hu_of {A : Around} {k : Nat} (hr : Room k A) : A.units + 1 < cLine := Nat.lt_of_le_of_lt (Nat.add_le_add_left (by decide : 1 ≤ 64) _) hr.units
section
variable {X : Cx}
theorem pv (i : Nat) {x : Str} {pos : Pos} (hN : X.N[i]? = some x := by rfl) (hv : Vis X.env.scope x := by first | exact Or.inl rfl | exact Or.inr (Or.inl rfl) | exact Or.inr (Or.inr rfl)) (hd : (x == ("__debug__" : Str)) = false := by decide)
    (hcd : (x == ("__classdict__" : Str)) = false := by decide) : PE X (.Name x pos) (tVar i) := pe_var hN hv hd hcd
end

theorem iteF {A B : Prop} (h : B) : if false = true then A else B := by
  rw [if_neg Bool.false_ne_true]
  exact h
theorem iteT {A B : Prop} (h : A) : if true = true then A else B := by
  rw [if_pos rfl]
  exact h
theorem ite2 {c A B : Prop} [Decidable c] (h1 : c → A) (h2 : ¬ c → B) : if c then A else B := by
  by_cases h : c
  · rw [if_pos h]
    exact h1 h
  · rw [if_neg h]
    exact h2 h
theorem iteNS {c A B : Prop} [Decidable c] (hc : c) (h : B) : if (!decide c) = true then A else B := by
  rw [decide_eq_true hc]
  exact iteF h

noncomputable def Same (H H' : Hp) : Prop := ∀ b o, H b = some o → H' b = some o
theorem Same.refl (H : Hp) : Same H H := fun _ _ h => h
theorem Same.trans {H H1 H2 : Hp} (a : Same H H1) (b : Same H1 H2) : Same H H2 := fun c o h => b c o (a c o h)
theorem Same.seq {K : PySem.W.Frag} {H H' : Hp} {a : Addr} {xs : List V} (e : Same H H') (h : SqL K H a xs) : SqL K H' a xs := by
  rcases h with (h | ⟨o, h⟩) | h
  · exact .inl (.inl (e _ _ h))
  · exact .inl (.inr ⟨o, e _ _ h⟩)
  · exact .inr h

end L2

namespace Wd
noncomputable abbrev W := List Nat
theorem lele {a b c : W} (h : ¬ b < a) (h' : ¬ c < b) : ¬ c < a := fun hc => List.not_lt.mpr (List.le_trans (List.not_lt.mp h) (List.not_lt.mp h')) hc
noncomputable def rot (k : Nat) (w : W) : W := w.drop k ++ w.take k
noncomputable def leastTo (w : W) : Nat → W
  | 0 => w
  | n + 1 => if rot (n + 1) w < leastTo w n then rot (n + 1) w else leastTo w n
noncomputable def least (w : W) : W := leastTo w (w.length - 1)
end Wd

namespace Wd
end Wd

namespace Wd
noncomputable def rep (n : Nat) (l : W) : W := (List.replicate n l).flatten
theorem rep_succ (n : Nat) (l : W) : rep (n + 1) l = l ++ rep n l := by unfold rep; rw [List.replicate_succ, List.flatten_cons]
theorem rep_zero (l : W) : rep 0 l = [] := rfl
theorem rep_one (l : W) : rep 1 l = l := by rw [rep_succ, rep_zero, List.append_nil]
theorem rep_len (n : Nat) (l : W) : (rep n l).length = n * l.length := by
  induction n with
  | zero => rw [rep_zero, Nat.zero_mul]; rfl
  | succ n ih => rw [rep_succ, List.length_append, ih, Nat.succ_mul, Nat.add_comm]
end Wd
namespace Wd
end Wd

namespace Wd
end Wd

namespace Wd
end Wd

set_option linter.all false
namespace Wd
theorem sorted_same : ∀ {xs ys : List W}, xs.Perm ys → xs.Pairwise (fun a b => ¬ b < a) → ys.Pairwise (fun a b => ¬ b < a) → xs = ys := by
  intro xs ys h h1 h2
  refine List.Perm.eq_of_pairwise ?_ h1 h2 h
  intro a b _ _ z1 z2
  exact Std.Trichotomous.trichotomous a b z2 z1
end Wd

set_option linter.all false
namespace Hg
variable {bg en : List Nat → List Nat}
inductive Rch (bg en : List Nat → List Nat) (ms : List (List Nat)) (p : List Nat) : List Nat → Prop
  | self : Rch bg en ms p p
  | fw {w : List Nat} : w ∈ ms → Rch bg en ms p (bg w) → Rch bg en ms p (en w)
  | bw {w : List Nat} : w ∈ ms → Rch bg en ms p (en w) → Rch bg en ms p (bg w)
noncomputable def Cl (bg en : List Nat → List Nat) (ls : List (List Nat)) (w : List Nat) : Prop := bg w ∈ ls ↔ en w ∈ ls
theorem Rch.inside {ms ls : List (List Nat)} {p z : List Nat} (hp : p ∈ ls) (hc : ∀ w ∈ ms, Cl bg en ls w) (h : Rch bg en ms p z) : z ∈ ls := by
  induction h with
  | self => exact hp
  | fw hw _ ih => exact (hc _ hw).mp ih
  | bw hw _ ih => exact (hc _ hw).mpr ih
theorem Rch.mono {ms ns : List (List Nat)} {p z : List Nat} (hs : ∀ w ∈ ms, w ∈ ns) (h : Rch bg en ms p z) : Rch bg en ns p z := by
  induction h with
  | self => exact .self
  | fw hw _ ih => exact .fw (hs _ hw) ih
  | bw hw _ ih => exact .bw (hs _ hw) ih
theorem Rch.perm {ms ns : List (List Nat)} {p z : List Nat} (hp : ms.Perm ns) : Rch bg en ms p z ↔ Rch bg en ns p z := ⟨fun h => h.mono fun _ hw => hp.mem_iff.mp hw, fun h => h.mono fun _ hw => hp.mem_iff.mpr hw⟩
noncomputable def addT (ls : List (List Nat)) (t : List Nat) : List (List Nat) := if t ∈ ls then ls else ls ++ [t]
theorem addT_mem {ls : List (List Nat)} {t z : List Nat} : z ∈ addT ls t ↔ z ∈ ls ∨ z = t := by
  unfold addT
  split
  · rename_i h
    exact ⟨.inl, fun g => g.elim id fun e => e ▸ h⟩
  · rw [List.mem_append, List.mem_singleton]
theorem addT_nd {ls : List (List Nat)} {t : List Nat} (h : ls.Nodup) : (addT ls t).Nodup := by
  unfold addT
  split
  · exact h
  · rename_i g
    refine List.nodup_append.mpr ⟨h, by simp, fun a ha b hb e => ?_⟩
    rw [List.mem_singleton] at hb
    exact g (hb ▸ e ▸ ha)
theorem addT_pre (ls : List (List Nat)) (t : List Nat) : ls <+: addT ls t := by
  unfold addT
  split
  · exact List.prefix_refl _
  · exact List.prefix_append ..
theorem addT_len (ls : List (List Nat)) (t : List Nat) : (addT ls t).length ≤ ls.length + 1 := by
  unfold addT
  split
  · omega
  · simp
set_option genInjectivity false in
structure Pass (bg en : List Nat → List Nat) (ms : List (List Nat)) (p : List Nat) (fs : List (List Nat)) (i : Nat) (ls : List (List Nat)) : Prop where
  nd : ls.Nodup
  pre : fs <+: ls
  rch : ∀ z ∈ ls, Rch bg en ms p z
  cl : ls.length = fs.length → ∀ w ∈ ms.take i, Cl bg en fs w
theorem Pass.zero {ms fs : List (List Nat)} {p : List Nat} (nd : fs.Nodup) (rch : ∀ z ∈ fs, Rch bg en ms p z) : Pass bg en ms p fs 0 fs := ⟨nd, List.prefix_refl _, rch, fun _ w hw => by rw [List.take_zero] at hw; cases hw⟩
theorem take_mem {ms : List (List Nat)} {i : Nat} {w v : List Nat} (h : ms[i]? = some w) (hv : v ∈ ms.take (i + 1)) : v ∈ ms.take i ∨ v = w := by
  rw [List.take_add_one, h, List.mem_append] at hv
  rcases hv with z | z
  · exact .inl z
  · exact .inr (by simpa using z)
theorem Pass.yes {ms fs ls : List (List Nat)} {p w : List Nat} {i : Nat} (h : Pass bg en ms p fs i ls) (hw : ms[i]? = some w) (hi : bg w ∈ ls ∨ en w ∈ ls) : Pass bg en ms p fs (i + 1) (addT (addT ls (bg w)) (en w)) := by
  have hm := List.mem_of_getElem? hw
  have p1 := (addT_pre ls (bg w)).trans (addT_pre (addT ls (bg w)) (en w))
  refine ⟨addT_nd (addT_nd h.nd), h.pre.trans p1, fun z hz => ?_, fun e v hv => ?_⟩
  · rw [addT_mem, addT_mem] at hz
    have hb : Rch bg en ms p (bg w) ∧ Rch bg en ms p (en w) := by
      rcases hi with g | g
      · exact ⟨h.rch _ g, .fw hm (h.rch _ g)⟩
      · exact ⟨.bw hm (h.rch _ g), h.rch _ g⟩
    rcases hz with (z | rfl) | rfl
    · exact h.rch _ z
    · exact hb.1
    · exact hb.2
  · have l1 := h.pre.length_le
    have l2 := p1.length_le
    have e1 : ls.length = fs.length := by omega
    rcases take_mem hw hv with g | rfl
    · exact h.cl e1 v g
    · have q1 := h.pre.eq_of_length (by omega)
      have q2 := p1.eq_of_length (by omega)
      subst q1
      have m1 : bg v ∈ fs := by rw [q2, addT_mem, addT_mem]; exact .inl (.inr rfl)
      have m2 : en v ∈ fs := by rw [q2, addT_mem]; exact .inr rfl
      exact ⟨fun _ => m2, fun _ => m1⟩
theorem Pass.no {ms fs ls : List (List Nat)} {p w : List Nat} {i : Nat} (h : Pass bg en ms p fs i ls) (hw : ms[i]? = some w) (h1 : ¬ bg w ∈ ls) (h2 : ¬ en w ∈ ls) : Pass bg en ms p fs (i + 1) ls := by
  refine ⟨h.nd, h.pre, h.rch, fun e v hv => ?_⟩
  rcases take_mem hw hv with g | rfl
  · exact h.cl e v g
  · exact ⟨fun z => absurd (h.pre.subset z) h1, fun z => absurd (h.pre.subset z) h2⟩
noncomputable def allP (bg en : List Nat → List Nat) (ms : List (List Nat)) : List (List Nat) := ms.map bg ++ ms.map en
theorem rch_in {ms : List (List Nat)} {p z : List Nat} (h : Rch bg en ms p z) : z = p ∨ z ∈ allP bg en ms := by
  cases h with
  | self => exact .inl rfl
  | fw hw _ => exact .inr (List.mem_append.mpr (.inr (List.mem_map_of_mem hw)))
  | bw hw _ => exact .inr (List.mem_append.mpr (.inl (List.mem_map_of_mem hw)))
theorem nd_len {α : Type} [BEq α] [LawfulBEq α] : ∀ {ls ms : List α}, ls.Nodup → (∀ z ∈ ls, z ∈ ms) → ls.length ≤ ms.length
  | [], _, _, _ => Nat.zero_le _
  | a :: ls, ms, h, hs => by
    rw [List.nodup_cons] at h
    have ha := hs a (List.mem_cons_self ..)
    have ih := nd_len (ls := ls) (ms := ms.erase a) h.2 fun z hz => (List.mem_erase_of_ne (fun e : z = a => h.1 (e ▸ hz))).mpr (hs z (List.mem_cons_of_mem _ hz))
    have := List.length_erase_of_mem ha
    have := List.length_pos_of_mem ha
    rw [List.length_cons]
    omega
theorem len_le {ms ls : List (List Nat)} {p : List Nat} (h : ls.Nodup) (hr : ∀ z ∈ ls, Rch bg en ms p z) : ls.length ≤ 2 * ms.length + 1 := by
  have := nd_len (ms := p :: allP bg en ms) h fun z hz => List.mem_cons.mpr (rch_in (hr z hz))
  unfold allP at this
  rw [List.length_cons, List.length_append, List.length_map, List.length_map] at this
  omega
noncomputable def miss (ps met : List (List Nat)) : Nat := (ps.filter fun z => decide (¬ z ∈ met)).length
theorem miss_le {met mt : List (List Nat)} (hs : ∀ z ∈ met, z ∈ mt) : ∀ ps : List (List Nat), miss ps mt ≤ miss ps met
  | [] => Nat.le_refl _
  | a :: ps => by
    have ih := miss_le hs ps
    unfold miss at ih ⊢
    rw [List.filter_cons, List.filter_cons]
    by_cases h : a ∈ met
    · rw [if_neg (by simp [hs a h]), if_neg (by simp [h])]
      exact ih
    · rw [if_pos (c := decide (¬ a ∈ met) = true) (by simp [h])]
      split
      · rw [List.length_cons, List.length_cons]; omega
      · rw [List.length_cons]; omega
theorem miss_lt {met mt : List (List Nat)} {y : List Nat} (hs : ∀ z ∈ met, z ∈ mt) (h1 : ¬ y ∈ met) (h2 : y ∈ mt) : ∀ {ps : List (List Nat)}, y ∈ ps → miss ps mt < miss ps met
  | a :: ps, hy => by
    have le := miss_le hs ps
    unfold miss at le ⊢
    rw [List.filter_cons, List.filter_cons]
    rcases List.mem_cons.mp hy with rfl | g
    · rw [if_neg (by simp [h2]), if_pos (by simp [h1]), List.length_cons]
      omega
    · have ih := miss_lt hs h1 h2 g
      unfold miss at ih
      by_cases h : a ∈ met
      · rw [if_neg (by simp [hs a h]), if_neg (by simp [h])]
        exact ih
      · rw [if_pos (c := decide (¬ a ∈ met) = true) (by simp [h])]
        split
        · rw [List.length_cons, List.length_cons]; omega
        · rw [List.length_cons]; omega
set_option genInjectivity false in
structure Walk (bg en : List Nat → List Nat) (ms : List (List Nat)) (p : List Nat) (fs : List (List Nat)) (i : Nat) (ls : List (List Nat)) (ch : Bool) : Prop where
  sub : ∀ z ∈ fs, z ∈ ls
  rch : ∀ z ∈ ls, Rch bg en ms p z
  len : ls.length + 2 * miss (allP bg en ms) ls ≤ fs.length + 2 * miss (allP bg en ms) fs
  no : ch = false → ls = fs ∧ ∀ w ∈ ms.take i, Cl bg en fs w
  yes : ch = true → miss (allP bg en ms) ls < miss (allP bg en ms) fs
theorem Walk.zero {ms fs : List (List Nat)} {p : List Nat} (rch : ∀ z ∈ fs, Rch bg en ms p z) : Walk bg en ms p fs 0 fs false := ⟨fun _ h => h, rch, Nat.le_refl _, fun _ => ⟨rfl, fun w hw => by rw [List.take_zero] at hw; cases hw⟩, fun h => nomatch h⟩
theorem Walk.add {ms fs ls : List (List Nat)} {p w : List Nat} {i : Nat} {ch : Bool} (h : Walk bg en ms p fs i ls ch) (hw : ms[i]? = some w) (hd : ¬ Cl bg en ls w) : Walk bg en ms p fs (i + 1) (ls ++ [bg w, en w]) true := by
  have hm := List.mem_of_getElem? hw
  have ib : bg w ∈ allP bg en ms := List.mem_append.mpr (.inl (List.mem_map_of_mem hm))
  have ie : en w ∈ allP bg en ms := List.mem_append.mpr (.inr (List.mem_map_of_mem hm))
  have hs : ∀ z ∈ ls, z ∈ ls ++ [bg w, en w] := fun z hz => List.mem_append.mpr (.inl hz)
  have lt : miss (allP bg en ms) (ls ++ [bg w, en w]) < miss (allP bg en ms) ls := by
    by_cases h1 : bg w ∈ ls
    · by_cases h2 : en w ∈ ls
      · exact absurd ⟨fun _ => h2, fun _ => h1⟩ hd
      · exact miss_lt hs h2 (by simp) ie
    · exact miss_lt hs h1 (by simp) ib
  have hb : Rch bg en ms p (bg w) ∧ Rch bg en ms p (en w) := by
    by_cases h1 : bg w ∈ ls
    · exact ⟨h.rch _ h1, .fw hm (h.rch _ h1)⟩
    · by_cases h2 : en w ∈ ls
      · exact ⟨.bw hm (h.rch _ h2), h.rch _ h2⟩
      · exact absurd ⟨fun z => absurd z h1, fun z => absurd z h2⟩ hd
  have le := miss_le h.sub (allP bg en ms)
  refine ⟨fun z hz => hs z (h.sub z hz), fun z hz => ?_, ?_, fun z => (nomatch z), fun _ => by omega⟩
  · rcases List.mem_append.mp hz with g | g
    · exact h.rch z g
    · rcases List.mem_cons.mp g with rfl | g
      · exact hb.1
      · rw [List.mem_singleton.mp g]; exact hb.2
  · have := h.len
    rw [List.length_append]
    show ls.length + 2 + _ ≤ _
    omega
theorem Walk.keep {ms fs ls : List (List Nat)} {p w : List Nat} {i : Nat} {ch : Bool} (h : Walk bg en ms p fs i ls ch) (hw : ms[i]? = some w) (hd : Cl bg en ls w) : Walk bg en ms p fs (i + 1) ls ch := by
  refine ⟨h.sub, h.rch, h.len, fun e => ?_, h.yes⟩
  obtain ⟨e1, e2⟩ := h.no e
  refine ⟨e1, fun v hv => ?_⟩
  rcases take_mem hw hv with g | rfl
  · exact e2 v g
  · rw [← e1]; exact hd
end Hg

set_option linter.all false
namespace Hg
variable {bg en : List Nat → List Nat}
noncomputable def Tr (bg en : List Nat → List Nat) : List Nat → List (List Nat) → List Nat → Prop
  | p, [], q => p = q
  | p, w :: ws, q => bg w = p ∧ Tr bg en (en w) ws q
theorem Tr.snoc {w : List Nat} : ∀ {ws : List (List Nat)} {p : List Nat}, Tr bg en p ws (bg w) → Tr bg en p (ws ++ [w]) (en w)
  | [], _, h => ⟨h.symm, rfl⟩
  | _ :: _, _, h => ⟨h.1, Tr.snoc h.2⟩
theorem Tr.take : ∀ {ws : List (List Nat)} {p q : List Nat} (k : Nat), Tr bg en p ws q → ∃ r, Tr bg en p (ws.take k) r
  | _, p, _, 0, _ => ⟨p, by rw [List.take_zero]; rfl⟩
  | [], p, _, _ + 1, _ => ⟨p, rfl⟩
  | _ :: ws, _, _, k + 1, h => by
    obtain ⟨r, hr⟩ := Tr.take k h.2
    exact ⟨r, h.1, hr⟩
theorem Tr.last {w : List Nat} : ∀ {ws : List (List Nat)} {p q : List Nat}, Tr bg en p ws q → ws[ws.length - 1]? = some w → q = en w
  | [], _, _, _, e => by simp at e
  | [v], _, _, h, e => by
    have e' : v = w := by simpa using e
    rw [← e']
    exact h.2.symm
  | _ :: v :: ws, _, _, h, e => Tr.last (ws := v :: ws) h.2 (by simpa using e)
theorem Tr.mem : ∀ {ws : List (List Nat)} {p q : List Nat}, Tr bg en p ws q → ∀ w ∈ ws, bg w ∈ p :: ws.map en
  | v :: ws, p, q, h, w, hw => by
    rcases List.mem_cons.mp hw with rfl | hw
    · rw [h.1]
      exact List.mem_cons_self ..
    · exact List.mem_cons_of_mem _ (Tr.mem h.2 w hw)
theorem Tr.exc (χ : List Nat → Bool) : ∀ {ws : List (List Nat)} {p q : List Nat}, Tr bg en p ws q → ((ws.filter fun l => χ (bg l)).length : Int) - ((ws.filter fun l => χ (en l)).length : Int) = (if χ p then 1 else 0) - (if χ q then 1 else 0)
  | [], p, q, h => by
    cases h
    simp
  | w :: ws, p, q, h => by
    have ih := Tr.exc χ h.2
    rw [List.filter_cons, List.filter_cons, h.1]
    by_cases h1 : χ p <;> by_cases h2 : χ (en w) <;> simp [h1, h2] at ih ⊢ <;> omega
theorem Tr.rch {ms : List (List Nat)} {p : List Nat} : ∀ {ws : List (List Nat)} {r q : List Nat}, Tr bg en r ws q → (∀ w ∈ ws, w ∈ ms) → Rch bg en ms p r → ∀ w ∈ ws, Rch bg en ms p (bg w) ∧ Rch bg en ms p (en w)
  | v :: ws, r, q, h, hs, hr, w, hw => by
    have h1 : Rch bg en ms p (bg v) := by rw [h.1]; exact hr
    have h2 : Rch bg en ms p (en v) := .fw (hs v (List.mem_cons_self ..)) h1
    rcases List.mem_cons.mp hw with rfl | hw
    · exact ⟨h1, h2⟩
    · exact Tr.rch h.2 (fun w hw => hs w (List.mem_cons_of_mem _ hw)) h2 w hw
theorem Rch.trans {ms : List (List Nat)} {p z y : List Nat} (h1 : Rch bg en ms p z) (h2 : Rch bg en ms z y) : Rch bg en ms p y := by
  induction h2 with
  | self => exact h1
  | fw hw _ ih => exact .fw hw ih
  | bw hw _ ih => exact .bw hw ih
theorem Rch.symm {ms : List (List Nat)} {p z : List Nat} (h : Rch bg en ms p z) : Rch bg en ms z p := by
  induction h with
  | self => exact .self
  | fw hw _ ih => exact (Rch.bw hw .self).trans ih
  | bw hw _ ih => exact (Rch.fw hw .self).trans ih
end Hg

set_option linter.all false
namespace Wd
open Hg
noncomputable def beg (l : W) : W := l.take (l.length - 1)
noncomputable def fin (l : W) : W := l.drop 1
theorem Tr.app {p r q : W} : ∀ {xs ys : List W} {p : W}, Tr beg fin p xs r → Tr beg fin r ys q → Tr beg fin p (xs ++ ys) q
  | [], _, _, h, g => by cases h; exact g
  | x :: xs, _, _, h, g => ⟨h.1, Tr.app (p := p) h.2 g⟩
noncomputable def sl (t : W) (i j : Nat) : W := (t.drop i).take (j - i)
noncomputable def hd (w : W) : Nat := w.getD 0 0
section
variable {t : W} {n a b c d : Nat}
end
end Wd

set_option linter.all false
namespace Wd
section
variable {r g : W} {n : Nat}
end
end Wd

namespace Wd
end Wd

namespace Wd
noncomputable def Okk (k : Nat) (w : W) : Prop := ∀ c ∈ w, 97 ≤ c ∧ c < 97 + k
noncomputable def Lst (w : W) : Prop := w = least w
noncomputable def fill (k n : Nat) (p : W) : W := p ++ List.replicate (n - p.length) (96 + k)
noncomputable instance (w : W) : Decidable (Lst w) := inferInstanceAs (Decidable (w = least w))
set_option genInjectivity false in
structure LW (k n : Nat) (w : W) : Prop where
  len : w.length = n
  ok : Okk k w
  lst : Lst w
end Wd

namespace Wd
noncomputable def Nn (k : Nat) (w : W) (m : Nat) : Prop := ∀ v, LW k w.length v → ∀ p, m ≤ p → p < w.length → v.take p = w.take p → ¬ w.getD p 0 < v.getD p 0
end Wd

namespace Wd
end Wd

set_option linter.all false
namespace Wd
end Wd

namespace Wd
theorem nodup_le : ∀ (a b : List W), a.Nodup → (∀ x ∈ a, x ∈ b) → a.length ≤ b.length
  | [], b, _, _ => Nat.zero_le _
  | x :: a, b, hn, hs => by
    obtain ⟨h1, h2⟩ := List.nodup_cons.mp hn
    have hx : x ∈ b := hs x List.mem_cons_self
    have := nodup_le a (b.erase x) h2 fun y hy => (List.mem_erase_of_ne (fun e => h1 (by rw [← e]; exact hy))).mpr (hs y (List.mem_cons_of_mem _ hy))
    rw [List.length_erase_of_mem hx] at this
    have hp : 0 < b.length := List.length_pos_of_mem hx
    rw [List.length_cons]
    omega
end Wd

set_option linter.all false
namespace Wd
end Wd

set_option linter.all false
namespace Wd
section
variable {k n : Nat} {t : W}
theorem full {a b : List W} (hn : a.Nodup) (hs : ∀ x ∈ a, x ∈ b) (hl : b.length ≤ a.length) {x : W} (hx : x ∈ b) : x ∈ a := by
  refine Classical.byContradiction fun hno => ?_
  have := nodup_le (x :: a) b (List.nodup_cons.mpr ⟨hno, hn⟩) fun y hy => by
    rcases List.mem_cons.mp hy with rfl | hy
    · exact hx
    · exact hs y hy
  rw [List.length_cons] at this
  omega
end
end Wd

set_option linter.all false
namespace Wd
open Hg
noncomputable def lst (us : List W) : W := us.getD (us.length - 1) []
theorem lst_snoc (us : List W) (w : W) : lst (us ++ [w]) = w := by unfold lst; simp
noncomputable def ext (ws us : List W) : List (List W) := (ws.filter fun w => decide (beg w = fin (lst us)) && !decide (w ∈ us)).map fun w => us ++ [w]
section
variable {ws us : List W} {w0 w : W} {n k : Nat}
theorem Tr.cut {p q : W} : ∀ {xs : List W} {p : W}, Tr beg fin p (xs ++ [w]) q → Tr beg fin p xs (beg w) ∧ q = fin w
  | [], _, h => ⟨h.1.symm, h.2.symm⟩
  | x :: xs, _, h => by
    obtain ⟨h1, h2⟩ := Tr.cut (p := p) (xs := xs) h.2
    exact ⟨⟨h.1, h1⟩, h2⟩
theorem Tr.lst {p q : W} (h : Tr beg fin p us q) (hne : us ≠ []) : q = fin (lst us) := by
  obtain ⟨xs, w, rfl⟩ : ∃ xs w, us = xs ++ [w] := ⟨us.dropLast, us.getLast hne, (List.dropLast_concat_getLast hne).symm⟩
  rw [lst_snoc]
  exact (Tr.cut (p := p) h).2
end
end Wd

set_option linter.all false
namespace Wd
open Hg
noncomputable def cnt (f : W → W) (E : List W) (v : W) : Nat := (E.filter fun w => decide (f w = v)).length
noncomputable def Bal (E : List W) (s t : W) : Prop := ∀ v, cnt beg E v + (if v = t then 1 else 0) = cnt fin E v + (if v = s then 1 else 0)
noncomputable def Conn (E : List W) (s : W) : Prop := ∀ χ : W → Prop, χ s → (∀ e ∈ E, χ (beg e) ↔ χ (fin e)) → ∀ e ∈ E, χ (beg e)
section
variable {E L us : List W} {s t v p q w : W}
theorem cnt_cons (f : W → W) (e : W) (E : List W) (v : W) : cnt f (e :: E) v = (if f e = v then 1 else 0) + cnt f E v := by
  unfold cnt
  rw [List.filter_cons]
  by_cases h : f e = v
  · rw [if_pos (decide_eq_true h), if_pos h, List.length_cons, Nat.add_comm]
  · rw [if_neg (by rw [decide_eq_false h]; exact Bool.false_ne_true), if_neg h, Nat.zero_add]
theorem cnt_app (f : W → W) (A B : List W) (v : W) : cnt f (A ++ B) v = cnt f A v + cnt f B v := by
  unfold cnt
  rw [List.filter_append, List.length_append]
theorem cnt_perm {A B : List W} (f : W → W) (h : A.Perm B) (v : W) : cnt f A v = cnt f B v := (h.filter _).length_eq
theorem Bal.perm {A B : List W} (h : Bal A s t) (hp : A.Perm B) : Bal B s t := fun v => by rw [← cnt_perm beg hp, ← cnt_perm fin hp]; exact h v
theorem Conn.perm {A B : List W} (h : Conn A s) (hp : A.Perm B) : Conn B s := fun χ hs hc e he => h χ hs (fun e he => hc e (hp.mem_iff.mp he)) e (hp.mem_iff.mpr he)
theorem tr_bal : ∀ {us : List W} {p : W}, Tr beg fin p us q → Bal us p q
  | [], p, h => fun v => by
    have h : p = q := h
    subst h
    rfl
  | w :: us, p, h => fun v => by
    have ih := tr_bal h.2 v
    have e : beg w = p := h.1
    rw [cnt_cons, cnt_cons]
    have e1 : (if v = p then 1 else 0) = (if beg w = v then 1 else 0) := by
      by_cases c : v = p
      · rw [if_pos c, if_pos (by rw [e, c])]
      · rw [if_neg c, if_neg (fun z => c (by rw [← z, e]))]
    have e2 : (if v = fin w then 1 else 0) = (if fin w = v then 1 else 0) := by
      by_cases c : v = fin w
      · rw [if_pos c, if_pos c.symm]
      · rw [if_neg c, if_neg (fun z => c z.symm)]
    omega
theorem Bal.rest (h : Bal E s t) (hp : E.Perm (us ++ L)) (ht : Tr beg fin s us q) : Bal L q t := fun v => by
  have h1 := (h.perm hp) v
  have h2 := tr_bal ht v
  rw [cnt_app, cnt_app] at h1
  omega
theorem Bal.out (h : Bal L v t) (hne : v ≠ t) : ∃ e ∈ L, beg e = v := by
  have h1 := h v
  rw [if_neg hne, if_pos rfl] at h1
  have h2 : 0 < cnt beg L v := by omega
  obtain ⟨e, he⟩ := List.exists_mem_of_length_pos h2
  obtain ⟨g1, g2⟩ := List.mem_filter.mp he
  exact ⟨e, g1, of_decide_eq_true g2⟩
theorem Bal.go : ∀ (k : Nat) {L : List W} {v : W}, L.length = k → Bal L v t → ∃ cs R, L.Perm (cs ++ R) ∧ Tr beg fin v cs t
  | 0, L, v, hl, h => by
    by_cases c : v = t
    · exact ⟨[], L, List.Perm.refl _, c⟩
    · obtain ⟨e, he, _⟩ := h.out c
      rw [List.length_eq_zero_iff.mp hl] at he
      cases he
  | k + 1, L, v, hl, h => by
    by_cases c : v = t
    · exact ⟨[], L, List.Perm.refl _, c⟩
    · obtain ⟨e, he, hb⟩ := h.out c
      have hp := List.perm_cons_erase he
      have h2 : Bal (L.erase e) (fin e) t := h.rest (us := [e]) hp ⟨hb, rfl⟩
      have hle : (L.erase e).length = k := by rw [List.length_erase_of_mem he, hl]; rfl
      obtain ⟨cs, R, h3, h4⟩ := Bal.go k hle h2
      exact ⟨e :: cs, R, hp.trans (h3.cons e), ⟨hb, h4⟩⟩
theorem tr_split : ∀ {us : List W} {p : W}, Tr beg fin p us q → v ∈ p :: us.map fin → ∃ xs ys, us = xs ++ ys ∧ Tr beg fin p xs v ∧ Tr beg fin v ys q
  | [], p, h, hv => by
    have e : v = p := by simpa using hv
    exact ⟨[], [], rfl, e.symm, e ▸ h⟩
  | w :: us, p, h, hv => by
    by_cases c : v = p
    · exact ⟨[], w :: us, rfl, c.symm, by rw [c]; exact h⟩
    · have hv2 : v ∈ fin w :: us.map fin := (List.mem_cons.mp hv).resolve_left c
      obtain ⟨xs, ys, e, h1, h2⟩ := tr_split h.2 hv2
      exact ⟨w :: xs, ys, by rw [e]; rfl, ⟨h.1, h1⟩, h2⟩
theorem absorb : ∀ (k : Nat) {us R : List W}, R.length ≤ k → Tr beg fin s us t → Bal R t t → Conn (us ++ R) s → ∃ full, full.Perm (us ++ R) ∧ Tr beg fin s full t
  | k, us, [], _, h, _, _ => ⟨us, by rw [List.append_nil], h⟩
  | 0, us, r :: R, hl, _, _, _ => absurd hl (by simp)
  | k + 1, us, r :: R, hl, h, hb, hc => by
    have hbv : ∀ v, cnt beg (r :: R) v = cnt fin (r :: R) v := fun v => by have := hb v; omega
    have hex : ∃ e ∈ r :: R, beg e ∈ s :: us.map fin := by
      refine Classical.byContradiction fun z => ?_
      have hno : ∀ e ∈ r :: R, ¬ beg e ∈ s :: us.map fin := fun e he c => z ⟨e, he, c⟩
      have hnof : ∀ e ∈ r :: R, ¬ fin e ∈ s :: us.map fin := fun e he c => by
        have h1 : 0 < cnt fin (r :: R) (fin e) := List.length_pos_of_mem (List.mem_filter.mpr ⟨he, decide_eq_true rfl⟩)
        rw [← hbv] at h1
        obtain ⟨e', he'⟩ := List.exists_mem_of_length_pos h1
        obtain ⟨g1, g2⟩ := List.mem_filter.mp he'
        exact hno e' g1 (by rw [of_decide_eq_true g2]; exact c)
      have := hc (fun v => v ∈ s :: us.map fin) (List.mem_cons_self ..) (fun e he => ?_) r (List.mem_append_right _ (List.mem_cons_self ..))
      · exact hno r (List.mem_cons_self ..) this
      · rcases List.mem_append.mp he with he | he
        · exact ⟨fun _ => List.mem_cons_of_mem _ (List.mem_map_of_mem he), fun _ => h.mem e he⟩
        · exact ⟨fun z => absurd z (hno e he), fun z => absurd z (hnof e he)⟩
    obtain ⟨e, he, hev⟩ := hex
    obtain ⟨xs, ys, rfl, t1, t2⟩ := tr_split h hev
    have hp := List.perm_cons_erase he
    have hb1 : Bal (r :: R) (beg e) (beg e) := fun v => by have := hbv v; omega
    have hb2 : Bal ((r :: R).erase e) (fin e) (beg e) := hb1.rest (us := [e]) hp ⟨rfl, rfl⟩
    obtain ⟨cs, R', h3, h4⟩ := Bal.go _ rfl hb2
    have hpR : (r :: R).Perm ((e :: cs) ++ R') := hp.trans (h3.cons e)
    have t3 : Tr beg fin (beg e) (e :: cs) (beg e) := ⟨rfl, h4⟩
    have hb3 : Bal R' (beg e) (beg e) := hb1.rest hpR t3
    have hb4 : Bal R' t t := fun v => by have := hb3 v; omega
    have hl2 : R'.length ≤ k := by
      have := hpR.length_eq
      rw [List.length_append, List.length_cons, List.length_cons] at this
      rw [List.length_cons] at hl
      omega
    have hpall : ((xs ++ ys) ++ (r :: R)).Perm ((xs ++ ((e :: cs) ++ ys)) ++ R') := by
      refine (hpR.append_left (xs ++ ys)).trans ?_
      rw [List.append_assoc, List.append_assoc, List.append_assoc]
      refine List.Perm.append_left xs ?_
      rw [← List.append_assoc, ← List.append_assoc]
      exact List.perm_append_comm.append_right R'
    obtain ⟨full, f1, f2⟩ := absorb k hl2 (Tr.app (p := s) t1 (Tr.app (p := s) t3 t2)) hb4 (hc.perm hpall)
    exact ⟨full, f1.trans hpall.symm, f2⟩
theorem euler (hb : Bal E s t) (hc : Conn E s) : ∃ us, us.Perm E ∧ Tr beg fin s us t := by
  obtain ⟨cs, R, h1, h2⟩ := Bal.go _ rfl hb
  have hr := hb.rest h1 h2
  obtain ⟨full, f1, f2⟩ := absorb _ (Nat.le_refl _) h2 hr (hc.perm h1)
  exact ⟨full, f1.trans h1.symm, f2⟩
end
end Wd

namespace Wd
noncomputable def it (f : W → W) : Nat → W → W
  | 0, w => w
  | k + 1, w => f (it f k w)
section
variable {f : W → W} {L : List W} {w : W} {p : Nat}
end
end Wd

set_option linter.all false
namespace Wd
section
variable {f : W → W} {r : W} {n : Nat} {L : List W}
theorem filter_one {p : W → Bool} {w0 : W} : ∀ {L : List W}, L.Nodup → w0 ∈ L → (∀ w ∈ L, p w = true ↔ w = w0) → L.filter p = [w0]
  | [], _, h, _ => by simp at h
  | x :: L, hnd, hm, hp => by
    rw [List.nodup_cons] at hnd
    by_cases e : x = w0
    · subst e
      have hx := (hp x (List.mem_cons_self ..)).mpr rfl
      rw [List.filter_cons, if_pos hx]
      have : L.filter p = [] := List.filter_eq_nil_iff.mpr fun y hy z => by
        have := (hp y (List.mem_cons_of_mem _ hy)).mp z
        exact hnd.1 (this ▸ hy)
      rw [this]
    · have hx : ¬ p x = true := fun z => e ((hp x (List.mem_cons_self ..)).mp z)
      rw [List.filter_cons, if_neg hx]
      have hm' : w0 ∈ L := by
        rcases List.mem_cons.mp hm with z | z
        · exact absurd z.symm e
        · exact z
      exact filter_one hnd.2 hm' fun w hw => hp w (List.mem_cons_of_mem _ hw)
end
end Wd

set_option linter.all false
namespace Wd
open Hg
section
variable {ms us xs ys : List W} {p q r t e w0 : W} {n : Nat}
end
end Wd

set_option Elab.async false
set_option linter.all false
set_option maxRecDepth 100000
set_option maxHeartbeats 4000000

namespace L2
open PySem PySem.Spec PyProof.Rows

noncomputable def tx (l : List Nat) : Str := ⟨l.toArray⟩
noncomputable abbrev T (l : List Nat) : V := .str (tx l)
theorem tx_len (l : List Nat) : (tx l).length = l.length := by simp [tx, Str.length]
theorem tx_cps (l : List Nat) : (tx l).cps.toList = l := by simp [tx]
theorem tx_eta (x : Str) : tx x.cps.toList = x := by cases x; simp [tx]
theorem tx_inj {a b : List Nat} (h : tx a = tx b) : a = b := by
  have e := congrArg (fun x : Str => x.cps.toList) h
  simpa [tx] using e
theorem T_inj {a b : List Nat} (h : T a = T b) : a = b := tx_inj (V.str.inj h)
theorem T_dec {a b : List Nat} : decide (T a = T b) = decide (a = b) := by
  rw [Bool.eq_iff_iff, decide_eq_true_iff, decide_eq_true_iff]
  exact ⟨T_inj, fun h => by rw [h]⟩
theorem tx_app (a b : List Nat) : tx a ++ tx b = tx (a ++ b) := by
  rw [← tx_eta (tx a ++ tx b), PySem.W.KT.app_list, tx_cps, tx_cps]

section
variable {X : Cx}
theorem op_add_T : OpR X (binaryOp .Add) (fun x y H Q => ∃ a, x = T a ∧ ∃ b, y = T b ∧ a.length + b.length ≤ sizeLine ∧ Q (T (a ++ b)) H) := by
  intro pins s σ H x y v u Q I rx ry h
  obtain ⟨a, e1, b, e2, hz, q⟩ := h
  exact op_add_str pins s σ H x y v u Q I rx ry ⟨tx a, tx b, e1, e2, by rw [tx_len, tx_len]; exact hz, by rw [tx_app]; exact q⟩
theorem op_eq_T : OpR X (compareOp .Eq) (fun x y H Q => ∃ a, x = T a ∧ ∃ b, y = T b ∧ Q (.bl (decide (a = b))) H) := by
  intro pins s σ H x y v u Q I rx ry h
  obtain ⟨a, rfl, b, rfl, q⟩ := h
  exact op_eq pins s σ H _ _ v u Q I rx ry ⟨rfl, by rw [T_dec]; exact q⟩
theorem op_ne_T : OpR X (compareOp .NotEq) (fun x y H Q => ∃ a, x = T a ∧ ∃ b, y = T b ∧ Q (.bl (!decide (a = b))) H) := by
  intro pins s σ H x y v u Q I rx ry h
  obtain ⟨a, rfl, b, rfl, q⟩ := h
  exact op_ne pins s σ H _ _ v u Q I rx ry ⟨rfl, by rw [T_dec]; exact q⟩
theorem op_eq_I : OpR X (compareOp .Eq) (fun x y H Q => ∃ a, x = .int a ∧ ∃ b, y = .int b ∧ Q (.bl (decide (a = b))) H) := by
  intro pins s σ H x y v u Q I rx ry h
  obtain ⟨a, rfl, b, rfl, q⟩ := h
  exact op_eq pins s σ H _ _ v u Q I rx ry ⟨rfl, by rw [dec_int, Bool.beq_eq_decide_eq]; exact q⟩
theorem op_ne_I : OpR X (compareOp .NotEq) (fun x y H Q => ∃ a, x = .int a ∧ ∃ b, y = .int b ∧ Q (.bl (!decide (a = b))) H) := by
  intro pins s σ H x y v u Q I rx ry h
  obtain ⟨a, rfl, b, rfl, q⟩ := h
  exact op_ne pins s σ H _ _ v u Q I rx ry ⟨rfl, by rw [dec_int, Bool.beq_eq_decide_eq]; exact q⟩
theorem op_ne_B : OpR X (compareOp .NotEq) (fun x y H Q => ∃ a, x = .bl a ∧ ∃ b, y = .bl b ∧ Q (.bl (!decide (a = b))) H) := by
  intro pins s σ H x y v u Q I rx ry h
  obtain ⟨a, rfl, b, rfl, q⟩ := h
  exact op_ne pins s σ H _ _ v u Q I rx ry ⟨rfl, by rw [dec_bl, Bool.beq_eq_decide_eq]; exact q⟩

noncomputable def cutL (l : List Nat) (lo hi : Option Int) : List Nat := (l.drop (HT.sIx l.length 0 lo)).take (HT.sIx l.length l.length hi - HT.sIx l.length 0 lo)
theorem clip_sIx (v : Option Int) (n d : Nat) : (match v with | none => (d : Int) | some i => max 0 (min (if i < 0 then i + (n : Int) else i) (n : Int))) = ((HT.sIx n d v : Nat) : Int) := by
  cases v with
  | none => rfl
  | some i =>
    show max 0 (min (if i < 0 then i + (n : Int) else i) (n : Int)) = (((if i < 0 then (i + (n : Int)).toNat else min i.toNat n) : Nat) : Int)
    by_cases hi : i < 0
    · simp only [if_pos hi]; omega
    · simp only [if_neg hi]; omega
theorem indices_sIx (lo hi : Option Int) (n : Nat) : Builtin.Str.strSliceIndices lo hi 1 n = Builtin.Str.strSliceIndices (some ((HT.sIx n 0 lo : Nat) : Int)) (some ((HT.sIx n n hi : Nat) : Int)) 1 n := by
  have h1 := HT.sIx_le n 0 (Nat.zero_le _) lo
  have h2 := HT.sIx_le n n (Nat.le_refl _) hi
  have c1 := clip_sIx lo n 0
  have c2 := clip_sIx hi n n
  have d1 := clip_sIx (some ((HT.sIx n 0 lo : Nat) : Int)) n 0
  have d2 := clip_sIx (some ((HT.sIx n n hi : Nat) : Int)) n n
  rw [HT.sIx_nat, Nat.min_eq_left h1] at d1
  rw [HT.sIx_nat, Nat.min_eq_left h2] at d2
  unfold Builtin.Str.strSliceIndices
  simp only [show ((1 : Int) > 0) from by decide, if_true]
  have g : ∀ a b c d : Int, a = c → b = d → sliceRange a b 1 = sliceRange c d 1 := fun a b c d h1 h2 => by rw [h1, h2]
  exact g _ _ _ _ (c1.trans d1.symm) (c2.trans d2.symm)
theorem slice_tx (l : List Nat) (lo hi : Option Int) : Txt.slice (tx l) lo hi = tx (cutL l lo hi) := by
  have h1 := HT.sIx_le l.length 0 (Nat.zero_le _) lo
  have h2 := HT.sIx_le l.length l.length (Nat.le_refl _) hi
  unfold Txt.slice
  rw [tx_len, indices_sIx]
  by_cases hab : HT.sIx l.length 0 lo ≤ HT.sIx l.length l.length hi
  · have e := StrLaws.sliceText_nat (tx l) hab (by rw [tx_len]; exact h2)
    unfold StrLaws.sliceText at e
    rw [tx_len, tx_cps] at e
    exact e
  · have e0 : Builtin.Str.strSliceIndices (some ((HT.sIx l.length 0 lo : Nat) : Int)) (some ((HT.sIx l.length l.length hi : Nat) : Int)) 1 l.length = [] := by
      unfold Builtin.Str.strSliceIndices sliceRange
      have n1 : ¬ (((HT.sIx l.length 0 lo : Nat) : Int) < 0) := by omega
      have n2 : ¬ (((HT.sIx l.length l.length hi : Nat) : Int) < 0) := by omega
      simp only [show ((1 : Int) > 0) from by decide, if_true, if_neg n1, if_neg n2]
      have n3 : ¬ (max (0 : Int) (min ((HT.sIx l.length 0 lo : Nat) : Int) (l.length : Int)) < max (0 : Int) (min ((HT.sIx l.length l.length hi : Nat) : Int) (l.length : Int))) := by omega
      simp [n3]
    have e1 : cutL l lo hi = [] := by
      unfold cutL
      rw [show HT.sIx l.length l.length hi - HT.sIx l.length 0 lo = 0 by omega, List.take_zero]
    rw [e0, e1]
    cases l with
    | nil => rfl
    | cons c r => rfl
theorem sl_T : SlR X (fun x lo hi H Q => ∃ a, x = T a ∧ a.length ≤ sizeLine ∧ Q (T (cutL a lo hi)) H) := by
  intro pins s σ H x v vl vu lo hi sl Q I rx hs pl pu h
  obtain ⟨a, rfl, hz, q⟩ := h
  obtain ⟨t, rfl⟩ := rx
  obtain ⟨l, hl1, hl2⟩ : ∃ l : Option (Int × Tok), partValue l = vl ∧ l.map (·.1) = lo := by
    cases pl with
    | none => exact ⟨none, rfl, rfl⟩
    | int i t => exact ⟨some (i, t), rfl, rfl⟩
  obtain ⟨u, hu1, hu2⟩ : ∃ u : Option (Int × Tok), partValue u = vu ∧ u.map (·.1) = hi := by
    cases pu with
    | none => exact ⟨none, rfl, rfl⟩
    | int i t => exact ⟨some (i, t), rfl, rfl⟩
  refine ⟨"str", _, F.slot_str_getitem.lookup, typeIs_str _ _ _, ?_⟩
  have hsl : s.heap.IsSlice sl l u none := by
    obtain ⟨o, ho, hc, hd⟩ := hs
    exact ⟨o, ho, hc, by rw [hl1, hu1]; exact hd⟩
  refine wpAny_getItem_str_slice hsl rfl ?_
  have key : (if ((1 : Int) == 1 && (Builtin.Str.strSliceIndices lo hi 1 (tx a).length).length == (tx a).length) = true then (tx a) else ⟨((Builtin.Str.strSliceIndices lo hi 1 (tx a).length).filterMap ((tx a).cps[·]?)).toArray⟩) = tx (cutL a lo hi) := slice_tx a lo hi
  unfold sliceMade slicePicked
  rw [hl2, hu2]
  refine post_val_or_str ⟨?_, fun t' k => ?_⟩
  · show (Txt.slice (tx a) lo hi).length ≤ sizeLine
    exact Nat.le_trans (Txt.slice_le _ _ _) (by rw [tx_len]; exact hz)
  · refine ⟨T (cutL a lo hi), H, I.tok _, ⟨t', ?_⟩, q⟩
    exact congrArg (fun z => Value.str z t') key

theorem rep_length (n : Nat) (l : List Nat) : (Wd.rep n l).length = n * l.length := Wd.rep_len n l
theorem foldl_cps (n : Nat) (c : Array Nat) : ∀ acc : Array Nat, (List.replicate n c).foldl (· ++ ·) acc = acc ++ (Wd.rep n c.toList).toArray := by
  induction n with
  | zero => intro acc; simp [Wd.rep]
  | succ n ih =>
    intro acc
    rw [List.replicate_succ, List.foldl_cons, ih]
    rw [Wd.rep_succ, Array.append_assoc]
    congr 1
    apply Array.ext'
    simp
theorem mul_tx (n : Nat) (l : List Nat) : Txt.mul (tx l) (n : Int) = tx (Wd.rep n l) := by
  unfold Txt.mul
  by_cases h1 : (n : Int) < 1
  · have e : n = 0 := by omega
    subst e
    rw [if_pos h1]
    rfl
  · rw [if_neg h1]
    by_cases h2 : ((n : Int) == 1 || (tx l).length == 0) = true
    · rw [if_pos h2]
      rw [Bool.or_eq_true, beq_iff_eq, beq_iff_eq, tx_len] at h2
      rcases h2 with h2 | h2
      · have e : n = 1 := by omega
        subst e
        rw [Wd.rep_one]
      · have e : l = [] := List.length_eq_zero_iff.mp h2
        subst e
        have : Wd.rep n [] = [] := List.length_eq_zero_iff.mp (by rw [rep_length]; simp)
        rw [this]
    · rw [if_neg h2, Int.toNat_natCast, foldl_cps]
      simp [tx]
theorem op_mul_T : OpR X (binaryOp .Mult) (fun x y H Q => ∃ a, x = T a ∧ ∃ n : Nat, y = .int n ∧ (n ≤ sizeLine ∧ n * a.length ≤ sizeLine) ∧ Q (T (Wd.rep n a)) H) := by
  intro pins s σ H x y v u Q I rx ry h
  obtain ⟨a, rfl, n, rfl, ⟨h1, h2⟩, q⟩ := h
  obtain ⟨t, rfl⟩ := rx
  obtain ⟨t', rfl⟩ := ry
  have hs : sizeLine = 16777216 := sizeLine_eq
  refine SB.mul ⟨?_, ?_, ?_⟩ fun t' k => ⟨T (Wd.rep n a), H, I.tok _, ⟨t', by rw [mul_tx]⟩, q⟩
  · have e1 : decide ((n : Int) < -(2 ^ 63 : Int)) = false := decide_eq_false (by omega)
    have e2 : decide ((n : Int) ≥ 2 ^ 63) = false := decide_eq_false (by omega)
    rw [e1, e2]
    rfl
  · intro hn _
    rw [tx_len]
    have h3 : n * a.length ≤ 16777216 := by omega
    intro hc
    have h4 : ((n * a.length : Nat) : Int) ≤ 16777216 := by omega
    have hn' : (0 : Int) < n := by omega
    have h5 : ((2 ^ 63 - 1) / (n : Int)) * n ≤ 2 ^ 63 - 1 := Int.ediv_mul_le _ (by omega)
    have h6 : (2 ^ 63 - 1 : Int) < ((2 ^ 63 - 1) / (n : Int) + 1) * n := Int.lt_ediv_add_one_mul_self _ hn'
    have h7 : ((2 ^ 63 - 1) / (n : Int) + 1) * n ≤ (a.length : Int) * n := Int.mul_le_mul_of_nonneg_right (by omega) (by omega)
    have h8 : ((n * a.length : Nat) : Int) = (a.length : Int) * n := by rw [Int.natCast_mul, Int.mul_comm]
    omega
  · intro hn _
    rw [tx_len, Int.toNat_natCast, Nat.mul_comm]
    unfold Builtin.Str.tooLong
    exact decide_eq_false (by omega)

theorem strsAre_T : ∀ {ls : List (List Nat)} {us : List Value}, Vals (ls.map T) us → StrsAre us (ls.map tx)
  | [], us, r => by
    cases r
    exact .nil
  | l :: ls, us, r => by
    rw [List.map_cons] at r
    cases r with
    | cons r1 r2 =>
      obtain ⟨t, rfl⟩ := r1
      exact .cons _ _ (strsAre_T r2)
theorem glued_empty : ∀ (ls : List (List Nat)) (acc : Array Nat), (ls.map tx).foldl (fun acc p => acc ++ (tx []).cps ++ p.cps) acc = acc ++ ls.flatten.toArray
  | [], acc => by simp
  | l :: ls, acc => by
    rw [List.map_cons, List.foldl_cons, glued_empty ls]
    simp [tx]
theorem join_tx (ls : List (List Nat)) : Txt.join (tx []) (ls.map tx) = tx ls.flatten := by
  unfold Txt.join Builtin.Str.glued
  cases ls with
  | nil => rfl
  | cons l ls =>
    rw [List.map_cons, List.drop_succ_cons, List.drop_zero, List.headD_cons, glued_empty]
    simp [tx]
theorem sum_len_tx (ls : List (List Nat)) : ((ls.map tx).map (·.length)).sum = ls.flatten.length := by
  induction ls with
  | nil => rfl
  | cons l ls ih => rw [List.map_cons, List.map_cons, List.sum_cons, ih, List.flatten_cons, List.length_append, tx_len]
theorem mt_join : MtR X "str.join" (fun x xs H Q => x = T [] ∧ ∃ (p : Addr) (ls : List (List Nat)), xs = [.ref p] ∧ SqL X.K H p (ls.map T) ∧ ls.flatten.length ≤ sizeLine ∧ Q (T ls.flatten) H) := by
  intro pins s σ H x xs v us Q I rx rs h
  obtain ⟨rfl, p, ls, rfl, hq, hz, q⟩ := h
  obtain ⟨t, rfl⟩ := rx
  obtain ⟨u, rfl, ru⟩ := vals1 rs
  cases ru
  obtain ⟨its, r, pl, _⟩ := I.list hq
  have hs : sizeLine = 16777216 := sizeLine_eq
  refine join_list pl.isList (ys := ls.map tx) (by simpa using strsAre_T r) ?_ fun t' k => ⟨T ls.flatten, H, I.tok _, ⟨t', by rw [join_tx]⟩, q⟩
  rw [sum_len_tx, tx_len, List.length_nil, Nat.mul_zero]
  omega
end
end L2
namespace L2
theorem cutL_from {w : List Nat} {k : Nat} (h : k ≤ w.length) : cutL w (some (k : Int)) none = w.drop k := by
  unfold cutL
  rw [HT.sIx_nat, HT.sIx_none, Nat.min_eq_left h]
  exact List.take_of_length_le (by rw [List.length_drop]; omega)
theorem cutL_to {w : List Nat} {k : Nat} (h : k ≤ w.length) : cutL w none (some (k : Int)) = w.take k := by
  unfold cutL
  rw [HT.sIx_nat, HT.sIx_none, Nat.min_eq_left h, List.drop_zero, Nat.sub_zero]
end L2

set_option Elab.async false
set_option linter.all false
set_option maxRecDepth 100000
set_option maxHeartbeats 4000000

namespace L2
open PySem PySem.Spec PyProof.Rows

set_option genInjectivity false in
structure CompSc (N N' : List Str) (sc scope : Scope) (x : Str) : Prop where
  kind : scope.kind = .function
  cell : ∀ y ∈ scope.names, y.2 ≠ .cell
  names : ∀ y ∈ scope.names, y.2 = .local → scope.names.lookup y.1 = some .local
  var : scope.names.lookup x = some .local
  ok : ∀ y ∈ scope.names, y.2 = .free → sc.names.lookup y.1 = some .cell ∨ sc.names.lookup y.1 = some .free
  hd : N'[0]? = some x
  len : N'.length = N.length + 1
  sub : ∀ i, i < N.length → N'[i + 1]? = N[i]? ∨ (N'[i + 1]?.map fun y => scope.names.lookup y) = some none
  noe : scope.names.lookup ("" : Str) = none
  nol : ∀ y ∈ N'.tail, scope.names.lookup y ≠ some .local
  nd : N'.Nodup

noncomputable def closOf (cells : List (Str × Addr)) : List (Str × NameKind) → List (Str × Addr) → List (Str × Addr)
  | [], acc => acc
  | (n, k) :: r, acc => closOf cells r (if k == .free then (n, (cells.lookup n).getD 0) :: acc else acc)
theorem clos_sound {cells : List (Str × Addr)} {y : Str} {c : Addr} : ∀ (names : List (Str × NameKind)) (acc : List (Str × Addr)), (∀ z ∈ names, z.2 = .free → ∃ c, cells.lookup z.1 = some c) →
    (acc.lookup y = some c → cells.lookup y = some c) → (closOf cells names acc).lookup y = some c → cells.lookup y = some c
  | [], acc, _, ha, h => ha h
  | (n, k) :: r, acc, hz, ha, h => by
    unfold closOf at h
    refine clos_sound r _ (fun z hm => hz z (List.mem_cons_of_mem _ hm)) (fun q => ?_) h
    split at q
    · rename_i hk
      obtain ⟨c', e⟩ := hz (n, k) List.mem_cons_self (by simpa using hk)
      rw [List.lookup_cons] at q
      split at q
      · rename_i he
        have : y = n := by simpa using he
        subst this
        rw [e] at q
        rw [e]
        exact q
      · exact ha q
    · exact ha q
theorem clos_acc {cells : List (Str × Addr)} {y : Str} : ∀ (names : List (Str × NameKind)) (acc : List (Str × Addr)), (∃ c, acc.lookup y = some c) → ∃ c, (closOf cells names acc).lookup y = some c
  | [], acc, h => h
  | (n, k) :: r, acc, ⟨c, h⟩ => by
    unfold closOf
    refine clos_acc r _ ?_
    split
    · rw [List.lookup_cons]
      split
      · exact ⟨_, rfl⟩
      · exact ⟨c, h⟩
    · exact ⟨c, h⟩
theorem clos_has {cells : List (Str × Addr)} {y : Str} : ∀ (names : List (Str × NameKind)) (acc : List (Str × Addr)), (y, NameKind.free) ∈ names → ∃ c, (closOf cells names acc).lookup y = some c
  | (n, k) :: r, acc, h => by
    unfold closOf
    rcases List.mem_cons.mp h with e | h
    · cases e
      refine clos_acc r _ ⟨(cells.lookup y).getD 0, ?_⟩
      simp
    · exact clos_has r _ h
theorem clos_eq {scope : Scope} {env : Env} (h : ∀ z ∈ scope.names, z.2 = .free → ∃ c, env.cells.lookup z.1 = some c) : closureFor scope env = pure (closOf env.cells scope.names []) := by
  have gen : ∀ (names : List (Str × NameKind)) (acc : List (Str × Addr)), (∀ z ∈ names, z.2 = .free → ∃ c, env.cells.lookup z.1 = some c) →
      (forIn names acc fun (x : Str × NameKind) (r : List (Str × Addr)) => (if (x.2 == NameKind.free) = true then (do let a ← cellOf env x.1; pure (ForInStep.yield ((x.1, a) :: r))) else pure (ForInStep.yield r) : Sem (ForInStep (List (Str × Addr))))) = (pure (closOf env.cells names acc) : Sem (List (Str × Addr))) := by
    intro names
    induction names with
    | nil => intro acc _; rfl
    | cons z r ih =>
      intro acc hz
      obtain ⟨n, k⟩ := z
      rw [List.forIn_cons]
      unfold closOf
      by_cases hk : (k == NameKind.free) = true
      · obtain ⟨c, e⟩ := hz (n, k) List.mem_cons_self (by simpa using hk)
        have e' : env.cells.lookup n = some c := e
        simp only [hk, if_true, cellOf, e', pure_bind, Option.getD_some]
        exact ih _ fun z hm => hz z (List.mem_cons_of_mem _ hm)
      · simp only [hk, Bool.false_eq_true, if_false, pure_bind]
        exact ih _ fun z hm => hz z (List.mem_cons_of_mem _ hm)
  have g := gen scope.names [] h
  unfold closureFor
  refine Eq.trans ?_ (congrArg (fun (m : Sem (List (Str × Addr))) => m >>= fun cs => pure cs) g)
  rfl
theorem relabel_lookup (scope : Scope) (env : Env) (y : Str) : (relabel scope env).names.lookup y = (scope.names.lookup y).map fun k => if (k == NameKind.free && env.scope.kind == .function && env.kindOf y == some .cell) = true then NameKind.cell else k := by
  unfold relabel
  show List.lookup y (scope.names.map fun (n, k) => if (k == NameKind.free && env.scope.kind == .function && env.kindOf n == some .cell) = true then (n, NameKind.cell) else (n, k)) = _
  induction scope.names with
  | nil => rfl
  | cons z r ih =>
    obtain ⟨n, k⟩ := z
    rw [List.map_cons]
    by_cases hy : (y == n) = true
    · have e : y = n := by simpa using hy
      subst e
      by_cases hc : (k == NameKind.free && env.scope.kind == .function && env.kindOf y == some .cell) = true
      · simp only [hc, if_true, List.lookup_cons, beq_self_eq_true, Option.map_some]
      · simp only [hc, if_false, List.lookup_cons, beq_self_eq_true, Option.map_some, Bool.false_eq_true]
    · have hy' : (y == n) = false := by simpa using hy
      by_cases hc : (k == NameKind.free && env.scope.kind == .function && env.kindOf n == some .cell) = true
      · simp only [hc, if_true, List.lookup_cons, hy']
        exact ih
      · simp only [hc, if_false, List.lookup_cons, hy', Bool.false_eq_true]
        exact ih
theorem lookup_mem {κ : Type} : ∀ {l : List (Str × κ)} {y : Str} {k : κ}, l.lookup y = some k → (y, k) ∈ l := fun h => PySem.mem_of_lookup h

noncomputable abbrev cxComp (X : Cx) (N' : List Str) (scope : Scope) (cl : List (Str × Addr)) (C : Addr) (s : Shared) (H : Hp) (fp : List Addr) : Cx :=
  { X with env := compEnvC scope cl C X.env, N := N', s₀ := s, H₀ := H, outer := X.stack, stack := X.stack, ex := fp, fn := fun _ => false, xe := fun _ _ => False }

noncomputable abbrev tstF (cds : List Expr) (env : Env) : Sem Bool := forIn cds true fun c r => if r = true then do let ok ← isTrue c env (eval c env); pure (ForInStep.yield ok) else pure (ForInStep.yield r)
noncomputable def PTL (X : Cx) (cds : List Expr) (t : TT) : Prop :=
  ∀ (pins : List (Addr × Obj)) (s : Shared) (σ : St) (H : Hp) (Q : Bool → Hp → Prop), Inv X pins σ H s → t σ H Q → wpAny (model X.prog X.w) X.A (tstF cds X.env) (TP X pins σ Q) X.xe s
theorem ptl_nil {X : Cx} : PTL X [] (fun _ H k => k true H) := fun pins s σ H Q I q => wpAny_tests_nil ⟨H, I, q⟩
theorem ptl_one {X : Cx} {cd : Expr} {tc : TT} (h : PT X cd tc) : PTL X [cd] tc := fun pins s σ H Q I q => wpAny_tests_one (h pins s σ H Q I q)
theorem codeAny_compLoop_ts {prog : Program} {w : World} {A : Around} {R : Result → Shared → Prop} {s : Shared} {elt target iter : Expr} {cds : List Expr} {scope : Scope} {pos : Pos} {it acc : Value} {env : Env} (I : Nat → Shared → Prop)
    (turn : ∀ n s, I n s → wpAny (model prog w) A (pyNext it) (fun r s₁ => match r with
      | none => R (.ok .next) s₁
      | some v => wpAny (model prog w) A (letOwnedTupleGo target it v) (fun _ s₁' => wpAny (model prog w) A (assign target env v) (fun _ s₂ => wpAny (model prog w) A (tstF cds env) (fun ok s₂' =>
          if ok = true then wpAny (model prog w) A (eval elt env) (fun x s₃ =>
            wpAny (model prog w) A (call (.builtin "list.append") [acc, x]) (fun _ s₄ => ∃ m, m < n ∧ I m s₄) (fun _ _ => False) s₃) (fun _ _ => False) s₂'
          else ∃ m, m < n ∧ I m s₂') (fun _ _ => False) s₂) (fun _ _ => False) s₁') (fun _ _ => False) s₁) (fun _ _ => False) s)
    (n : Nat) (h : I n s) :
    codeAny (model prog w) A (.compLoop (.ListComp elt [⟨target, iter, cds, 0⟩] scope pos) 0 it acc env) R s := by
  refine codeAny_loop rfl I (fun n s hI => ?_) n h
  show wpAny _ A ((compTurn (.ListComp elt [⟨target, iter, cds, 0⟩] scope pos) 0 it acc env).onRaise (fun x => do noteFrame x env; theTreesLotGoes x)) _ _ s
  refine wpAny_noted ?_
  rw [compTurn_list]
  refine wpAny_bind (wpAny_standAt (wpAny_bind (wpAny_mono (turn n s hI) (fun r s₁ h₁ => ?_) fun _ _ h' => h'.elim)))
  cases r with
  | none => exact wpAny_pure h₁
  | some v =>
    refine wpAny_bind (wpAny_mono h₁ (fun _ s₀ h₀ => ?_) fun _ _ h' => h'.elim)
    refine wpAny_bind (wpAny_mono h₀ (fun _ s₂ h₂ => ?_) fun _ _ h' => h'.elim)
    refine wpAny_bind ((wpAny_mono h₂ (fun ok s₃ h₃ => ?_) fun _ _ h' => h'.elim))
    cases ok with
    | false => exact wpAny_pure ⟨rfl, by simpa using h₃⟩
    | true =>
      have h₃' := h₃
      simp only [if_true] at h₃'
      exact wpAny_bind (wpAny_bind (wpAny_mono h₃' (fun x s₄ h₄ => wpAny_bind (wpAny_mono h₄ (fun _ s₅ h₅ => wpAny_pure (wpAny_pure ⟨rfl, h₅⟩)) fun _ _ h' => h'.elim)) fun _ _ h' => h'.elim))
noncomputable def compAt (te : TE) (σ : St) (Q : VK) (J : It) (H1 : Hp) : Prop := ∀ D, H1 D = none → ∃ W : Nat → Nat → List V → Hp → Prop, (∃ m, W 0 m [] (upd H1 D (.lst []))) ∧ ∀ i m ys H2, W i m ys H2 →
  (J.stop i H2 ∧ Q (.ref D) H2) ∨ (J.go i H2 ∧ ys.length < sizeLine ∧ ∃ N : V → Hp → Prop, (∀ v H', N v H' → H' D = some (.lst ys) ∧ ∃ m', m' < m ∧ W (i + 1) m' (ys ++ [v]) (upd H' D (.lst (ys ++ [v])))) ∧
    ∀ y H', J.yld i H2 y H' → te (some y :: σ) H' N)
noncomputable def tComp (wi : TI) (te : TE) : TE := fun σ H Q => wi σ H (compAt te σ Q)

noncomputable def compAtF (tc : TT) (te : TE) (σ : St) (Q : VK) (J : It) (H1 : Hp) : Prop := ∀ D, H1 D = none → ∃ W : Nat → Nat → List V → Hp → Prop, (∃ m, W 0 m [] (upd H1 D (.lst []))) ∧ ∀ i m ys H2, W i m ys H2 →
  (J.stop i H2 ∧ Q (.ref D) H2) ∨ (J.go i H2 ∧ ys.length < sizeLine ∧ ∃ N : V → Hp → Prop, (∀ v H', N v H' → H' D = some (.lst ys) ∧ ∃ m', m' < m ∧ W (i + 1) m' (ys ++ [v]) (upd H' D (.lst (ys ++ [v])))) ∧
    ∃ Nn : Hp → Prop, (∀ H', Nn H' → ∃ m', m' < m ∧ W (i + 1) m' ys H') ∧
    ∀ y H', J.yld i H2 y H' → tc (some y :: σ) H' fun b H'' => if b = true then te (some y :: σ) H'' N else Nn H'')
noncomputable def tCompF (wi : TI) (tc : TT) (te : TE) : TE := fun σ H Q => wi σ H (compAtF tc te σ Q)

section
variable {X : Cx} {N' : List Str} {scope : Scope} {x : Str} {px : Pos} {elt iter : Expr} {cds : List Expr} {pos : Pos} {te : TE} {tc : TT} {wi : TI}

theorem compx_core (S : CompSc X.N N' X.env.scope scope x) (hc : X.calm = true) (ht : ∀ cl C s H fp, PTL (cxComp X N' scope cl C s H fp) cds tc) (he : ∀ cl C s H fp, PE (cxComp X N' scope cl C s H fp) elt te)
    {pins : List (Addr × Obj)} {σ : St} {H : Hp} {s : Shared} {Q : VK} {E : Value → Shared → Prop} {RR : Value → Addr → Result → Shared → Prop} {it : Addr} {fp : List Addr} {tn : Nat → Heap → Prop} {J : It}
    (I : Inv X pins σ H s) (T : Turn X.prog X.w X.K (.Name x px) J fp it tn) (st : tn 0 s.heap) (f2 : ∀ b ∈ fp, FpOk X pins H b)
    (hw : compAtF tc te σ Q J H)
    (hRR : ∀ D C s' H', Inv X pins σ H' s' → (∃ m, s'.heap.Ns C m) → C ≠ X.env.locals → (∀ y c, X.env.cells.lookup y = some c → c ≠ C) → H' C = none → X.s₀.heap.objs.size ≤ C → (∀ p ∈ X.pn ++ pins, p.1 ≠ C) → Q (.ref D) H' → RR (.ref D) C (.ok .next) s') :
    ∃ cl, closureFor scope X.env = pure cl ∧ wpAny (model X.prog X.w) X.A (newList []) (fun acc s₃ => wpAny (model X.prog X.w) X.A (newFunctionEnv scope X.env.globals cl [] X.env.qual none .none (some X.env)) (fun cenv s₄ =>
      codeAny (model X.prog X.w) X.A (.compStart (.ListComp elt [⟨.Name x px, iter, cds, 0⟩] scope pos) 0 (.ref it) acc { cenv with scope := relabel scope X.env }) (RR acc cenv.locals) s₄) E s₃) E s := by
  have hfree : ∀ z ∈ scope.names, z.2 = .free → ∃ c, X.env.cells.lookup z.1 = some c := fun z hz hk => by
    rcases S.ok z hz hk with q | q
    · exact I.ok.has z.1 (.inl q)
    · exact I.ok.has z.1 (.inr q)
  refine ⟨_, clos_eq hfree, ?_⟩
  have clS : ∀ y c, (closOf X.env.cells scope.names []).lookup y = some c → X.env.cells.lookup y = some c := fun y c => clos_sound scope.names [] hfree fun q => by cases q
  generalize hcl : closOf X.env.cells scope.names [] = cl at clS
  have clH : ∀ y, scope.names.lookup y = some .free → ∃ c, cl.lookup y = some c := fun y hy => by
    rw [← hcl]
    exact clos_has scope.names [] (lookup_mem hy)
  refine wpAny_newObj_type (wpAny_newFunctionEnv S.cell (by intro y hy; simp at hy) (fun h₁ hns₁ hsb₁ => ?_) S.kind)
  have I3 : Inv X pins σ (upd H s.heap.objs.size (.lst [])) { s with heap := s.heap.push { cls := .type "list", data := .seq ([] : List Value).toArray } } := I.lnew (t' := s.toks) .nil (Nat.zero_le _)
  obtain ⟨W, ⟨m0, w0⟩, turn⟩ := hw s.heap.objs.size I.fresh
  dsimp only at hns₁ hsb₁ ⊢
  generalize hs3 : ({ s with heap := s.heap.push { cls := .type "list", data := .seq ([] : List Value).toArray } } : Shared) = s3 at I3
  have hh3 : s3.heap = s.heap.push { cls := .type "list", data := .seq ([] : List Value).toArray } := by rw [← hs3]
  have hsz3 : s3.heap.objs.size = s.heap.objs.size + 1 := by rw [hh3, Heap.size_push]
  rw [← hh3] at hns₁ hsb₁ ⊢
  have old : ∀ b o, s3.heap.get? b = some o → h₁.get? b = some o := fun b o e => hsb₁.extBut b o (by have := Heap.lt_size e; exact Nat.ne_of_lt this) (Heap.get?_push_of_some _ e)
  have old0 : ∀ b o, s.heap.get? b = some o → h₁.get? b = some o := fun b o e => old b o (by rw [hh3]; exact Heap.get?_push_of_some _ e)
  have CneL : s3.heap.objs.size ≠ X.env.locals := Nat.ne_of_gt I3.lt
  have CneC : ∀ y c, X.env.cells.lookup y = some c → c ≠ s3.heap.objs.size := fun y c e z => by
    obtain ⟨v, q⟩ := I3.cell y c e
    have := q.lt
    rw [z] at this
    exact absurd this (Nat.lt_irrefl _)
  have CneP : ∀ p ∈ X.pn ++ pins, p.1 ≠ s3.heap.objs.size := fun p hp z => by
    have := Heap.lt_size (I3.pin p hp).1
    rw [z] at this
    exact absurd this (Nat.lt_irrefl _)
  have CfreeH : ∀ b o, s3.heap.get? b = some o → b < s3.heap.objs.size := fun b o e => by have := Heap.lt_size e; exact this
  have fpLt : ∀ b ∈ fp, b < s3.heap.objs.size := fun b hb => by
    obtain ⟨o, e, _⟩ := T.obj 0 s.heap st b hb
    rw [hsz3]
    exact Nat.lt_succ_of_lt (Heap.lt_size e)
  have fpD : ∀ b ∈ fp, b ≠ s.heap.objs.size := fun b hb => by
    obtain ⟨o, e, _⟩ := T.obj 0 s.heap st b hb
    exact Nat.ne_of_lt (Heap.lt_size e)

  have ok' : (cxComp X N' scope cl s3.heap.objs.size s3 (upd H s.heap.objs.size (.lst [])) fp).Ok := by
    refine ⟨I3.ok.mod, ?_, I3.ok.glob, I3.ok.blt, Nat.le_refl _, fun y z c h1 h2 => I3.ok.inj y z c (clS y c h1) (clS z c h2), fun y hy => ?_, fun y c hf => (by cases hf), I3.ok.hd, I3.ok.frames, .inl rfl, fun b hb => ⟨Nat.ne_of_lt (fpLt b hb), fun y c e => (f2 b hb).2.2.2.2.1 y c (clS y c e)⟩,
      fun b o e => I3.bs b o e, Nat.le_trans I3.ok.bsz I3.sz, fun b o e hb => ?_, fun b hb z => ?_, I3.stack, I3.stkFree⟩
    · show (relabel scope X.env).kind = .function
      exact S.kind
    · have hy' : (relabel scope X.env).names.lookup y = some .cell ∨ (relabel scope X.env).names.lookup y = some .free := hy
      rw [relabel_lookup] at hy'
      cases q : scope.names.lookup y with
      | none => rw [q] at hy'; rcases hy' with z | z <;> cases z
      | some k =>
        have hm := lookup_mem q
        cases k with
        | free => exact clH y q
        | cell => exact absurd rfl (S.cell _ hm)
        | «local» => rw [q] at hy'; rcases hy' with z | z <;> simp at z
        | globalExplicit => rw [q] at hy'; rcases hy' with z | z <;> simp at z
        | globalImplicit => rw [q] at hy'; rcases hy' with z | z <;> simp at z
    · rcases (f2 b hb).2.2.2.1 with z | z
      · exact I.ok.noex b o e z
      · exact absurd (Nat.lt_of_lt_of_le (Heap.lt_size e) (Nat.le_trans I.ok.bsz z)) (Nat.lt_irrefl _)
    · rcases List.mem_cons.mp (I3.stkSub b z) with q | q
      · exact (f2 b hb).2.1 q
      · exact (f2 b hb).2.2.1 q
  have fpOk' : ∀ {H' : Hp}, (∀ b ∈ fp, H' b = none) → ∀ b ∈ fp, FpOk (cxComp X N' scope cl s3.heap.objs.size s3 (upd H s.heap.objs.size (.lst [])) fp) pins H' b := fun hn b hb =>
    ⟨hn b hb, Nat.ne_of_lt (fpLt b hb), fun z => by
      rcases List.mem_cons.mp (I3.stkSub b z) with q | q
      · exact (f2 b hb).2.1 q
      · exact (f2 b hb).2.2.1 q, .inl hb, fun y c e => (f2 b hb).2.2.2.2.1 y c (clS y c e), (f2 b hb).2.2.2.2.2⟩
  have I4 : Inv (cxComp X N' scope cl s3.heap.objs.size s3 (upd H s.heap.objs.size (.lst [])) fp) pins (none :: σ) (upd H s.heap.objs.size (.lst [])) { s3 with heap := h₁, toks := s3.toks + ([] : List (Str × Value)).length } := by
    refine ⟨ok', rfl, I3.bare, Un.kept old, ⟨_, hns₁, fun i y v e1 e2 vis => ?_⟩, fun y c e => ?_, ?_, fun y c e => I3.freeC y c (clS y c e), fun p hp => ?_, I3.hok.kept old, ?_⟩
    · cases i with
      | zero => cases e2
      | succ i =>
        have e2' : σ[i]? = some (some v) := by simpa using e2
        have hi : i < X.N.length := by rw [← I3.len]; exact (List.getElem?_eq_some_iff.mp e2').1
        have vis' : (relabel scope X.env).names.lookup y = some .local ∨ (relabel scope X.env).names.lookup y = some .cell ∨ (relabel scope X.env).names.lookup y = some .free := vis
        have e1' : N'[i + 1]? = some y := e1
        rcases S.sub i hi with q | q
        · rw [e1'] at q
          have hy : X.N[i]? = some y := q.symm
          have hmem : y ∈ N'.tail := by
            rw [List.mem_iff_getElem?]
            exact ⟨i, by rw [List.getElem?_tail]; exact e1'⟩
          have hfr : scope.names.lookup y = some .free := by
            rw [relabel_lookup] at vis'
            cases q2 : scope.names.lookup y with
            | none => rw [q2] at vis'; rcases vis' with z | z | z <;> cases z
            | some k =>
              cases k with
              | free => rfl
              | cell => exact absurd rfl (S.cell _ (lookup_mem q2))
              | «local» => exact absurd q2 (S.nol y hmem)
              | globalExplicit => rw [q2] at vis'; rcases vis' with z | z | z <;> simp at z
              | globalImplicit => rw [q2] at vis'; rcases vis' with z | z | z <;> simp at z
          have hok := S.ok (y, .free) (lookup_mem hfr) rfl
          obtain ⟨m, hn, hl⟩ := I3.loc
          have visX : Vis X.env.scope y := by
            rcases hok with z | z
            · exact .inr (.inl z)
            · exact .inr (.inr z)
          obtain ⟨u, r, l⟩ := hl i y v hy e2' visX
          refine ⟨u, r, .inr ⟨?_, ?_⟩⟩
          · show (relabel scope X.env).names.lookup y = some .cell ∨ (relabel scope X.env).names.lookup y = some .free
            rw [relabel_lookup, hfr, Option.map_some]
            by_cases hcnd : (NameKind.free == NameKind.free && X.env.scope.kind == .function && X.env.kindOf y == some .cell) = true
            · left
              rw [if_pos hcnd]
            · right
              rw [if_neg hcnd]
          · rcases l with ⟨k, _⟩ | ⟨k, c, e, z⟩
            · have k' : X.env.scope.names.lookup y = some .local := k
              have hok' : X.env.scope.names.lookup y = some .cell ∨ X.env.scope.names.lookup y = some .free := hok
              rw [k'] at hok'
              rcases hok' with z | z <;> cases z
            · obtain ⟨c', e'⟩ := clH y hfr
              have e3 := clS y c' e'
              rw [e] at e3
              cases e3
              obtain ⟨o, ho, hd⟩ := z
              exact ⟨c, e', o, old c o ho, hd⟩
        · rw [e1'] at q
          have q : scope.names.lookup y = none := Option.some.inj q
          rw [relabel_lookup, q] at vis'
          rcases vis' with z | z | z <;> cases z
    · obtain ⟨v, o, ho, hd⟩ := I3.cell y c (clS y c e)
      exact ⟨v, o, old c o ho, hd⟩
    · show upd H s.heap.objs.size (.lst []) s3.heap.objs.size = none
      exact I3.hok.fresh (Nat.le_refl _)
    · obtain ⟨e, n, ne, nf, d⟩ := I3.pin p hp
      refine ⟨old _ _ e, n, CneP p hp, fun z => ?_, d⟩
      rcases List.mem_cons.mp (I3.stkSub p.1 z) with q | q
      · exact ne q
      · exact nf q
    · show (none :: σ).length = N'.length
      rw [S.len, List.length_cons, I3.len]
  have st4 : tn 0 h₁ := T.keep 0 s.heap h₁ st fun b _ o e => old0 b o e

  have loop : ∀ s₄ : Shared, s₄ = { s3 with heap := h₁, toks := s3.toks + ([] : List (Str × Value)).length } →
      codeAny (model X.prog X.w) X.A (.compLoop (.ListComp elt [⟨.Name x px, iter, cds, 0⟩] scope pos) 0 (.ref it) (.ref s.heap.objs.size) (compEnvC scope cl s3.heap.objs.size X.env)) (RR (.ref s.heap.objs.size) s3.heap.objs.size) s₄ := by
    rintro s₄ rfl
    refine codeAny_compLoop_ts (fun n s' => ∃ i v0 ys H', Inv (cxComp X N' scope cl s3.heap.objs.size s3 (upd H s.heap.objs.size (.lst [])) fp) pins (v0 :: σ) H' s' ∧ tn i s'.heap ∧ (∀ b ∈ fp, H' b = none) ∧ W i n ys H') ?_ m0
      ⟨0, none, [], _, I4, st4, fun b hb => by rw [upd_ne (fpD b hb)]; exact (f2 b hb).1, w0⟩
    rintro n s5 ⟨i, v0, ys, H5, I5, st5, fr5, w5⟩
    rcases turn i n ys H5 w5 with ⟨stop, qn⟩ | ⟨go, hz, N, hN, Nn, hNn, step⟩
    · refine thn (T.done (cxComp X N' scope cl s3.heap.objs.size s3 (upd H s.heap.objs.size (.lst [])) fp) rfl rfl rfl hc i pins s5 (v0 :: σ) H5 (fun _ _ => False) I5 (fpOk' fr5) st5 stop) fun r s6 ⟨hr, I6⟩ => ?_
      subst hr
      have hch : ∀ b ∈ fp, (b ∈ X.ex ∨ X.s₀.heap.objs.size ≤ b) ∧ b ≠ X.env.locals ∧ (∀ x c, X.env.cells.lookup x = some c → c ≠ b) ∧ ∀ p ∈ X.pn ++ pins, p.1 ≠ b := fun b hb =>
        ⟨(f2 b hb).2.2.2.1, (f2 b hb).2.1, (f2 b hb).2.2.2.2.1, (f2 b hb).2.2.2.2.2⟩
      have I7 : Inv X pins σ H5 s6 := I3.call' (ch := fp) I6.os I6.base I6.hok I6.bare hch
      obtain ⟨m, hm, _⟩ := I6.loc
      exact hRR s.heap.objs.size s3.heap.objs.size s6 H5 I7 ⟨m, hm⟩ CneL CneC I6.free (Nat.le_trans I3.sz (Nat.le_refl _)) CneP qn
    · refine thn (T.item (cxComp X N' scope cl s3.heap.objs.size s3 (upd H s.heap.objs.size (.lst [])) fp) rfl rfl rfl hc i pins s5 (v0 :: σ) H5 (fun _ _ => False) I5 (fpOk' fr5) st5 go) fun r s6 ⟨u, hr, h6⟩ => ?_
      subst hr
      refine thn h6 fun _ s7 ⟨y, H7, I7, r7, y7, st7, fr7⟩ => ?_
      have I7' := I7.pinned (fpOk' fr7) (T.obj _ _ st7)
      refine wpAny_assign_Name (store_ok (i := 0) (v := y) I7' S.nd S.hd (.inl (lookup_relabel_local S.var)) r7 (fun s8 I8 => ?_) (.inr (lookup_relabel_local S.var)))
      have I8' : Inv (cxComp X N' scope cl s3.heap.objs.size s3 (upd H s.heap.objs.size (.lst [])) fp) (pins ++ pinsAt fp s7.heap) (some y :: σ) H7 s8 := I8
      refine thn (ht cl s3.heap.objs.size s3 (upd H s.heap.objs.size (.lst [])) fp _ s8 (some y :: σ) H7 (fun b H'' => if b = true then te (some y :: σ) H'' N else Nn H'') I8' (step y H7 y7)) fun okb s8 ⟨H8, I8, q8⟩ => ?_
      cases okb with
      | false =>
        have q8' : Nn H8 := by simpa using q8
        obtain ⟨m', hm, w9⟩ := hNn H8 q8'
        refine ⟨m', hm, i + 1, some y, ys, _, I8.unpinned, T.keep _ _ _ st7 fun b hb o e => (I8.pin (b, o) (List.mem_append_right _ (List.mem_append_right _ (mem_pinsAt hb e)))).1, fun b hb => ?_, w9⟩
        obtain ⟨o, e, d⟩ := T.obj _ _ st7 b hb
        exact (I8.pin (b, o) (List.mem_append_right _ (List.mem_append_right _ (mem_pinsAt hb e)))).2.1
      | true =>
        refine thn (he cl s3.heap.objs.size s3 (upd H s.heap.objs.size (.lst [])) fp _ s8 (some y :: σ) H8 N I8 (by simpa using q8)) fun w s9 ⟨v, H9, I9, r9, q9⟩ => ?_
        obtain ⟨hD9, m', hm, w9⟩ := hN v H9 q9
        refine thn (mt_append _ s9 (some y :: σ) H9 (.ref s.heap.objs.size) [v] (.ref s.heap.objs.size) [w] (fun z H10 => z = .non ∧ H10 = upd H9 s.heap.objs.size (.lst (ys ++ [v]))) I9 rfl (.cons r9 .nil) ⟨s.heap.objs.size, ys, v, rfl, rfl, hD9, hz, rfl, rfl⟩) fun _ s10 ⟨z, H10, I10, _, ez, e10⟩ => ?_
        subst e10
        refine ⟨m', hm, i + 1, some y, ys ++ [v], _, I10.unpinned, T.keep _ _ _ st7 fun b hb o e => (I10.pin (b, o) (List.mem_append_right _ (List.mem_append_right _ (mem_pinsAt hb e)))).1, fun b hb => ?_, w9⟩
        obtain ⟨o, e, d⟩ := T.obj _ _ st7 b hb
        exact (I10.pin (b, o) (List.mem_append_right _ (List.mem_append_right _ (mem_pinsAt hb e)))).2.1
  exact codeAny_compStart_list (loop _ (by rw [← hs3])) (T.self X.A 0 _ _ _ st4 (loop _ (by rw [← hs3])))
theorem compAt.toF {te : TE} {σ : St} {Q : VK} {J : It} {H : Hp} (hw : compAt te σ Q J H) : compAtF (fun _ H k => k true H) te σ Q J H := fun D hD => by
  obtain ⟨W, h0, hW⟩ := hw D hD
  refine ⟨W, h0, fun i m ys H2 hw2 => ?_⟩
  rcases hW i m ys H2 hw2 with g | ⟨g1, g2, N, g3, g4⟩
  · exact .inl g
  · exact .inr ⟨g1, g2, N, g3, fun _ => False, fun _ z => z.elim, fun y H' hy => iteT (g4 y H' hy)⟩
theorem pe_compx {at' : St → VK → It → Hp → Prop} (S : CompSc X.N N' X.env.scope scope x) (hc : X.calm = true) (hi : PI X (.Name x px) iter wi) (ht : ∀ cl C s H fp, PTL (cxComp X N' scope cl C s H fp) cds tc) (he : ∀ cl C s H fp, PE (cxComp X N' scope cl C s H fp) elt te) (cv : ∀ σ Q J H, at' σ Q J H → compAtF tc te σ Q J H)
    (hs : ∀ x, foldedSetIterable iter X.env x = pure x := by intro _; rfl) : PE X (.ListComp elt [⟨.Name x px, iter, cds, 0⟩] scope pos) (fun σ H Q => wi σ H (at' σ Q)) := by
  intro pins s σ H Q I h
  rw [eval_ListComp]
  have hfree : ∀ z ∈ scope.names, z.2 = .free → ∃ c, X.env.cells.lookup z.1 = some c := fun z hz hk => by
    rcases S.ok z hz hk with q | q
    · exact I.ok.has z.1 (.inl q)
    · exact I.ok.has z.1 (.inr q)
  refine wpAny_comprehension_free (use := none) rfl hs (clos_eq hfree) S.kind S.names (thn (hi pins s σ H _ I h) fun xv s1 h1 => thn h1 fun itv s2 h2 => ?_)
  obtain ⟨it, fp, tn, J, H2, e, I2, T, st2, f2, hw⟩ := h2
  subst e
  obtain ⟨cl, hcl, hrun⟩ := compx_core (tc := tc) (cds := cds) (elt := elt) (iter := iter) (pos := pos) (px := px) (E := X.xe) (RR := fun acc C => compPost (model X.prog X.w) X.A X.xe none (EP X pins σ Q) acc C) S hc ht he I2 T st2 f2 (cv _ _ _ _ hw) (fun D C s' H' I' ⟨m, hm⟩ n1 n2 n3 n4 n5 q =>
    ⟨m, hm, fun h' hsb => ⟨.ref D, H', I'.turned (it := C) (t' := s'.toks) (fun b o hb e => (hsb.2 b hb).trans e) n3 n1 (.inr n4) n2 n5, rfl, q⟩⟩)
  have ecl : (pure (closOf X.env.cells scope.names []) : Sem (List (Str × Addr))) = pure cl := (clos_eq hfree).symm.trans hcl
  have ecl' : closOf X.env.cells scope.names [] = cl := by
    injection ecl
  rw [ecl']
  exact hrun
theorem ps_setCompx {at' : St → VK → It → Hp → Prop} {i : Nat} {y : Str} {py spos : Pos} (S : CompSc X.N N' X.env.scope scope x) (hc : X.calm = true) (hi : PI X (.Name x px) iter wi) (ht : ∀ cl C s H fp, PTL (cxComp X N' scope cl C s H fp) cds tc) (he : ∀ cl C s H fp, PE (cxComp X N' scope cl C s H fp) elt te) (cv : ∀ σ Q J H, at' σ Q J H → compAtF tc te σ Q J H)
    (hN : X.N.Nodup) (hy : X.N[i]? = some y) (hyl : X.env.scope.names.lookup y = some .local)
    (hsw : swapsWith (.ListComp elt [⟨.Name x px, iter, cds, 0⟩] scope pos) (some (.Name y py)) spos.line X.env = pure true := by rfl)
    (hs : ∀ x, foldedSetIterable iter X.env x = pure x := by intro _; rfl) : PS X (.Assign [.Name y py] (.ListComp elt [⟨.Name x px, iter, cds, 0⟩] scope pos) spos) (tAsg (fun σ H Q => wi σ H (at' σ Q)) (gName i)) := by
  intro pins s σ H D0 I h
  have hfree : ∀ z ∈ scope.names, z.2 = .free → ∃ c, X.env.cells.lookup z.1 = some c := fun z hz hk => by
    rcases S.ok z hz hk with q | q
    · exact I.ok.has z.1 (.inl q)
    · exact I.ok.has z.1 (.inr q)
  rw [exec_Assign_Name_used _ _ _ _ hsw]
  refine wpAny_bind (wpAny_standAt (wpAny_bind ?_))
  show wpAny _ X.A (do let _ ← comprehension (.ListComp elt [⟨.Name x px, iter, cds, 0⟩] scope pos) scope X.env _ (newList []) false (eval iter X.env) (some (assign (.Name y py) X.env))) _ _ s
  refine wpAny_bind (wpAny_mono (wpAny_comprehension_free (use := some (assign (.Name y py) X.env)) (Q := fun _ s' => SP X pins D0 .next s') rfl hs (clos_eq hfree) S.kind S.names
    (thn (hi pins s σ H _ I h) fun xv s1 h1 => thn h1 fun itv s2 h2 => ?_)) (fun _ s' hq => wpAny_pure (wpAny_pure hq)) fun _ _ e => e)
  obtain ⟨it, fp, tn, J, H2, e, I2, T, st2, f2, hw⟩ := h2
  subst e
  obtain ⟨cl, hcl, hrun⟩ := compx_core (tc := tc) (cds := cds) (elt := elt) (iter := iter) (pos := pos) (px := px) (E := X.xe) (Q := fun x H1 => gName i x σ H1 D0.nx) (RR := fun acc C => compPost (model X.prog X.w) X.A X.xe (some (assign (.Name y py) X.env)) (fun _ s' => SP X pins D0 .next s') acc C) S hc ht he I2 T st2 f2 (cv _ _ _ _ hw) (fun D C s' H' I' ⟨m, hm⟩ n1 n2 n3 n4 n5 q => by
    show wpAny _ X.A (assign (.Name y py) X.env (.ref D)) _ _ _
    refine wpAny_assign_Name (store_ok2 (i := i) (v := .ref D) I' hN hy (.inl hyl) rfl (fun s'' I'' ⟨a, hsa, hwa⟩ => ?_) (.inr hyl))
    have haC : C ≠ a := by
      rcases hwa with z | z
      · rw [z]; exact n1
      · intro z2
        exact n2 y a z z2.symm
    refine ⟨m, hm.sameBut hsa haC, fun h' hsb => ?_⟩
    exact ⟨_, H', I''.turned (it := C) (t' := s''.toks) (fun b o hb e => (hsb.2 b hb).trans e) n3 n1 (.inr n4) n2 n5, q⟩)
  have ecl : (pure (closOf X.env.cells scope.names []) : Sem (List (Str × Addr))) = pure cl := (clos_eq hfree).symm.trans hcl
  have ecl' : closOf X.env.cells scope.names [] = cl := by
    injection ecl
  rw [ecl']
  exact hrun
theorem pe_comp (S : CompSc X.N N' X.env.scope scope x) (hc : X.calm = true) (hi : PI X (.Name x px) iter wi) (he : ∀ cl C s H fp, PE (cxComp X N' scope cl C s H fp) elt te)
    (hs : ∀ x, foldedSetIterable iter X.env x = pure x := by intro _; rfl) : PE X (.ListComp elt [⟨.Name x px, iter, [], 0⟩] scope pos) (tComp wi te) :=
  pe_compx (at' := fun σ Q => compAt te σ Q) S hc hi (fun _ _ _ _ _ => ptl_nil) he (fun _ _ _ _ h => h.toF) hs
end

end L2

set_option Elab.async false
set_option linter.all false
set_option maxRecDepth 100000
set_option maxHeartbeats 4000000

namespace L2
open PySem PySem.Spec PyProof.Rows

set_option genInjectivity false in
structure Cal (P : Program) (w : World) (K : PySem.W.Frag) (mg : Str → Option Value) (base : Heap) (CX : CXT) (x : Str) (k : Nat) (ps : List Str) (sp : Sp) : Prop where
  ex : ∃ (f : Addr) (fd : FuncData), FnOk P w K mg base CX k f fd ps sp ∧ mg x = some (.ref f) ∧ PySem.W.keepIn K (.ref f) = true ∧ Binds K fd ps []
section
variable {X : Cx}
theorem pe_cal {CX : CXT} {x : Str} {j k : Nat} {ps : List Str} {sp : Sp} {E : XK} {e : Expr} {es : List Expr} {t : TA} {p pos : Pos} (c : Cal X.prog X.w X.K X.mg X.base CX x j ps sp) (hr : Room k X.A) (hx : Passes CX X E) (ha : PA X (e :: es) t)
    (hjk : j ≤ k := by decide) (hg : Gl X x := by rfl) (hdb : (x == ("__debug__" : Str)) = false := by decide) (he : starEach (e :: es) X.env = (false, eval e X.env) :: starEach es X.env := by rfl) (hpl : (backTo pos (starEach es X.env)).any (·.1) = false := by rfl) :
    PE X (.Call (.Name x p) (e :: es) [] pos) (tCall sp [] E t) := by
  obtain ⟨f, fd, F, hm, hk, hb⟩ := c.ex
  exact pe_call F (hr.mono hjk) hg hm hk hb .nil hx ha hdb he hpl

theorem pe_strT (l : List Nat) {x : Str} {j pos} (h : x = tx l) : PE X (.Constant (.str x) j pos) (tC (T l)) := by
  subst h
  exact pe_str
theorem call_len_T : CallR X (.builtin "len") (fun xs H Q => ∃ (l : List Nat), xs = [T l] ∧ l.length ≤ sizeLine ∧ Q (.int (l.length : Nat)) H) := by
  intro pins s σ H xs us Q I r h
  obtain ⟨l, e, hz, q⟩ := h
  exact call_len_str pins s σ H xs us Q I r ⟨tx l, e, by rw [tx_len]; exact hz, by rw [tx_len]; exact q⟩
theorem ix_T : IxR X (fun x y H Q => ∃ (l : List Nat), x = T l ∧ ∃ (i : Int), y = .int i ∧ l.length ≤ sizeLine ∧ ∃ c, atI l i = some c ∧ Q (T [c]) H) := by
  intro value slice pins s σ H x y v u Q I rx ry h hs
  obtain ⟨l, e1, i, e2, hz, c, hc, q⟩ := h
  exact ix_str value slice pins s σ H x y v u Q I rx ry ⟨tx l, i, c, e1, e2, by rw [tx_len]; exact hz, by rw [tx_cps]; exact hc, q⟩ hs

theorem call_isinst : CallR X (.builtin "isinstance") (fun xs H Q => ∃ (x : V) (c : String) (t : Value) (b : Bool), xs = [x, .ty c] ∧ TyOf X.K H x t ∧ PySem.W.kitOne X.K t (.type c) = some b ∧ Q (.bl b) H) := by
  intro pins s σ H xs us Q I r h
  obtain ⟨x, c, t, b, rfl, ty, e, q⟩ := h
  obtain ⟨u, w', rfl, ru, rw'⟩ := vals2 r
  cases (show w' = Value.type c from rw')
  exact isinst_ok I ru ty e fun tk => ⟨.bl b, H, I.tok tk, rfl, q⟩
theorem kit_same {K : PySem.W.Frag} (T : String) : PySem.W.kitOne K (.type T) (.type T) = some true := by
  unfold PySem.W.kitOne
  rw [if_pos (by simp)]
theorem op_catL : OpR X (binaryOp .Add) (fun x y H Q => ∃ (l b : Addr) (xs zs : List V), x = .ref l ∧ y = .ref b ∧ SqL X.K H l xs ∧ SqL X.K H b zs ∧ xs.length + zs.length ≤ sizeLine ∧ ∀ p, H p = none → Q (.ref p) (upd H p (.lst (xs ++ zs)))) := by
  intro pins s σ H x y v u Q I rx ry h
  obtain ⟨l, b, xs, zs, rfl, rfl, hH, hB, hz, q⟩ := h
  cases rx
  cases ry
  obtain ⟨its, r, ⟨⟨cls, dd, data, sl⟩, n, ho, hc, hdd, hd⟩, _⟩ := I.list hH
  obtain ⟨its2, r2, ⟨⟨cls2, dd2, data2, sl2⟩, n2, ho2, hc2, hdd2, hd2⟩, _⟩ := I.list hB
  simp only at hc hd hc2 hd2
  subst hc hd hc2 hd2
  have e : its.toArray ++ its2.toArray = (its ++ its2).toArray := by simp
  refine concat_meets ⟨_, ho, rfl⟩ ⟨_, ho2, rfl⟩ noFill_list_add seq_list_add PySem.F.slot_list_add PySem.F.entry_list_add (PySem.F.args_list_add_2 _ _) (list_addW l b its.toArray its2.toArray n n2 dd dd2 sl sl2 (by rw [List.size_toArray, List.size_toArray, ← r.length, ← r2.length]; exact hz)) ⟨ho, ho2, ?_⟩
  rw [e]
  exact ⟨.ref _, _, I.lnew (t' := s.toks) (r.append r2) (by rw [List.length_append]; exact hz), rfl, q _ I.fresh⟩

theorem all_flat (ls : List (List Nat)) : (ls.map T).all flatV = true := by
  rw [List.all_map, List.all_eq_true]
  intro l _
  rfl
theorem eqAt_T {ls ms : List (List Nat)} {us ws : List Value} (r : Vals (ls.map T) us) (r' : Vals (ms.map T) ws) {A : Around} {s : Shared} {j : Nat} {u w : Value} (hu : us[j]? = some u) (hw : ws[j]? = some w) : SeqAt.EqAt A s u w (decide (ls[j]? = ms[j]?)) := by
  have h1 : j < ls.length := by have := r.length; rw [List.length_map] at this; rw [this]; exact (List.getElem?_eq_some_iff.mp hu).1
  have h2 : j < ms.length := by have := r'.length; rw [List.length_map] at this; rw [this]; exact (List.getElem?_eq_some_iff.mp hw).1
  obtain ⟨u', e1, q1⟩ := r.get (i := j) (x := T ls[j]) (by rw [List.getElem?_map, List.getElem?_eq_getElem h1]; rfl)
  obtain ⟨w', e2, q2⟩ := r'.get (i := j) (x := T ms[j]) (by rw [List.getElem?_map, List.getElem?_eq_getElem h2]; rfl)
  rw [hu] at e1
  cases e1
  rw [hw] at e2
  cases e2
  have e := eqAt_V (A := A) (s := s) q1 q2 rfl rfl
  have ee : eqV (T ls[j]) (T ms[j]) = decide (ls[j]? = ms[j]?) := by
    show (tx ls[j] == tx ms[j]) = _
    rw [Bool.eq_iff_iff, beq_iff_eq, decide_eq_true_iff, List.getElem?_eq_getElem h1, List.getElem?_eq_getElem h2]
    exact ⟨fun h => by rw [tx_inj h], fun h => by rw [Option.some.inj h]⟩
  rw [ee] at e
  exact e
theorem all_range_eq {ls ms : List (List Nat)} (h : ls.length = ms.length) : (List.range ls.length).all (fun j => decide (ls[j]? = ms[j]?)) = decide (ls = ms) := by
  rw [Bool.eq_iff_iff, List.all_eq_true, decide_eq_true_iff]
  constructor
  · intro g
    apply List.ext_getElem?
    intro i
    by_cases hi : i < ls.length
    · exact of_decide_eq_true (g i (List.mem_range.mpr hi))
    · rw [List.getElem?_eq_none (by omega), List.getElem?_eq_none (by omega)]
  · intro g j _
    rw [g]
    exact decide_eq_true rfl
theorem op_eq_LT (hu : X.A.units < cLine) : OpR X (compareOp .Eq) (fun x y H Q => ∃ (p b : Addr) (ls ms : List (List Nat)), x = .ref p ∧ y = .ref b ∧ SqL X.K H p (ls.map T) ∧ SqL X.K H b (ms.map T) ∧ Q (.bl (decide (ls = ms))) H) := by
  intro pins s σ H x y v u Q I rx ry h
  obtain ⟨p, b, ls, ms, rfl, rfl, h1, h2, q⟩ := h
  cases rx
  cases ry
  obtain ⟨its, r, pl, _⟩ := I.list h1
  obtain ⟨its2, r2, pl2, _⟩ := I.list h2
  have l1 := r.length
  have l2 := r2.length
  rw [List.length_map] at l1 l2
  by_cases hl : ls.length = ms.length
  · refine SeqAt.eq_listAt (e := fun j => decide (ls[j]? = ms[j]?)) pl.isList pl2.isList (by rw [List.size_toArray, List.size_toArray]; omega) hu (fun j g1 g2 => eqAt_T r r2 (by simp) (by simp)) ?_
    rw [List.size_toArray, ← l1, all_range_eq hl]
    exact ⟨.bl _, H, I, rfl, q⟩
  · refine SeqAt.eq_list_lengthsAt pl.isList pl2.isList (by rw [List.size_toArray, List.size_toArray, bne_iff_ne]; omega) hu ?_
    have e : decide (ls = ms) = false := decide_eq_false fun z => hl (by rw [z])
    rw [e] at q
    exact ⟨.bl _, H, I, rfl, q⟩


end
end L2

set_option Elab.async false
set_option linter.all false
set_option maxRecDepth 100000
set_option maxHeartbeats 4000000

namespace L2
open PySem PySem.Spec PyProof.Rows

set_option genInjectivity false in
structure Fly (P : Program) (w : World) (outer : List Env) (H : Hp) (s : Shared) (a : Addr) (cls : Value) (H' : Hp) (s' : Shared) : Prop where
  os : s'.os = s.os
  bare : AllBare s'.gens
  ex : ∃ (B : Heap) (t : Addr), Heap.FlyingW B outer a cls (.ref t) s'.heap ∧ HOk P w H' B ∧ (∀ b o, s.heap.get? b = some o → H b = none → b ∉ frs outer → B.get? b = some o) ∧
    ∀ b o, s.heap.get? b = some o → b ∉ frs outer → ∃ o', B.get? b = some o'
  slot : ∀ b o, s.heap.get? b = some o → H b = none → b ∈ frs outer → ∃ sl, s'.heap.get? b = some { o with slots := sl }
  free : ∀ b o, s.heap.get? b = some o → H b = none → H' b = none
  tups : ∀ b xs, H b = some (.tup xs) → H' b = some (.tup xs)
  frzs : ∀ b o u, H b = some (.frz o u) → H' b = some (.frz o u)
  tbls : ∀ b ps, H b = some (.tbl ps) → ∃ more, H' b = some (.tbl (ps ++ more))
theorem noTrk {P : Program} {w : World} {H : Hp} {h : Heap} {a : Addr} (x : HOk P w H h) (e : h.get? a = none) : H a = none := by
  cases q : H a with
  | none => rfl
  | some u =>
    have y := x a u q
    have z : ∃ o, h.get? a = some o := by
      cases u with
      | lst xs => obtain ⟨_, _, _, _, e⟩ := y; exact ⟨_, e⟩
      | tup xs => obtain ⟨_, _, _, o, e, _⟩ := y; exact ⟨o, e⟩
      | dK kvs => obtain ⟨_, _, _, _, o, _, _, e, _⟩ := y; exact ⟨o, e⟩
      | dT kvs => obtain ⟨_, _, _, _, o, _, _, e, _⟩ := y; exact ⟨o, e⟩
      | set S n => obtain ⟨o, _, _, _, e, _⟩ := y; exact ⟨o, e⟩
      | ins C dx fs => obtain ⟨_, _, _, e, _⟩ := y; exact ⟨_, e⟩
      | own y' => exact y
      | xd fs => obtain ⟨_, ⟨o, _, _, e, _⟩, _⟩ := y; exact ⟨o, e⟩
      | rng lo hi => obtain ⟨_, _, _, e⟩ := y; exact ⟨_, e⟩
      | frz ob u => exact ⟨_, y.1⟩
      | tbl ps => exact ⟨_, y⟩
      | met f y' => exact ⟨_, y⟩
      | ext φ => exact y.2.1
    obtain ⟨o, z⟩ := z
    rw [e] at z
    cases z

section
variable {X : Cx} {pins : List (Addr × Obj)} {σ : St} {H H' : Hp} {s s' : Shared} {a : Addr} {cls : Value} {E : Value → Shared → Prop}

set_option genInjectivity false in
structure Own (X : Cx) : Prop where
  stk : X.stack = X.env :: X.outer
  fr : X.env.frame = some X.env.locals
  ex : X.ex = []
theorem Own.frs (O : Own X) {b : Addr} : b ∈ frs X.stack ↔ b = X.env.locals ∨ b ∈ frs X.outer := by
  unfold L2.frs
  rw [O.stk, List.filterMap_cons, O.fr]
  exact List.mem_cons
theorem Inv.oldNe (I : Inv X pins σ H s) {b : Addr} {o : Obj} (e : X.s₀.heap.get? b = some o) : b ≠ X.env.locals := Nat.ne_of_lt (Nat.lt_of_lt_of_le (Heap.lt_size e) I.ok.above)
theorem Inv.hidHok (I : Inv X pins σ H s) : HOk X.prog X.w H (PySem.W.hideAll s.heap (L2.frs X.stack)) := fun b u e =>
  (I.hok b u e).stay (fun c v hc q => PySem.W.hideAll_get _ q fun hm => by
    have n := I.stkFree c hm
    rcases hc with z | z
    · rw [z, e] at n
      cases n
    · rw [z] at n
      cases n) (fun _ q => q) fun _ _ q => q
theorem Fly.raised {args : List Value} {h : Heap} (I : Inv X pins σ H s) (O : Own X) (hx : Heap.MadeExcOf s.heap h a cls args) :
    wpAny (model X.prog X.w) X.A (leaving X.env (.ref a)) (fun _ s'' => Fly X.prog X.w X.outer X.H₀ X.s₀ a cls H s'') E { s with heap := h } := by
  have hst := I.stack
  have hin : ∀ env ∈ X.stack, ∀ b, env.frame = some b → b ∈ L2.frs X.stack := fun env he b hb => List.mem_filterMap.mpr ⟨env, he, hb⟩
  have hl := PySem.W.funFrames_hide hst hin
  rw [O.stk] at hl
  have hfr := I.ok.frames
  rw [O.stk] at hfr
  have noEx : ∀ b, b ∉ X.ex := fun b z => by
    rw [O.ex] at z
    cases z
  refine wpAny_leaves_madeW (s := { s with heap := h }) hfr O.fr (fun b o q => PySem.W.of_hideAll _ q) hl hx fun h' t x1 x2 x3 x4 => ?_
  have notIn : ∀ b o, X.s₀.heap.get? b = some o → b ∉ L2.frs X.outer → b ∉ L2.frs (X.env :: X.outer) := fun b o e nb z => by
    rw [← O.stk] at z
    rcases O.frs.mp z with q | q
    · exact I.oldNe e q
    · exact nb q
  have hokB := I.hidHok
  rw [O.stk] at hokB
  refine ⟨I.os, I.bare, ⟨_, t, x1, hokB, fun b o e n nb => ?_, fun b o e nb => ?_⟩, fun b o e n hb => ?_, fun b o e n => I.base.free b o e n (noEx b), I.base.tups, I.base.frzs, I.base.tbls⟩
  · exact PySem.W.hideAll_get _ (I.base.keep b o e n nb (noEx b)) (notIn b o e nb)
  · obtain ⟨o', e'⟩ := I.base.there b o e (noEx b)
    exact ⟨o', PySem.W.hideAll_get _ e' (notIn b o e nb)⟩
  · obtain ⟨sl, e1⟩ := I.base.slot b o e n hb (noEx b)
    obtain ⟨_, o2, e2, hd⟩ := I.funs.mem hb
    rw [e1] at e2
    cases e2
    obtain ⟨sl2, e3⟩ := x4 b _ (hx.keeps b _ e1) hd
    exact ⟨sl2, e3⟩
theorem Fly.on (I : Inv X pins σ H s) (O : Own X) (Y : Fly X.prog X.w X.stack H s a cls H' s') :
    wpAny (model X.prog X.w) X.A (leaving X.env (.ref a)) (fun _ s'' => Fly X.prog X.w X.outer X.H₀ X.s₀ a cls H' s'') E s' := by
  obtain ⟨B, t, hfl, hokB, kp, th⟩ := Y.ex
  have hfr := I.ok.frames
  rw [O.stk] at hfr hfl
  have noEx : ∀ b, b ∉ X.ex := fun b z => by
    rw [O.ex] at z
    cases z
  have notIn : ∀ b o, X.s₀.heap.get? b = some o → b ∉ L2.frs X.outer → b ∉ L2.frs X.stack := fun b o e nb z => by
    rcases O.frs.mp z with q | q
    · exact I.oldNe e q
    · exact nb q
  refine wpAny_leaves_onW hfr O.fr hfl fun h' x1 x2 => ?_
  refine ⟨Y.os.trans I.os, Y.bare, ⟨B, t, x1, hokB, fun b o e n nb => kp b o (I.base.keep b o e n nb (noEx b)) (I.base.free b o e n (noEx b)) (notIn b o e nb), fun b o e nb => ?_⟩, fun b o e n hb => ?_, fun b o e n => ?_,
    fun b xs q => Y.tups b xs (I.base.tups b xs q), fun b o u q => Y.frzs b o u (I.base.frzs b o u q), fun b ps q => ?_⟩
  · obtain ⟨o', e'⟩ := I.base.there b o e (noEx b)
    exact th b o' e' (notIn b o e nb)
  · obtain ⟨sl, e1⟩ := I.base.slot b o e n hb (noEx b)
    obtain ⟨_, o2, e2, hd⟩ := I.funs.mem hb
    rw [e1] at e2
    cases e2
    obtain ⟨sl2, e3⟩ := Y.slot b _ e1 (I.base.free b o e n (noEx b)) (O.frs.mpr (.inr hb))
    obtain ⟨sl3, e4⟩ := x2 b _ e3 hd
    exact ⟨sl3, e4⟩
  · obtain ⟨o', e'⟩ := I.base.there b o e (noEx b)
    exact Y.free b o' e' (I.base.free b o e n (noEx b))
  · obtain ⟨m1, e1⟩ := I.base.tbls b ps q
    obtain ⟨m2, e2⟩ := Y.tbls b _ e1
    exact ⟨m1 ++ m2, by rw [e2, Array.append_assoc]⟩
theorem Fly.un (I : Inv X pins σ H s) (Y : Fly X.prog X.w X.stack H s a cls H' s') : Un (L2.frs X.stack) [] H H' s.heap s'.heap := by
  obtain ⟨B, t, hfl, hokB, kp, th⟩ := Y.ex
  refine ⟨fun b o e n nb _ => hfl.1 b o (kp b o e n nb), fun b o e n hb _ => Y.slot b o e n hb, fun b o e n _ => Y.free b o e n, fun b o e _ => ?_, Y.tups, Y.frzs, Y.tbls⟩
  by_cases hb : b ∈ L2.frs X.stack
  · obtain ⟨sl, q⟩ := Y.slot b o e (I.stkFree b hb) hb
    exact ⟨_, q⟩
  · obtain ⟨o', q⟩ := th b o e hb
    exact ⟨o', hfl.1 b o' q⟩
theorem Fly.inv (I : Inv X pins σ H s) (Y : Fly X.prog X.w X.stack H s a cls H' s') : Inv X pins σ H' s' := by
  have hok : HOk X.prog X.w H' s'.heap := by
    obtain ⟨B, t, hfl, hokB, kp, th⟩ := Y.ex
    exact hokB.kept hfl.1
  exact I.call' (ch := []) Y.os (Y.un I) hok Y.bare fun _ z => nomatch z
theorem Fly.slots {outer : List Env} {h' : Heap} (Y : Fly X.prog X.w outer H s a cls H' s') (hd : ∀ b ∈ L2.frs outer, ∃ o, s.heap.get? b = some o ∧ ∀ vs, o.data ≠ .fields vs) (x : s'.heap.UpToSlots h') :
    ∀ b o, s.heap.get? b = some o → H b = none → b ∈ L2.frs outer → ∃ sl, h'.get? b = some { o with slots := sl } := fun b o e n hb => by
  obtain ⟨sl, q⟩ := Y.slot b o e n hb
  obtain ⟨o2, e2, d2⟩ := hd b hb
  rw [e] at e2
  cases e2
  obtain ⟨sl', q'⟩ := x b _ q d2
  exact ⟨sl', q'⟩
theorem Fly.again {A : Around} {Q : Unit → Shared → Prop} (I : Inv X pins σ H s) (Y : Fly X.prog X.w X.stack H s a cls H' s') (h : ∀ h', Fly X.prog X.w X.stack H s a cls H' { s' with heap := h' } → Q () { s' with heap := h' }) :
    wpAny (model X.prog X.w) A (setFlight (.ref a) none) Q E s' := by
  obtain ⟨B, t, hfl, hokB, kp, th⟩ := Y.ex
  refine lands_againW hfl fun h' x1 x2 => h h' ?_
  exact ⟨Y.os, Y.bare, ⟨B, t, x1, hokB, kp, th⟩, Y.slots (fun b hb => (I.stack.mem hb).2) x2, Y.free, Y.tups, Y.frzs, Y.tbls⟩
theorem Fly.look {Q : Unit → Shared → Prop} (I : Inv X pins σ H s) (O : Own X) (Y : Fly X.prog X.w X.stack H s a cls H' s') (h : ∀ h', Fly X.prog X.w X.stack H s a cls H' { s' with heap := h' } → Q () { s' with heap := h' }) :
    wpAny (model X.prog X.w) X.A (noteFrame (.ref a) X.env) (fun _ s2 => wpAny (model X.prog X.w) X.A (setFlight (.ref a) none) Q E s2) E s' := by
  obtain ⟨B, t, hfl, hokB, kp, th⟩ := Y.ex
  have hfr := I.ok.frames
  have hfl' := hfl
  rw [O.stk] at hfr hfl'
  refine wpAny_looks_onW hfr O.fr hfl' fun h4 x4 y4 => ?_
  refine wpAny_landsW (s := { s' with heap := h4 }) x4 fun h5 x5 y5 => h h5 ?_
  rw [← O.stk] at x5
  exact ⟨Y.os, Y.bare, ⟨B, t, x5, hokB, kp, th⟩, Y.slots (fun b hb => (I.stack.mem hb).2) (y4.trans y5), Y.free, Y.tups, Y.frzs, Y.tbls⟩
theorem Fly.looks {M : Model} {outer : List Env} (Y : Fly X.prog X.w outer H s a cls H' s') : PySem.W.Looks M s'.heap (typeOf (.ref a)) cls := by
  obtain ⟨B, t, hfl, _⟩ := Y.ex
  obtain ⟨ob, hob, hc⟩ := hfl.there
  subst hc
  exact (PySem.W.Looks.ld hob).andThen .now
theorem Fly.track (I : Inv X pins σ H s) (Y : Fly X.prog X.w X.stack H s a cls H' s') : H' a = none ∧ Inv X pins σ (upd H' a (.ext fun h => ∃ o, h.get? a = some o ∧ o.cls = cls)) s' := by
  obtain ⟨B, t, hfl, hokB, kp, th⟩ := Y.ex
  have J := Y.inv I
  have na : H' a = none := noTrk hokB hfl.2.1
  obtain ⟨_, _, hfr, oe, vs, _, _, _, hoe, hcl, hda, _⟩ := id hfl

  have nfr : ∀ b ∈ L2.frs X.stack, b ≠ a := fun b hb z => by
    obtain ⟨_, o, e, d⟩ := hfr.mem hb
    rw [z, hoe] at e
    cases e
    exact d vs hda
  have nold : ∀ b o, s.heap.get? b = some o → b ≠ a := fun b o e z => by
    by_cases hb : b ∈ L2.frs X.stack
    · exact nfr b hb z
    · obtain ⟨o', e'⟩ := th b o e hb
      rw [z, hfl.2.1] at e'
      cases e'
  have n0 : ∀ b o, X.s₀.heap.get? b = some o → b ∉ X.ex → b ≠ a := fun b o e hx => by
    obtain ⟨o', e'⟩ := I.base.there b o e hx
    exact nold b o' e'
  obtain ⟨mL, ⟨oL, _, _, hoL, _⟩, _⟩ := id I.loc
  have nL : X.env.locals ≠ a := nold _ oL hoL
  refine ⟨na, J.ok, J.os, J.bare, ⟨J.base.keep, J.base.slot, fun b o e n hx => ?_, J.base.there, fun b xs q => ?_, fun b o u q => ?_, fun b ps q => ?_⟩, J.loc, J.cell, ?_, fun y c e => ?_, fun p hp => ?_, fun b u q => ?_, J.len⟩
  · rw [upd_ne (n0 b o e hx)]
    exact J.base.free b o e n hx
  · have z := J.base.tups b xs q
    rw [upd_ne (ne_of_none z na)]
    exact z
  · have z := J.base.frzs b o u q
    rw [upd_ne (ne_of_none z na)]
    exact z
  · obtain ⟨m, z⟩ := J.base.tbls b ps q
    exact ⟨m, by rw [upd_ne (ne_of_none z na)]; exact z⟩
  · rw [upd_ne nL]
    exact J.free
  · obtain ⟨v, o, ho, _⟩ := I.cell y c e
    rw [upd_ne (nold c o ho)]
    exact J.freeC y c e
  · obtain ⟨e, n, ne, nf, d⟩ := J.pin p hp
    refine ⟨e, ?_, ne, nf, d⟩
    rw [upd_ne (nold _ _ (I.pin p hp).1)]
    exact n
  · by_cases hb : b = a
    · subst hb
      rw [upd_same] at q
      cases q
      exact ⟨⟨oe, hoe, hcl.1⟩, ⟨oe, hoe⟩, fun h1 h2 ⟨o, e, c⟩ k => ⟨o, k o e, c⟩⟩
    · rw [upd_ne hb] at q
      exact (J.hok b u q).stay (fun _ _ _ z => z) (fun c z => by rw [upd_ne (ne_of_none z na)]; exact z) fun c xs z => by rw [upd_ne (ne_of_none z na)]; exact z
end

noncomputable abbrev bmVE : List Value := [.type "ValueError", .type "Exception", .type "BaseException", .type "object"]
set_option genInjectivity false in
structure Exc (K : PySem.W.Frag) (mg : Str → Option Value) (x : Str) (C : Addr) : Prop where
  mg : mg x = some (.ref C)
  is : PySem.W.excIn K C bmVE "ValueError.__new__" = true
theorem Exc.own {K : PySem.W.Frag} {mg : Str → Option Value} {x : Str} {C : Addr} {h : Heap} (c : Exc K mg x C) (X : K.In h) : OwnCls x C bmVE "ValueError.__new__" mg h := by
  refine ⟨c.mg, ?_⟩
  have q := c.is
  unfold PySem.W.excIn at q
  split at q
  · rename_i dd cd sl ho
    split at q
    · rename_i C' bm k0 k1 k2 k3 n k5 hm hs
      simp only [beq_iff_eq, Bool.not_eq_true', Bool.and_eq_true] at q
      obtain ⟨⟨⟨⟨⟨g1, g2⟩, g3⟩, g4⟩, g5⟩, g6⟩ := q
      subst g1 g2
      obtain ⟨nm, bs, mro, ns, qn, hd, sn, sub, ab, col, del⟩ := cd
      have hsl : sl = #[k0, k1, k2, k3, some (.builtin "ValueError.__new__"), k5] := by
        cases sl with
        | mk l =>
          have hs' : l = _ := hs
          rw [hs']
      have hm' : mro = _ := hm
      have g3' : del = false := g3
      subst hsl hm' g3'
      refine ⟨bm, ns, nm, qn, bs, hd, sn, sub, ab, col, dd, k0, k1, k2, k3, k5, h.nsMap ns, X _ _ ho, ?_, ?_, ?_⟩
      · exact .of_isNs (PySem.W.isNs_of_in X g5)
      · exact PySem.W.nsMap_none_of_in X g5 g6
      · exact PySem.W.tail_of_in X g4
    · cases q
  · cases q
noncomputable def tRaise (E : Value → Hp → Prop) (C : Addr) (t : TA) : TS := fun _ σ H => t σ H fun vs H1 => vs.length ≤ sizeLine ∧ E (.ref C) H1
theorem ps_raise {x : Str} {C : Addr} {e₀ : Expr} {rest : List Expr} {np cpos pos : Pos} {t : TA} {E : Value → Hp → Prop} (c : Exc X.K X.mg x C) (hc : X.calm = true)
    (hE : ∀ (pins : List (Addr × Obj)) (σ : St) (H : Hp) (s : Shared) (h : Heap) (a : Addr) (args : List Value), Inv X pins σ H s → Heap.MadeExcOf s.heap h a (.ref C) args → E (.ref C) H → X.xe (.ref a) { s with heap := h })
    (ha : PA X (e₀ :: rest) t) (hg : Gl X x := by rfl) (hd : (x == ("__debug__" : Str)) = false := by decide)
    (he : starEach (e₀ :: rest) X.env = (false, eval e₀ X.env) :: starEach rest X.env := by rfl) (hpl : (backTo cpos (starEach rest X.env)).any (·.1) = false := by rfl) :
    PS X (.Raise (some (.Call (.Name x np) (e₀ :: rest) [] cpos)) none pos) (tRaise E C t) := by
  intro pins s σ H D I h
  have O := c.own I.mod.kin
  obtain ⟨tl, N, nm, q, bs, hdct, sn, sub, ab, col, dd, k0, k1, k2, k3, k5, mN, hC, hN, hni, T⟩ := O.obj
  refine wpAny_Raise_call_subT (C := C) (nm := nm) (q := q) (N := N) (bs := bs) (bm := tl) (hdct := hdct) (sn := sn) (sub := sub) (ab := ab) (col := col) (dd := dd) (k0 := k0) (k1 := k1) (k2 := k2) (k3 := k3) (k5 := k5) PySem.F.excBase_ValueError (mN := mN)
    (T.hasType (by decide +kernel)) (I.ok.hd hc) (by rw [he]; show (false || (backTo cpos (starEach rest X.env)).any (·.1)) = false; rw [hpl]; rfl) hni (ld_glob I hg c.mg ⟨rfl, ?_⟩ hd)
  have hA := ha cpos pins s σ H _ I h
  rw [he] at hA ⊢
  refine Calls.evalArgs_plain (thn hA fun us s2 ⟨vs, H2, I2, r2, hz, q2⟩ => ?_)
  exact ⟨rfl, by rw [← r2.length]; exact hz, I2.bk _ _ hC, hN.keeps I2.bk, T.keeps I2.bk, fun h' e hx => hE pins σ H2 s2 h' e us I2 hx q2⟩

section
variable {P : Program} {w : World} {K : PySem.W.Frag} {mg : Str → Option Value} {base : Heap} {N : List Str} {qual : Str} {scope : Scope} {f : Addr} {cdv : Value} {A : Around} {outer : List Env} {s : Shared} {H : Hp} {E : XK}
theorem ownX {CX : CXT} : Own (cxOf CX P w K mg base N qual scope f cdv A outer s H E) := ⟨rfl, rfl, rfl⟩
end
end L2

set_option Elab.async false
set_option linter.all false
set_option maxRecDepth 100000
set_option maxHeartbeats 4000000

namespace L2
open PySem PySem.Spec PyProof.Rows

noncomputable def XP (X : Cx) (pins : List (Addr × Obj)) (R : St → Value → Hp → Prop) (e : Value) (s' : Shared) : Prop :=
  ∃ a cls σ' H s1 H', e = .ref a ∧ Inv X pins σ' H s1 ∧ Fly X.prog X.w X.stack H s1 a cls H' s' ∧ R σ' cls H'
noncomputable abbrev TTy := Ends → (St → Value → Hp → Prop) → St → Hp → Prop
noncomputable def PTy (X : Cx) (st : List Stmt) (t : TTy) : Prop :=
  ∀ (pins : List (Addr × Obj)) (s : Shared) (σ : St) (H : Hp) (D : Ends) (R : St → Value → Hp → Prop), Inv X pins σ H s → t D R σ H → wpAny (model X.prog X.w) X.A (execs st X.env) (SP X pins D) (XP X pins R) s
section
variable {X : Cx}
noncomputable abbrev TH := Ends → St → Value → Hp → Prop
noncomputable def PH (X : Cx) (hs : List ExceptHandler) (t : TH) : Prop :=
  ∀ (pins : List (Addr × Obj)) (σ : St) (H : Hp) (s : Shared) (a : Addr) (cls : Value) (H' : Hp) (s' : Shared) (D : Ends), Inv X pins σ H s → Fly X.prog X.w X.stack H s a cls H' s' → t D σ cls H' →
    wpAny (model X.prog X.w) X.A (handleBy (.ref a) X.env hs) (SP X pins D) X.xe s'
noncomputable abbrev cxMark (X : Cx) (a : Addr) : Cx := { X with A := X.A.mark (some (.ref a)), calm := false, xe := fun _ _ => False }
theorem Inv.mark {pins : List (Addr × Obj)} {σ : St} {H : Hp} {s : Shared} (I : Inv X pins σ H s) (a : Addr) : Inv (cxMark X a) pins σ H s := by
  have ok := I.ok
  exact ⟨⟨ok.mod, ok.kind, ok.glob, ok.blt, ok.above, ok.inj, ok.has, ok.cab, fun z => (by cases z), ok.frames, ok.stk, ok.exf, ok.bs, ok.bsz, ok.noex, ok.exfs, ok.funs, ok.frf⟩, I.os, I.bare, I.base, I.loc, I.cell, I.free, I.freeC, I.pin, I.hok, I.len⟩
theorem Inv.unmark {pins : List (Addr × Obj)} {σ : St} {H : Hp} {s : Shared} {a : Addr} (I : Inv (cxMark X a) pins σ H s) (J : X.Ok) : Inv X pins σ H s := ⟨J, I.os, I.bare, I.base, I.loc, I.cell, I.free, I.freeC, I.pin, I.hok, I.len⟩
theorem nsInj {h : Heap} {a : Addr} {m m' : Str → Option Value} (x : h.Ns a m) (y : h.Ns a m') : ∀ z, m z = m' z := fun z => by
  obtain ⟨o, es, ep, ho, hd, _, hf⟩ := x
  obtain ⟨o', es', ep', ho', hd', _, hf'⟩ := y
  rw [ho] at ho'
  cases ho'
  rw [hd] at hd'
  cases hd'
  rw [← hf z, ← hf' z]
theorem Inv.turnFrame {pins : List (Addr × Obj)} {σ σ' : St} {H : Hp} {s : Shared} {h' : Heap} {m' : Str → Option Value} (I : Inv X pins σ H s) (hn' : h'.Ns X.env.locals m') (hs : Heap.SameBut X.env.locals s.heap h') (hl : σ'.length = σ.length)
    (hm : ∀ (i : Nat) (x : Str) (v : V), X.N[i]? = some x → σ'[i]? = some (some v) → σ[i]? = some (some v) ∧ ∀ m, s.heap.Ns X.env.locals m → m' x = m x) : Inv X pins σ' H { s with heap := h' } := by
  have kp : ∀ b o, b ≠ X.env.locals → s.heap.get? b = some o → h'.get? b = some o := fun b o hb e => (hs.2 b hb).trans e
  obtain ⟨m0, hn0, hl0⟩ := I.loc
  obtain ⟨oL, _, _, hoL, _⟩ := id hn0
  have ok : HOk X.prog X.w H h' := fun b ob e => (I.hok b ob e).stay (fun c w' hc q => kp c w' (fun z => by
    subst z
    rcases hc with g | g
    · rw [← g, I.free] at e
      cases e
    · rw [I.free] at g
      cases g) q) (fun _ q => q) fun _ _ q => q
  refine ⟨I.ok, I.os, I.bare, ⟨fun b o e n hb hx => kp b o (I.oldNe e) (I.base.keep b o e n hb hx), fun b o e n hb hx => ?_, I.base.free, fun b o e hx => ?_, I.base.tups, I.base.frzs, I.base.tbls⟩, ⟨m', hn', fun i x v e1 e2 e3 => ?_⟩, fun y c e => ?_, I.free, I.freeC, fun p hp => ?_, ok, hl.trans I.len⟩
  · obtain ⟨sl, e1⟩ := I.base.slot b o e n hb hx
    exact ⟨sl, kp b _ (I.oldNe e) e1⟩
  · obtain ⟨o', e1⟩ := I.base.there b o e hx
    exact ⟨o', kp b _ (I.oldNe e) e1⟩
  · obtain ⟨g1, g2⟩ := hm i x v e1 e2
    obtain ⟨u, r, l⟩ := hl0 i x v e1 g1 e3
    refine ⟨u, r, ?_⟩
    rcases l with ⟨k, z⟩ | ⟨k, c, e, o, ho, hd⟩
    · exact .inl ⟨k, (g2 m0 hn0).trans z⟩
    · exact .inr ⟨k, c, e, o, kp c o (I.cne x c e) ho, hd⟩
  · obtain ⟨v, o, ho, hd⟩ := I.cell y c e
    exact ⟨v, o, kp c o (I.cne y c e) ho, hd⟩
  · obtain ⟨e, n, ne, nf, d⟩ := I.pin p hp
    exact ⟨kp _ _ ne e, n, ne, nf, d⟩

end
end L2

set_option Elab.async false
set_option linter.all false
set_option maxRecDepth 100000
set_option maxHeartbeats 4000000

namespace L2
open PySem PySem.Spec PyProof.Rows

noncomputable def DSafe {α : Type} : Sem α → Prop
  | .pure _ => True
  | .raise _ => True
  | .unsupported _ => True
  | .finish _ => True
  | .rule _ k => DSafe (k ())
  | .at _ k => DSafe (k ())
  | .load _ _ k => ∀ o, DSafe (k o)
  | .update _ _ f k => (∀ o : Obj, (f o).dict = o.dict) ∧ DSafe (k ())
  | .alloc _ k => ∀ a, DSafe (k a)
  | .loadIfAlive _ k => ∀ o, DSafe (k o)
  | .point _ k => DSafe (k ())
  | .fresh k => ∀ t, DSafe (k t)
  | .ask k => ∀ x, DSafe (k x)
  | .handled _ k => ∀ x, DSafe (k x)
  | .stack k => ∀ x, DSafe (k x)
  | .thread k => ∀ x, DSafe (k x)
  | _ => False
noncomputable def DKeep (h₀ h : Heap) : Prop := ∀ (b : Addr) (o : Obj), h₀.objs[b]? = some o → ∃ o' : Obj, h.objs[b]? = some o' ∧ o'.dict = o.dict
theorem DKeep.refl (h : Heap) : DKeep h h := fun _ o e => ⟨o, e, rfl⟩
theorem DKeep.push {h₀ h : Heap} {x : Obj} (k : DKeep h₀ h) : DKeep h₀ (h.push x) := fun b o e => by
  obtain ⟨o', e', d⟩ := k b o e
  refine ⟨o', ?_, d⟩
  have hb := (Array.getElem?_eq_some_iff.mp e').1
  show (h.objs.push x)[b]? = some o'
  rw [Array.getElem?_push_lt hb, ← e', Array.getElem?_eq_getElem hb]
theorem DKeep.update {h₀ h : Heap} {a : Addr} {f : Obj → Obj} (k : DKeep h₀ h) (hf : ∀ o : Obj, (f o).dict = o.dict) : DKeep h₀ (h.update a f) := fun b o e => by
  obtain ⟨o', e', d⟩ := k b o e
  show ∃ o' : Obj, (h.objs.modify a f)[b]? = some o' ∧ o'.dict = o.dict
  rw [Array.getElem?_modify, e']
  by_cases hab : a = b
  · rw [if_pos hab]
    exact ⟨f o', rfl, (hf o').trans d⟩
  · rw [if_neg hab]
    exact ⟨o', rfl, d⟩
theorem DKeep.dict {h₀ h : Heap} {b : Addr} {o o' : Obj} (k : DKeep h₀ h) (e : h₀.get? b = some o) (e' : h.get? b = some o') : o'.dict = o.dict := by
  obtain ⟨o1, e1, d⟩ := k b o (Heap.get?_some_iff.mp e).1
  rw [(Heap.get?_some_iff.mp e').1] at e1
  cases e1
  exact d
theorem DSafe.wp {α : Type} {M : Model} {Γ : PySem.Ctx} {m : Sem α} : ∀ {Q : α → Pos → Shared → Prop} {E : Value → Pos → Shared → Prop} {p : Pos} {s : Shared} {h₀ : Heap}, DSafe m → DKeep h₀ s.heap → Sem.wp M Γ m Q E p s → Sem.wp M Γ m (fun a p' s' => Q a p' s' ∧ DKeep h₀ s'.heap) E p s := by
  induction m with
  | pure a => exact fun _ k h => ⟨h, k⟩
  | raise e => exact fun _ _ h => h
  | unsupported w => exact fun _ _ h => h
  | finish e => exact fun _ _ h => h
  | rule t k ih => exact fun d kp h => ih () d kp h
  | «at» p k ih => exact fun d kp h => ih () d kp h
  | load a pt k ih => exact fun d kp ⟨o, h1, h2⟩ => ⟨o, h1, ih o (d o) kp h2⟩
  | update a pt f k ih => exact fun d kp ⟨h1, h2⟩ => ⟨h1, ih () d.2 (kp.update d.1) h2⟩
  | alloc o k ih => exact fun d kp h => ih _ (d _) kp.push h
  | loadIfAlive a k ih => exact fun d kp h => ih _ (d _) kp h
  | point l k ih => exact fun d kp h => ih () d kp h
  | fresh k ih => exact fun d kp h => ih _ (d _) kp h
  | ask k ih => exact fun d kp h => ih _ (d _) kp h
  | handled o k ih => exact fun d kp h => ih _ (d _) kp h
  | stack k ih => exact fun d kp h => ih _ (d _) kp h
  | thread k ih => exact fun d kp h => ih _ (d _) kp h
  | register a k ih => exact fun d => d.elim
  | choose a b k ih => exact fun d => d.elim
  | os a b k ih => exact fun d => d.elim
  | call a b c d k ih => exact fun d => d.elim
  | newGen a k ih => exact fun d => d.elim
  | genState a k ih => exact fun d => d.elim
  | resume a b c k ih => exact fun d => d.elim
  | «yield» a b c k ih => exact fun d => d.elim
  | fork a k ih => exact fun d => d.elim
  | await a b c d k ih => exact fun d => d.elim
theorem DSafe.any {α : Type} {M : Model} {A : Around} {m : Sem α} {Q : α → Shared → Prop} {E : Value → Shared → Prop} {s : Shared} (d : DSafe m) (h : wpAny M A m Q E s) : wpAny M A m (fun a s' => Q a s' ∧ DKeep s.heap s'.heap) E s :=
  fun Γ p hΓ => d.wp (DKeep.refl _) (h Γ p hΓ)
theorem DSafe.bind {α β : Type} {m : Sem α} : ∀ {f : α → Sem β}, DSafe m → (∀ a, DSafe (f a)) → DSafe (m >>= f) := by
  show ∀ {f : α → Sem β}, DSafe m → (∀ a, DSafe (f a)) → DSafe (m.bind f)
  induction m with
  | pure a => exact fun _ h => h a
  | raise e => exact fun _ _ => trivial
  | unsupported w => exact fun _ _ => trivial
  | finish e => exact fun _ _ => trivial
  | rule t k ih => exact fun d h => ih () d h
  | «at» p k ih => exact fun d h => ih () d h
  | load a pt k ih => exact fun d h o => ih o (d o) h
  | update a pt f k ih => exact fun d h => ⟨d.1, ih () d.2 h⟩
  | alloc o k ih => exact fun d h a => ih a (d a) h
  | loadIfAlive a k ih => exact fun d h o => ih o (d o) h
  | point l k ih => exact fun d h => ih () d h
  | fresh k ih => exact fun d h o => ih o (d o) h
  | ask k ih => exact fun d h o => ih o (d o) h
  | handled o k ih => exact fun d h o => ih o (d o) h
  | stack k ih => exact fun d h o => ih o (d o) h
  | thread k ih => exact fun d h o => ih o (d o) h
  | register a k ih => exact fun d => d.elim
  | choose a b k ih => exact fun d => d.elim
  | os a b k ih => exact fun d => d.elim
  | call a b c d k ih => exact fun d => d.elim
  | newGen a k ih => exact fun d => d.elim
  | genState a k ih => exact fun d => d.elim
  | resume a b c k ih => exact fun d => d.elim
  | «yield» a b c k ih => exact fun d => d.elim
  | fork a k ih => exact fun d => d.elim
  | await a b c d k ih => exact fun d => d.elim
theorem ds_field (v : Value) (i : Nat) : DSafe (field v i) := by
  unfold field fieldsOf
  refine DSafe.bind ?_ fun a => ?_
  · split
    · refine DSafe.bind (fun o => trivial) fun o => ?_
      split <;> trivial
    · trivial
  · split <;> trivial
theorem mapF_dict (f : Array Value → Array Value) (o : Obj) : (Obj.mapFields f o).dict = o.dict := by
  unfold Obj.mapFields
  split <;> rfl
theorem ds_setField (v : Value) (i : Nat) (x : Value) : DSafe (setField v i x) := by
  unfold setField
  split
  · unfold updateField
    refine DSafe.bind (fun o => trivial) fun o => ?_
    split
    · split
      · exact ⟨fun o => mapF_dict _ o, trivial⟩
      · trivial
    · trivial
  · trivial
theorem ds_setFlight (e : Value) (fr : Option Addr) : DSafe (setFlight e fr) := by
  unfold setFlight
  refine DSafe.bind (ds_field _ _) fun tb => ?_
  split
  · exact ds_setField _ _ _
  · trivial
theorem ds_stack : DSafe stack := fun _ => trivial
theorem ds_frameEnvs : DSafe frameEnvs := by
  unfold frameEnvs
  exact DSafe.bind ds_stack fun _ => trivial
theorem ds_behind (env : Env) (outer : List Env) : DSafe (behindIsImport env outer) := by
  unfold behindIsImport
  split
  · trivial
  · split
    · trivial
    · exact DSafe.bind (ds_field _ _) fun _ => trivial
theorem ds_keptBack (env : Env) (b : Bool) : ∀ outer, DSafe (keptBack env b outer)
  | [] => by
    show DSafe (if (env.scope.isGenerator || env.scope.isCoroutine) = true then pure Value.none else _)
    split
    · trivial
    · exact DSafe.bind (DSafe.bind ds_stack fun _ => trivial) fun _ => trivial
  | _ :: _ => trivial
theorem ds_ready : ∀ l, DSafe (readyFrames l)
  | [] => trivial
  | env :: outer => by
    unfold readyFrames
    split
    · refine DSafe.bind (fun _ => trivial) fun _ => ?_
      split
      · trivial
      · exact DSafe.bind (ds_behind _ _) fun _ => DSafe.bind (ds_keptBack _ _ _) fun _ => DSafe.bind (show DSafe (update _ _) from ⟨fun _ => rfl, trivial⟩) fun _ => ds_ready outer
    · trivial
theorem ds_frameOf (env : Env) : DSafe (PySem.frameOf env) := by
  unfold PySem.frameOf
  refine DSafe.bind ds_frameEnvs fun l => DSafe.bind ?_ fun o => ?_
  · unfold frameObject
    split
    · trivial
    · exact DSafe.bind (ds_ready _) fun _ => trivial
  · split <;> trivial
theorem ds_entryPlaceOf (f : Addr) (b : Bool) : DSafe (entryPlaceOf f b) := by
  unfold entryPlaceOf
  refine DSafe.bind ds_stack fun l => ?_
  split <;> trivial
theorem ds_newEntry (a b c d e : Value) (l : List Value) : DSafe (EntryCells.newEntry a b c d e l) := by
  unfold EntryCells.newEntry newFields newObj
  have h : ∀ d : Data, DSafe (newObjAsIs (Value.type "traceback") d) := fun d => DSafe.bind (fun _ => trivial) fun _ => trivial
  dsimp only
  generalize ([a, b, c, d, e] ++ if l.isEmpty = true then List.replicate 6 Value.none else l).toArray = vs
  split
  · trivial
  · exact h _
theorem ds_noteFrame (e : Value) (env : Env) : DSafe (noteFrame e env) := by
  unfold noteFrame
  split
  · refine DSafe.bind (ds_field _ _) fun hd => ?_
    split
    · refine DSafe.bind (ds_field _ _) fun x => ?_
      split
      · trivial
      · exact DSafe.bind (ds_setField _ _ _) fun _ => DSafe.bind (ds_frameOf _) fun _ => DSafe.bind (ds_entryPlaceOf _ _) fun _ => DSafe.bind (ds_newEntry _ _ _ _ _ _) fun _ => ds_setField _ _ _
    · exact DSafe.bind (ds_frameOf _) fun _ => DSafe.bind (ds_entryPlaceOf _ _) fun _ => DSafe.bind (ds_newEntry _ _ _ _ _ _) fun _ => ds_setField _ _ _
  · trivial
theorem ds_leaving (env : Env) (e : Value) : DSafe (leaving env e) := by
  unfold leaving
  exact DSafe.bind (ds_noteFrame _ _) fun _ => ds_setFlight _ _
end L2

set_option Elab.async false
set_option linter.all false
set_option maxRecDepth 100000
set_option maxHeartbeats 4000000

namespace L2
open PySem PySem.Spec PyProof.Rows

namespace RV
section
variable {prog : Program} {w : World} {A : Around} {E : Value → Shared → Prop} {s : Shared}
end
end RV

section
variable {X : Cx}
theorem rising_pw : ∀ (x : List Nat) (ls : List (List Nat)), risingS (tx x) (ls.map tx) = true → (∀ y ∈ ls, ¬ y < x) ∧ ls.Pairwise (fun a b => ¬ b < a)
  | x, [], _ => ⟨fun _ h => (by cases h), .nil⟩
  | x, y :: ls, h => by
    have h' : (!ltCps (tx y).cps.toList (tx x).cps.toList && risingS (tx y) (ls.map tx)) = true := h
    rw [Bool.and_eq_true, tx_cps, tx_cps, ltCps_eq] at h'
    obtain ⟨a, b⟩ := rising_pw y ls h'.2
    have h1 : ¬ y < x := by simpa using h'.1
    refine ⟨fun z hz => ?_, List.pairwise_cons.mpr ⟨a, b⟩⟩
    rcases List.mem_cons.mp hz with rfl | hz
    · exact h1
    · exact Wd.lele h1 (a z hz)
theorem sorted_pw : ∀ (ls : List (List Nat)), sortedS (ls.map tx) = true → ls.Pairwise (fun a b => ¬ b < a)
  | [], _ => .nil
  | x :: ls, h => List.pairwise_cons.mpr (rising_pw x ls h)
theorem strs_back : ∀ {us : List Value} {ss : List Str}, StrsAre us ss → Vals ((ss.map fun x => x.cps.toList).map T) us
  | _, _, .nil => .nil
  | _, _, .cons x t h => .cons ⟨t, by show Value.str x t = Value.str (tx x.cps.toList) t; rw [tx_eta]⟩ (strs_back h)
theorem call_sortedT : CallR X (.builtin "sorted") (fun xs H Q => ∃ (p : Addr) (ls : List (List Nat)), xs = [.ref p] ∧ SqL X.K H p (ls.map T) ∧ ls.length < 64 ∧ ∀ (ms : List (List Nat)) (D : Addr), H D = none → ms.Perm ls → ms.Pairwise (fun a b => ¬ b < a) → Q (.ref D) (upd H D (.lst (ms.map T)))) := by
  intro pins s σ H xs us Q I r h
  obtain ⟨p, ls, rfl, hq, h64, q⟩ := h
  obtain ⟨u, rfl, ru⟩ := vals1 r
  cases ru
  obtain ⟨its, rv, pl, hz⟩ := I.list hq
  have hlen := rv.length
  rw [List.length_map] at hlen
  refine sorted_strs pl.isList (strsAre_T rv) (by omega) fun out ss' a1 a2 a3 => ?_
  obtain ⟨e, he⟩ := sortedAll_at s.heap its out
  have em : (ss'.map fun x => x.cps.toList).map tx = ss' := by
    rw [List.map_map]
    conv => rhs; rw [← List.map_id ss']
    exact List.map_congr_left fun x _ => tx_eta x
  have hp : (ss'.map fun x => x.cps.toList).Perm ls := by
    have z := a2.map fun x => x.cps.toList
    have e2 : (ls.map tx).map (fun x => x.cps.toList) = ls := by
      rw [List.map_map]
      conv => rhs; rw [← List.map_id ls]
      exact List.map_congr_left fun x _ => tx_cps x
    rw [e2] at z
    exact z
  have hpl := hp.length_eq
  refine ⟨.ref _, _, I.laid (t' := s.toks) (fun _ _ => sortedAll_old) (Nat.le_succ _) (o := .lst ((ss'.map fun x => x.cps.toList).map T)) ⟨by rw [List.length_map, hpl]; rw [List.length_map] at hz; exact hz, out.toList, e, strs_back a1, by simpa using he⟩, rfl, q _ _ (I.hok.fresh (Nat.le_succ _)) hp (sorted_pw _ (by rw [em]; exact a3))⟩

end
end L2

set_option Elab.async false
set_option linter.all false
set_option maxRecDepth 100000
set_option maxHeartbeats 4000000

namespace L2
open PySem PySem.Spec PyProof.Rows

noncomputable def nub : List (List Nat) → List (List Nat) → List (List Nat)
  | acc, [] => acc
  | acc, l :: ls => if l ∈ acc then nub acc ls else nub (acc ++ [l]) ls
noncomputable def nubTo (ls : List (List Nat)) : Nat → List (List Nat)
  | 0 => []
  | i + 1 => if ls.getD i [] ∈ nubTo ls i then nubTo ls i else nubTo ls i ++ [ls.getD i []]
theorem nubTo_len (ls : List (List Nat)) : ∀ i, (nubTo ls i).length ≤ i
  | 0 => Nat.le_refl _
  | i + 1 => by
    have h := nubTo_len ls i
    rw [nubTo]
    split
    · omega
    · rw [List.length_append, List.length_singleton]
      omega
theorem nubTo_nodup (ls : List (List Nat)) : ∀ i, (nubTo ls i).Nodup
  | 0 => List.nodup_nil
  | i + 1 => by
    have h := nubTo_nodup ls i
    rw [nubTo]
    split
    · exact h
    · rename_i hn
      refine List.nodup_append.mpr ⟨h, by simp, fun a ha b hb e => ?_⟩
      have hb' : b = ls.getD i [] := by simpa using hb
      rw [e, hb'] at ha
      exact hn ha
theorem nubTo_mem (ls : List (List Nat)) (x : List Nat) : ∀ i, i ≤ ls.length → (x ∈ nubTo ls i ↔ x ∈ ls.take i)
  | 0, _ => by simp [nubTo]
  | i + 1, hi => by
    have h := nubTo_mem ls x i (by omega)
    have e : ls.take (i + 1) = ls.take i ++ [ls.getD i []] := by
      rw [List.take_add_one, List.getD_eq_getElem?_getD, List.getElem?_eq_getElem (by omega)]
      rfl
    rw [e, List.mem_append, nubTo]
    split
    · rename_i hm
      rw [h]
      constructor
      · exact .inl
      · rintro (q | q)
        · exact q
        · have q' : x = ls.getD i [] := by simpa using q
          rw [q', ← nubTo_mem ls _ i (by omega)]
          exact hm
    · rw [List.mem_append, h]
noncomputable def uniq (ls : List (List Nat)) : List (List Nat) := nubTo ls ls.length
theorem uniq_nodup (ls : List (List Nat)) : (uniq ls).Nodup := nubTo_nodup ls _
theorem uniq_mem (ls : List (List Nat)) (x : List Nat) : x ∈ uniq ls ↔ x ∈ ls := by
  rw [uniq, nubTo_mem ls x _ (Nat.le_refl _), List.take_length]

namespace SE
section
variable {prog : Program} {w : World} {A : Around} {R : Result → Shared → Prop} {J : Addr} {fp wr : List Addr} {G : Array GenState → Array GenState → Prop} {n : Nat} {P : Nat → Value → Prop} {St : Nat → Shared → Prop}
noncomputable abbrev Has (prog : Program) (w : World) (h : Heap) (D : Addr) (ms : List (List Nat)) : Prop := h.SetOf (PySem.strKind prog w) D (fun x => decide (x.cps.toList ∈ ms)) ms.length
theorem Has.at {h h' : Heap} {D : Addr} {ms : List (List Nat)} (x : Has prog w h D ms) (k : ∀ o, h.get? D = some o → h'.get? D = some o) : Has prog w h' D ms := by
  obtain ⟨o, es, ep, tb, ho, r⟩ := x
  exact ⟨o, es, ep, tb, k o ho, r⟩
theorem loop (W : WalksS prog w A.in1 J fp wr G n P St) {D : Addr} (hD : D ∉ fp) (ls : List (List Nat)) (hv : ∀ i v, P i v → ∃ t, v = Value.str (tx (ls.getD i [])) t) (hn : n + 1 < scanBound) :
    ∀ (k i : Nat) (s : Shared), n - i = k → i ≤ n → St i s → Has prog w s.heap D (nubTo ls i) →
      (∀ s', Moved (D :: wr) G s s' → Has prog w s'.heap D (nubTo ls n) → R (.ok (.ret .none)) s') → codeAny (model prog w) A (.builtin "set.update.loop" ⟨[.ref D, .ref J], []⟩) R s := by
  have hDw : D ∉ wr := fun z => hD (W.sub _ z)
  have up : ∀ b ∈ wr, b ∈ D :: wr := fun b hb => .tail _ hb
  intro k
  induction k with
  | zero =>
    intro i s hk hi st hs hR
    obtain rfl : i = n := by omega
    refine codeAny_builtin PyProof.Rows.F.entry_set_update_loop ?_
    rw [Around.under_plainId PyProof.Rows.F.plain_set_update_loop]
    refine wpAny_bind (m := pyNext (.ref J)) (W.done s _ _ st fun s2 mv => ?_)
    exact (show wpAny _ A.in1 (ret Value.none) _ _ s2 from wpAny_pure (hR s2 (mv.mono up) (hs.at fun o e => mv.heap D o hDw e)))
  | succ k ih =>
    intro i s hk hi st hs hR
    have hlt : i < n := by omega
    refine codeAny_builtin PyProof.Rows.F.entry_set_update_loop ?_
    rw [Around.under_plainId PyProof.Rows.F.plain_set_update_loop]
    refine wpAny_bind (m := pyNext (.ref J)) (W.item i s _ _ hlt st fun v s2 pv st2 mv => ?_)
    obtain ⟨t, rfl⟩ := hv i v pv
    have hs2 := hs.at fun o e => mv.heap D o hDw e
    refine wpAny_bind (m := holding [Value.str (tx (ls.getD i [])) t] (setAdd D (.str (tx (ls.getD i [])) t))) (wpAny_holding ?_)
    unfold setAdd
    refine wpAny_holding (wpAny_bind ((PySem.strKind prog w).pyHash (k := tx (ls.getD i [])) (strKind_is _ _ _ _) ?_))
    have hl := nubTo_len ls i
    refine wpAny_setAddHashed_of (knd := PySem.strKind prog w) (s := { s2 with toks := s2.toks + 1 }) (strKind_is _ _ _ _) rfl hs2 (by omega) fun h3 sb x3 => ?_
    have x4 : Has prog w h3 D (nubTo ls (i + 1)) := by
      refine PyProof.Rows.SetOf_congr x3 (fun y => ?_) ?_
      · rw [nubTo]
        split
        · rename_i hm
          rw [Bool.eq_iff_iff, Bool.or_eq_true, decide_eq_true_iff, decide_eq_true_iff]
          constructor
          · rintro (q | q)
            · exact q
            · rw [q, tx_cps]
              exact hm
          · exact .inl
        · rw [Bool.eq_iff_iff, Bool.or_eq_true, decide_eq_true_iff, decide_eq_true_iff, decide_eq_true_iff, List.mem_append, List.mem_singleton]
          constructor
          · rintro (q | q)
            · exact .inl q
            · right
              rw [q, tx_cps]
          · rintro (q | q)
            · exact .inl q
            · right
              rw [← q, tx_eta]
      · rw [tx_cps, nubTo]
        by_cases hm : ls.getD i [] ∈ nubTo ls i
        · rw [if_pos hm, if_pos (decide_eq_true hm)]
        · rw [if_neg hm, if_neg (by rw [decide_eq_false hm]; exact Bool.false_ne_true), List.length_append]
          rfl
    refine wpAny_pure ⟨plainId_quiet PyProof.Rows.F.plain_set_update_loop _, ih (i + 1) _ (by omega) hlt (W.frame _ s2 _ _ st2 (Nat.le_succ _) fun b hb o e => (sb.2 b fun z => hD (z ▸ hb)).trans e) x4 fun s5 m5 x5 => ?_⟩
    refine hR s5 (Moved.trans W.gtrans ((mv.mono up).then_heap (Nat.le_succ _) fun b o hb e => (sb.2 b fun z => hb (z ▸ .head _)).trans e) m5) x5

variable {E : Value → Shared → Prop} {s : Shared}
theorem call_of {l : Addr} {its : Array Value} {ls : List (List Nat)} {Q : Value → Shared → Prop} (hh : A.handled = none) (hl : s.heap.IsList l its) (hv : ∀ i v, its[i]? = some v → ∃ t, v = Value.str (tx (ls.getD i [])) t) (hn : its.size + 1 < scanBound)
    (h : ∀ (h' : Heap) (tk : Nat), Has prog w h' s.heap.objs.size (nubTo ls its.size) → (∀ b o, s.heap.get? b = some o → h'.get? b = some o) → Q (.ref s.heap.objs.size) { s with heap := h', toks := tk }) :
    wpAny (model prog w) A (call (.type "set") [.ref l]) Q E s := by
  obtain ⟨mc, mt, f0⟩ := F.called_set.mro
  have f1 := F.called_set.made; have f2 := F.called_set.sub; have f3 := F.called_set.notType; have f4 := F.called_set.canCreate; have f5 := F.typeCall_set_1 (.ref l)
  refine wpAny_call (codeAny_of_tree (show wpAny _ _ (callAny (.type "set") _) _ _ _ from wpAny_pure ⟨Code.quiet_builtin _ (by decide +kernel), codeAny_builtin F.entry_type_call ?_⟩))
  rw [Around.under_plain (weight_type_call_type "set" [.ref l] []) rfl]
  repeat (any_goals (first | wp_step | assumption))
  refine codeAny_mono (code_set_new_1 (.ref l) (E := E) (Q₁ := fun ob s1 => ∃ b : Bool, ob = .ref s.heap.objs.size ∧ s1 = { s with heap := s.heap.push { cls := .type "set", dict := none, data := .set #[] 0 (.fresh 0 0 b) } }) fun b => ⟨b, rfl, rfl⟩) fun r s1 hr => ?_
  cases r with
  | error e => exact hr
  | ok fl =>
    cases fl with
    | ret ob =>
      obtain ⟨b, rfl, rfl⟩ := hr
      generalize hob : ({ cls := .type "set", dict := none, data := .set #[] 0 (.fresh 0 0 b) } : Obj) = ob
      have hD : (s.heap.push ob).get? s.heap.objs.size = some ob := Heap.get?_push_size _ (by rw [← hob]; rfl)
      have hT : Shared.TypeIs { s with heap := s.heap.push ob } (.ref s.heap.objs.size) "set" := ⟨_, hD, by rw [← hob]⟩
      have f6 := F.called_set.init.lookup; have f7 := F.called_set.init.bind (.ref s.heap.objs.size)
      repeat (any_goals (first | wp_step | assumption))
      refine codeAny_mono (codeAny_call_builtin (R := wants (fun r s2 => r = .none ∧ ∃ h' tk, s2 = { s with heap := h', toks := tk } ∧ Has prog w h' s.heap.objs.size (nubTo ls its.size) ∧ ∀ b o, s.heap.get? b = some o → h'.get? b = some o) E)
        F.called_set.init.plain F.entry_set_init (check_set_init_1 hT ?_)) fun r2 s2 hr2 => ?_
      · obtain ⟨⟨oc, od, odt, osl⟩, hol, hcl, nl, hdl⟩ := id hl
        simp only at hcl hdl
        subst hcl hdl
        have hol' : (s.heap.push ob).get? l = some { cls := .type "list", dict := od, data := .seq its nl, slots := osl } := Heap.get?_push_of_some _ hol
        have f8 := F.sub_list_set; have f9 := F.sub_list_frozenset
        have f10 : (Value.type "list" == Value.type "dict") = false := by decide
        have hl1 : (s.heap.push ob).IsList l its := ⟨_, hol', rfl, nl, rfl⟩
        subst hob
        unfold Builtin.«set.__init__» noKeywords Builtin.Frozenset.updateFrom
        generalize hPI : pyIter = PI
        wp_walk
        subst hPI
        refine wpAny_pyIter_list hl1 ?_
        refine wpAny_bind (wpAny_runValue ?_)
        have hlt : l < s.heap.objs.size := Heap.lt_size hol
        have hh3 : A.in1.in1.in1.handled = none := by simp [hh]
        have hsz : (s.heap.push { cls := .type "set", dict := none, data := .set #[] 0 (.fresh 0 0 b) }).objs.size = s.heap.objs.size + 1 := Heap.size_push _ _
        have hne : l ≠ (s.heap.push { cls := .type "set", dict := none, data := .set #[] 0 (.fresh 0 0 b) }).objs.size := by rw [hsz]; exact Nat.ne_of_lt (Nat.lt_succ_of_lt hlt)
        have hfp : s.heap.objs.size ∉ [(s.heap.push { cls := .type "set", dict := none, data := .set #[] 0 (.fresh 0 0 b) }).objs.size, l] := by
          rw [hsz]
          intro z
          rcases List.mem_cons.mp z with e | e
          · exact Nat.ne_of_lt (Nat.lt_succ_self _) e
          · exact Nat.ne_of_gt hlt (List.mem_singleton.mp e)
        refine loop ((Walks.list hh3 _ l hne its).toS) (D := s.heap.objs.size) hfp ls hv hn (its.size - 0) 0 _ (by omega) (Nat.zero_le _) ⟨⟨_, Heap.get?_push_size _ rfl, rfl, rfl⟩, hl1.push _⟩ ?_ fun s3 mv x3 => ?_
        · have hg : ((s.heap.push { cls := .type "set", dict := none, data := .set #[] 0 (.fresh 0 0 b) }).push { cls := .type "list_iterator", data := .fields #[.ref l, .int 0 0] }).get? s.heap.objs.size = some { cls := .type "set", dict := none, data := .set #[] 0 (.fresh 0 0 b) } := Heap.get?_push_of_some _ hD
          exact PyProof.Rows.SetOf_congr ((PyProof.Rows.setObjOf_fresh (knd := PySem.strKind prog w) b).setOf hg (by unfold scanBound; omega)) (fun _ => rfl) rfl
        · obtain ⟨h3, g3, d3, tk3, os3⟩ := s3
          obtain rfl : g3 = s.gens := mv.gens
          obtain rfl : d3 = s.drawn := mv.drawn
          obtain rfl : os3 = s.os := mv.os
          refine wpAny_pure (show wpAny _ _ (ret Value.none) _ _ _ from wpAny_pure ⟨rfl, h3, tk3, rfl, x3, fun c o e => ?_⟩)
          have hc := Heap.lt_size e
          exact mv.heap c o (show c ∉ [s.heap.objs.size, (s.heap.push { cls := .type "set", dict := none, data := .set #[] 0 (.fresh 0 0 b) }).objs.size] by
            rw [hsz]
            intro z
            rcases List.mem_cons.mp z with e | e
            · exact Nat.ne_of_lt hc e
            · exact Nat.ne_of_lt (Nat.lt_succ_of_lt hc) (List.mem_singleton.mp e)) (Heap.get?_push_of_some _ (Heap.get?_push_of_some _ e))
      · cases r2 with
        | error e => exact hr2
        | ok fl2 =>
          cases fl2 with
          | ret r =>
            obtain ⟨rfl, h3, tk, rfl, x3, k3⟩ := hr2
            repeat (any_goals (first | wp_step | assumption))
            exact h _ _ x3 k3
          | _ => exact hr2.elim
    | _ => exact hr.elim
end
end SE

noncomputable def SetT (P : Program) (w : World) (D : Addr) (ms : List (List Nat)) : HO := .ext fun h => SE.Has P w h D ms
section
variable {X : Cx}
theorem str_at {ls : List (List Nat)} {us : List Value} (r : Vals (ls.map T) us) {i : Nat} {v : Value} (h : us[i]? = some v) : ∃ t, v = Value.str (tx (ls.getD i [])) t := by
  have hl := r.length
  rw [List.length_map] at hl
  have hi : i < ls.length := by have := (List.getElem?_eq_some_iff.mp h).1; omega
  obtain ⟨u, h1, h2⟩ := r.get (i := i) (x := T ls[i]) (by rw [List.getElem?_map, List.getElem?_eq_getElem hi]; rfl)
  rw [h] at h1
  cases h1
  rw [List.getD_eq_getElem?_getD, List.getElem?_eq_getElem hi]
  exact h2
theorem call_setT (hc : X.calm = true) : CallR X (.type "set") (fun xs H Q => ∃ (p : Addr) (ls : List (List Nat)), xs = [.ref p] ∧ SqL X.K H p (ls.map T) ∧ ls.length + 1 < 4096 ∧ ∀ D, H D = none → Q (.ref D) (upd H D (SetT X.prog X.w D (uniq ls)))) := by
  intro pins s σ H xs us Q I r h
  obtain ⟨p, ls, rfl, hq, hz, q⟩ := h
  obtain ⟨u, rfl, ru⟩ := vals1 r
  cases ru
  obtain ⟨its, rv, pl, _⟩ := I.list hq
  have hlen := rv.length
  rw [List.length_map] at hlen
  refine SE.call_of (I.ok.hd hc) pl.isList (ls := ls) (fun i v e => str_at rv (by simpa using e)) (by rw [List.size_toArray]; unfold scanBound; omega) fun h' tk x k => ?_
  have e : nubTo ls its.toArray.size = uniq ls := by rw [List.size_toArray, ← hlen]; rfl
  rw [e] at x
  have hf : H s.heap.objs.size = none := I.hok.fresh (Nat.le_refl _)
  refine ⟨.ref s.heap.objs.size, _, I.laid (t' := tk) k (Nat.le_refl _) (o := SetT X.prog X.w s.heap.objs.size (uniq ls)) ?_, rfl, q _ hf⟩
  refine ⟨x, ?_, fun h1 h2 x1 kk => x1.at kk⟩
  obtain ⟨o, _, _, _, ho, _⟩ := x
  exact ⟨o, ho⟩
theorem call_lenS : CallR X (.builtin "len") (fun xs H Q => ∃ (D : Addr) (ms : List (List Nat)), xs = [.ref D] ∧ H D = some (SetT X.prog X.w D ms) ∧ Q (.int (ms.length : Nat)) H) := by
  intro pins s σ H xs us Q I r h
  obtain ⟨D, ms, rfl, hD, q⟩ := h
  obtain ⟨u, rfl, ru⟩ := vals1 r
  cases ru
  obtain ⟨⟨o, es, ep, tb, ho, hex, hd, _, _, hb, hf, hn⟩, _⟩ := (show ObjOk X.prog X.w H s.heap D (SetT X.prog X.w D ms) from I.hok D _ hD)
  have hb' : es.size < 4096 := hb
  exact call_len_set ho hex hd hf (by omega) ⟨.int (ms.length : Nat), H, I.tok _, ⟨s.toks + 1, by rw [← hn]⟩, q⟩

end
end L2

set_option Elab.async false
set_option linter.all false
set_option maxRecDepth 100000
set_option maxHeartbeats 4000000

namespace L2
open PySem PySem.Spec PyProof.Rows
section
variable {X : Cx}
namespace LM
end LM
end
end L2

set_option Elab.async false
set_option linter.all false
set_option maxRecDepth 100000
set_option maxHeartbeats 4000000

namespace L2
open PySem PySem.Spec PyProof.Rows

noncomputable def Itx (l : List Nat) : It := ⟨fun i _ => i < l.length, fun i H x H' => H' = H ∧ ∃ c, l[i]? = some c ∧ x = T [c], fun i _ => l.length ≤ i⟩
theorem turn_text {P : Program} {w : World} {K : PySem.W.Frag} {tg : Expr} {it : Addr} {ty : String} {l : List Nat} {t : Tok} (hty : ty = "str_ascii_iterator" ∨ ty = "str_iterator")
    (W : ∀ A : Around, A.handled = none → Walks P w A it [it] [it] (tx l).cps.size (SignAt (tx l)) (fun i h => h.IsStrIter it ty (tx l) t i)) : Turn P w K tg (Itx l) [it] it (fun i h => h.IsStrIter it ty (tx l) t i) where
  mem := by simp
  obj := fun i h st b hb => by
    have e : b = it := by simpa using hb
    subst e
    obtain ⟨o, e, c, d⟩ := st
    exact ⟨o, e, fun v z => by rw [d] at z; cases z⟩
  keep := fun i h h' st k => by
    obtain ⟨o, e, r⟩ := st
    exact ⟨o, k it (by simp) o e, r⟩
  item := by
    intro X hP hw hK hc i pins s σ H E I hf st hg
    subst hP hw hK
    obtain ⟨f0, f1, f2, f3, f4, f5⟩ := hf it (by simp)
    refine (W X.A (I.ok.hd hc)).item i s _ _ (by have : i < l.length := hg; simpa [tx] using this) st fun v h' tk hv st' kk => ?_
    obtain ⟨c, u, hcu, rfl⟩ := hv
    have I1 : Inv X pins σ H { s with heap := h', toks := tk } := I.turned (fun b o hb e => kk b o (by simpa using hb) e) f0 f1 f3 f4 f5
    obtain ⟨o, e, cl, d⟩ := id st'
    refine ⟨_, rfl, go_of (s := { s with heap := h', toks := tk }) (n := ty) e cl d (by rcases hty with rfl | rfl <;> decide) ⟨T [c], H, I1, ⟨u, rfl⟩, ⟨rfl, c, ?_, rfl⟩, st', fun b hb => (hf b hb).1⟩⟩
    simpa [tx] using hcu
  done := by
    intro X hP hw hK hc i pins s σ H E I hf st hg
    subst hP hw hK
    obtain ⟨f0, f1, f2, f3, f4, f5⟩ := hf it (by simp)
    have hn : l.length ≤ i := hg
    obtain ⟨o, e, cl, d⟩ := id st
    rcases hty with rfl | rfl
    · exact wpAny_pyNext_ascii_end (I.ok.hd hc) st (by simpa [tx] using hn) fun h' eb => ⟨rfl, I.turned (t' := s.toks) (fun b o hb e => eb b o hb e) f0 f1 f3 f4 f5⟩
    · exact wpAny_pyNext_wide_end (I.ok.hd hc) st (by simpa [tx] using hn) fun h' eb => ⟨rfl, I.turned (t' := s.toks) (fun b o hb e => eb b o hb e) f0 f1 f3 f4 f5⟩
  self := fun A i s Q E st h => by
    rcases hty with rfl | rfl
    · exact wpAny_pyIter_striter_ascii st h
    · exact wpAny_pyIter_striter_wide st h
noncomputable def iStr (tl : TE) : TI := fun σ H R => tl σ H fun x H1 => ∃ l, x = T l ∧ R (Itx l) H1
section
variable {X : Cx} {tg : Expr}
theorem pi_str {e : Expr} {tl : TE} (hl : PE X e tl) : PI X tg e (iStr tl) := by
  intro pins s σ H R I h
  refine thn (hl pins s σ H _ I h) fun v s1 ⟨x, H1, I1, r1, q1⟩ => ?_
  obtain ⟨l, rfl, q⟩ := q1
  obtain ⟨t, rfl⟩ := r1
  have fin : ∀ (ty : String) (o : Obj), (ty = "str_ascii_iterator" ∨ ty = "str_iterator") → (∀ A : Around, A.handled = none → Walks X.prog X.w A s1.heap.objs.size [s1.heap.objs.size] [s1.heap.objs.size] (tx l).cps.size (SignAt (tx l)) (fun i h => h.IsStrIter s1.heap.objs.size ty (tx l) t i)) →
      (s1.heap.push o).IsStrIter s1.heap.objs.size ty (tx l) t 0 → PIE X pins σ tg R (.ref s1.heap.objs.size) { s1 with heap := s1.heap.push o } := fun ty o hty W st => by
    refine ⟨s1.heap.objs.size, [s1.heap.objs.size], _, _, H1, rfl, I1.kept (t' := s1.toks) fun b o e => Heap.get?_push_of_some _ e, turn_text hty W, st, fun b hb => ?_, q⟩
    have e : b = s1.heap.objs.size := by simpa using hb
    subst e
    exact I1.fpOk (Nat.le_refl _) (I1.hok.fresh (Nat.le_refl _))
  cases ha : (tx l).cps.all (· < 128)
  · exact wpAny_pyIter_wide ha (fin "str_iterator" _ (.inr rfl) (fun A hA => Walks.strWide hA _ (tx l) t) ⟨_, Heap.get?_push_size _ rfl, rfl, rfl⟩)
  · exact wpAny_pyIter_ascii ha (fin "str_ascii_iterator" _ (.inl rfl) (fun A hA => Walks.strAscii hA _ (tx l) t) ⟨_, Heap.get?_push_size _ rfl, rfl, rfl⟩)
end
theorem for_text {l : List Nat} {g : TG} {tb : TS} {D : Ends} {σ : St} {H : Hp} (Pv : Nat → St → Hp → Prop) (h0 : Pv 0 σ H)
    (hs : ∀ i c σ H, l[i]? = some c → Pv i σ H → g (T [c]) σ H fun σ2 H2 => tb { D with nx := Pv (i + 1), ct := Pv (i + 1), bk := D.nx } σ2 H2) (hd : ∀ σ H, Pv l.length σ H → D.nx σ H) :
    ∃ W : Nat → Nat → St → Hp → Prop, (∃ m, W 0 m σ H) ∧ ∀ i m σ H, W i m σ H →
      ((Itx l).stop i H ∧ D.nx σ H) ∨ ((Itx l).go i H ∧ ∃ N : St → Hp → Prop, (∀ σ' H', N σ' H' → ∃ m', m' < m ∧ W (i + 1) m' σ' H') ∧ ∀ x H', (Itx l).yld i H x H' → g x σ H' fun σ2 H2 => tb { D with nx := N, ct := N, bk := D.nx } σ2 H2) := by
  refine ⟨fun i m σ H => m = l.length - i ∧ i ≤ l.length ∧ Pv i σ H, ⟨l.length, by simp, Nat.zero_le _, h0⟩, ?_⟩
  rintro i m σ H ⟨rfl, hi, p⟩
  by_cases hlt : i < l.length
  · refine .inr ⟨hlt, Pv (i + 1), fun σ' H' p' => ⟨l.length - (i + 1), by omega, rfl, hlt, p'⟩, fun x H' y => ?_⟩
    obtain ⟨rfl, c, hc, rfl⟩ := y
    exact hs i c σ _ hc p
  · obtain rfl : i = l.length := by omega
    exact .inl ⟨Nat.le_refl _, hd σ H p⟩

section
variable {X : Cx}
theorem op_notin_sT : OpR X (compareOp .NotIn) (fun x y H Q => ∃ c, x = T [c] ∧ ∃ l, y = T l ∧ Q (.bl (!decide (c ∈ l))) H) := by
  intro pins s σ H x y v u Q I rx ry h
  obtain ⟨c, e1, l, e2, q⟩ := h
  exact op_notin_str pins s σ H x y v u Q I rx ry ⟨tx [c], tx l, e1, e2, by rw [show tx [c] = ⟨#[c]⟩ from rfl, StrLaws.found_one, tx_cps]; exact q⟩
theorem mt_index6 : MtR X "str.index" (fun x xs H Q => x = T [97, 98, 99, 100, 101, 102] ∧ ∃ c : Nat, xs = [T [c]] ∧ (97 ≤ c ∧ c ≤ 102) ∧ Q (.int ((c - 97 : Nat) : Int)) H) := by
  intro pins s σ H x xs v us Q I rx rs h
  obtain ⟨rfl, c, rfl, hc, q⟩ := h
  obtain ⟨t, rfl⟩ := rx
  obtain ⟨u, rfl, ru⟩ := vals1 rs
  obtain ⟨t', rfl⟩ := ru
  have key : ∀ d : Nat, d < 6 → Builtin.Str.occurrences (tx [97, 98, 99, 100, 101, 102]) (tx [97 + d]) 0 (tx [97, 98, 99, 100, 101, 102]).length 1 = [d] := by decide +kernel
  have e := key (c - 97) (by omega)
  rw [show 97 + (c - 97) = c by omega] at e
  exact SC.index e ⟨.int ((c - 97 : Nat) : Int), H, I.tok _, ⟨_, rfl⟩, q⟩

namespace RV
variable {prog : Program} {w : World} {A : Around} {E : Value → Shared → Prop} {s : Shared}
end RV
end
end L2

set_option Elab.async false
set_option linter.all false
set_option maxRecDepth 100000
set_option maxHeartbeats 4000000

namespace L2
open PySem PySem.Spec PyProof.Rows

section
variable {P : Program} {w : World} {K : PySem.W.Frag} {mg : Str → Option Value} {base : Heap}
end

open PySem.W in
set_option genInjectivity false in
structure Knd (K : PySem.W.Frag) (C : Addr) : Prop where
  ga : findIn K (.ref C) "__getattribute__" = some (some (.builtin "BaseException.__getattribute__"))
  hk : findIn K (.ref C) "__getattr__" = some none
  ha : findIn K (.ref C) "__class__" = some (some (.builtin "object.__class__"))
  hn : specialIn K (.builtin "object.__class__") "__get__" = some (some (.builtin "getset_descriptor.__get__"))
  htk : takesIn K (.builtin "object.__class__") = some true
  hm : mroIn K C (.type "object") = some true
  hb : mroIn K C (.type "BaseException") = some true
  cl : (clsIn K C).isSome = true
namespace EX
open PySem.W PySem.Calls PySem.Builtin PySem.Builtin.ObjectAttr PySem.Builtin.Getset_descriptor
variable {prog : Program} {w : World} {A : Around} {E : Value → Shared → Prop} {s : Shared} {K : PySem.W.Frag} {a C : Addr}
theorem ty {M : Model} {h : Heap} (p : ∃ o, h.get? a = some o ∧ o.cls = .ref C) : Looks M h (typeOf (.ref a)) (.ref C) := by
  obtain ⟨o, h1, h2⟩ := p
  exact h2 ▸ (Looks.ld h1).andThen .now
theorem found {M : Model} {h : Heap} (X : K.In h) (k : Knd K C) : Looks M h (find (.ref a) (.ref C) "__class__") (.bind (.builtin "getset_descriptor.__get__") (.builtin "object.__class__")) := by
  have L1 := looks_findIn (M := M) X k.ha
  have L2 : Looks M h (getOf (some (.builtin "object.__class__"))) (some (.builtin "getset_descriptor.__get__")) := looks_specialIn X k.hn
  have L3 := looks_takesIn (M := M) X k.htk
  refine L1.andThen (L2.andThen ?_)
  exact (show Looks M h (dataDescriptor? (some (.builtin "object.__class__")) (some (.builtin "getset_descriptor.__get__"))) (some (.builtin "getset_descriptor.__get__", .builtin "object.__class__")) from L3.andThen .now).andThen (Looks.tag .now)
theorem get {tp : Value} {R : Result → Shared → Prop} (X : K.In s.heap) (k : Knd K C) (p : ∃ o, s.heap.get? a = some o ∧ o.cls = .ref C) (h : R (.ok (.ret (.ref C))) s) :
    codeAny (model prog w) A (.call (.builtin "getset_descriptor.__get__") ⟨[.builtin "object.__class__", .ref a, tp], []⟩) R s := by
  obtain ⟨hh, g, dr, t, os⟩ := s
  have L0 := ty (M := model prog w) p
  have L1 := looks_mroIn (M := model prog w) X k.hm
  refine codeAny_call_builtin KF.slot_gs.plain KF.entry_gs (KF.slot_gs.check _ _ _ _ _ _ _ _ KF.type_class (KF.args_gs _ _ _) ?_)
  unfold Builtin.«getset_descriptor.__get__» descrGet
  rw [dga_obj]
  refine wpAny_bind (wpAny_pure ?_)
  unfold descrGetter descrCheckInstance descrNameAndClass isInstance
  simp only [KF.owner_class]
  repeat lk
  refine ⟨Code.quiet_builtin _ (by decide +kernel), codeAny_builtin KF.entry_class ?_⟩
  unfold Builtin.«object.__class__» shownTypeOf
  repeat lk
  exact h
theorem attr {Q : Option Value → Shared → Prop} (X : K.In s.heap) (k : Knd K C) (p : ∃ o, s.heap.get? a = some o ∧ o.cls = .ref C) (h : Q (some (.ref C)) { s with toks := s.toks + 1 }) :
    wpAny (model prog w) A (getAttr? (.ref a) "__class__") Q E s := by
  obtain ⟨hh, g, d, t, os⟩ := s
  have L0 := ty (M := model prog w) p
  have L1 := looks_findIn (M := model prog w) X k.ga
  have L2 := looks_findIn (M := model prog w) X k.hk
  have L3 := found (M := model prog w) (a := a) X k
  have L4 := looks_mroIn (M := model prog w) X k.hb
  unfold getAttr? getAttrBy? getAttrBy
  refine wpAny_bind (wpAny_mkText (wpAny_bind (wpAny_attempt (wpAny_holding (wpAny_bind (L0.at (wpAny_bind (L1.at ?_))))))))
  dsimp only
  have hx : (Value.builtin "BaseException.__getattribute__" == Value.builtin "object.__getattribute__") = false := by decide +kernel
  rw [if_neg (by rw [hx, Bool.and_false]; exact Bool.false_ne_true)]
  unfold getAttrByItsOwn hookBefore
  refine wpAny_bind (L2.at (wpAny_bind (wpAny_attempt (wpAny_holding ?_))))
  unfold callGetattribute boundAndCalled
  rw [if_neg (show ¬ (false && onTheHeap (Value.builtin "BaseException.__getattribute__")) = true by decide)]
  refine wpAny_bind (wpAny_of_eq (F.attr_ValueError.ga.bind (.ref a)) ?_)
  have hk0 : builtinKind "BaseException.__getattribute__" = some .slot := by decide +kernel
  have hs0 : splitId "BaseException.__getattribute__" = some ("BaseException", "__getattribute__") := by decide +kernel
  have ha0 := F.args_bexc_ga (.ref a) (.str "__class__" t)
  refine wpAny_call (codeAny_call_builtin F.attr_ValueError.ga.plain F.entry_bexc_ga ?_)
  simp only [checkBuiltinCall, hk0, hs0]
  unfold isInstance
  refine wpAny_bind (wpAny_bind (L0.at (L4.at ?_)))
  rw [if_neg (by decide)]
  refine wpAny_of_eq ha0 ?_
  show wpAny _ A.in1 («object.__getattribute__» ⟨[.ref a, .str "__class__" t], []⟩) _ _ _
  unfold «object.__getattribute__» slotArgs attrName
  iterate 8 lk
  refine wpAny_bind (wpAny_pure (wpAny_bind (L0.at (wpAny_bind (L3.at ?_)))))
  dsimp only
  unfold bindTo
  refine wpAny_bind (wpAny_holding (wpAny_call (get (a := a) (C := C) X k p (show wpAny _ _ (ret (Value.ref C)) _ _ _ from wpAny_pure (handed_on rfl (wpAny_pure h))))))
theorem kit (k : Knd K C) : KitX K (.ref a) (.ref C) (fun h => ∃ o, h.get? a = some o ∧ o.cls = .ref C) where
  ty := fun _ _ _ p => ty p
  it := fun _ _ X _ => by
    obtain ⟨cd, hc⟩ := Option.isSome_iff_exists.mp k.cl
    unfold clsIn at hc
    split at hc
    · rename_i ho
      intro A' Q' E' s' kp q
      unfold isType loadHead
      exact wpAny_bind (wpAny_loadPart (kp _ _ (X _ _ ho)) (wpAny_pure q))
    · cases hc
  ne := fun h tp dd its n sl X htp => by
    obtain ⟨cd, hc⟩ := Option.isSome_iff_exists.mp k.cl
    refine Bool.eq_false_iff.mpr fun q => ?_
    obtain rfl : C = tp := Value.ref.inj (beq_iff_eq.mp q)
    unfold clsIn at hc
    split at hc
    · rename_i ho
      have z := (X _ _ ho).symm.trans htp
      cases z
    · cases hc
  ca := fun X p h => attr X k p h
end EX
section
variable {X : Cx}
noncomputable def clsV : Value → Option V
  | .ref c => some (.ref c)
  | .type n => some (.ty n)
  | _ => none
theorem clsV_rel {c : Value} {v : V} {u : Value} (h : clsV c = some v) (r : RelV v u) : u = c := by
  cases c <;> first
    | (cases h; exact r)
    | cases h
theorem vals_refs : ∀ {cs : List Addr} {us : List Value}, Vals (cs.map V.ref) us → us = cs.map Value.ref
  | [], _, r => by cases r; rfl
  | c :: cs, us, r => by
    rw [List.map_cons] at r
    cases r with
    | cons r1 r2 =>
      cases r1
      rw [vals_refs r2]
      rfl
end
end L2

set_option Elab.async false
set_option linter.all false
set_option maxRecDepth 100000
set_option maxHeartbeats 4000000

namespace L2
open PySem PySem.Spec PyProof.Rows

noncomputable def DictIs (h : Heap) (a : Addr) : Option Addr → Prop
  | none => True
  | some dx => ∃ o, h.get? a = some o ∧ o.dict = some dx
theorem DictIs.keep {h h' : Heap} {a : Addr} {od : Option Addr} (d : DictIs h a od) (k : DKeep h h') (t : ∃ o, h'.get? a = some o) : DictIs h' a od := by
  cases od with
  | none => trivial
  | some dx =>
    obtain ⟨o, e, q⟩ := d
    obtain ⟨o', e'⟩ := t
    exact ⟨o', e', (k.dict e e').trans q⟩
noncomputable def CX2 (P : Program) (w : World) : CXT := fun outer H s E e s' => ∃ a cls od H', e = .ref a ∧ Fly P w outer H s a cls H' s' ∧ DictIs s'.heap a od ∧ E cls od H'
section
variable {X : Cx} {pins : List (Addr × Obj)} {σ : St} {H H' : Hp} {s s' : Shared} {a : Addr} {cls : Value} {E : Value → Shared → Prop}
theorem Fly.here {P : Program} {w : World} {outer : List Env} (Y : Fly P w outer H s a cls H' s') : ∃ o, s'.heap.get? a = some o := by
  obtain ⟨B, t, hfl, _⟩ := Y.ex
  obtain ⟨ob, hob, _⟩ := hfl.there
  exact ⟨ob, hob⟩
theorem Fly.on2 {od : Option Addr} (I : Inv X pins σ H s) (O : Own X) (Y : Fly X.prog X.w X.stack H s a cls H' s') (d : DictIs s'.heap a od) :
    wpAny (model X.prog X.w) X.A (leaving X.env (.ref a)) (fun _ s'' => Fly X.prog X.w X.outer X.H₀ X.s₀ a cls H' s'' ∧ DictIs s''.heap a od) E s' :=
  wpAny_mono ((ds_leaving _ _).any (Fly.on I O Y)) (fun _ _ z => ⟨z.1, d.keep z.2 z.1.here⟩) fun _ _ z => z
theorem Fly.again2 {od : Option Addr} {A : Around} {Q : Unit → Shared → Prop} (I : Inv X pins σ H s) (Y : Fly X.prog X.w X.stack H s a cls H' s') (d : DictIs s'.heap a od)
    (h : ∀ h', Fly X.prog X.w X.stack H s a cls H' { s' with heap := h' } → DictIs h' a od → Q () { s' with heap := h' }) : wpAny (model X.prog X.w) A (setFlight (.ref a) none) Q E s' :=
  wpAny_mono ((ds_setFlight _ _).any (Fly.again (Q := fun _ s2 => ∃ h', s2 = { s' with heap := h' } ∧ Fly X.prog X.w X.stack H s a cls H' { s' with heap := h' }) I Y fun h' Z => ⟨h', rfl, Z⟩))
    (fun _ _ z => by obtain ⟨⟨h', rfl, Z⟩, k⟩ := z; exact h h' Z (d.keep k Z.here)) fun _ _ z => z
theorem Fly.look2 {od : Option Addr} {Q : Unit → Shared → Prop} (I : Inv X pins σ H s) (O : Own X) (Y : Fly X.prog X.w X.stack H s a cls H' s') (d : DictIs s'.heap a od)
    (h : ∀ h', Fly X.prog X.w X.stack H s a cls H' { s' with heap := h' } → DictIs h' a od → Q () { s' with heap := h' }) :
    wpAny (model X.prog X.w) X.A (noteFrame (.ref a) X.env) (fun _ s2 => wpAny (model X.prog X.w) X.A (setFlight (.ref a) none) Q E s2) E s' := by
  have z := Fly.look (E := E) (Q := fun _ s2 => ∃ h', s2 = { s' with heap := h' } ∧ Fly X.prog X.w X.stack H s a cls H' { s' with heap := h' }) I O Y fun h' Z => ⟨h', rfl, Z⟩
  refine wpAny_mono ((ds_noteFrame _ _).any z) (fun _ s2 z2 => ?_) fun _ _ z => z
  refine wpAny_mono ((ds_setFlight _ _).any z2.1) (fun _ _ z3 => ?_) fun _ _ z => z
  obtain ⟨⟨h', rfl, Z⟩, k⟩ := z3
  refine h h' Z ?_
  cases od with
  | none => trivial
  | some dx =>
    obtain ⟨o, e, q⟩ := d
    obtain ⟨o2, e2, q2⟩ := z2.2 a o (Heap.get?_some_iff.mp e).1
    obtain ⟨o3, e3, q3⟩ := k a o2 e2
    obtain ⟨o', e'⟩ := Z.here
    have e3' : h'.objs[a]? = some o3 := e3
    rw [(Heap.get?_some_iff.mp e').1] at e3'
    cases e3'
    exact ⟨_, e', q3.trans (q2.trans q)⟩
end
noncomputable def ExD (a : Addr) (cls : Value) (od : Option Addr) : HO := .ext fun h => (∃ o, h.get? a = some o ∧ o.cls = cls ∧ ∃ vs, o.data = .fields vs) ∧ DictIs h a od
theorem exD_ok {P : Program} {w : World} {H : Hp} {h : Heap} {a : Addr} {cls : Value} {od : Option Addr} (h1 : ∃ o, h.get? a = some o ∧ o.cls = cls ∧ ∃ vs, o.data = .fields vs) (h2 : DictIs h a od) : ObjOk P w H h a (ExD a cls od) := by
  refine ⟨⟨h1, h2⟩, let ⟨o, e, _⟩ := h1; ⟨o, e⟩, fun h3 h4 ⟨⟨o, e, c⟩, d⟩ k => ⟨⟨o, k o e, c⟩, ?_⟩⟩
  cases od with
  | none => trivial
  | some dx => obtain ⟨o', e', q⟩ := d; exact ⟨o', k o' e', q⟩
section
variable {X : Cx} {pins : List (Addr × Obj)} {σ : St} {H H' : Hp} {s s' : Shared} {a : Addr} {cls : Value}
theorem Fly.track2 {od : Option Addr} (I : Inv X pins σ H s) (Y : Fly X.prog X.w X.stack H s a cls H' s') (d : DictIs s'.heap a od) : H' a = none ∧ Inv X pins σ (upd H' a (ExD a cls od)) s' := by
  obtain ⟨na, J⟩ := Y.track I
  refine ⟨na, ?_⟩
  have hf : ∃ o, s'.heap.get? a = some o ∧ o.cls = cls ∧ ∃ vs, o.data = .fields vs := by
    obtain ⟨B, t, hfl, _⟩ := Y.ex
    obtain ⟨oe, vs, h1, h2, h3, _⟩ := hfl.first
    exact ⟨oe, h1, h2, vs, h3⟩
  have hx : ObjOk X.prog X.w (upd H' a (.ext fun h => ∃ o, h.get? a = some o ∧ o.cls = cls)) s'.heap a (.ext fun h => ∃ o, h.get? a = some o ∧ o.cls = cls) := J.hok a _ upd_same
  have K := J.write (x := a) (e := a) (o := ExD a cls od) (t' := s'.toks) (h' := s'.heap) (by rw [upd_same]; exact True.intro) (.inl rfl) (fun _ _ _ q => q) hx.2.1 (exD_ok hf d)
  rw [upd_upd] at K
  exact K
end
section
variable {P : Program} {w : World} {K : PySem.W.Frag} {mg : Str → Option Value} {base : Heap} {N : List Str} {qual : Str} {scope : Scope} {f : Addr} {cdv : Value} {A : Around} {outer : List Env} {s : Shared} {H : Hp} {E : XK}
theorem passX2 : Passes (CX2 P w) (cxOf (CX2 P w) P w K mg base N qual scope f cdv A outer s H E) E := fun pins σ H1 s1 e s' I h => by
  obtain ⟨a, cls, od, H', rfl, Y, d, q⟩ := h
  exact thn (Fly.on2 I ownX Y d) fun _ s'' Z => ⟨a, cls, od, H', rfl, Z.1, Z.2, q⟩
theorem raiseX2 {C : Addr} {pins : List (Addr × Obj)} {σ : St} {H1 : Hp} {s1 : Shared} {h : Heap} {a : Addr} {args : List Value} (I : Inv (cxOf (CX2 P w) P w K mg base N qual scope f cdv A outer s H E) pins σ H1 s1) (hx : Heap.MadeExcOf s1.heap h a (.ref C) args) (q : E (.ref C) none H1) :
    (cxOf (CX2 P w) P w K mg base N qual scope f cdv A outer s H E).xe (.ref a) { s1 with heap := h } := thn (Fly.raised I ownX hx) fun _ s'' Z => ⟨a, .ref C, none, H1, rfl, Z, trivial, q⟩
theorem pass2 {X : Cx} : Passes (CX2 P w) X E0 := fun _ _ _ _ _ _ _ h => by
  obtain ⟨_, _, _, _, _, _, _, q⟩ := h
  exact q.elim
theorem Fun.okX2 {x qual : Str} {st : Stmt} {f : Addr} {fd : FuncData} {N ps : List Str} {k : Nat} {sp : Sp} (F : Fun K x qual st f fd) (S : FnScope N ps (defScope st)) (len : ∀ vs H Q E, sp vs H Q E → vs.length = ps.length)
    (hbody : ∀ (cdv : Value) (A : Around) (outer : List Env) (s : Shared) (H : Hp) (vs : List V) (Q : VK) (E : XK), Room k (A.deeper (envOfC qual (defScope st) s.heap.objs.size f cdv)) → sp vs H Q E →
      ∃ t, PSs (cxOf (CX2 P w) P w K mg base N qual (defScope st) f cdv A outer s H E) (defBody st) t ∧ t { nx := fun _ H' => Q .non H', rt := Q } (start N vs) H) : FnOk P w K mg base (CX2 P w) (k + 1) f fd ps sp := by
  obtain ⟨oc, od, kV, doc, pm, an, cdv, ct, osl, rfl, lk, hcd⟩ := F.ex
  exact fn_of lk hcd S len fun A outer s H vs Q E hr hsp => hbody cdv A outer s H vs Q E hr hsp
theorem Fun.okN2 {x qual : Str} {st : Stmt} {f : Addr} {fd : FuncData} {N ps : List Str} {k : Nat} {sp : Sp} (F : Fun K x qual st f fd) (S : FnScope N ps (defScope st)) (len : ∀ vs H Q E, sp vs H Q E → vs.length = ps.length)
    (hbody : ∀ (cdv : Value) (A : Around) (outer : List Env) (s : Shared) (H : Hp) (vs : List V) (Q : VK) (E : XK), Room k (A.deeper (envOfC qual (defScope st) s.heap.objs.size f cdv)) → sp vs H Q E →
      ∃ t, PSs (cxOf (CX2 P w) P w K mg base N qual (defScope st) f cdv A outer s H E).nox (defBody st) t ∧ t { nx := fun _ H' => Q .non H', rt := Q } (start N vs) H) : FnOk P w K mg base (CX2 P w) (k + 1) f fd ps sp := by
  obtain ⟨oc, od, kV, doc, pm, an, cdv, ct, osl, rfl, lk, hcd⟩ := F.ex
  refine fn_of lk hcd S len fun A outer s H vs Q E hr hsp => ?_
  obtain ⟨t, h, q⟩ := hbody cdv A outer s H vs Q E hr hsp
  exact ⟨t, h.nox, q⟩
end
noncomputable def XP2 (X : Cx) (pins : List (Addr × Obj)) (R : St → Value → Option Addr → Hp → Prop) (e : Value) (s' : Shared) : Prop :=
  ∃ a cls od σ' H s1 H', e = .ref a ∧ Inv X pins σ' H s1 ∧ Fly X.prog X.w X.stack H s1 a cls H' s' ∧ DictIs s'.heap a od ∧ R σ' cls od H'
noncomputable abbrev TTy2 := Ends → (St → Value → Option Addr → Hp → Prop) → St → Hp → Prop
noncomputable def PTy2 (X : Cx) (st : List Stmt) (t : TTy2) : Prop :=
  ∀ (pins : List (Addr × Obj)) (s : Shared) (σ : St) (H : Hp) (D : Ends) (R : St → Value → Option Addr → Hp → Prop), Inv X pins σ H s → t D R σ H → wpAny (model X.prog X.w) X.A (execs st X.env) (SP X pins D) (XP2 X pins R) s
noncomputable def tyCall2 (sp : Sp) (t : TA) : TTy2 := fun D R σ H => t σ H fun vs H1 => sp vs H1 (fun _ H2 => D.nx σ H2) fun cls od H2 => R σ cls od H2
noncomputable abbrev TH2 := Ends → St → Value → Option Addr → Hp → Prop
noncomputable def PH2 (X : Cx) (hs : List ExceptHandler) (t : TH2) : Prop :=
  ∀ (pins : List (Addr × Obj)) (σ : St) (H : Hp) (s : Shared) (a : Addr) (cls : Value) (od : Option Addr) (H' : Hp) (s' : Shared) (D : Ends), Inv X pins σ H s → Fly X.prog X.w X.stack H s a cls H' s' → DictIs s'.heap a od → t D σ cls od H' →
    wpAny (model X.prog X.w) X.A (handleBy (.ref a) X.env hs) (SP X pins D) X.xe s'
section
variable {X : Cx}
theorem py_call2 {x : Str} {j k : Nat} {ps : List Str} {sp : Sp} {e : Expr} {es : List Expr} {t : TA} {p cpos pos : Pos} (c : Cal X.prog X.w X.K X.mg X.base (CX2 X.prog X.w) x j ps sp) (hr : Room k X.A) (ha : PA X.nox (e :: es) t)
    (hjk : j ≤ k := by decide) (hg : Gl X x := by rfl) (hdb : (x == ("__debug__" : Str)) = false := by decide) (he : starEach (e :: es) X.env = (false, eval e X.env) :: starEach es X.env := by rfl) (hpl : (backTo cpos (starEach es X.env)).any (·.1) = false := by rfl)
    (hs : swapsWith (.Call (.Name x p) (e :: es) [] cpos) none pos.line X.env = pure false := by rfl) :
    PTy2 X [.Expr (.Call (.Name x p) (e :: es) [] cpos) pos] (tyCall2 sp t) := by
  intro pins s σ H D R I q
  obtain ⟨f, fd, F, hm, hk, hb⟩ := c.ex
  refine wpAny_execs_cons (wpAny_Expr_any (wpAny_Call_Name_kw (ld_glob I hg hm ?_ hdb)) I.quiet hs)
  refine PySem.W.callWith_K (h₀ := X.base) I.ok.mod.kin hk (wpAny_mono (ha cpos pins s σ H _ (I.wish _) q) (fun us s1 z => ?_) fun _ _ z => False.elim z) he hpl
  obtain ⟨vs, H1, I0, r, q1⟩ := z
  have I1 : Inv X pins σ H1 s1 := I0.unwish
  refine ⟨I1.kIn, ?_⟩
  have hl : us.length = ps.length := by rw [← r.length]; exact F.len _ _ _ _ q1
  have hbt := hb s1 us I1.kIn (by rw [List.append_nil]; exact hl)
  rw [List.append_nil] at hbt
  refine wpAny_call (codeAny_mono (F.run X.A X.stack s1 H1 ⟨us, []⟩ us vs _ _ (hr.mono hjk) I1.env0 hbt r q1) fun r' s' hq => ?_)
  cases r' with
  | error x' =>
    obtain ⟨a, cls, od, H', rfl, Y, d, q2⟩ := hq
    exact ⟨a, cls, od, σ, H1, s1, H', rfl, I1, Y, d, q2⟩
  | ok fl =>
    cases fl with
    | ret u =>
      obtain ⟨v, H', I2, _, q2⟩ := I1.after hq
      exact wpAny_execs_nil ⟨σ, H', I2, q2⟩
    | next => exact False.elim hq
    | brk => exact False.elim hq
    | cont => exact False.elim hq
noncomputable def thNone2 : TH2 := fun _ _ _ _ _ => False
theorem ph_nil2 : PH2 X [] thNone2 := fun _ _ _ _ _ _ _ _ _ _ _ _ _ h => False.elim h
noncomputable def thAs2 (K : PySem.W.Frag) (c : Value) (i : Nat) (ts : TS) (tr : TH2) : TH2 := fun D σ cls od H' =>
  (PySem.W.exmOne K cls c = some true ∧ ∀ a, H' a = none → ts { nx := fun σ2 H2 => D.nx (σ2.set i none) H2, rt := D.rt } (σ.set i (some (.ref a))) (upd H' a (ExD a cls od))) ∨ (PySem.W.exmOne K cls c = some false ∧ tr D σ cls od H')
theorem ph_as2 {x n : Str} {c : Value} {np pos : Pos} {b₀ : Stmt} {suite : List Stmt} {rest : List ExceptHandler} {ts : TS} {tr : TH2} {i : Nat} (hm : X.mg x = some c) (hN : X.N.Nodup) (hi : X.N[i]? = some n) (hlo : X.env.scope.names.lookup n = some .local)
    (hsu : ∀ a, PSs (cxMark X a) (b₀ :: suite) ts) (hr : PH2 X rest tr) (hg : Gl X x := by rfl) (hd : (x == ("__debug__" : Str)) = false := by decide) :
    PH2 X (.ExceptHandler (some (.Name x np)) (some n) (b₀ :: suite) pos :: rest) (thAs2 X.K c i ts tr) := by
  intro pins σ H s a cls od H' s' D I Y d h
  have I1 := Y.inv I
  have hcls : (X.env.scope.kind == .class || (X.env.scope.kind == .module && X.env.locals != X.env.globals)) = false := by rw [I.ok.kind]; rfl
  refine wpAny_handleBy_cons (codeAny_handlers_test (ld_glob (X := cxMark X a) (I1.mark a) hg hm ?_ hd)) (by intro q; cases q)
  rcases h with ⟨e, h⟩ | ⟨e, h⟩
  · refine (PySem.W.exm_one I1.kIn Y.looks e).here ?_
    refine codeAny_handlers_suite_as (Y.again2 I d fun h6 Y6 d6 => ?_)
    obtain ⟨na, I7⟩ := Y6.track2 I d6
    refine store_ok (X := cxMark X a) (i := i) (v := .ref a) (I7.mark a) hN hi (.inl hlo) rfl (fun s8 I8 => ?_) (.inr hlo)
  
    have gone : ∀ (σ2 : St) (H2 : Hp) (s2 : Shared) (Q : Shared → Prop), Inv X pins σ2 H2 s2 → (∀ s3, Inv X pins (σ2.set i none) H2 s3 → Q s3) →
        wpAny (model X.prog X.w) X.A (do bindName X.env n .none; unbindBehindTheSuite X.env n pos) (fun _ s3 => Q s3) X.xe s2 := fun σ2 H2 s2 Q I2 hQ => by
      refine wpAny_bind (wpAny_bindName (store_ok (v := .non) I2 hN hi (.inl hlo) rfl (fun s3 I3 => ?_) (.inr hlo)))
      have hi2 : i < (σ2.set i (some V.non)).length := by rw [I3.len]; exact (List.getElem?_eq_some_iff.mp hi).1
      obtain ⟨m, hn, hl⟩ := id I3.loc
      obtain ⟨u, r, l⟩ := hl i n .non hi (by rw [List.getElem?_set_self (by rw [List.length_set] at hi2; exact hi2)]) (.inl hlo)
      have hv : m n = some u := by
        rcases l with ⟨_, z⟩ | ⟨k, _⟩
        · exact z
        · have k' : X.env.scope.names.lookup n = some .cell ∨ X.env.scope.names.lookup n = some .free := k
          rw [hlo] at k'
          rcases k' with z | z <;> cases z
      unfold unbindBehindTheSuite
      refine wpAny_onRaise (wpAny_unbindName_local hlo hn hv hcls fun h' u' hns hsb => ?_)
      refine hQ { s3 with heap := h' } ?_
      have J := I3.turnFrame (σ' := σ2.set i none) hns hsb (by rw [List.length_set, List.length_set]) (fun j y v e1 e2 => ?_)
      · exact J
      · by_cases hj : j = i
        · subst hj
          rw [List.getElem?_set_self (by rw [List.length_set] at hi2; exact hi2)] at e2
          cases e2
        · rw [List.getElem?_set_ne (Ne.symm hj)] at e2
          refine ⟨by rw [List.getElem?_set_ne (Ne.symm hj)]; exact e2, fun m2 hn2 => ?_⟩
          have : y ≠ n := fun z => hj (nodup_ix hN e1 (z ▸ hi))
          show (if y = n then u' else m y) = m2 y
          rw [if_neg this]
          exact nsInj hn hn2 y
    have hq := h a na
    refine wpAny_mono (hsu a pins s8 _ _ _ I8 hq) (fun f s9 z => ?_) fun _ _ z => False.elim z
    cases f with
    | next =>
      obtain ⟨σ9, H9, I9, q9⟩ := z
      exact gone σ9 H9 s9 _ (I9.unmark I.ok) fun s3 I3 => ⟨_, H9, I3, q9⟩
    | ret u =>
      obtain ⟨v, σ9, H9, I9, r9, q9⟩ := z
      exact gone σ9 H9 s9 _ (I9.unmark I.ok) fun s3 I3 => ⟨v, _, H9, I3, r9, q9⟩
    | brk =>
      obtain ⟨_, _, _, q9⟩ := z
      exact False.elim q9
    | cont =>
      obtain ⟨_, _, _, q9⟩ := z
      exact False.elim q9
  · refine (PySem.W.exm_one I1.kIn Y.looks e).here ?_
    exact hr pins σ H s a cls od H' s' D I Y d h
noncomputable def tTry2 (tb : TTy2) (th : TH2) : TS := fun D σ H => tb D (fun σ' cls od H' => th D σ' cls od H') σ H
theorem ps_try2 {body : List Stmt} {h₀ : ExceptHandler} {hs : List ExceptHandler} {pos : Pos} {tb : TTy2} {th : TH2} (O : Own X) (hb : PTy2 X body tb) (hh : PH2 X (h₀ :: hs) th) : PS X (.Try body (h₀ :: hs) [] [] pos) (tTry2 tb th) := by
  intro pins s σ H D I q
  refine wpAny_Try_except (wpAny_mono (hb pins s σ H D _ I q) (fun f s1 z => ?_) fun e s1 z => ?_)
  · cases f with
    | next => exact wpAny_execs_nil z
    | ret v => exact z
    | brk => exact z
    | cont => exact z
  · obtain ⟨a, cls, od, σ', H1, s2, H', rfl, I2, Y, d, q2⟩ := z
    exact Y.look2 I2 O d fun h' Y' d' => hh pins σ' H1 s2 a cls od H' _ D I2 Y' d' q2
end
end L2

set_option Elab.async false
set_option linter.all false
set_option maxRecDepth 100000
set_option maxHeartbeats 4000000

namespace L2
open PySem PySem.Spec PyProof.Rows

noncomputable def exHeap (h : Heap) (Cl : Addr) (us : List Value) : Heap :=
  (h.push { cls := .type "tuple", data := .seq us.toArray }).push { cls := .ref Cl, data := .fields #[.ref h.objs.size, .none, .none, .none, .bool false, .none] }
theorem exHeap_keep {h : Heap} {Cl : Addr} {us : List Value} {b : Addr} {o : Obj} (e : h.get? b = some o) : (exHeap h Cl us).get? b = some o := Heap.get?_push_of_some _ (Heap.get?_push_of_some _ e)
theorem exHeap_at (h : Heap) (Cl : Addr) (us : List Value) : (exHeap h Cl us).get? (h.objs.size + 1) = some { cls := .ref Cl, data := .fields #[.ref h.objs.size, .none, .none, .none, .bool false, .none] } := by
  unfold exHeap
  heap_get
section
variable {prog : Program} {w : World} {A : Around} {E : Value → Shared → Prop} {h : Heap} {g : Array GenState} {d : Drawn} {t : Nat} {os : OsState}
variable {nm q : Str} {Cl Ns : Addr} {bs tl : List Value} {hdct : Bool} {sn : List Str} {sub : List Value} {ab : Bool} {col : Option Bool} {dd : Option Addr} {k0 k1 k2 k3 k5 : Option Value}
theorem exI_type {mN : Str → Option Value} {us : List Value} {fI : Addr} {oI : Obj} {Q : Fin → Shared → Prop} (T : OwnTail h bmVE tl)
    (c0 : h.get? Cl = some (excClassObj nm q Cl Ns bs tl hdct sn sub ab col dd k0 k1 k2 k3 k5 "ValueError.__new__")) (n0 : h.Ns Ns mN) (i0 : mN "__init__" = some (.ref fI))
    (f0 : h.get? fI = some oI) (f1 : oI.cls = .type "function") (hl : us.length ≤ sizeLine)
    (hq : wpAny (model prog w) A (call (.ref fI) (.ref (h.objs.size + 1) :: us)) (fun r s' => r = .none ∧ Q (.done (.ret (.ref (h.objs.size + 1)))) s') E ⟨exHeap h Cl us, g, d, t, os⟩) :
    wpAny (model prog w) A (Builtin.«type.__call__» ⟨.ref Cl :: us, []⟩) Q E ⟨h, g, d, t, os⟩ := by
  have F := PySem.F.excBase_ValueError
  repeat (first | with_reducible refine wpAny_loadPart_at c0 ?_ | with_reducible refine wpAny_madeBy_exc c0 ?_ | wp_step)
  refine codeAny_call_builtin_code (Code.quiet_builtin _ F.quiet) (wpAny_check_new_subT F T c0 ?_)
  refine codeAny_exc_new_subT F T c0 ?_ hl
  show wpAny (model prog w) A _ _ _ ⟨exHeap h Cl us, g, d, t, os⟩
  have c1 : (exHeap h Cl us).get? Cl = some _ := exHeap_keep c0
  have f2 : (exHeap h Cl us).get? fI = some oI := exHeap_keep f0
  have n1 : (exHeap h Cl us).Ns Ns mN := n0.keeps fun _ _ => exHeap_keep
  have T1 := T.keeps (h' := exHeap h Cl us) fun _ _ => exHeap_keep
  have e1 := exHeap_at h Cl us
  have m1 : (Value.ref Cl :: tl).contains (.ref Cl) = true := by simp
  unfold isInstance
  repeat (first | with_reducible refine wpAny_loadPart_at e1 ?_ | (with_reducible refine wpAny_isSubtype_exc c1 ?_; rw [m1]) | wp_step)
  show wpAny _ _ (typeLookup (.ref Cl) _) _ _ _
  refine wpAny_typeLookup_tail c1 n1 T1 F.mroIs F.init.lookup ?_
  rw [i0]
  refine wpAny_holding (wpAny_bind ?_)
  unfold bindSpecial
  refine wpAny_bind (wpAny_typeOf (T := "function") ⟨_, f2, f1⟩ ?_)
  rw [if_pos (by decide)]
  refine wpAny_pure (wpAny_bind (wpAny_mono hq (fun r s' hr => ?_) fun _ _ x => x))
  obtain ⟨rfl, z⟩ := hr
  wp_walk
  exact z
theorem exI_call {mN : Str → Option Value} {us : List Value} {fI : Addr} {oI : Obj} {Q : Value → Shared → Prop} (T : OwnTail h bmVE tl)
    (c0 : h.get? Cl = some (excClassObj nm q Cl Ns bs tl hdct sn sub ab col dd k0 k1 k2 k3 k5 "ValueError.__new__")) (n0 : h.Ns Ns mN) (i0 : mN "__init__" = some (.ref fI))
    (f0 : h.get? fI = some oI) (f1 : oI.cls = .type "function") (hl : us.length ≤ sizeLine)
    (hq : wpAny (model prog w) (A.under (.builtin "type.__call__" ⟨.ref Cl :: us, []⟩)) (call (.ref fI) (.ref (h.objs.size + 1) :: us)) (fun r s' => r = .none ∧ Q (.ref (h.objs.size + 1)) s') E ⟨exHeap h Cl us, g, d, t, os⟩) :
    wpAny (model prog w) A (call (.ref Cl) us) Q E ⟨h, g, d, t, os⟩ := by
  have l1 := tc_lookup
  have l2 := tc_bind (.ref Cl)
  have l3 : (⟨h, g, d, t, os⟩ : Shared).TypeIs (.ref Cl) "type" := ⟨_, c0, rfl⟩
  refine wpAny_call (codeAny_of_tree ?_)
  show wpAny _ _ (callAny (.ref Cl) _) _ _ _
  repeat (any_goals (first | assumption | with_reducible refine wpAny_loadPart_at c0 ?_ | wp_step))
  refine ⟨rfl, ?_⟩
  refine codeAny_call_builtin_at (Code.quiet_builtin _ (by decide +kernel)) entry_typeCall (wpAny_check_type_call_sub c0 (exI_type T c0 n0 i0 f0 f1 hl ?_))
  exact hq
end
section
variable {M : Model} {A : Around} {E : Value → Shared → Prop} {s : Shared} {env : Env}
variable {nm q : Str} {Cl Ns : Addr} {bs tl : List Value} {hdct : Bool} {sn : List Str} {sub : List Value} {ab : Bool} {col : Option Bool} {dd : Option Addr} {k0 k1 k2 k3 k5 : Option Value} {ni : String}
theorem exI_raise {x : Sem Value} {Q : Flow → Shared → Prop} (hb : tl.contains (.type "BaseException") = true) (hh : A.handled = none)
    (h : wpAny M A x (fun v s₁ => ∃ e oe vs, v = .ref e ∧ s₁.heap.get? Cl = some (excClassObj nm q Cl Ns bs tl hdct sn sub ab col dd k0 k1 k2 k3 k5 ni) ∧ s₁.heap.get? e = some oe ∧ oe.cls = .ref Cl ∧ oe.data = .fields vs ∧ vs[1]? = some .none ∧ E (.ref e) s₁) E s) :
    wpAny M A (raiseStmt env (some x) none) Q E s := by
  have m1 : (Value.ref Cl :: tl).contains (.type "BaseException") = true := by rw [List.contains_cons, hb, Bool.or_true]
  unfold raiseStmt
  refine wpAny_bind (wpAny_mono h (fun v s₁ z => ?_) fun _ _ x => x)
  obtain ⟨e, oe, vs, rfl, c1, e1, ec, en, ev, hE⟩ := z
  obtain ⟨hp, g, d, tk, os⟩ := s₁
  obtain ⟨oc, odi, oda, osl⟩ := oe
  dsimp only at ec en
  subst ec en
  repeat (first | with_reducible refine wpAny_loadPart_at e1 ?_ | with_reducible refine wpAny_loadPart_at c1 ?_ | (with_reducible refine wpAny_isSubtype_exc c1 ?_; rw [m1]) | wp_step)
  rw [ev]
  refine wpAny_pure ?_
  rw [if_neg (by decide)]
  exact wpAny_pure (wpAny_raiseNew_none hh hE)
end
end L2

set_option Elab.async false
set_option linter.all false
set_option maxRecDepth 100000
set_option maxHeartbeats 4000000

namespace L2
open PySem PySem.Spec PyProof.Rows

noncomputable def excIIn (K : PySem.W.Frag) (C f : Addr) : Bool := match K.lookup C with
  | some ⟨.type "type", _, .cls cd, sl⟩ => (match cd.mro, sl.toList with
    | .ref C2 :: tl, [_, _, _, _, some (.builtin n), _] => C2 == C && n == "ValueError.__new__" && cd.hasDict && !cd.hasDel && PySem.W.tailIn K bmVE tl && PySem.W.nsOkIn K cd.ns && PySem.W.nsIn K cd.ns "__init__" == some (some (.ref f))
    | _, _ => false)
  | _ => false
set_option genInjectivity false in
structure ExcI (K : PySem.W.Frag) (C f : Addr) : Prop where
  is : excIIn K C f = true
  fn : PySem.W.isFn K (.ref f) = true
  sa : PySem.W.findIn K (.ref C) "__setattr__" = some (some (.builtin "object.__setattr__"))
set_option genInjectivity false in
structure ClsAt (h : Heap) (C f : Addr) : Prop where
  ex : ∃ (nm q : Str) (Ns : Addr) (bs tl : List Value) (sn : List Str) (sub : List Value) (ab : Bool) (col : Option Bool) (dd : Option Addr) (k0 k1 k2 k3 k5 : Option Value) (mN : Str → Option Value) (oI : Obj),
    h.get? C = some (excClassObj nm q C Ns bs tl true sn sub ab col dd k0 k1 k2 k3 k5 "ValueError.__new__") ∧ h.Ns Ns mN ∧ mN "__init__" = some (.ref f) ∧ OwnTail h bmVE tl ∧ h.get? f = some oI ∧ oI.cls = .type "function"
theorem ns_some_of {K : PySem.W.Frag} {h : Heap} {N : Addr} {x : Str} {v : Value} (X : K.In h) (q : PySem.W.nsIn K N x = some (some v)) (e : PySem.W.nsOkIn K N = true) : h.nsMap N x = some v := by
  have hn : h.Ns N (h.nsMap N) := .of_isNs (PySem.W.isNs_of_in X e)
  obtain ⟨o, es, ep, ho, hd, _, hm⟩ := hn
  unfold PySem.W.nsIn at q
  split at q
  · rename_i c d es2 ep2 sl hk
    have ho2 := X _ _ hk
    rw [ho] at ho2
    cases ho2
    cases hd
    rw [← hm x]
    unfold nsFind findBy
    rw [← Array.find?_toList]
    split at q
    · rename_i en he
      rw [he]
      exact Option.some.inj q
    · split at q <;> cases q
  · cases q
theorem ExcI.cls {K : PySem.W.Frag} {C f : Addr} {h : Heap} (c : ExcI K C f) (X : K.In h) : ClsAt h C f := by
  have hf : ∃ oI, h.get? f = some oI ∧ oI.cls = .type "function" := by
    have z : PySem.W.typeIn K (.ref f) = some (.type "function") := beq_iff_eq.mp c.fn
    unfold PySem.W.typeIn at z
    obtain ⟨o, ho, hc⟩ := Option.map_eq_some_iff.mp z
    exact ⟨o, X _ _ ho, hc⟩
  obtain ⟨oI, f0, f1⟩ := hf
  have q := c.is
  unfold excIIn at q
  split at q
  · rename_i dd cd sl ho
    split at q
    · rename_i C2 tl k0 k1 k2 k3 n k5 hm hs
      simp only [beq_iff_eq, Bool.not_eq_true', Bool.and_eq_true] at q
      obtain ⟨⟨⟨⟨⟨⟨g1, g2⟩, gd⟩, g3⟩, g4⟩, g5⟩, g6⟩ := q
      subst g1 g2
      obtain ⟨nm, bs, mro, ns, qn, hd, sn, sub, ab, col, del⟩ := cd
      have hsl : sl = #[k0, k1, k2, k3, some (.builtin "ValueError.__new__"), k5] := by
        cases sl with
        | mk l =>
          have hs2 : l = _ := hs
          rw [hs2]
      have hm2 : mro = _ := hm
      have g32 : del = false := g3
      have gd2 : hd = true := gd
      subst hsl hm2 g32 gd2
      exact ⟨nm, qn, ns, bs, tl, sn, sub, ab, col, dd, k0, k1, k2, k3, k5, h.nsMap ns, oI, X _ _ ho, .of_isNs (PySem.W.isNs_of_in X g5), ns_some_of X g6 g5, PySem.W.tail_of_in X g4, f0, f1⟩
    · cases q
  · cases q
noncomputable def ExB (a C : Addr) (od : Option Addr) : HO := .ext fun h => ∃ x0 : Addr, h.get? a = some { cls := .ref C, dict := od, data := .fields #[.ref x0, .none, .none, .none, .bool false, .none] }
theorem exB_ok {P : Program} {w : World} {H : Hp} {h : Heap} {a C : Addr} {od : Option Addr} {x0 : Addr} (e : h.get? a = some { cls := .ref C, dict := od, data := .fields #[.ref x0, .none, .none, .none, .bool false, .none] }) : ObjOk P w H h a (ExB a C od) :=
  ⟨⟨x0, e⟩, ⟨_, e⟩, fun _ _ ⟨x, q⟩ k => ⟨x, k _ q⟩⟩
theorem refuse_tail {h : Heap} {tl : List Value} (self : Value) (T : OwnTail h bmVE tl) : refuseLoop self "__setattr__" tl = pure () := by
  induction T with
  | base => exact PySem.F.store_ValueError.passes self
  | own _ _ _ _ ih => rw [refuseLoop_ref]; exact ih
end L2

set_option Elab.async false
set_option linter.all false
set_option maxRecDepth 100000
set_option maxHeartbeats 4000000

namespace L2
open PySem PySem.Spec PyProof.Rows

set_option genInjectivity false in
structure BaseI (K : PySem.W.Frag) (mg : Str → Option Value) (x : Str) (O : Addr) : Prop where
  mg : mg x = some (.ref O)
  ga : PySem.W.specialIn K (.ref O) "__getattribute__" = some (some (.builtin "type.__getattribute__"))
  rd : PySem.W.readsIn K O (.type "type") = true
  fc : PySem.W.findCls K (.ref O) (.type "type") "__init__" = some (.val (.builtin "ValueError.__init__"))
section
variable {X : Cx}
theorem init_run {A : Around} {prog : Program} {w : World} {E : Value → Shared → Prop} {C f a : Addr} {x0 : Addr} {u : Value} {s : Shared} {Q : Value → Shared → Prop} (T : ClsAt s.heap C f)
    (e0 : s.heap.get? a = some { cls := .ref C, data := .fields #[.ref x0, .none, .none, .none, .bool false, .none] })
    (hq : ∀ h' x1, h'.get? a = some { cls := .ref C, data := .fields #[.ref x1, .none, .none, .none, .bool false, .none] } → (∀ b o, b ≠ a → s.heap.get? b = some o → h'.get? b = some o) → Q .none { s with heap := h' }) :
    wpAny (model prog w) A (call (.builtin "ValueError.__init__") [.ref a, u]) Q E s := by
  have F := PySem.F.excBase_ValueError
  obtain ⟨nm, q, Ns, bs, tl, sn, sub, ab, col, dd, k0, k1, k2, k3, k5, mN, oI, c0, n0, i0, T0, f0, f1⟩ := T.ex
  obtain ⟨h, g, d, t, os⟩ := s
  refine wpAny_call (codeAny_call_builtin F.init.plain F.initEntry (wpAny_check_init_subT F T0 c0 e0 rfl ?_))
  wp_walk
  have hne : h.objs.size ≠ a := Nat.ne_of_gt (Heap.lt_size e0)
  refine hq _ h.objs.size ?_ fun b o hb e => ?_
  · rw [Heap.get?_update_self _ (Heap.get?_push_of_some _ e0) rfl]
    rfl
  · rw [Heap.get?_update_other _ _ (Ne.symm hb)]
    exact Heap.get?_push_of_some _ e
noncomputable def tInit0 (C : Addr) (t : TA) : TE := fun σ H Q => t σ H fun vs H1 => ∃ a v, vs = [.ref a, v] ∧ H1 a = some (ExB a C none) ∧ Q .non (upd H1 a (ExB a C none))
theorem pe_init0 {pl : Sem Bool} {x : Str} {O C f : Addr} {e : Expr} {es : List Expr} {t : TA} {p1 p2 p3 : Pos} (b : BaseI X.K X.mg x O) (c : ExcI X.K C f) (ha : PA X (e :: es) t) (hg : Gl X x := by rfl) (hd : (x == ("__debug__" : Str)) = false := by decide)
    (hst : starEach (e :: es) X.env = (false, eval e X.env) :: starEach es X.env := by rfl) (hpl : (backTo p3 (starEach es X.env)).any (·.1) = false := by rfl)
    (ht : eval (.Call (.Attribute (.Name x p1) "__init__" p2) (e :: es) [] p3) X.env = (do
      let ov ← eval (.Name x p1) X.env
      standAt p2.atName
      let (f, first) ← holding [ov] (getMethod ov "__init__" pl)
      callWith p3 f first (backTo p3 (starEach (e :: es) X.env)) (backToKw p3 (keywordEach [] X.env))) := by rfl) :
    PE X (.Call (.Attribute (.Name x p1) "__init__" p2) (e :: es) [] p3) (tInit0 C t) := by
  intro pins s σ H Q I h
  refine PySem.W.methodCall_KW (pl := pl) (ld_glob I hg b.mg ?_ hd) ht
  refine PySem.W.method_cls I.kIn b.ga (PySem.W.cls_value I.kIn b.rd b.fc rfl ?_)
  have I1 := I.tok (s.toks + 1)
  have hA := ha p3 pins _ σ H _ I1 h
  rw [hst] at hA ⊢
  refine Calls.callWith_builtin (by show (false || (backTo p3 (starEach es X.env)).any (·.1)) = false; rw [hpl]; rfl) (Calls.evalArgs_plain ?_)
  refine thn hA fun us s2 ⟨vs, H2, I2, r2, a, v, hv, hx, q2⟩ => ?_
  subst hv
  obtain ⟨⟨x0, e0⟩, _, _⟩ := I2.hok a _ hx
  obtain ⟨u1, us1, rfl, hu1, r3⟩ : ∃ u1 us1, us = u1 :: us1 ∧ RelV (.ref a) u1 ∧ Vals [v] us1 := by
    cases r2 with
    | cons h1 h2 => exact ⟨_, _, rfl, h1, h2⟩
  obtain ⟨u2, rfl⟩ : ∃ u2, us1 = [u2] := by
    cases r3 with
    | cons h1 h2 => cases h2; exact ⟨_, rfl⟩
  obtain rfl : u1 = Value.ref a := hu1
  refine init_run (c.cls I2.kIn) e0 fun h' x1 e1 k => ?_
  exact ⟨.non, _, I2.write (x := a) (e := a) (o := ExB a C none) (t' := s2.toks) (by rw [hx]; exact True.intro) (.inl rfl) k ⟨_, e1⟩ (exB_ok e1), rfl, q2⟩
end
end L2

set_option Elab.async false
set_option linter.all false
set_option maxRecDepth 100000
set_option maxHeartbeats 4000000

namespace L2
open PySem PySem.Spec PyProof.Rows PySem.Builtin PySem.Builtin.ObjectAttr
section
variable {prog : Program} {w : World} {A : Around} {E : Value → Shared → Prop} {K : PySem.W.Frag} {C f a x0 : Addr} {F : Str} {v : Value} {s : Shared}
theorem exset_run {Q : Unit → Shared → Prop} (X : K.In s.heap) (c : ExcI K C f) (n : NoAttr K C F)
    (e0 : s.heap.get? a = some { cls := .ref C, data := .fields #[.ref x0, .none, .none, .none, .bool false, .none] })
    (hq : ∀ h' tk', h'.get? a = some { cls := .ref C, dict := some s.heap.objs.size, data := .fields #[.ref x0, .none, .none, .none, .bool false, .none] } → h'.Ns1 s.heap.objs.size (fun y => if y = F then some v else none) →
      (∀ b o, b ≠ a → s.heap.get? b = some o → h'.get? b = some o) → Q () { s with heap := h', toks := tk' }) :
    wpAny (model prog w) A (setAttr (.ref a) F v) Q E s := by
  obtain ⟨nm, q, Ns, bs, tl, sn, sub, ab, col, dd, k0, k1, k2, k3, k5, mN, oI, c0, n0, i0, T0, f0, f1⟩ := (c.cls X).ex
  have J : PySem.W.InstAt s.heap a { cls := .ref C, data := .fields #[.ref x0, .none, .none, .none, .bool false, .none] } C none := ⟨e0, rfl, rfl, trivial⟩
  have SF := PySem.F.store_object
  have m1 : (Value.ref C :: tl).contains (.type "object") = true := by rw [List.contains_cons, T0.hasType (X := "object") (b := true) (by decide +kernel), Bool.or_true]
  refine PySem.W.set_plain X J c.sa ?_
  have sb : PySem.W.Looks (model prog w) s.heap (isInstance (.ref a) (.type "object")) true := J.type.andThen fun A' Q' E' s' k z => by
    obtain ⟨h1, g1, d1, t1, o1⟩ := s'
    exact wpAny_isSubtype_exc (k _ _ c0) (by rw [m1]; exact z)
  have mo : PySem.W.Looks (model prog w) s.heap (mroOf (.ref C)) (.ref C :: tl) := fun A' Q' E' s' k z => by
    obtain ⟨h1, g1, d1, t1, o1⟩ := s'
    exact wpAny_mroOf_exc (k _ _ c0) z
  refine codeAny_call_builtin SF.slot.plain SF.entry (@PySem.W.check_slot (model prog w) _ _ { s with toks := s.toks + 1 } "object.__setattr__" "object" "__setattr__" (.ref a) [.str F s.toks, v] [] _ SF.kind SF.split sb (SF.args (.ref a) (.str F s.toks) v) ?_)
  rw [PySem.W.osa_eq, refuse_eq]
  refine wpAny_bind (wpAny_bind (J.type.here (s := { s with toks := s.toks + 1 }) (wpAny_bind (mo.here (s := { s with toks := s.toks + 1 }) ?_))))
  rw [refuseLoop_ref, refuse_tail _ T0]
  refine wpAny_pure (wpAny_bind (J.type.here (s := { s with toks := s.toks + 1 }) (wpAny_bind ((PySem.W.looks_findIn (M := model prog w) X n).here (s := { s with toks := s.toks + 1 }) (wpAny_bind (wpAny_pure ?_))))))
  show wpAny (model prog w) A.in1 (storeInOwnDict (.ref a) (.ref C) (.str F s.toks) F v false) _ _ _
  obtain ⟨h, g, d, t, os⟩ := s
  have hc : h.get? C = some (excClassObj nm q C Ns bs tl true sn sub ab col dd k0 k1 k2 k3 k5 "ValueError.__new__") := c0
  have he : h.get? a = some { cls := .ref C, data := .fields #[.ref x0, .none, .none, .none, .bool false, .none] } := e0
  have ha : a ≠ h.objs.size := Nat.ne_of_lt (Heap.lt_size he)
  have he1 : (h.push { cls := .type "dict", data := .dict #[] }).get? a = some { cls := .ref C, data := .fields #[.ref x0, .none, .none, .none, .bool false, .none] } := Heap.get?_push_of_some _ he
  unfold storeInOwnDict
  refine wpAny_bind (wpAny_pure ?_)
  show wpAny (model prog w) A.in1 (instanceDict a true >>= _) _ _ _
  unfold instanceDict
  refine wpAny_bind (wpAny_bind (wpAny_loadPart_at he ?_))
  refine wpAny_bind ?_
  unfold classData
  refine wpAny_bind (wpAny_load hc (wpAny_pure ?_))
  refine wpAny_bind (wpAny_alloc' ?_)
  refine wpAny_bind (wpAny_update' he1 ?_)
  refine wpAny_pure ?_
  have g0 : ((h.push { cls := .type "dict", data := .dict #[] }).update a fun o => { cls := o.cls, dict := some h.objs.size, data := o.data, slots := o.slots }).get? h.objs.size = some { cls := .type "dict", data := .dict #[] } :=
    (Heap.get?_update_ne _ _ _ _ ha.symm).trans (Heap.get?_push_at rfl rfl)
  have g1 : ((h.push { cls := .type "dict", data := .dict #[] }).update a fun o => { cls := o.cls, dict := some h.objs.size, data := o.data, slots := o.slots }).Ns h.objs.size (fun _ => none) := ⟨_, #[], _, g0, rfl, fun e z => absurd z (by simp), fun _ => rfl⟩
  show wpAny (model prog w) A.in1 (storeInDict h.objs.size (.str F t) F v) _ _ _
  unfold storeInDict newKeyGuard
  refine wpAny_bind (wpAny_pure (wpAny_bind (wpAny_nsSet1 (Heap.Ns1.of_empty g1) fun h' hn' hs' => ?_)))
  obtain ⟨oD, esD, epD, o1, o2, o3⟩ := hn'.count (Within.cons F v Within.nil)
  refine wpAny_bind (wpAny_lookBehind o1 (by rw [o2]; exact pastItsLine_dict (Nat.le_trans o3 (by rw [List.length_cons, List.length_nil, sizeLine_eq]; omega))) ?_)
  wp_walk
  refine hq h' _ ?_ hn' fun b o hb e => ?_
  · refine (hs'.2 a ha).trans (Heap.get?_update_self _ he1 rfl)
  · exact (hs'.2 b (Nat.ne_of_lt (Heap.lt_size e))).trans ((Heap.get?_update_ne _ _ _ _ hb).trans (Heap.get?_push_of_some _ e))
end
section
variable {X : Cx}
noncomputable def tExSet (C : Addr) (F : Str) (ta tv : TE) : TS := fun D σ H => tv σ H fun y H1 => ta σ H1 fun x H2 => ∃ a, x = .ref a ∧ H2 a = some (ExB a C none) ∧ ∀ dx, H2 dx = none → D.nx σ (upd (upd H2 dx (.xd [(F, y)])) a (ExB a C (some dx)))
theorem ps_exset {C f : Addr} {F : Str} {o value : Expr} {ta tv : TE} {pos pos' : Pos} (c : ExcI X.K C f) (n : NoAttr X.K C F) (ha : PE X o ta) (hv : PE X value tv) (hs : swapsWith value (some (.Attribute o F pos')) pos.line X.env = pure false := by rfl) : PS X (.Assign [.Attribute o F pos'] value pos) (tExSet C F ta tv) := by
  intro pins s σ H D I h
  refine plainObj_wpAny_Assign_Attribute (thn (hv pins s σ H _ I h) fun u s1 ⟨y, H1, I1, ry, q⟩ => thn (ha pins s1 σ H1 _ I1 q) fun ov s2 ⟨x, H2, I2, rx, a, ex, ea, q2⟩ => ?_) hs
  subst ex
  obtain rfl : ov = Value.ref a := rx
  obtain ⟨⟨x0, e0⟩, _, _⟩ := I2.hok a _ ea
  refine exset_run I2.kIn c n e0 fun h' tk' e1 hn k => ?_
  have hfr : H2 s2.heap.objs.size = none := I2.hok.fresh (Nat.le_refl _)
  obtain ⟨oD, es, ep, hoD, r⟩ := id hn
  have ne : a ≠ s2.heap.objs.size := Nat.ne_of_lt (Heap.lt_size e0)
  have hfree : oD.isFreed = false := (Heap.get?_some_iff.mp hoD).2
  have hp : (s2.heap.push oD).get? s2.heap.objs.size = some oD := Heap.get?_push_size s2.heap hfree
  have J := I2.laid (a := s2.heap.objs.size) (o := .xd [(F, y)]) (h' := s2.heap.push oD) (t' := tk') (fun b u z => Heap.get?_push_of_some _ z) (Nat.le_refl _) ⟨_, ⟨oD, es, ep, hp, r⟩, fun g => ?_⟩
  · have J2 := J.write (x := a) (e := a) (o := ExB a C (some s2.heap.objs.size)) (t' := tk') (h' := h') (by rw [upd_ne ne, ea]; exact True.intro) (.inl rfl) (fun b o hb z => ?_) ⟨_, e1⟩ (exB_ok e1)
    · exact ⟨σ, _, J2, q2 _ hfr⟩
    · by_cases hbs : b = s2.heap.objs.size
      · subst hbs
        rw [hp] at z
        cases z
        exact hoD
      · refine k b o hb ?_
        rw [← z]
        exact (Heap.get?_push_ne _ _ _ hbs).symm
  · show RelO (List.lookup g [(F, y)]) (if g = F then some u else none)
    by_cases hg : g = F
    · have hb : (g == F) = true := beq_iff_eq.mpr hg
      simp only [List.lookup, hb, if_pos hg]
      exact ry
    · have hb : (g == F) = false := beq_eq_false_iff_ne.mpr hg
      simp only [List.lookup, hb, if_neg hg]
      trivial
end
end L2

set_option Elab.async false
set_option linter.all false
set_option maxRecDepth 100000
set_option maxHeartbeats 4000000

namespace L2
open PySem PySem.Spec PyProof.Rows
section
variable {X : Cx} {pins : List (Addr × Obj)} {σ : St} {H : Hp} {s : Shared} {a C x0 : Addr} {E : Value → Shared → Prop} {od : Option Addr}
theorem Fly.raisedI (I : Inv X pins σ H s) (O : Own X) (na : H a = none) (new : X.s₀.heap.objs.size ≤ a)
    (e0 : s.heap.get? a = some { cls := .ref C, dict := od, data := .fields #[.ref x0, .none, .none, .none, .bool false, .none] }) :
    wpAny (model X.prog X.w) X.A (leaving X.env (.ref a)) (fun _ s'' => Fly X.prog X.w X.outer X.H₀ X.s₀ a (.ref C) H s'' ∧ DictIs s''.heap a od) E s := by
  have d0 : DictIs s.heap a od := by
    cases od with
    | none => trivial
    | some dx => exact ⟨_, e0, rfl⟩
  suffices hw : wpAny (model X.prog X.w) X.A (leaving X.env (.ref a)) (fun _ s'' => Fly X.prog X.w X.outer X.H₀ X.s₀ a (.ref C) H s'') E s from
    wpAny_mono ((ds_leaving _ _).any hw) (fun _ _ z => ⟨z.1, d0.keep z.2 z.1.here⟩) fun _ _ z => z
  have hst := I.stack
  have hin : ∀ env ∈ X.stack, ∀ b, env.frame = some b → b ∈ a :: L2.frs X.stack := fun env he b hb => List.mem_cons_of_mem _ (List.mem_filterMap.mpr ⟨env, he, hb⟩)
  have hl := PySem.W.funFrames_hide hst hin
  have hfr := I.ok.frames
  rw [O.stk] at hl hfr
  have noEx : ∀ b, b ∉ X.ex := fun b z => by
    rw [O.ex] at z
    cases z
  have old : ∀ b o, X.s₀.heap.get? b = some o → b ≠ a := fun b o e => Nat.ne_of_lt (Nat.lt_of_lt_of_le (Heap.lt_size e) new)
  have hokB : HOk X.prog X.w H (PySem.W.hideAll s.heap (a :: L2.frs X.stack)) := fun b u e =>
    (I.hok b u e).stay (fun c v hc q => PySem.W.hideAll_get _ q fun hm => by
      rcases List.mem_cons.mp hm with rfl | hm
      · rcases hc with z | z
        · rw [z, e] at na
          cases na
        · rw [z] at na
          cases na
      · have n := I.stkFree c hm
        rcases hc with z | z
        · rw [z, e] at n
          cases n
        · rw [z] at n
          cases n) (fun _ q => q) fun _ _ q => q
  rw [O.stk] at hokB
  have notIn : ∀ b o, X.s₀.heap.get? b = some o → b ∉ L2.frs X.outer → b ∉ a :: L2.frs (X.env :: X.outer) := fun b o e nb z => by
    rcases List.mem_cons.mp z with z | z
    · exact old b o e z
    · rw [← O.stk] at z
      rcases O.frs.mp z with q | q
      · exact I.oldNe e q
      · exact nb q
  refine PySem.wpAny_leaving_firstW (a0 := .ref x0) hfr hl O.fr e0 (fun b o q => PySem.W.of_hideAll _ q) (PySem.W.hideAll_none _ (List.mem_cons_self ..)) rfl rfl rfl fun h' hL => ?_
  obtain ⟨k1, ⟨_, _, k2⟩, k3, k4⟩ := hL
  refine ⟨I.os, I.bare, ⟨_, x0, ⟨k1, PySem.W.hideAll_none _ (List.mem_cons_self ..), k2, k3⟩, hokB, fun b o e n nb => ?_, fun b o e nb => ?_⟩, fun b o e n hb => ?_, fun b o e n => I.base.free b o e n (noEx b), I.base.tups, I.base.frzs, I.base.tbls⟩
  · exact PySem.W.hideAll_get _ (I.base.keep b o e n nb (noEx b)) (notIn b o e nb)
  · obtain ⟨o', e'⟩ := I.base.there b o e (noEx b)
    exact ⟨o', PySem.W.hideAll_get _ e' (notIn b o e nb)⟩
  · obtain ⟨sl, e1⟩ := I.base.slot b o e n hb (noEx b)
    obtain ⟨_, o2, e2, hd⟩ := I.funs.mem hb
    rw [e1] at e2
    cases e2
    obtain ⟨sl2, e3⟩ := k4 b _ e1 hd
    exact ⟨sl2, e3⟩
noncomputable def drp (H : Hp) (a : Addr) : Hp := fun b => if b = a then none else H b
theorem Inv.drp (I : Inv X pins σ H s) (new : X.s₀.heap.objs.size ≤ a) (ho : H a = some (ExB a C od)) : Inv X pins σ (L2.drp H a) s := by
  have old : ∀ b o, X.s₀.heap.get? b = some o → b ≠ a := fun b o e => Nat.ne_of_lt (Nat.lt_of_lt_of_le (Heap.lt_size e) new)
  have ne : ∀ {b}, b ≠ a → L2.drp H a b = H b := fun hb => if_neg hb
  have nn : ∀ {b}, H b = none → L2.drp H a b = none := fun {b} hb => by
    unfold L2.drp
    split
    · rfl
    · exact hb
  refine ⟨I.ok, I.os, I.bare, ⟨I.base.keep, I.base.slot, fun b o e n hx => nn (I.base.free b o e n hx), I.base.there, fun b xs q => ?_, fun b o u q => ?_, fun b ps q => ?_⟩, I.loc, I.cell, nn I.free, fun x c e => nn (I.freeC x c e), fun p hp => ?_, fun b u q => ?_, I.len⟩
  · have z := I.base.tups b xs q
    rw [ne (fun e => by rw [e, ho] at z; cases z)]
    exact z
  · have z := I.base.frzs b o u q
    rw [ne (fun e => by rw [e, ho] at z; cases z)]
    exact z
  · obtain ⟨m, z⟩ := I.base.tbls b ps q
    exact ⟨m, by rw [ne (fun e => by rw [e, ho] at z; cases z)]; exact z⟩
  · obtain ⟨e, n, r⟩ := I.pin p hp
    exact ⟨e, nn n, r⟩
  · have hb : b ≠ a := fun z => by
      unfold L2.drp at q
      rw [if_pos z] at q
      cases q
    rw [ne hb] at q
    refine (I.hok b u q).stay (fun _ _ _ z => z) (fun c z => ?_) fun c xs z => ?_
    · rw [ne (fun e => by rw [e, ho] at z; cases z)]; exact z
    · rw [ne (fun e => by rw [e, ho] at z; cases z)]; exact z
theorem Inv.size₀ (I : Inv X pins σ H s) : X.s₀.heap.objs.size ≤ s.heap.objs.size := by
  obtain ⟨m, ⟨oL, _, _, hoL, _⟩, _⟩ := I.loc
  exact Nat.le_of_lt (Nat.lt_of_le_of_lt I.ok.above (Heap.lt_size hoL))
end
noncomputable def tRaiseI (E : XK) (C : Addr) (F : Str) (t : TA) : TS := fun _ σ H => t σ H fun vs H1 => ∃ v1 v, vs = [v1, v] ∧ ∀ dx, H1 dx = none → E (.ref C) (some dx) (upd H1 dx (.xd [(F, v)]))
noncomputable def spInitE (C : Addr) (F : Str) : Sp := fun vs H Q _ => ∃ a v1 v, vs = [.ref a, v1, v] ∧ H a = some (ExB a C none) ∧ ∀ dx, H dx = none → Q .non (upd (upd H dx (.xd [(F, v)])) a (ExB a C (some dx)))
section
variable {X : Cx}
theorem ps_raiseI {CX : CXT} {x F : Str} {C f : Addr} {fd : FuncData} {k j : Nat} {ps : List Str} {e₀ : Expr} {rest : List Expr} {np cpos pos : Pos} {t : TA} {E : XK} (hm : X.mg x = some (.ref C)) (c : ExcI X.K C f) (kp : PySem.W.keepIn X.K (.ref C) = true) (O : Own X) (hc : X.calm = true)
    (Fn : FnOk X.prog X.w X.K X.mg X.base CX j f fd ps (spInitE C F)) (hp0 : Passes CX X E0) (hr : Room k X.A) (hb : Binds X.K fd ps [])
    (hE : ∀ (pins : List (Addr × Obj)) (σ : St) (H : Hp) (s : Shared) (a dx : Addr), Inv X pins σ H s → (∀ E' : Value → Shared → Prop, wpAny (model X.prog X.w) X.A (leaving X.env (.ref a)) (fun _ s'' => Fly X.prog X.w X.outer X.H₀ X.s₀ a (.ref C) H s'' ∧ DictIs s''.heap a (some dx)) E' s) → E (.ref C) (some dx) H → X.xe (.ref a) s)
    (ha : PA X (e₀ :: rest) t) (hjk : j + 1 ≤ k := by decide) (hg : Gl X x := by rfl) (hd : (x == ("__debug__" : Str)) = false := by decide)
    (he : starEach (e₀ :: rest) X.env = (false, eval e₀ X.env) :: starEach rest X.env := by rfl) (hpl : (backTo cpos (starEach rest X.env)).any (·.1) = false := by rfl) :
    PS X (.Raise (some (.Call (.Name x np) (e₀ :: rest) [] cpos)) none pos) (tRaiseI E C F t) := by
  intro pins s σ H D I h
  rw [arm_exec_Raise]
  simp only [evalOpt, Option.map]
  obtain ⟨nm, q, Ns, bs, tl, sn, sub, ab, col, dd, k0, k1, k2, k3, k5, mN, oI, c0, n0, i0, T0, f0, f1⟩ := (c.cls I.mod.kin).ex
  refine wpAny_bind (wpAny_standAt (exI_raise (Cl := C) (nm := nm) (q := q) (Ns := Ns) (bs := bs) (tl := tl) (hdct := true) (sn := sn) (sub := sub) (ab := ab) (col := col) (dd := dd) (k0 := k0) (k1 := k1) (k2 := k2) (k3 := k3) (k5 := k5) (ni := "ValueError.__new__") (T0.hasType (by decide +kernel)) (I.ok.hd hc) ?_))
  refine wpAny_bind (wpAny_mono ?_ (fun v s₃ z => wpAny_bind (wpAny_standAt (wpAny_pure z))) fun _ _ z => z)
  refine wpAny_Call_Name_kw (ld_glob I hg hm ?_ hd)
  refine PySem.W.callWith_K (h₀ := X.base) I.ok.mod.kin kp (thn (ha cpos pins s σ H _ I h) fun us s1 ⟨vs, H1, I1, r, v1, v, hv, q1⟩ => ⟨I1.kIn, ?_⟩) he hpl
  subst hv
  rw [List.nil_append]
  have hus : us.length = 2 := r.length.symm
  have hfr : H1 (s1.heap.objs.size + 1) = none := I1.hok.fresh (Nat.le_succ _)
  have I2 : Inv X pins σ (upd H1 (s1.heap.objs.size + 1) (ExB (s1.heap.objs.size + 1) C none)) { s1 with heap := exHeap s1.heap C us } :=
    I1.laid (t' := s1.toks) (fun b u z => exHeap_keep z) (Nat.le_succ _) (exB_ok (exHeap_at s1.heap C us))
  have r2 : Vals (V.ref (s1.heap.objs.size + 1) :: [v1, v]) (Value.ref (s1.heap.objs.size + 1) :: us) := .cons rfl r
  have hq : spInitE C F (V.ref (s1.heap.objs.size + 1) :: [v1, v]) (upd H1 (s1.heap.objs.size + 1) (ExB (s1.heap.objs.size + 1) C none))
      (fun u H2 => u = .non ∧ ∃ dx, upd H1 (s1.heap.objs.size + 1) (ExB (s1.heap.objs.size + 1) C none) dx = none ∧ H2 = upd (upd (upd H1 (s1.heap.objs.size + 1) (ExB (s1.heap.objs.size + 1) C none)) dx (.xd [(F, v)])) (s1.heap.objs.size + 1) (ExB (s1.heap.objs.size + 1) C (some dx))) E0 :=
    ⟨_, v1, v, rfl, upd_same, fun dx hdx => ⟨rfl, dx, hdx, rfl⟩⟩
  have hl : (Value.ref (s1.heap.objs.size + 1) :: us ++ []).length = ps.length := by
    rw [List.append_nil, ← r2.length]
    exact Fn.len _ _ _ _ hq
  have hbt := hb _ (Value.ref (s1.heap.objs.size + 1) :: us) I2.kIn hl
  rw [List.append_nil] at hbt
  have new : X.s₀.heap.objs.size ≤ s1.heap.objs.size + 1 := Nat.le_succ_of_le I1.size₀
  refine exI_call (h := s1.heap) (g := s1.gens) (d := s1.drawn) (t := s1.toks) (os := s1.os) (T0.keeps I1.bk) (I1.bk _ _ c0) (n0.keeps I1.bk) i0 (I1.bk _ _ f0) f1 (by rw [hus, sizeLine_eq]; omega) ?_
  refine wpAny_call (codeAny_mono (Fn.run _ X.stack _ _ ⟨Value.ref (s1.heap.objs.size + 1) :: us, []⟩ (Value.ref (s1.heap.objs.size + 1) :: us) _ _ E0 ((hr.mono hjk).make C us []) (I2.env0.make C us []) hbt r2 hq) fun res s' hq' => ?_)
  cases res with
  | error x' => exact hp0 pins σ _ _ x' s' I2 hq'
  | ok fl =>
    cases fl with
    | ret u =>
      obtain ⟨v', H', I3, rv, rfl, dx, hdx, rfl⟩ := I2.after hq'
      refine ⟨rv, ?_⟩
      have hde : dx ≠ s1.heap.objs.size + 1 := fun z => by rw [z, upd_same] at hdx; cases hdx
      rw [upd_ne hde] at hdx
      obtain ⟨⟨x0, e0⟩, _, _⟩ := I3.hok (s1.heap.objs.size + 1) _ upd_same
      have I4 := I3.drp (C := C) (od := some dx) new upd_same
      have hD : drp (upd (upd (upd H1 (s1.heap.objs.size + 1) (ExB (s1.heap.objs.size + 1) C none)) dx (.xd [(F, v)])) (s1.heap.objs.size + 1) (ExB (s1.heap.objs.size + 1) C (some dx))) (s1.heap.objs.size + 1) = upd H1 dx (.xd [(F, v)]) := by
        funext b
        unfold drp
        by_cases hb : b = s1.heap.objs.size + 1
        · rw [if_pos hb, hb, upd_ne hde.symm, hfr]
        · rw [if_neg hb, upd_ne hb]
          by_cases hb2 : b = dx
          · rw [hb2, upd_same, upd_same]
          · rw [upd_ne hb2, upd_ne hb, upd_ne hb2]
      rw [hD] at I4
      refine ⟨s1.heap.objs.size + 1, _, _, rfl, I3.bk _ _ c0, e0, rfl, rfl, rfl, ?_⟩
      exact hE pins σ _ s' _ dx I4 (fun _ => Fly.raisedI I4 O (by rw [upd_ne hde.symm]; exact hfr) new e0) (q1 dx hdx)
    | next => exact False.elim hq'
    | brk => exact False.elim hq'
    | cont => exact False.elim hq'
end
end L2

set_option Elab.async false
set_option linter.all false
set_option maxRecDepth 100000
set_option maxHeartbeats 4000000

namespace L2
open PySem PySem.Spec PyProof.Rows
section
variable {X : Cx} {es : List Expr} {te : TE} {t : TA}
theorem pa_cC {c : Const} {j : Nat} {p : Pos} (ha : PE X (.Constant c j p) te) (hr : PA X es t) : PA X (.Constant c j p :: es) (tCons te t) := pa_cons ha hr rfl
theorem pa_cN {x : Str} {p : Pos} (ha : PE X (.Name x p) te) (hr : PA X es t) : PA X (.Name x p :: es) (tCons te t) := pa_cons ha hr rfl
theorem pa_cB {a b : Expr} {o : Operator} {p : Pos} (ha : PE X (.BinOp a o b p) te) (hr : PA X es t) : PA X (.BinOp a o b p :: es) (tCons te t) := pa_cons ha hr rfl
theorem pa_cT {as : List Expr} {k} {p : Pos} (ha : PE X (.Tuple as k p) te) (hr : PA X es t) : PA X (.Tuple as k p :: es) (tCons te t) := pa_cons ha hr rfl
noncomputable def cPairs : List ((Int × Nat × Pos) × (Int × Nat × Pos) × Nat × Pos) → List Expr
  | [] => []
  | ((i, j, p), (i', j', p'), k, q) :: r => .Tuple [.Constant (.int i) j p, .Constant (.int i') j' p'] k q :: cPairs r
noncomputable def tPairs : List (Int × Int) → TA
  | [] => fun _ H Q => Q [] H
  | (a, b) :: r => fun σ H Q => ∀ t, H t = none → tPairs r σ (upd H t (.tup [.int a, .int b])) fun vs H1 => Q (.ref t :: vs) H1
theorem pa_pairs : ∀ l : List ((Int × Nat × Pos) × (Int × Nat × Pos) × Nat × Pos), PA X (cPairs l) (tPairs (l.map fun x => (x.1.1, x.2.1.1)))
  | [] => pa_nil
  | ((i, j, p), (i', j', p'), k, q) :: r => fun pos pins s σ H Q I h => by
    have h0 : PE X (.Tuple [.Constant (.int i) j p, .Constant (.int i') j' p'] k q) (tTup (tCons (tC (.int i)) (tCons (tC (.int i')) tNil))) := pe_tup (pa_cC pe_int (pa_cC pe_int pa_nil))
    refine pa_cT (X := X) h0 (pa_pairs r) pos pins s σ H Q I ⟨?_, fun t ht => h t ht⟩
    have hs : sizeLine = 16777216 := sizeLine_eq
    show 2 ≤ sizeLine
    omega
theorem pairs_use : ∀ (l : List (Int × Int)) {σ : St} {H : Hp} {Q : List V → Hp → Prop},
    (∀ vs H1, vs.length = l.length → Same H H1 → (∀ (j : Nat) (p : Int × Int), l[j]? = some p → ∃ t, vs[j]? = some (.ref t) ∧ H1 t = some (.tup [.int p.1, .int p.2])) → Q vs H1) → tPairs l σ H Q
  | [], _, H, _, h => h [] H rfl (Same.refl _) fun j p e => by cases e
  | (a, b) :: r, σ, H, Q, h => fun t ht => by
    refine pairs_use r fun vs H1 hl hs hv => h (.ref t :: vs) H1 (by rw [List.length_cons, hl, List.length_cons]) (fun c o e => hs c o (by rw [upd_ne (ne_of_none e ht)]; exact e)) fun j p e => ?_
    cases j with
    | zero =>
      have e' : (a, b) = p := by simpa using e
      subst e'
      exact ⟨t, rfl, hs t _ upd_same⟩
    | succ j =>
      obtain ⟨t', h1, h2⟩ := hv j p (by simpa using e)
      exact ⟨t', by simpa using h1, h2⟩
end
end L2

set_option Elab.async false
set_option linter.all false
set_option maxRecDepth 100000
set_option maxHeartbeats 4000000

namespace L2
open PySem PySem.Spec PyProof.Rows
section
variable {X : Cx} {tg : Expr}
end
end L2

set_option Elab.async false
set_option linter.all false
set_option maxRecDepth 100000
namespace L2
open PySem
section
variable {X : Cx} {N' : List Str} {scope : Scope} {x : Str} {px : Pos} {elt iter cd : Expr} {pos : Pos} {te : TE} {tc : TT} {wi : TI}

theorem ps_setCompf {i : Nat} {y : Str} {py spos : Pos} (S : CompSc X.N N' X.env.scope scope x) (hc : X.calm = true) (hi : PI X (.Name x px) iter wi) (ht : ∀ cl C s H fp, PT (cxComp X N' scope cl C s H fp) cd tc) (he : ∀ cl C s H fp, PE (cxComp X N' scope cl C s H fp) elt te)
    (hN : X.N.Nodup) (hy : X.N[i]? = some y) (hyl : X.env.scope.names.lookup y = some .local)
    (hsw : swapsWith (.ListComp elt [⟨.Name x px, iter, [cd], 0⟩] scope pos) (some (.Name y py)) spos.line X.env = pure true := by rfl)
    (hs : ∀ x, foldedSetIterable iter X.env x = pure x := by intro _; rfl) : PS X (.Assign [.Name y py] (.ListComp elt [⟨.Name x px, iter, [cd], 0⟩] scope pos) spos) (tAsg (tCompF wi tc te) (gName i)) :=
  ps_setCompx (at' := fun σ Q => compAtF tc te σ Q) S hc hi (fun cl C s H fp => ptl_one (ht cl C s H fp)) he (fun _ _ _ _ h => h) hN hy hyl hsw hs
end

section
variable {X : Cx}
theorem op_isB : OpR X (compareOp .Is) (fun x y H Q => ∃ a, x = .bl a ∧ ∃ b, y = .bl b ∧ Q (.bl (decide (a = b))) H) := by
  intro pins s σ H x y v u Q I rx ry h
  obtain ⟨a, rfl, b, rfl, q⟩ := h
  cases rx
  cases ry
  refine wpAny_pure (a := Value.bool (Value.bool a == Value.bool b)) (fin_bl I q ?_)
  cases a <;> cases b <;> rfl
end
theorem take_filter {α : Type} (p : α → Bool) (l : List α) (i : Nat) (v : α) (h : l[i]? = some v) : (l.take (i + 1)).filter p = (l.take i).filter p ++ (if p v then [v] else []) := by
  rw [List.take_add_one, h, List.filter_append]
  cases hp : p v <;> simp [hp]
theorem filter_take_len {α : Type} (p : α → Bool) (l : List α) (i : Nat) : ((l.take i).filter p).length ≤ i := by
  have h1 := List.length_filter_le p (l.take i)
  rw [List.length_take] at h1
  omega
theorem cutL_take (w : List Nat) (k : Nat) : cutL w none (some (k : Int)) = w.take k := by
  unfold cutL
  rw [HT.sIx_nat, HT.sIx_none, List.drop_zero, Nat.sub_zero]
  by_cases h : k ≤ w.length
  · rw [Nat.min_eq_left h]
  · rw [Nat.min_eq_right (by omega), List.take_length, List.take_of_length_le (by omega)]
end L2

set_option autoImplicit false
set_option linter.all false
set_option maxRecDepth 100000
namespace SR
open PySem PyProof.Rows
set_option genInjectivity false in
structure SB (kd : SortKind) (z : Array Keyed) (st : SortSt) : Prop where
  prm : (arrOf st).Perm z
  knd : kindOf st = kd
  ffl : failedOf st = none
noncomputable def Dn (κ : KeyKind) (xs : Array Keyed) (l r : Nat) : Prop := ∀ i j, l ≤ i → i ≤ j → j < r → κ.kle (KK κ xs j) (KK κ xs i)
section
variable {prog : Program} {w : World} {A : Around} {E : Value → Shared → Prop} {s : Shared} {z : Array Keyed} {κ : KeyKind} {kd : SortKind}
end
end SR

set_option autoImplicit false
set_option linter.all false
set_option maxRecDepth 100000
namespace SR
open PySem PyProof.Rows
noncomputable def gal' : Bool → Keyed → Array Keyed → Nat → Nat → Nat → StateT SortSt Sem (Option Nat) := sortPriv% PySem.Builtin.gallop
section
variable {prog : Program} {w : World} {A : Around} {E : Value → Shared → Prop} {s : Shared} {z : Array Keyed} {κ : KeyKind} {kd : SortKind}
end
end SR

set_option autoImplicit false
set_option linter.all false
set_option maxRecDepth 100000
namespace SR
open PySem PyProof.Rows
noncomputable def Hk (κ : KeyKind) (x : Keyed) : Prop := ∃ c, κ.keyOf x.1 = some c
section
variable {prog : Program} {w : World} {A : Around} {E : Value → Shared → Prop} {s : Shared} {z : Array Keyed} {κ : KeyKind} {kd : SortKind}
end
end SR

set_option autoImplicit false
set_option linter.all false
set_option maxRecDepth 100000
namespace SR
open PySem PyProof.Rows
section
variable {prog : Program} {w : World} {A : Around} {E : Value → Shared → Prop} {s : Shared} {κ : KeyKind} {kd : SortKind}
end
end SR

set_option autoImplicit false
set_option linter.all false
set_option maxRecDepth 100000
namespace SR
open PySem PyProof.Rows
noncomputable def rt (a : Array Keyed) (n : Nat) : List Keyed := (a.toList.take n).reverse
section
variable {prog : Program} {w : World} {A : Around} {E : Value → Shared → Prop} {s : Shared} {κ : KeyKind} {kd : SortKind}
noncomputable abbrev HiSt := Option (Array Keyed) × Nat × Nat × Array Keyed × Nat × Nat × Nat
noncomputable def hi3 (a b o : Array Keyed) (i j g p q : Nat) : StateT SortSt Sem (ForInStep HiSt) := do
  let x ← elem' a (i - 1)
  if (i - 1 == 0) = true then pure (ForInStep.done (some (a.extract 0 (i - 1) ++ b.extract 0 j ++ (o.push x).reverse), i - 1, j, o.push x, g, p, q))
  else if (decide (p < 7) && decide (q < 7)) = true then pure (ForInStep.done (none, i - 1, j, o.push x, g, p, q)) else pure (ForInStep.yield (none, i - 1, j, o.push x, g, p, q))
noncomputable def hi2 (a b o : Array Keyed) (i j g p q : Nat) : StateT SortSt Sem (ForInStep HiSt) := do
  let x ← elem' b j
  if (j == 1) = true then pure (ForInStep.done (some (b.extract 0 j ++ a.extract 0 i ++ (o.push x).reverse), i, j, o.push x, g, p, q))
  else do
    let u ← elem' a (i - 1)
    let z ← gal' true u b 0 j (j - 1)
    match z with
    | some y =>
      if j - y > 0 then
        if (y == 1) = true then pure (ForInStep.done (some (b.extract 0 y ++ a.extract 0 i ++ (o.push x ++ (b.extract y j).reverse).reverse), i, y, o.push x ++ (b.extract y j).reverse, g, p, j - y))
        else if (y == 0) = true then pure (ForInStep.done (some (a.extract 0 i ++ b.extract 0 y ++ (o.push x ++ (b.extract y j).reverse).reverse), i, y, o.push x ++ (b.extract y j).reverse, g, p, j - y))
        else hi3 a b (o.push x ++ (b.extract y j).reverse) i y g p (j - y)
      else hi3 a b (o.push x) i j g p (j - y)
    | _ => pure (ForInStep.done (some (a.extract 0 i ++ b.extract 0 j ++ (o.push x).reverse), i, j, o.push x, g, p, q))
end
end SR

set_option autoImplicit false
set_option linter.all false
set_option maxRecDepth 100000
namespace SR
open PySem PyProof.Rows
noncomputable def sg (xs : Array Keyed) (l n : Nat) : List Keyed := (xs.toList.drop l).take n
section
variable {κ : KeyKind} {kd : SortKind}
end
end SR

set_option autoImplicit false
set_option linter.all false
set_option maxRecDepth 100000
namespace SR
open PySem PyProof.Rows
section
variable {prog : Program} {w : World} {A : Around} {E : Value → Shared → Prop} {s : Shared} {z : Array Keyed} {κ : KeyKind} {kd : SortKind}
end
end SR

set_option autoImplicit false
set_option linter.all false
set_option maxRecDepth 100000
namespace SR
open PySem PyProof.Rows
section
variable {κ : KeyKind} {kd : SortKind}
end
section
variable {prog : Program} {w : World} {A : Around} {E : Value → Shared → Prop} {s : Shared} {z : Array Keyed} {κ : KeyKind} {kd : SortKind}
end
end SR

set_option autoImplicit false
set_option linter.all false
set_option maxRecDepth 100000
set_option maxHeartbeats 200000
namespace SR
open PySem PyProof.Rows PySem.Spec
section
variable {prog : Program} {w : World} {A : Around} {E : Value → Shared → Prop} {s : Shared}
end
end SR

set_option Elab.async false
set_option linter.all false
set_option maxRecDepth 100000
namespace L2
open PySem PyProof.Rows PySem.Spec
section
variable {X : Cx}
end
end L2

set_option Elab.async false
set_option linter.all false
set_option maxRecDepth 100000
namespace L2
open PySem PyProof.Rows PySem.Spec
section
variable {X : Cx}
theorem call_sumX (hc : X.calm = true) : CallR X (.builtin "sum") (fun xs H Q => ∃ (p : Addr) (ns : List Int), xs = [.ref p] ∧ SqL X.K H p (ns.map V.int) ∧ Q (.int ns.sum) H) := by
  intro pins s σ H xs us Q I r h
  obtain ⟨p, ns, rfl, hq, q⟩ := h
  obtain ⟨u, rfl, ru⟩ := vals1 r
  cases ru
  obtain ⟨its, rv, pl, _⟩ := I.list hq
  have hia := intsAre_of rv
  have hnum := hia.numsOf
  obtain ⟨ys, hx⟩ := hia.allInts.items
  have hl := pl.isList
  rw [hx] at hl
  have e : preSum (numAt ys) ys.size = ns.sum := by
    rw [preSum_eq, List.take_of_length_le (by simp)]
    rw [← hnum, show its = its.toArray.toList from by simp, hx, nums_intItems]
  exact sum_intListG (I.ok.hd hc) hl fun h' tk t' hk => ⟨.int ns.sum, H, I.kept hk, ⟨t', by rw [e]⟩, q⟩
end
end L2

namespace L2
open PySem PyProof.Rows PySem.Spec
section
variable {X : Cx}
theorem pe_bmK (K : PySem.W.Frag) (hK : X.K = K) {o e : Expr} {es : List Expr} {to : TE} {t : TA} {name : Str} {apos cpos : Pos} {T id : String} {r : V → List V → Hp → VK → Prop}
    (pa : PlainAttrs T) (slot : Slot T name id) (hty : typeOf (.builtin id) = pure (.type "method_descriptor")) (hm : MtR X id r) (ho : PE X o to) (ha : PA X (e :: es) t)
    (b1 : attributeBase o name X.env (eval o X.env) = eval o X.env := by rfl)
    (b2 : ((backTo cpos (starEach (e :: es) X.env)).all (fun x => !x.1) && (backToKw cpos (keywordEach [] X.env)).all (fun x => x.1.isSome) && decide ((e :: es).length + ([] : List Keyword).length + (if ([] : List Keyword).isEmpty then 0 else 1) < 30)) = true := by rfl)
    (b3 : (apos.endLine == cpos.line) = true := by rfl) (b4 : starEach (e :: es) X.env = (false, eval e X.env) :: starEach es X.env := by rfl) (b5 : (backTo cpos (starEach es X.env)).any (·.1) = false := by rfl) :
    PE X (.Call (.Attribute o name apos) (e :: es) [] cpos) (tBM K T r to t) := by
  subst hK
  exact pe_bm pa slot hty hm ho ha b1 b2 b3 b4 b5
end
end L2

set_option Elab.async false
set_option linter.all false
set_option maxRecDepth 100000
set_option Elab.async false
set_option linter.all false
set_option maxRecDepth 100000
namespace L2
open PySem PySem.Spec PyProof.Rows

end L2

namespace L2
open PySem PySem.Spec PyProof.Rows

section
variable (P : Program) (w : World)
end

section
variable {P : Program} {w : World} {H H' : Hp} {h h' : Heap} {a : Addr} {o : HO}
end

section
variable {P : Program} {w : World} {H : Hp} {h h' : Heap} {x e : Addr} {o' : HO}
end

section
variable {fs fs' ex ex' : List Addr} {H H1 H2 : Hp} {h h1 h2 h' : Heap} {a x e : Addr} {o : HO}
end

end L2

namespace L2
open PySem PySem.Spec PyProof.Rows

section
variable {X : Cx} {pins : List (Addr × Obj)} {σ : List (Option V)} {H H' : Hp} {s : Shared} {h' : Heap}

end

end L2

namespace L2
open PySem PySem.Spec PyProof.Rows
section
variable {X : Cx}

variable {a b : Expr} {ta tb : TE} {pos : Pos}
variable {tA tB' : TT} {rest : List Expr}
end
end L2

namespace L2
open PySem PySem.Spec PyProof.Rows

section
variable {X : Cx} {pins : List (Addr × Obj)} {σ : St} {H : Hp} {s : Shared} {a : Addr} {xs ys : List V}
end

section
variable {X : Cx} {pins : List (Addr × Obj)} {σ : St} {H : Hp} {s : Shared} {E : Value → Shared → Prop}
end

section
variable {X : Cx} {st : Stmt} {rest : List Stmt} {t u : TS} {e : Expr} {te : TE} {pos : Pos}
end

section
variable {X : Cx} {pos : Pos}
end

section
variable {X : Cx} {pos : Pos}
end

end L2

namespace L2
open PySem PySem.Spec PyProof.Rows
section
variable {X : Cx} {tg : Expr}
end

end L2

namespace L2
open PySem PySem.Spec PyProof.Rows

section
variable {X : Cx} {a b c : Expr} {ta tb tc : TE} {pos : Pos}

end

section
variable {X : Cx} {a b c : Expr} {ta tb tc : TE} {pos : Pos}
end
end L2

namespace L2
open PySem PySem.Spec PyProof.Rows

section
variable {prog : Program} {w : World} {A : Around} {E : Value → Shared → Prop} {s : Shared} {K : PySem.W.Frag} {x dx C f : Addr} {mA : Str → Option Value} {name : Str} {v : Value}

end

section
variable {P : Program} {w : World} {H H' : Hp} {h h' : Heap} {a C dx : Addr} {fs fs' : List (Str × V)}
end

section
variable {X : Cx} {pins : List (Addr × Obj)} {σ : St} {H : Hp} {s : Shared} {a C dx : Addr} {fs : List (Str × V)} {f : Str} {v : V} {A : Around} {E : Value → Shared → Prop}

end

section
variable {X : Cx} {o e value : Expr} {f : Str} {pos pos' tpos : Pos} {ta tv : TE}
end

section
variable {X : Cx} {pins : List (Addr × Obj)} {σ : St} {H : Hp} {s : Shared} {A : Around} {E : Value → Shared → Prop} {Q : Value → Shared → Prop} {c : Value} {b : Bool}
end
end L2

namespace L2
open PySem PySem.Spec PyProof.Rows

section
variable {X : Cx} {e : Expr} {es : List Expr} {te : TE} {t : TA} {pos : Pos}
end

section
variable {X : Cx} {pins : List (Addr × Obj)} {σ : St} {H : Hp} {s s' : Shared}
end

section
variable {X : Cx} {CX : CXT} {k : Nat} {f C : Addr} {fd : FuncData} {ps : List Str} {sp : Sp} {dvs : List V} {ds : List Value} {E : XK} {x m : Str} {p pos apos : Pos} {e o : Expr} {es : List Expr} {ta : TE} {t : TA}

end

section
variable {X : Cx} {CX : CXT} {k : Nat} {f C : Addr} {fd : FuncData} {ps ks : List Str} {sp : Sp} {E : XK} {x m : Str} {p pos apos kpos : Pos} {e o : Expr} {es : List Expr} {kws : List Keyword} {te ta : TE} {t tk : TA} {nm : Option Str}
variable {g : List Value → List Value → List Value} {gV : List V → List V → List V}
end

end L2

namespace L2
open PySem PySem.Spec PyProof.Rows
section
variable {X : Cx} {x : Str} {p pos : Pos} {e : Expr} {es : List Expr} {t : TA} {id T : String} {r : List V → Hp → VK → Prop}

end
end L2

namespace L2
open PySem PySem.Spec PyProof.Rows

section
variable {κ : Type} [DecidableEq κ]
noncomputable def valV (kvs : List (κ × V)) (k : κ) : Option V := (kvs.find? fun kv => decide (kv.1 = k)).map (·.2)
noncomputable def putK (kvs : List (κ × V)) (k : κ) (v : V) : List (κ × V) :=
  if (kvs.any fun kv => decide (kv.1 = k)) = true then kvs.map (fun kv => if kv.1 = k then (kv.1, v) else kv) else kvs ++ [(k, v)]
theorem valV_pos {p : κ × V} {r : List (κ × V)} {k : κ} (e : p.1 = k) : valV (p :: r) k = some p.2 := by simp [valV, List.find?_cons, e]
theorem valV_neg {p : κ × V} {r : List (κ × V)} {k : κ} (e : ¬ p.1 = k) : valV (p :: r) k = valV r k := by simp [valV, List.find?_cons, e]
theorem valV_any (k : κ) : ∀ kvs : List (κ × V), (kvs.any fun kv => decide (kv.1 = k)) = (valV kvs k).isSome
  | [] => rfl
  | p :: r => by
    rw [List.any_cons]
    by_cases e : p.1 = k
    · simp only [valV_pos e, decide_eq_true e, Bool.true_or, Option.isSome_some]
    · rw [valV_neg e, decide_eq_false e, Bool.false_or]; exact valV_any k r
theorem valV_map (k j : κ) (y : V) : ∀ kvs : List (κ × V), valV (kvs.map fun kv => if kv.1 = k then (kv.1, y) else kv) j = (valV kvs j).map fun x => if j = k then y else x
  | [] => rfl
  | p :: r => by
    have ih := valV_map k j y r
    rw [List.map_cons]
    by_cases h : p.1 = k
    · rw [if_pos h]
      by_cases e : p.1 = j
      · rw [valV_pos (p := (p.1, y)) e, valV_pos e, Option.map_some, if_pos (e.symm.trans h)]
      · rw [valV_neg (p := (p.1, y)) e, valV_neg e, ih]
    · rw [if_neg h]
      by_cases e : p.1 = j
      · rw [valV_pos (p := p) e, valV_pos e, Option.map_some, if_neg (fun z => h (e.trans z))]
      · rw [valV_neg (p := p) e, valV_neg e, ih]
theorem valV_snoc (k j : κ) (y : V) : ∀ kvs : List (κ × V), valV kvs k = none → valV (kvs ++ [(k, y)]) j = if j = k then some y else valV kvs j
  | [], _ => by
    by_cases e : k = j
    · rw [if_pos e.symm]; exact valV_pos (p := (k, y)) e
    · rw [if_neg (fun z => e z.symm)]; exact valV_neg (p := (k, y)) e
  | p :: r, hn => by
    rw [List.cons_append]
    have hk : ¬ p.1 = k := fun z => by rw [valV_pos z] at hn; cases hn
    rw [valV_neg hk] at hn
    have ih := valV_snoc k j y r hn
    by_cases e : p.1 = j
    · rw [valV_pos e, valV_pos e, if_neg (fun z => hk (e.trans z))]
    · rw [valV_neg e, valV_neg e, ih]
theorem valV_put (kvs : List (κ × V)) (k j : κ) (y : V) : valV (putK kvs k y) j = if j = k then some y else valV kvs j := by
  unfold putK
  by_cases a : (kvs.any fun kv => decide (kv.1 = k)) = true
  · rw [if_pos a, valV_map]
    rw [valV_any] at a
    by_cases e : j = k
    · obtain ⟨x, hx⟩ := Option.isSome_iff_exists.mp a
      rw [if_pos e, e, hx, Option.map_some, if_pos rfl]
    · rw [if_neg e]
      cases valV kvs j with
      | none => rfl
      | some x => rw [Option.map_some, if_neg e]
  · rw [if_neg a]
    refine valV_snoc k j y kvs ?_
    rw [valV_any] at a
    cases q : valV kvs k with
    | none => rfl
    | some x => rw [q] at a; exact (a rfl).elim
theorem length_putK (kvs : List (κ × V)) (k : κ) (v : V) : (putK kvs k v).length ≤ kvs.length + 1 := by
  unfold putK
  split
  · rw [List.length_map]; omega
  · rw [List.length_append, List.length_cons, List.length_nil]; omega
theorem putK_new {kvs : List (κ × V)} {k : κ} (v : V) (h : valV kvs k = none) : putK kvs k v = kvs ++ [(k, v)] := by
  unfold putK
  rw [valV_any, h]
  exact if_neg (by decide)

theorem RelO.isSome_eq {o : Option V} {u : Option Value} (r : RelO o u) : o.isSome = u.isSome := by
  cases o with
  | none => cases u with
    | none => rfl
    | some _ => exact (show False from r).elim
  | some _ => cases u with
    | none => exact (show False from r).elim
    | some _ => rfl
theorem RelO.getD {o : Option V} {u : Option Value} {d : V} {d' : Value} (r : RelO o u) (rd : RelV d d') : RelV (o.getD d) (u.getD d') := by
  cases o with
  | none => cases u with
    | none => exact rd
    | some _ => exact (show False from r).elim
  | some _ => cases u with
    | none => exact (show False from r).elim
    | some _ => exact r

theorem KV.val {kvs : List (κ × V)} {vs : List (κ × Value)} (r : KV kvs vs) (k : κ) : RelO (valV kvs k) (valueAt vs k) := by
  unfold KV at r
  induction r with
  | nil => exact True.intro
  | @cons p q ps qs h t ih =>
    obtain ⟨h1, h2⟩ := h
    by_cases e : p.1 = k
    · have e' : q.1 = k := h1.symm.trans e
      have b : valueAt (q :: qs) k = some q.2 := by simp [valueAt, List.find?_cons, e']
      rw [valV_pos e, b]; exact h2
    · have e' : ¬ q.1 = k := fun z => e (h1.trans z)
      have b : valueAt (q :: qs) k = valueAt qs k := by simp [valueAt, List.find?_cons, e']
      rw [valV_neg e, b]; exact ih
theorem KV.any {kvs : List (κ × V)} {vs : List (κ × Value)} (r : KV kvs vs) (k : κ) : (kvs.any fun kv => decide (kv.1 = k)) = vs.any fun kv => decide (kv.1 = k) := by
  unfold KV at r
  induction r with
  | nil => rfl
  | cons h t ih => rw [List.any_cons, List.any_cons, ih, h.1]
theorem KV.repl {kvs : List (κ × V)} {vs : List (κ × Value)} (r : KV kvs vs) (k : κ) {y : V} {u : Value} (ry : RelV y u) :
    KV (kvs.map fun kv => if kv.1 = k then (kv.1, y) else kv) (vs.map fun kv => if kv.1 = k then (kv.1, u) else kv) := by
  unfold KV at r ⊢
  induction r with
  | nil => exact .nil
  | @cons p q ps qs h t ih =>
    rw [List.map_cons, List.map_cons]
    refine .cons ?_ ih
    obtain ⟨h1, h2⟩ := h
    by_cases e : p.1 = k
    · rw [if_pos e, if_pos (h1.symm.trans e)]; exact ⟨h1, ry⟩
    · rw [if_neg e, if_neg (fun z => e (h1.trans z))]; exact ⟨h1, h2⟩
theorem KV.put {kvs : List (κ × V)} {vs : List (κ × Value)} (r : KV kvs vs) (k : κ) {y : V} {u : Value} (ry : RelV y u) : KV (putK kvs k y) (stored vs k u) := by
  unfold putK stored
  rw [r.any k]
  by_cases e : (vs.any fun kv => decide (kv.1 = k)) = true
  · rw [if_pos e, if_pos e]; exact r.repl k ry
  · rw [if_neg e, if_neg e]; exact Paired.snoc r ⟨rfl, ry⟩
theorem KV.length {kvs : List (κ × V)} {vs : List (κ × Value)} (r : KV kvs vs) : kvs.length = vs.length := Paired.length r
end


theorem kV_is {P : Program} {w : World} {k : Key} {u : Value} (r : RelV (kV k) u) : (mixKind P w).is k u = true := by
  cases k with
  | inl i => obtain ⟨t, e⟩ := (show ∃ t, u = Value.int i t from r); subst e; exact mixKind_int P w i t
  | inr x => obtain ⟨t, e⟩ := (show ∃ t, u = Value.str x t from r); subst e; exact mixKind_str P w x t
theorem items_are {P : Program} {w : World} : ∀ {ks : List Key} {us : List Value}, Vals (ks.map kV) us → ItemsAre (mixKind P w) ks us
  | [], _, r => by rw [List.map_nil] at r; cases r; exact .nil
  | k :: ks, _, r => by
    rw [List.map_cons] at r
    cases r with
    | cons h t => exact .cons (kV_is h) (items_are t)

noncomputable abbrev KT (H : Hp) : List (List Key × V) → List (List Key × Addr × Value) → Prop := Paired fun p q => p.1 = q.1 ∧ H q.2.1 = some (.tup (p.1.map kV)) ∧ RelV p.2 q.2.2
theorem KT.val {H : Hp} {kvs : List (List Key × V)} {xs : List (List Key × Addr × Value)} (r : KT H kvs xs) (k : List Key) : RelO (valV kvs k) ((atKey xs k).map (·.2)) := by
  induction r with
  | nil => exact True.intro
  | @cons p q ps qs h t ih =>
    obtain ⟨h1, _, h2⟩ := h
    by_cases e : p.1 = k
    · have e' : q.1 = k := h1.symm.trans e
      have b : atKey (q :: qs) k = some q.2 := by simp [atKey, List.find?_cons, e']
      rw [valV_pos e, b]; exact h2
    · have e' : ¬ q.1 = k := fun z => e (h1.trans z)
      have b : atKey (q :: qs) k = atKey qs k := by simp [atKey, List.find?_cons, e']
      rw [valV_neg e, b]; exact ih
theorem KT.repl {H : Hp} {kvs : List (List Key × V)} {xs : List (List Key × Addr × Value)} (r : KT H kvs xs) (k : List Key) {y : V} {u : Value} (ry : RelV y u) :
    KT H (kvs.map fun kv => if kv.1 = k then (kv.1, y) else kv) (xs.map (putAt k u)) := by
  induction r with
  | nil => exact .nil
  | @cons p q ps qs h t ih =>
    rw [List.map_cons, List.map_cons]
    refine .cons ?_ ih
    obtain ⟨h1, h2, h3⟩ := h
    unfold putAt
    by_cases e : p.1 = k
    · rw [if_pos e, if_pos (h1.symm.trans e)]; exact ⟨h1, h2, ry⟩
    · rw [if_neg e, if_neg (fun z => e (h1.trans z))]; exact ⟨h1, h2, h3⟩
theorem KT.put {H : Hp} {kvs : List (List Key × V)} {xs : List (List Key × Addr × Value)} (r : KT H kvs xs) (k : List Key) {b : Addr} {y : V} {u : Value} (hb : H b = some (.tup (k.map kV))) (ry : RelV y u) :
    KT H (putK kvs k y) (storedH xs k b u) := by
  have e : (kvs.any fun kv => decide (kv.1 = k)) = (atKey xs k).isSome := by
    rw [valV_any, (r.val k).isSome_eq, Option.isSome_map]
  unfold putK storedH
  rw [e]
  by_cases q : (atKey xs k).isSome = true
  · rw [if_pos q, if_pos q]; exact r.repl k ry
  · rw [if_neg q, if_neg q]; exact Paired.snoc r ⟨rfl, hb, ry⟩
theorem KT.keeps {H H' : Hp} {kvs : List (List Key × V)} {xs : List (List Key × Addr × Value)} (r : KT H kvs xs) (ht : ∀ b ys, H b = some (.tup ys) → H' b = some (.tup ys)) : KT H' kvs xs :=
  Paired.mapP r fun _ _ z => ⟨z.1, ht _ _ z.2.1, z.2.2⟩

section
variable {P : Program} {w : World} {H : Hp} {h : Heap} {a : Addr}
theorem rd_of {u : HO} (ok : HOk P w H h) (e : Rd H a u) : ObjOk P w H h a u := e.ok ok
theorem dk_rd {kvs : List (Key × V)} (ok : HOk P w H h) (e : Rd H a (.dK kvs)) : kvs.length ≤ sizeLine ∧ (a == sysModules) = false ∧ ∃ vs, KV kvs vs ∧ h.DictOf (mixKind P w) a vs :=
  show ObjOk P w H h a (.dK kvs) from rd_of ok e
theorem dk_of {kvs : List (Key × V)} (ok : HOk P w H h) (e : H a = some (.dK kvs)) : kvs.length ≤ sizeLine ∧ (a == sysModules) = false ∧ ∃ vs, KV kvs vs ∧ h.DictOf (mixKind P w) a vs := dk_rd ok (.inl e)
theorem key_of {ks : List Key} (ok : HOk P w H h) (e : H a = some (.tup (ks.map kV))) : (tupleKind (mixKind P w)).is h ks a := by
  obtain ⟨_, its, r, o, h1, h2, n, h3⟩ := (show ObjOk P w H h a (.tup (ks.map kV)) from ok a _ e)
  exact ⟨o, its.toArray, n, h1, h2, h3, by simpa using items_are r⟩
theorem dt_rd {kvs : List (List Key × V)} (ok : HOk P w H h) (e : Rd H a (.dT kvs)) : kvs.length ≤ sizeLine ∧ (a == sysModules) = false ∧
    ∃ xs, KT H kvs xs ∧ h.DictOfH (tupleKind (mixKind P w)) a xs := by
  obtain ⟨z, y, xs, r, o, es, ep, h1, h2, h3, h4, h5⟩ := (show ObjOk P w H h a (.dT kvs) from rd_of ok e)
  refine ⟨z, y, xs, r, o, es, ep, h1, h2, h3, h4, fun x hx => ?_, h5⟩
  have all : ∀ {l : List (List Key × V)} {m : List (List Key × Addr × Value)}, KT H l m → ∀ x ∈ m, (tupleKind (mixKind P w)).is h x.1 x.2.1 := by
    intro l m q
    induction q with
    | nil => intro x hx; exact nomatch hx
    | @cons p q ps qs hq t ih =>
      intro x hx
      rcases List.mem_cons.mp hx with e | hx
      · subst e
        exact key_of ok (by rw [← hq.1]; exact hq.2.1)
      · exact ih x hx
  exact all r x hx
theorem dt_of {kvs : List (List Key × V)} (ok : HOk P w H h) (e : H a = some (.dT kvs)) : kvs.length ≤ sizeLine ∧ (a == sysModules) = false ∧
    ∃ xs, KT H kvs xs ∧ h.DictOfH (tupleKind (mixKind P w)) a xs := dt_rd ok (.inl e)
end

noncomputable def DGet (H : Hp) (a : Addr) (y : V) (r : Option V) : Prop :=
  (∃ kvs k, Rd H a (.dK kvs) ∧ y = kV k ∧ r = valV kvs k) ∨ ∃ kvs k b, Rd H a (.dT kvs) ∧ y = .ref b ∧ H b = some (.tup (k.map kV)) ∧ r = valV kvs k
noncomputable def DPut (H : Hp) (a : Addr) (y v : V) (H' : Hp) : Prop :=
  (∃ kvs k, H a = some (.dK kvs) ∧ y = kV k ∧ kvs.length < sizeLine ∧ H' = upd H a (.dK (putK kvs k v))) ∨
  ∃ kvs k b, H a = some (.dT kvs) ∧ y = .ref b ∧ H b = some (.tup (k.map kV)) ∧ kvs.length < sizeLine ∧ H' = upd H a (.dT (putK kvs k v))
theorem DGet.k {H : Hp} {a : Addr} {kvs : List (Key × V)} {k : Key} (e : H a = some (.dK kvs)) : DGet H a (kV k) (valV kvs k) := .inl ⟨kvs, k, .inl e, rfl, rfl⟩
theorem DPut.k {H : Hp} {a : Addr} {kvs : List (Key × V)} {k : Key} {v : V} (e : H a = some (.dK kvs)) (hl : kvs.length < sizeLine) : DPut H a (kV k) v (upd H a (.dK (putK kvs k v))) := .inl ⟨kvs, k, e, rfl, hl, rfl⟩
section
variable {X : Cx} {pins : List (Addr × Obj)} {σ : St} {H : Hp} {s : Shared} {a : Addr} {y v : V} {u r : Value} {o : Option V} {A : Around} {E : Value → Shared → Prop}

theorem Inv.big (I : Inv X pins σ H s) : sysModules < s.heap.objs.size := by
  have h : mainGlobals < s.heap.objs.size := (I.mod.glob.keeps I.bk).lt
  exact Nat.lt_trans (by decide) h

theorem d_getItem {Q : Value → Shared → Prop} (hu : A.units + 1 < cLine) (I : Inv X pins σ H s) (g : DGet H a y (some v)) (ry : RelV y u) (h : ∀ w' s', Inv X pins σ H s' → RelV v w' → Q w' s') :
    wpAny (model X.prog X.w) A (getItem (.ref a) u) Q E s := by
  rcases g with ⟨kvs, k, e, ey, l⟩ | ⟨kvs, k, b, e, ey, eb, l⟩
  · subst ey
    obtain ⟨z, hd, vs, rel, dd⟩ := dk_rd I.hok e
    obtain ⟨w', hw, rw'⟩ := RelO.some_of (v := v) (o := valueAt vs k) (by rw [l]; exact rel.val k)
    exact wpAny_getItem_of (kV_is ry) dd.mapOf hw (h w' _ (I.tok _) rw')
  · subst ey
    cases (show u = Value.ref b from ry)
    obtain ⟨z, hd, xs, rel, dd⟩ := dt_rd I.hok e
    obtain ⟨w', hw, rw'⟩ := RelO.some_of (v := v) (o := (atKey xs k).map (·.2)) (by rw [l]; exact rel.val k)
    obtain ⟨p, hp, hp2⟩ := Option.map_eq_some_iff.mp hw
    refine wpAny_getItem_heap (tupleKind_room_in1 hu) (key_of I.hok eb) dd hp ?_
    rw [hp2]
    exact h w' _ (I.tok _) rw'
theorem d_in {Q : Value → Shared → Prop} (hu : A.units + 1 < cLine) (I : Inv X pins σ H s) (g : DGet H a y o) (ry : RelV y u) (h : ∀ s', Inv X pins σ H s' → Q (.bool o.isSome) s') :
    wpAny (model X.prog X.w) A (compareOp .In u (.ref a)) Q E s := by
  rcases g with ⟨kvs, k, e, ey, l⟩ | ⟨kvs, k, b, e, ey, eb, l⟩
  · subst ey
    obtain ⟨z, hd, vs, rel, dd⟩ := dk_rd I.hok e
    refine wpAny_in_of (kV_is ry) hd dd.mapOf ?_
    rw [← (rel.val k).isSome_eq, ← l]
    exact h _ (I.tok _)
  · subst ey
    cases (show u = Value.ref b from ry)
    obtain ⟨z, hd, xs, rel, dd⟩ := dt_rd I.hok e
    refine wpAny_in_heap (tupleKind_room_in1 hu) (key_of I.hok eb) hd dd ?_
    have q := (rel.val k).isSome_eq
    rw [Option.isSome_map] at q
    rw [← q, ← l]
    exact h _ (I.tok _)
theorem d_write {h' : Heap} {t' : Nat} {ob : HO} (I : Inv X pins σ H s) (mu : Mut (H a)) (hs : Heap.SameBut a s.heap h') (he : ∃ q, h'.get? a = some q) (new : ObjOk X.prog X.w (upd H a ob) h' a ob) :
    Inv X pins σ (upd H a ob) { s with heap := h', toks := t' } :=
  I.write (x := a) (e := a) mu (.inl rfl) (fun b q hb z => (hs.2 b hb).trans z) he new
theorem dk_new {P : Program} {w : World} {H' : Hp} {h' : Heap} {kvs : List (Key × V)} {vs : List (Key × Value)} (z : kvs.length ≤ sizeLine) (hd : (a == sysModules) = false) (rel : KV kvs vs) (dd : h'.DictOf (mixKind P w) a vs) :
    ObjOk P w H' h' a (.dK kvs) := ⟨z, hd, vs, rel, dd⟩
theorem d_setItem {H' : Hp} {Q : Unit → Shared → Prop} (hu : A.units + 1 < cLine) (I : Inv X pins σ H s) (g : DPut H a y v H') (ry : RelV y u) (rv : RelV v r) (h : ∀ s', Inv X pins σ H' s' → Q () s') :
    wpAny (model X.prog X.w) A (setItem (.ref a) u r) Q E s := by
  rcases g with ⟨kvs, k, e, ey, l, eH⟩ | ⟨kvs, k, b, e, ey, eb, l, eH⟩
  · subst ey eH
    obtain ⟨z, hd, vs, rel, dd⟩ := dk_of I.hok e
    have hz : vs.length ≤ sizeLine := by rw [← rel.length]; exact z
    have hl : (putK kvs k v).length ≤ sizeLine := by have := length_putK kvs k v; omega
    refine wpAny_setItem_pairs (hsz := hz) (kV_is ry) dd fun h' dd' hs => h _ ?_
    have he : ∃ q, h'.get? a = some q := let ⟨q, _, _, hq, _⟩ := dd'; ⟨q, hq⟩
    exact d_write I (by rw [e]; exact True.intro) hs he (dk_new hl hd (rel.put k rv) dd')
  · subst ey eH
    cases (show u = Value.ref b from ry)
    obtain ⟨z, hd, xs, rel, dd⟩ := dt_of I.hok e
    have hz : xs.length ≤ sizeLine := by rw [← Paired.length rel]; exact z
    have hl : (putK kvs k v).length ≤ sizeLine := by have := length_putK kvs k v; omega
    refine wpAny_setItem_heap (hsz := hz) (tupleKind_room_in1 hu) (key_of I.hok eb) dd fun h' dd' hs => h _ ?_
    obtain ⟨q, es, ep, hq, h2, h3, h4, _, h5⟩ := dd'
    refine d_write I (by rw [e]; exact True.intro) hs ⟨q, hq⟩ ⟨hl, hd, _, (rel.put k eb rv).keeps fun c ys ec => ?_, q, es, ep, hq, h2, h3, h4, h5⟩
    rw [upd_ne (ne_of ec e (fun z => nomatch z))]
    exact ec
end

section
variable {X : Cx} {pins : List (Addr × Obj)} {σ : St} {H : Hp} {s : Shared} {a : Addr} {kvs : List (Key × V)} {k : Key} {u : Value} {A : Around} {E : Value → Shared → Prop}
theorem d_len {Q : Value → Shared → Prop} (I : Inv X pins σ H s) (e : Rd H a (.dK kvs)) (h : ∀ t s', Inv X pins σ H s' → Q (.int kvs.length t) s') : wpAny (model X.prog X.w) A (call (.builtin "len") [.ref a]) Q E s := by
  obtain ⟨z, hd, vs, rel, dd⟩ := dk_rd I.hok e
  refine call_len_dict hd dd (by rw [← rel.length]; rw [sizeLine_eq] at z; omega) ?_
  rw [← rel.length]
  exact h _ _ (I.tok _)
end


noncomputable def NoSl (i : Expr) : Prop := ∀ ov iv, subscripted i false ov iv = operate [ov, iv] (getItem ov iv)
theorem subD_of {prog : Program} {w : World} {A : Around} {E : Value → Shared → Prop} {s : Shared} {env : Env} {value slice : Expr} {pos : Pos} {T id : String} {Q : Value → Shared → Prop}
    (hl : typeLookup (.type T) "__getitem__" = pure (some (.builtin id))) (hs : NoSl slice)
    (h : wpAny (model prog w) A (eval value env) (fun o s₁ => wpAny (model prog w) A (eval slice env) (fun i s₂ => s₂.TypeIs o T ∧ wpAny (model prog w) A (getItem o i) Q E s₂) E s₁) E s) :
    wpAny (model prog w) A (eval (.Subscript value slice pos) env) Q E s := by
  refine Subscript_ (wpAny_mono h (fun o s₁ h₁ => wpAny_mono h₁ (fun i s₂ h₂ => ?_) fun _ _ x => x) fun _ _ x => x)
  obtain ⟨hT, h₂⟩ := h₂
  unfold subscriptTail
  refine wpAny_bind ?_
  rw [getitemInPython_of_ne hT.not_modules]
  refine wpAny_bind (wpAny_specialOf hT hl ?_)
  have fin : wpAny (model prog w) A (subscripted slice false o i) (fun r s₃ => wpAny (model prog w) A (letTemporaryGo value o r >>= fun _ => pure r) Q E s₃) E s₂ := by
    rw [hs o i]
    exact wpAny_operating (wpAny_mono h₂ (fun r s₃ h₃ => wpAny_bind (wpAny_letTemporaryGo (wpAny_pure h₃))) fun _ _ x => x)
  first
    | exact wpAny_pure (wpAny_bind fin)
    | exact wpAny_bind (wpAny_pure (wpAny_bind fin))
    | exact wpAny_bind fin

theorem dict_typeIs {X : Cx} {pins : List (Addr × Obj)} {σ : St} {H : Hp} {s : Shared} {a : Addr} {y : V} {o : Option V} (I : Inv X pins σ H s) (g : DGet H a y o) : s.TypeIs (.ref a) "dict" := by
  rcases g with ⟨kvs, k, e, _, _⟩ | ⟨kvs, k, b, e, _, _, _⟩
  · obtain ⟨_, _, vs, _, dd⟩ := dk_rd I.hok e
    exact dd.typeIs
  · obtain ⟨_, _, xs, _, dd⟩ := dt_rd I.hok e
    exact dd.typeIs
noncomputable def tDGet (td ty : TE) : TE := fun σ H Q => td σ H fun x H1 => ty σ H1 fun y H2 => ∃ a v, x = .ref a ∧ DGet H2 a y (some v) ∧ Q v H2
noncomputable def tDIn (ty td : TE) : TE := fun σ H Q => ty σ H fun y H1 => td σ H1 fun x H2 => ∃ a o, x = .ref a ∧ DGet H2 a y o ∧ Q (.bl o.isSome) H2
noncomputable def sDPut (td ty tv : TE) : TS := fun D σ H => tv σ H fun v H1 => td σ H1 fun x H2 => ty σ H2 fun y H3 => ∃ a H4, x = .ref a ∧ DPut H3 a y v H4 ∧ D.nx σ H4
section
variable {X : Cx} {o i e value : Expr} {pos pos' tpos : Pos} {td ty tv : TE}
theorem pe_dget (hu : X.A.units + 1 < cLine) (ho : PE X o td) (hi : PE X i ty) (hs : NoSl i) : PE X (.Subscript o i pos) (tDGet td ty) := by
  intro pins s σ H Q I h
  refine subD_of PySem.F.slot_dict_getitem.lookup hs (thn (ho pins s σ H _ I h) fun u s1 ⟨x, H1, I1, rx, q1⟩ => thn (hi pins s1 σ H1 _ I1 q1) fun iv s2 ⟨y, H2, I2, ry, a, v, ex, g, q2⟩ => ?_)
  subst ex
  obtain rfl : u = Value.ref a := rx
  exact ⟨dict_typeIs I2 g, d_getItem hu I2 g ry fun w' s3 I3 rw' => ⟨v, H2, I3, rw', q2⟩⟩
theorem pc_din (hu : X.A.units + 1 < cLine) (hi : PE X i ty) (ho : PE X o td) : PC X .In i o (tDIn ty td) := by
  intro pins s σ H Q I h
  refine thn (hi pins s σ H _ I h) fun iv s1 ⟨y, H1, I1, ry, q1⟩ => thn (ho pins s1 σ H1 _ I1 q1) fun u s2 ⟨x, H2, I2, rx, a, ov, ex, g, q2⟩ => ?_
  subst ex
  obtain rfl : u = Value.ref a := rx
  exact d_in hu I2 g ry fun s3 I3 => ⟨.bl ov.isSome, H2, I3, rfl, q2⟩
theorem ps_dput (hu : X.A.units + 1 < cLine) (ho : PE X o td) (hi : PE X i ty) (hv : PE X value tv) (hs : swapsWith value (some (.Subscript o i pos')) pos.line X.env = pure false) :
    PS X (.Assign [.Subscript o i pos'] value pos) (sDPut td ty tv) := by
  intro pins s σ H D I h
  refine wpAny_Assign_Subscript (thn (hv pins s σ H _ I h) fun r s1 ⟨v, H1, I1, rv, q1⟩ => thn (ho pins s1 σ H1 _ I1 q1) fun u s2 ⟨x, H2, I2, rx, q2⟩ => thn (hi pins s2 σ H2 _ I2 q2) fun iv s3 ⟨y, H3, I3, ry, a, H4, ex, g, q3⟩ => ?_) hs
  subst ex
  obtain rfl : u = Value.ref a := rx
  exact d_setItem hu I3 g ry rv fun s4 I4 => ⟨σ, H4, I4, q3⟩
end


theorem dk_empty {P : Program} {w : World} {H : Hp} (h : Heap) (hb : sysModules < h.objs.size) : ObjOk P w H (h.push { cls := .type "dict", data := .dict #[] }) h.objs.size (.dK []) :=
  ⟨Nat.zero_le _, beq_eq_false_iff_ne.mpr (Ne.symm (Nat.ne_of_lt hb)), [], .nil, Heap.DictOf.new h⟩
noncomputable def tDNewK : TE := fun _ H Q => ∀ p, H p = none → Q (.ref p) (upd H p (.dK []))
section
variable {X : Cx} {pos : Pos}
theorem pe_dnewK : PE X (.Dict [] [] pos) tDNewK := fun pins s σ H Q I h =>
  wpAny_Dict_empty ⟨.ref s.heap.objs.size, _, I.laid (a := s.heap.objs.size) (o := .dK []) (t' := s.toks) (fun _ _ q => Heap.get?_push_of_some _ q) (Nat.le_refl _) (dk_empty s.heap I.big), rfl, h _ (I.hok.fresh (Nat.le_refl _))⟩
end

noncomputable def tPairsD : List (TE × TE) → St → Hp → (List (V × V) → Hp → Prop) → Prop
  | [], _, H, Q => Q [] H
  | (tk, tv) :: r, σ, H, Q => tk σ H fun x H1 => tv σ H1 fun y H2 => tPairsD r σ H2 fun ps H3 => Q ((x, y) :: ps) H3
noncomputable abbrev VV : List (V × V) → List (Value × Value) → Prop := Paired fun p q => RelV p.1 q.1 ∧ RelV p.2 q.2
noncomputable def PPs (X : Cx) (pos : Pos) (keys : List (Option Expr)) (values : List Expr) (trs : List (TE × TE)) : Prop :=
  ∀ (pins : List (Addr × Obj)) (s : Shared) (σ : St) (H : Hp) (Q : List (V × V) → Hp → Prop), Inv X pins σ H s → tPairsD trs σ H Q →
    wpAny (model X.prog X.w) X.A (evalPairs (pairTrees keys values X.env pos)) (fun vs s' => ∃ ps H', Inv X pins σ H' s' ∧ VV ps vs ∧ Q ps H') X.xe s
theorem pps_nil {X : Cx} {pos : Pos} : PPs X pos [] [] [] := fun pins s σ H Q I h => pairTrees_nil_walk ⟨[], H, I, .nil, h⟩
theorem pps_cons {X : Cx} {pos : Pos} {k v : Expr} {ks : List (Option Expr)} {vs : List Expr} {tk tv : TE} {trs : List (TE × TE)} (hk : PE X k tk) (hv : PE X v tv) (hr : PPs X pos ks vs trs) :
    PPs X pos (some k :: ks) (v :: vs) ((tk, tv) :: trs) := fun pins s σ H Q I h =>
  pairTrees_cons_walk (thn (hk pins s σ H _ I h) fun u s1 ⟨x, H1, I1, rx, q1⟩ => thn (hv pins s1 σ H1 _ I1 q1) fun w2 s2 ⟨y, H2, I2, ry, q2⟩ =>
    thn (hr pins s2 σ H2 _ I2 q2) fun ws s3 ⟨ps, H3, I3, rel, q3⟩ => ⟨(x, y) :: ps, H3, I3, .cons ⟨rx, ry⟩ rel, q3⟩)

noncomputable def mergeK (kvs more : List (Key × V)) : List (Key × V) := more.foldl (fun acc kv => putK acc kv.1 kv.2) kvs
theorem KV.merge : ∀ {more : List (Key × V)} {rs : List (Key × Value)} {kvs : List (Key × V)} {vs : List (Key × Value)}, KV more rs → KV kvs vs → KV (mergeK kvs more) (merged vs rs) := by
  intro more rs kvs vs r
  unfold KV at r
  induction r generalizing kvs vs with
  | nil => intro q; exact q
  | @cons p q ps qs h t ih =>
    intro r0
    have e : KV (putK kvs p.1 p.2) (stored vs q.1 q.2) := by
      have := r0.put p.1 h.2
      rw [← h.1]; exact this
    exact ih e
theorem length_mergeK : ∀ (more kvs : List (Key × V)), (mergeK kvs more).length ≤ kvs.length + more.length
  | [], kvs => by show kvs.length ≤ kvs.length + 0; omega
  | p :: r, kvs => by
    have h1 := length_mergeK r (putK kvs p.1 p.2)
    have h2 := length_putK kvs p.1 p.2
    show (mergeK (putK kvs p.1 p.2) r).length ≤ _
    rw [List.length_cons]; omega
theorem carries_of {P : Program} {w : World} : ∀ {kvs : List (Key × V)} {ws : List (Value × Value)}, VV (kvs.map fun kv => (kV kv.1, kv.2)) ws → ∃ rs, Carries (mixKind P w) ws rs ∧ KV kvs rs
  | [], _, r => by rw [List.map_nil] at r; cases r; exact ⟨[], True.intro, .nil⟩
  | p :: kvs, _, r => by
    rw [List.map_cons] at r
    cases r with
    | @cons a b as bs h t =>
      obtain ⟨rs, c, q⟩ := carries_of (P := P) (w := w) t
      obtain ⟨b1, b2⟩ := b
      exact ⟨(p.1, b2) :: rs, ⟨kV_is h.1, rfl, c⟩, .cons ⟨rfl, h.2⟩ q⟩
noncomputable def tDisp (trs : List (TE × TE)) : TE := fun σ H Q => ∀ p, H p = none → tPairsD trs σ (upd H p (.dK [])) fun ps H2 => H2 p = some (.dK []) ∧ ∃ kvs : List (Key × V), ps = kvs.map (fun kv => (kV kv.1, kv.2)) ∧ kvs.length ≤ 15 ∧ Q (.ref p) (upd H2 p (.dK (mergeK [] kvs)))
theorem pe_disp {X : Cx} {pos : Pos} {keys : List (Option Expr)} {values : List Expr} {trs : List (TE × TE)} (h : PPs X pos keys values trs) (hall : keys.all (·.isSome) = true) (hl : keys.length = values.length) (h0 : keys ≠ [])
    (h15 : keys.length ≤ 15) : PE X (.Dict keys values pos) (tDisp trs) := by
  intro pins s σ H Q I q
  have hn := I.hok.fresh (Nat.le_refl s.heap.objs.size)
  have I1 := I.laid (a := s.heap.objs.size) (o := .dK []) (h' := s.heap.push { cls := .type "dict", data := .dict #[] }) (t' := s.toks) (fun _ _ q => Heap.get?_push_of_some _ q) (Nat.le_refl _) (dk_empty s.heap I.big)
  refine wpAny_Dict_walk (knd := mixKind X.prog X.w) hall hl h0 h15 (thn (h pins _ σ _ _ I1 (q _ hn)) fun ws s2 ⟨ps, H2, I2, rel, e, kvs, ep, lk, q2⟩ => ?_)
  subst ep
  obtain ⟨rs, c, rk⟩ := carries_of (P := X.prog) (w := X.w) rel
  obtain ⟨z, hd, vs0, r0, dd⟩ := dk_of I2.hok e
  cases r0
  refine ⟨rs, c, dd, fun h' dd' hs => ⟨.ref s.heap.objs.size, _, ?_, rfl, q2⟩⟩
  have hz : (mergeK [] kvs).length ≤ sizeLine := by
    have h1 := length_mergeK kvs []
    rw [List.length_nil] at h1
    rw [sizeLine_eq]; omega
  have he : ∃ q, h'.get? s.heap.objs.size = some q := let ⟨q, _, _, hq, _⟩ := dd'; ⟨q, hq⟩
  exact d_write I2 (by rw [e]; exact True.intro) hs he (dk_new hz hd (rk.merge .nil) dd')


set_option genInjectivity false in
structure M2 (X : Cx) (o : Expr) (m : Str) (apos : Pos) (e f : Expr) (cpos : Pos) : Prop where
  base : attributeBase o m X.env (eval o X.env) = eval o X.env
  few : ((backTo cpos (starEach [e, f] X.env)).all (fun x => !x.1) && (backToKw cpos (keywordEach [] X.env)).all (fun x => x.1.isSome)
    && decide (([e, f] : List Expr).length + ([] : List Keyword).length + (if ([] : List Keyword).isEmpty then 0 else 1) < 30)) = true
  line : (apos.endLine == cpos.line) = true
  trees : backTo cpos (starEach [e, f] X.env) = [(false, eval e X.env), (false, eval f X.env)]

noncomputable def IsD (H : Hp) (a : Addr) : Prop := (∃ kvs, Rd H a (.dK kvs)) ∨ ∃ kvs, Rd H a (.dT kvs)
theorem isD_at {X : Cx} {pins : List (Addr × Obj)} {σ : St} {H : Hp} {s : Shared} {a : Addr} (I : Inv X pins σ H s) (d : IsD H a) :
    s.TypeIs (.ref a) "dict" ∧ (∀ b, Value.ref a = .ref b → ∃ ob, s.heap.get? b = some ob ∧ ob.dict = none) ∧ (a == sysModules) = false := by
  rcases d with ⟨kvs, e⟩ | ⟨kvs, e⟩
  · obtain ⟨_, hd, vs, _, dd⟩ := dk_rd I.hok e
    refine ⟨dd.typeIs, fun b q => ?_, hd⟩
    cases q
    obtain ⟨ob, _, _, h1, h2, _⟩ := dd
    exact ⟨ob, h1, h2.2.1⟩
  · obtain ⟨_, hd, xs, _, dd⟩ := dt_rd I.hok e
    refine ⟨dd.typeIs, fun b q => ?_, hd⟩
    cases q
    obtain ⟨ob, _, _, h1, h2, _⟩ := dd
    exact ⟨ob, h1, h2.2.1⟩

section
variable {X : Cx} {pins : List (Addr × Obj)} {σ : St} {H : Hp} {s : Shared} {a : Addr} {y d : V} {u r : Value} {o : Option V} {A : Around} {E : Value → Shared → Prop}
theorem d_get2 {Q : Value → Shared → Prop} (hu : A.units + 1 < cLine) (I : Inv X pins σ H s) (g : DGet H a y o) (ry : RelV y u) (rd : RelV d r) (h : ∀ w' s', Inv X pins σ H s' → RelV (o.getD d) w' → Q w' s') :
    wpAny (model X.prog X.w) A (call (.builtin "dict.get") [.ref a, u, r]) Q E s := by
  rcases g with ⟨kvs, k, e, ey, l⟩ | ⟨kvs, k, b, e, ey, eb, l⟩
  · subst ey
    obtain ⟨z, hd, vs, rel, dd⟩ := dk_rd I.hok e
    refine call_meetsIn PySem.F.slot_dict_get dd.typeIs PySem.F.entry_dict_get (PySem.F.args_dict_get_3 _ _ _) (meets_dict_get_default (mixKind X.prog X.w) a (kV_is ry) hd r) ⟨_, dd.mapOf, h _ _ (I.tok _) ?_⟩
    rw [l]
    exact (rel.val k).getD rd
  · subst ey
    cases (show u = Value.ref b from ry)
    obtain ⟨z, hd, xs, rel, dd⟩ := dt_rd I.hok e
    refine call_meetsIn PySem.F.slot_dict_get dd.typeIs PySem.F.entry_dict_get (PySem.F.args_dict_get_3 _ _ _) (meetsH_dict_get_default (tupleKind (mixKind X.prog X.w)) a b hd r) ⟨tupleKind_room_in1 hu, k, xs, key_of I.hok eb, dd, h _ _ (I.tok _) ?_⟩
    rw [l]
    exact (rel.val k).getD rd
end

noncomputable def tDGet2 (td ty tx : TE) : TE := fun σ H Q => td σ H fun x H1 => ∃ a, x = .ref a ∧ IsD H1 a ∧ ty σ H1 fun y H2 => tx σ H2 fun z H3 => ∃ o, DGet H3 a y o ∧ Q (o.getD z) H3
section
variable {X : Cx} {o e f : Expr} {apos cpos : Pos} {td ty tx : TE}
theorem pe_dget2 (hu : X.A.units + 1 < cLine) (ho : PE X o td) (he : PE X e ty) (hf : PE X f tx) (m : M2 X o "get" apos e f cpos) : PE X (.Call (.Attribute o "get" apos) [e, f] [] cpos) (tDGet2 td ty tx) := by
  intro pins s σ H Q I h
  refine wpAny_Call_method m.base m.few m.line PySem.F.plainAttrs_dict PySem.F.slot_dict_get PySem.F.type_dict_get (thn (ho pins s σ H _ I h) fun u s1 ⟨x, H1, I1, rx, a, ex, d, q1⟩ => ?_)
  subst ex
  obtain rfl : u = Value.ref a := rx
  obtain ⟨t1, t2, _⟩ := isD_at I1 d
  refine ⟨t1, t2, ?_⟩
  rw [m.trees]
  refine Calls.callWith_builtin rfl (Calls.evalArgs_plain (Calls.spliced_cons (thn (he pins s1 σ H1 _ I1 q1) fun iv s2 ⟨y, H2, I2, ry, q2⟩ =>
    Calls.spliced_cons (thn (hf pins s2 σ H2 _ I2 q2) fun fv s3 ⟨z, H3, I3, rz, ov, g, q3⟩ => Calls.spliced_nil ?_))))
  exact d_get2 hu I3 g ry rz fun w' s4 I4 rw' => ⟨_, H3, I4, rw', q3⟩
end

section
variable {X : Cx} {pins : List (Addr × Obj)} {σ : St} {H : Hp} {s : Shared} {a : Addr} {kvs : List (Key × V)} {A : Around} {E : Value → Shared → Prop}
end


section
variable {X : Cx} {pins : List (Addr × Obj)} {σ : St} {H : Hp} {s : Shared} {a : Addr} {y : V} {u : Value} {A : Around} {E : Value → Shared → Prop}
end
end L2

namespace Att
open PySem PySem.W PySem.Calls PyProof.Rows

section
variable {prog : Program} {w : World} {A : Around} {E : Value → Shared → Prop} {s : Shared} {K : Frag}

end
end Att

namespace L2
open PySem PySem.Spec PyProof.Rows

end L2

namespace L2
open PySem PySem.Spec PyProof.Rows

end L2

namespace L2
open PySem PySem.Spec PyProof.Rows

section
variable {P : Program} {w : World} {K : PySem.W.Frag} {mg : Str → Option Value} {base : Heap}
end
section
variable {X : Cx}
theorem call_lenD : CallR X (.builtin "len") (fun xs H Q => ∃ a kvs, xs = [V.ref a] ∧ H a = some (.dK kvs) ∧ Q (.int kvs.length) H) := by
  intro pins s σ H xs us Q I r h
  obtain ⟨a, kvs, rfl, ha, q⟩ := h
  obtain ⟨u, rfl, ru⟩ := vals1 r
  cases ru
  exact d_len I (.inl ha) fun t s' I' => ⟨.int kvs.length, H, I', ⟨t, rfl⟩, q⟩
end

section
variable {κ : Type} [DecidableEq κ]
theorem valV_not {kvs : List (κ × V)} {k : κ} (h : valV kvs k = none) : ¬ k ∈ kvs.map (·.1) := by
  intro m
  obtain ⟨p, hp, e⟩ := List.mem_map.mp m
  have q : (kvs.any fun kv => decide (kv.1 = k)) = true := List.any_eq_true.mpr ⟨p, hp, decide_eq_true e⟩
  rw [valV_any, h] at q
  exact absurd q (by simp)
theorem valV_in {kvs : List (κ × V)} {k : κ} {v : V} (h : valV kvs k = some v) : k ∈ kvs.map (·.1) := by
  have q : (kvs.any fun kv => decide (kv.1 = k)) = true := by
    rw [valV_any, h]
    all_goals rfl
  obtain ⟨p, hp, e⟩ := List.any_eq_true.mp q
  exact List.mem_map.mpr ⟨p, hp, of_decide_eq_true e⟩
end
end L2


set_option Elab.async false
set_option linter.all false
set_option maxRecDepth 100000
set_option maxHeartbeats 400000
namespace L2
open PySem PySem.Spec PyProof.Rows
namespace RT
noncomputable def obj (x : Str) (t : Tok) (i : Int) : Obj := { cls := .type "reversed", data := .fields #[.str x t, rawInt i] }
noncomputable def Is (h : Heap) (a : Addr) (x : Str) (t : Tok) (i : Int) : Prop := ∃ o, h.get? a = some o ∧ o.cls = .type "reversed" ∧ o.data = .fields #[.str x t, rawInt i]
section
variable {prog : Program} {w : World} {A : Around} {E : Value → Shared → Prop} {s : Shared}
end
section
variable {prog : Program} {w : World} {A : Around} {E : Value → Shared → Prop} {s : Shared}
end
end RT
section
variable {X : Cx}
end
end L2

set_option Elab.async false
set_option linter.all false
set_option maxRecDepth 100000
namespace L2
open PySem PySem.Spec PyProof.Rows
section
variable {X : Cx}
end
end L2
namespace L2
open PySem PySem.Spec PyProof.Rows
set_option genInjectivity false in
structure Cam (P : Program) (w : World) (K : PySem.W.Frag) (mg : Str → Option Value) (base : Heap) (CX : CXT) (x : Str) (C : Addr) (k : Nat) (ps : List Str) (sp : Sp) : Prop where
  ex : ∃ (f : Addr) (fd : FuncData), FnOk P w K mg base CX k f fd ps sp ∧ Mk K C f ∧ mg x = some (.ref C) ∧ Binds K fd ps []
section
variable {X : Cx}
theorem pe_mak {CX : CXT} {x : Str} {C : Addr} {j k : Nat} {ps : List Str} {sp : Sp} {E : XK} {e : Expr} {es : List Expr} {t : TA} {p pos : Pos} (c : Cam X.prog X.w X.K X.mg X.base CX x C j ps sp) (hr : Room k X.A) (hx : Passes CX X E) (ha : PA X (e :: es) t)
    (hjk : j + 1 ≤ k := by decide) (hg : Gl X x := by rfl) (b1 : (x == ("__debug__" : Str)) = false := by decide) (b2 : starEach (e :: es) X.env = (false, eval e X.env) :: starEach es X.env := by rfl) (b3 : (backTo pos (starEach es X.env)).any (·.1) = false := by rfl) :
    PE X (.Call (.Name x p) (e :: es) [] pos) (tMake C sp [] E t) := by
  obtain ⟨f, fd, F, M, hm, hb⟩ := c.ex
  exact pe_make M F (hr.mono hjk) hg hm hb .nil hx ha b1 b2 b3
end
end L2

set_option Elab.async false
set_option linter.all false
set_option maxRecDepth 100000
set_option maxHeartbeats 4000000
namespace L2
open PySem PySem.Spec PyProof.Rows
section
variable {X : Cx}
end
namespace SE
section
variable {prog : Program} {w : World} {A : Around} {E : Value → Shared → Prop} {s : Shared}
end
end SE
section
variable {X : Cx}
end
end L2

set_option Elab.async false
set_option linter.all false
set_option maxRecDepth 100000
namespace ST
open PySem PySem.SetTable

noncomputable def it (M : Nat) : Nat → Nat → Nat
  | 0, i => i
  | s + 1, i => it M s ((i * 5 + 1) % M)
theorem it_add (M : Nat) : ∀ s t i, it M (s + t) i = it M t (it M s i)
  | 0, t, i => by rw [Nat.zero_add]; rfl
  | s + 1, t, i => by rw [Nat.add_right_comm]; exact it_add M s t _
noncomputable def orbit (M : Nat) : Nat → Nat → List Nat
  | 0, _ => []
  | s + 1, i => i :: orbit M s ((i * 5 + 1) % M)
theorem orbit_it {M : Nat} : ∀ {n i j : Nat}, j ∈ orbit M n i → ∃ s, s < n ∧ it M s i = j
  | n + 1, i, j, h => by
    rw [orbit, List.mem_cons] at h
    rcases h with h | h
    · exact ⟨0, by omega, h.symm⟩
    · obtain ⟨s, h1, h2⟩ := orbit_it h
      exact ⟨s + 1, by omega, h2⟩
noncomputable def full (M : Nat) : Bool := it M M 0 == 0 && (List.range M).all fun j => (orbit M M 0).contains j
theorem full_hits {M : Nat} (h : full M = true) {a j : Nat} (ha : a < M) (hj : j < M) : ∃ s, s < M ∧ it M s a = j := by
  rw [full, Bool.and_eq_true, beq_iff_eq, List.all_eq_true] at h
  have hit : ∀ x, x < M → ∃ s, s < M ∧ it M s 0 = x := fun x hx => orbit_it (by have := h.2 x (List.mem_range.mpr hx); simpa using this)
  obtain ⟨s0, h0, e0⟩ := hit a ha
  obtain ⟨s1, h1, e1⟩ := hit j hj
  rcases Nat.lt_or_ge s1 s0 with z | z
  · refine ⟨M - s0 + s1, by omega, ?_⟩
    have w : it M (M - s0) a = 0 := by rw [← e0, ← it_add, show s0 + (M - s0) = M by omega, h.1]
    rw [it_add, w, e1]
  · refine ⟨s1 - s0, by omega, ?_⟩
    rw [← e0, ← it_add, show s0 + (s1 - s0) = s1 by omega, e1]
noncomputable def Size (M : Nat) : Prop := M = 8 ∨ M = 16 ∨ M = 32 ∨ M = 64 ∨ M = 128 ∨ M = 256 ∨ M = 512
theorem Size.full {M : Nat} (h : Size M) : full M = true := by
  rcases h with rfl | rfl | rfl | rfl | rfl | rfl | rfl <;> decide +kernel
theorem Size.pos {M : Nat} (h : Size M) : 8 ≤ M := by
  rcases h with rfl | rfl | rfl | rfl | rfl | rfl | rfl <;> decide

noncomputable def lp (mask : Nat) : Nat → Nat → Nat → Nat × Nat
  | 0, i, p => (i, p)
  | s + 1, i, p => lp mask s (leap mask i p).1 (leap mask i p).2
theorem lp_add (mask : Nat) : ∀ s t i p, lp mask (s + t) i p = lp mask t (lp mask s i p).1 (lp mask s i p).2
  | 0, t, i, p => by rw [Nat.zero_add]; rfl
  | s + 1, t, i, p => by rw [Nat.add_right_comm]; exact lp_add mask s t _ _
theorem lp_p (mask : Nat) : ∀ s i p, (lp mask s i p).2 = p / 32 ^ s
  | 0, i, p => by rw [Nat.pow_zero, Nat.div_one]; rfl
  | s + 1, i, p => by
    show (lp mask s _ (p / 32)).2 = _
    rw [lp_p mask s, Nat.div_div_eq_div_mul, Nat.pow_succ, Nat.mul_comm]
theorem lp_it (mask : Nat) : ∀ s i, (lp mask s i 0).1 = it (mask + 1) s i
  | 0, i => rfl
  | s + 1, i => by
    show (lp mask s ((i * 5 + 1 + 0 / 32) % (mask + 1)) (0 / 32)).1 = _
    rw [Nat.zero_div, Nat.add_zero]
    exact lp_it mask s _
theorem lp_lt (mask : Nat) : ∀ s i p, i < mask + 1 → (lp mask s i p).1 < mask + 1
  | 0, i, p, h => h
  | s + 1, i, p, h => lp_lt mask s _ _ (Nat.mod_lt _ (Nat.succ_pos _))
theorem runEnd_ge (mask i : Nat) : i ≤ runEnd mask i := by
  unfold runEnd
  split <;> omega
theorem free_none {mask : Nat} {owner : Array (Option Nat)} : ∀ {fuel i p : Nat}, layClean.free mask owner fuel i p = none → ∀ s, s < fuel → (owner.getD (lp mask s i p).1 (some 0)).isNone = false
  | fuel + 1, i, p, h, s, hs => by
    rw [layClean.free] at h
    split at h
    · cases h
    · rename_i hf
      cases s with
      | zero =>
        have := List.find?_eq_none.mp hf 0 (List.mem_range.mpr (by have := runEnd_ge mask i; omega))
        rw [Nat.add_zero] at this
        exact Bool.eq_false_iff.mpr this
      | succ s => exact free_none h s (by omega)
theorem free_some {mask : Nat} {owner : Array (Option Nat)} : ∀ {fuel i p j : Nat}, layClean.free mask owner fuel i p = some j → (owner.getD j (some 0)).isNone = true
  | fuel + 1, i, p, j, h => by
    rw [layClean.free] at h
    split at h
    · rename_i k hf
      cases h
      have := List.find?_some hf
      exact this
    · exact free_some h
theorem free_ok {mask : Nat} {owner : Array (Option Nat)} {i p j : Nat} (hM : Size (mask + 1)) (hi : i < mask + 1) (hp : p < 2 ^ 64) (hj : j < mask + 1) (he : (owner.getD j (some 0)).isNone = true) :
    ∃ k, layClean.free mask owner (turns mask) i p = some k ∧ (owner.getD k (some 0)).isNone = true := by
  cases hf : layClean.free mask owner (turns mask) i p with
  | some k => exact ⟨k, rfl, free_some hf⟩
  | none =>
    exfalso
    have h13 : (lp mask 13 i p).2 = 0 := by
      rw [lp_p]
      exact Nat.div_eq_of_lt (Nat.lt_trans hp (by decide))
    obtain ⟨s, hs, e⟩ := full_hits hM.full (lp_lt mask 13 i p hi) hj
    have z := free_none hf (13 + s) (by unfold turns; omega)
    rw [lp_add, h13, lp_it, e, he] at z
    cases z

theorem fm_congr {α β : Type} {f g : α → Option β} : ∀ l : List α, (∀ i ∈ l, f i = g i) → l.filterMap f = l.filterMap g
  | [], _ => rfl
  | x :: l, h => by
    have ih := fm_congr l fun i hi => h i (List.mem_cons_of_mem _ hi)
    rw [List.filterMap_cons, List.filterMap_cons, h x (List.mem_cons_self ..), ih]
noncomputable def vals (N : Nat) (f : Nat → Option Nat) : List Nat := (List.range N).filterMap f
theorem fm_upd {f g : Nat → Option Nat} {j v : Nat} (hf : f j = none) (hg : g j = some v) (he : ∀ i, i ≠ j → g i = f i) : ∀ l : List Nat, l.Nodup → j ∈ l → (l.filterMap g).Perm (v :: l.filterMap f)
  | x :: l, nd, hm => by
    rw [List.nodup_cons] at nd
    by_cases e : x = j
    · subst e
      rw [List.filterMap_cons_some hg, List.filterMap_cons_none hf]
      have : l.filterMap g = l.filterMap f := fm_congr l fun i hi => he i fun z => nd.1 (z ▸ hi)
      rw [this]
    · have hm' : j ∈ l := by
        rcases List.mem_cons.mp hm with z | z
        · exact absurd z.symm e
        · exact z
      have ih := fm_upd hf hg he l nd.2 hm'
      have hx := he x e
      cases h : f x with
      | none => rw [List.filterMap_cons_none (hx.trans h), List.filterMap_cons_none h]; exact ih
      | some y =>
        rw [List.filterMap_cons_some (hx.trans h), List.filterMap_cons_some h]
        exact (ih.cons y).trans (List.Perm.swap ..)
theorem fm_full {f : Nat → Option Nat} : ∀ l : List Nat, (∀ i ∈ l, (f i).isNone = false) → (l.filterMap f).length = l.length
  | [], _ => rfl
  | x :: l, h => by
    have hx := h x (List.mem_cons_self ..)
    cases e : f x with
    | none => rw [e] at hx; cases hx
    | some y => rw [List.filterMap_cons_some e, List.length_cons, List.length_cons, fm_full l fun i hi => h i (List.mem_cons_of_mem _ hi)]
noncomputable def Good (mask : Nat) (owner : Array (Option Nat)) (k : Nat) : Prop := owner.size = mask + 1 ∧ (vals (mask + 1) fun j => owner.getD j none).Perm (List.range k)
theorem getD_some {owner : Array (Option Nat)} {j : Nat} (h : j < owner.size) : owner.getD j (some 0) = owner.getD j none := by
  simp [Array.getD, h]
theorem layStep {mask : Nat} (hM : Size (mask + 1)) {owner : Array (Option Nat)} {k : Nat} (g : Good mask owner k) (hk : k < mask + 1) (h : Int) :
    ∃ j, layClean.free mask owner (turns mask) (bits h % (mask + 1)) (bits h) = some j ∧ Good mask (owner.setIfInBounds j (some k)) (k + 1) := by
  obtain ⟨hs, hp⟩ := g
  obtain ⟨j0, hj0, he0⟩ : ∃ j, j < mask + 1 ∧ (owner.getD j (some 0)).isNone = true := by
    apply Classical.byContradiction
    intro hno
    have := fm_full (f := fun j => owner.getD j none) (List.range (mask + 1)) fun i hi => by
      have hi' := List.mem_range.mp hi
      have e := getD_some (owner := owner) (j := i) (by omega)
      cases z : (owner.getD i none).isNone with
      | false => rfl
      | true => exact absurd ⟨i, hi', by rw [e]; exact z⟩ hno
    rw [List.length_range] at this
    have h2 := hp.length_eq
    rw [List.length_range] at h2
    unfold vals at h2
    omega
  obtain ⟨j, e1, e2⟩ := free_ok hM (i := bits h % (mask + 1)) (p := bits h) (Nat.mod_lt _ (Nat.succ_pos _)) (by unfold bits; omega) hj0 he0
  have hj : j < owner.size := by
    rcases Nat.lt_or_ge j owner.size with z | z
    · exact z
    · rw [Array.getD, dif_neg (by omega)] at e2
      cases e2
  refine ⟨j, e1, by rw [Array.size_setIfInBounds]; exact hs, ?_⟩
  have hf : (fun i => owner.getD i none) j = none := by
    show owner.getD j none = none
    rw [getD_some hj] at e2
    cases z : owner.getD j none with
    | none => rfl
    | some y => rw [z] at e2; cases e2
  have hg : (fun i => (owner.setIfInBounds j (some k)).getD i none) j = some k := by
    show (owner.setIfInBounds j (some k)).getD j none = some k
    simp [Array.getD, hj]
  have q := fm_upd hf hg (fun i hi => by
    show (owner.setIfInBounds j (some k)).getD i none = owner.getD i none
    rw [Array.getD_eq_getD_getElem?, Array.getD_eq_getD_getElem?, Array.getElem?_setIfInBounds_ne (Ne.symm hi)]) (List.range (mask + 1)) List.nodup_range (List.mem_range.mpr (by omega))
  refine q.trans ?_
  rw [show List.range (k + 1) = List.range k ++ [k] from List.range_succ]
  exact (hp.cons k).trans (List.perm_append_singleton ..).symm
theorem layAll {mask : Nat} (hM : Size (mask + 1)) : ∀ (hs : List Int) (owner : Array (Option Nat)) (k : Nat), Good mask owner k → k + hs.length ≤ mask + 1 →
    ∃ o', (hs.foldl (fun acc h => do
      let (owner, k) ← acc
      let j ← layClean.free mask owner (turns mask) (bits h % (mask + 1)) (bits h)
      pure (owner.setIfInBounds j (some k), k + 1)) (some (owner, k))) = some (o', k + hs.length) ∧ Good mask o' (k + hs.length)
  | [], owner, k, g, _ => ⟨owner, rfl, g⟩
  | h :: hs, owner, k, g, hk => by
    rw [List.length_cons] at hk
    obtain ⟨j, e, g'⟩ := layStep hM g (by omega) h
    obtain ⟨o', e', g''⟩ := layAll hM hs _ _ g' (by omega)
    refine ⟨o', ?_, by rw [List.length_cons, show k + (hs.length + 1) = k + 1 + hs.length by omega]; exact g''⟩
    rw [List.foldl_cons, List.length_cons, show k + (hs.length + 1) = k + 1 + hs.length by omega, ← e']
    congr 1
    show (layClean.free mask owner (turns mask) (bits h % (mask + 1)) (bits h)).bind _ = _
    rw [e]
    rfl
theorem good_nil (mask : Nat) : Good mask (Array.replicate (mask + 1) none) 0 := by
  refine ⟨Array.size_replicate, ?_⟩
  have : vals (mask + 1) (fun j => (Array.replicate (mask + 1) (none : Option Nat)).getD j none) = [] := by
    unfold vals
    refine List.filterMap_eq_nil_iff.mpr fun i _ => ?_
    rw [Array.getD_eq_getD_getElem?, Array.getElem?_replicate]
    split <;> rfl
  rw [this]
  exact List.Perm.refl _
theorem laid_ok {mask finger moves : Nat} {led plain : Bool} {hashes : Array Int} (hM : Size (mask + 1)) (hn : hashes.size ≤ mask) :
    ∃ (t : SetTable) (order : Array Nat), laid mask finger moves led plain hashes = some (t, order) ∧ order.toList.Perm (List.range hashes.size) ∧ t.place.size = hashes.size ∧ t.mask = mask ∧ t.dummies = #[] ∧ t.led = led ∧ t.plain = plain := by
  obtain ⟨o, e, g⟩ := layAll hM hashes.toList _ 0 (good_nil mask) (by rw [Array.length_toList]; omega)
  have hc : layClean mask hashes = some o := by
    unfold layClean
    rw [← Array.foldl_toList]
    refine (congrArg (Option.map (·.1)) e).trans ?_
    rfl
  have em : ((List.range (mask + 1)).filterMap fun j => (o.getD j none).map (j, ·)).map (·.2) = vals (mask + 1) fun j => o.getD j none := by
    rw [List.map_filterMap]
    unfold vals
    refine fm_congr _ fun i _ => ?_
    cases o.getD i none <;> rfl
  have gp : (vals (mask + 1) fun j => o.getD j none).Perm (List.range hashes.size) := by
    have := g.2
    rw [Nat.zero_add, Array.length_toList] at this
    exact this
  refine ⟨_, _, by unfold laid; rw [hc]; rfl, by rw [em]; exact gp, ?_, rfl, rfl, rfl, rfl⟩
  show (((List.range (mask + 1)).filterMap fun j => (o.getD j none).map (j, ·)).map (·.1)).toArray.size = _
  have hl := congrArg List.length em
  rw [List.length_map] at hl
  rw [List.size_toArray, List.length_map, hl, gp.length_eq, List.length_range]
end ST

set_option Elab.async false
set_option linter.all false
set_option maxRecDepth 100000
set_option maxHeartbeats 4000000
namespace SS
open PySem PyProof.Rows
noncomputable def byT (w : World) : Bool := w.params.followText "set-order"
noncomputable def keyV : Value → Str
  | .str x _ => x
  | _ => Str.empty
noncomputable def El (w : World) (e : Int × Value) : Prop := e.1 = hashStr w (keyV e.2) ∧ ∃ t, e.2 = .str (keyV e.2) t
noncomputable def Els (w : World) (es : List (Int × Value)) (ms : List Str) : Prop := (∀ e ∈ es, El w e) ∧ (es.map fun e => keyV e.2).Perm ms
theorem Els.perm {w : World} {es es' : List (Int × Value)} {ms : List Str} (h : Els w es ms) (p : es'.Perm es) : Els w es' ms := ⟨fun e he => h.1 e (p.mem_iff.mp he), (p.map _).trans h.2⟩
theorem Els.of {w : World} {prog : Program} {es : List (Int × Value)} {ms : List Str} (h : Els w es ms) : ElemsOf (PySem.strKind prog w) es := fun e he => by
  obtain ⟨h1, t, h2⟩ := h.1 e he
  refine ⟨⟨keyV e.2, ?_, h1⟩, ?_⟩
  · rw [h2]
    exact strKind_is prog w _ t
  · rw [h2]
    rfl
theorem Els.len {w : World} {es : List (Int × Value)} {ms : List Str} (h : Els w es ms) : es.length = ms.length := by
  have := h.2.length_eq
  rwa [List.length_map] at this
theorem Els.has {w : World} {prog : Program} {es : List (Int × Value)} {ms : List Str} (h : Els w es ms) (k : Str) : k ∈ ms ↔ ∃ e ∈ es, (PySem.strKind prog w).is k e.2 = true := by
  rw [← h.2.mem_iff, List.mem_map]
  constructor
  · rintro ⟨e, he, rfl⟩
    obtain ⟨_, t, h2⟩ := h.1 e he
    refine ⟨e, he, ?_⟩
    conv => lhs; arg 3; rw [h2]
    exact strKind_is prog w _ t
  · rintro ⟨e, he, hk⟩
    obtain ⟨t, ht⟩ := Value.isStrOf_shape hk
    exact ⟨e, he, by rw [ht]; rfl⟩
noncomputable def Is (w : World) (h : Heap) (a : Addr) (ms : List Str) : Prop :=
  ∃ o es ep t, h.get? a = some o ∧ o.ExactSet ∧ o.data = .set es ep t ∧ Els w es.toList ms ∧ ms.Nodup ∧ es.size < scanBound ∧ t.fits es.size = true ∧ (byT w = true ∨ t.led = true) ∧ (es.size = 0 ∨ t.plain = false)
theorem Is.at {w : World} {h h' : Heap} {a : Addr} {ms : List Str} (x : Is w h a ms) (e : ∀ o, h.get? a = some o → h'.get? a = some o) : Is w h' a ms := let ⟨o, es, ep, t, ho, r⟩ := x; ⟨o, es, ep, t, e o ho, r⟩
theorem Is.there {w : World} {h : Heap} {a : Addr} {ms : List Str} (x : Is w h a ms) : ∃ o, h.get? a = some o := let ⟨o, _, _, _, ho, _⟩ := x; ⟨o, ho⟩
theorem layNew_led (t : SetTable) (es : Array (Int × Value)) (h : Int) (x : Value) : (layNew t es h x).2.1.led = t.led := by
  unfold layNew
  split
  · rename_i slot wd _
    show ((t.put slot).1.orStandIn _).led = t.led
    unfold SetTable.orStandIn
    split <;> rfl
  · rfl
theorem laid_marks {mask finger moves : Nat} {led plain : Bool} {hs : Array Int} {t : SetTable} {o : Array Nat} (h : SetTable.laid mask finger moves led plain hs = some (t, o)) : t.led = led ∧ t.plain = plain := by
  unfold SetTable.laid at h
  cases hc : SetTable.layClean mask hs with
  | none => rw [hc] at h; cases h
  | some ow =>
    rw [hc] at h
    have h' := Option.some.inj h
    rw [← (Prod.mk.inj h').1]
    exact ⟨rfl, rfl⟩
theorem relayAll_marks (t : SetTable) (es : Array (Int × Value)) (n : Nat) (hp : t.plain = false) : (relayAll t es n).2.1.led = t.led ∧ (relayAll t es n).2.1.plain = false := by
  unfold relayAll
  split
  · rename_i t' order e
    obtain ⟨h1, h2⟩ := laid_marks e
    dsimp only
    split
    · exact ⟨h1, h2.trans hp⟩
    · exact ⟨rfl, rfl⟩
  · exact ⟨rfl, rfl⟩
section
variable {prog : Program} {w : World} {A : Around} {E : Value → Shared → Prop} {s : Shared}
theorem Is.store (prog : Program) {a : Addr} {o : Obj} {es es' : Array (Int × Value)} {ep : Nat} {t t' : SetTable} {h : Heap} {ms : List Str} (ho : h.get? a = some o) (hex : o.ExactSet) (hd : o.data = .set es ep t) (hel : Els w es'.toList ms) (hnd : ms.Nodup) (hb : es'.size < scanBound) (hf : t'.fits es'.size = true)
    (hl : byT w = true ∨ t'.led = true) (hp : es'.size = 0 ∨ t'.plain = false) : (h.update a (Obj.putSet es' t')).get? a = some { o with data := .set es' (ep + 1) t' } ∧ Is w (h.update a (Obj.putSet es' t')) a ms := by
  have hg := (SetOf_store (knd := PySem.strKind prog w) (S' := fun k => decide (k ∈ ms)) ho hex hd hel.of (fun k => by rw [decide_eq_true_iff]; exact hel.has k) hb hf).1
  exact ⟨hg, _, es', ep + 1, t', hg, hex, rfl, hel, hnd, hb, hf, hl, hp⟩
theorem add_ok {a : Addr} {ms : List Str} {k : Str} {tk : Tok} {Q : Bool → Shared → Prop} (hS : Is w s.heap a ms) (hroom : ms.length + 1 < scanBound)
    (h : ∀ h' ms', Heap.SameBut a s.heap h' → Is w h' a ms' → (∀ x, x ∈ ms' ↔ x ∈ ms ∨ x = k) → ms'.length ≤ ms.length + 1 → Q (!decide (k ∈ ms)) { s with heap := h' }) :
    wpAny (model prog w) A (setAddHashed a (.str k tk) (hashStr w k)) Q E s := by
  obtain ⟨o, es, ep, t, ho, hex, hd, hel, hnd, hb, hf, hl, hp⟩ := hS
  have hn : es.size = ms.length := by rw [← hel.len, Array.length_toList]
  have hkey : (PySem.strKind prog w).is k (.str k tk) = true := strKind_is prog w k tk
  unfold setAddHashed setAddHashedIn
  refine wpAny_holding (wpAny_bind (wpAny_setState_of ho hd hf ?_))
  dsimp only
  rw [byScan_of (knd := PySem.strKind prog w) (x := .str k tk) rfl hb hel.of]
  simp only [↓reduceIte]
  unfold setAddByScan
  refine wpAny_bind (wpAny_bind (wpAny_rule (wpAny_bind (wpAny_setScan_of (knd := PySem.strKind prog w) hkey ho hd hf hel.of ?_))))
  cases hr : List.findIdx? (fun e => (PySem.strKind prog w).is k e.2) es.toList with
  | some j =>
    dsimp only
    obtain ⟨hj, hpj, _⟩ := List.findIdx?_eq_some_iff_getElem.mp hr
    have hm : k ∈ ms := (hel.has (prog := prog) k).mpr ⟨es.toList[j], List.getElem_mem hj, hpj⟩
    refine wpAny_pure (wpAny_pure ?_)
    have z := h s.heap ms (Heap.SameBut.refl a s.heap) ⟨o, es, ep, t, ho, hex, hd, hel, hnd, hb, hf, hl, hp⟩ (fun x => ⟨.inl, fun q => q.elim id fun e => e ▸ hm⟩) (by omega)
    rw [decide_eq_true hm] at z
    exact z
  | none =>
    dsimp only
    have hm : ¬ k ∈ ms := fun z => by
      obtain ⟨e, he, q⟩ := (hel.has (prog := prog) k).mp z
      have := List.findIdx?_eq_none_iff.mp hr e he
      rw [q] at this
      cases this
    have gw : ∀ (b : Bool) {s₁ : Shared} {Q' : Unit → Shared → Prop}, Q' () s₁ → wpAny (model prog w) A (match b with | true => rule "set.scan.the-table-gave-way" | false => pure ()) Q' E s₁ := fun b s₁ Q' hq => by
      cases b
      · exact wpAny_pure hq
      · exact wpAny_rule hq
    have hperm := layNew_perm t es (hashStr w k) (.str k tk)
    have hfits := layNew_fits t es (hashStr w k) (.str k tk)
    have hled := layNew_led t es (hashStr w k) (.str k tk)
    generalize hL : layNew t es (hashStr w k) (.str k tk) = L at hperm hfits hled ⊢
    obtain ⟨es1, t1, wasDummy, gave⟩ := L
    dsimp only at hperm hfits hled ⊢
    rw [Array.toList_push] at hperm
    have hel1 : Els w es1.toList (ms ++ [k]) := by
      refine Els.perm ⟨fun e he => ?_, ?_⟩ hperm
      · rcases List.mem_append.mp he with z | z
        · exact hel.1 e z
        · have e' : e = (hashStr w k, .str k tk) := by simpa using z
          rw [e']
          exact ⟨rfl, tk, rfl⟩
      · rw [List.map_append]
        exact hel.2.append_right _
    have hnd1 : (ms ++ [k]).Nodup := List.nodup_append.mpr ⟨hnd, by simp, fun x hx y hy e => hm (by have : y = k := by simpa using hy
                                                                                                    rw [← this, ← e]; exact hx)⟩
    have hsz1 : es1.size = ms.length + 1 := by rw [← Array.length_toList, hel1.len, List.length_append, List.length_singleton]
    have hb1 : es1.size < scanBound := by omega
    have fin : ∀ h', Heap.SameBut a s.heap h' → Is w h' a (ms ++ [k]) → Q true { s with heap := h' } := fun h' sb x => by
      have z := h h' (ms ++ [k]) sb x (fun y => by rw [List.mem_append, List.mem_singleton]) (by rw [List.length_append, List.length_singleton]; omega)
      rw [decide_eq_false hm] at z
      exact z
    have tail : ∀ t2 : SetTable, t2.fits es1.size = true → (byT w = true ∨ t2.led = true) → t2.plain = false → wpAny (model prog w) A (do
        storeSet a es1 t2
        if (!wasDummy && t2.tooFull) = true then do
            (match (relayAll t2 es1 (SetTable.grown es1.size)).2.2 with | true => rule "set.scan.the-table-gave-way" | false => pure ())
            storeSet a (relayAll t2 es1 (SetTable.grown es1.size)).1 (relayAll t2 es1 (SetTable.grown es1.size)).2.1
            pure (some true)
          else pure (some true)) (fun r s' => wpAny (model prog w) A (match r with | some added => pure added | none => setAddHashedIn a (.str k tk) (hashStr w k) 99999) Q E s') E s := fun t2 hf2 hl2 hp2 => by
      refine wpAny_bind (wpAny_storeSet_of ho hd ?_ (fits_of_scanBound hb1))
      obtain ⟨ho1, hS1⟩ := Is.store prog ho hex hd hel1 hnd1 hb1 hf2 hl2 (.inr hp2)
      have sb1 := Heap.SameBut.update s.heap a (Obj.putSet es1 t2)
      split
      · have q1 := relayAll_perm t2 es1 (SetTable.grown es1.size)
        have q2 := relayAll_fits t2 es1 (SetTable.grown es1.size)
        have q3 := relayAll_marks t2 es1 (SetTable.grown es1.size) hp2
        generalize relayAll t2 es1 (SetTable.grown es1.size) = Rl at q1 q2 q3 ⊢
        obtain ⟨es2, t3, g2⟩ := Rl
        dsimp only at q1 q2 q3 ⊢
        have hel2 := hel1.perm q1
        have hsz : es2.size = es1.size := by rw [← Array.length_toList, q1.length_eq, Array.length_toList]
        have hb2 : es2.size < scanBound := by omega
        refine wpAny_bind (gw _ (wpAny_bind (wpAny_storeSet_of ho1 rfl ?_ (fits_of_scanBound hb2))))
        obtain ⟨_, hS2⟩ := Is.store prog ho1 hex rfl hel2 hnd1 hb2 q2 (hl2.imp id fun z => q3.1.trans z) (.inr q3.2)
        exact wpAny_pure (wpAny_pure (fin _ (sb1.trans (Heap.SameBut.update _ a _)) hS2))
      · exact wpAny_pure (wpAny_pure (fin _ sb1 hS1))
    refine wpAny_bind (gw _ ?_)
    have hl1 : byT w = true ∨ t1.led = true := hl.imp id fun z => hled.trans z
    split
    · refine wpAny_bind (wpAny_pure ?_)
      simp only [Bool.false_eq_true, ↓reduceIte]
      exact tail { t1 with plain := false } (SetTable.fits_plain_off hfits) hl1 rfl
    · rename_i hpl
      refine wpAny_bind (wpAny_pure ?_)
      simp only [↓reduceIte]
      exact tail t1 hfits hl1 (Bool.eq_false_iff.mpr hpl)
end
end SS

set_option Elab.async false
set_option linter.all false
set_option maxRecDepth 100000
set_option maxHeartbeats 4000000
namespace SS
open PySem PyProof.Rows

theorem above_ok : ∀ n, n ≤ 256 → ST.Size (SetTable.sizeAbove n) ∧ n < SetTable.sizeAbove n := by
  have key : ∀ n, n < 257 → (SetTable.sizeAbove n = 8 ∨ SetTable.sizeAbove n = 16 ∨ SetTable.sizeAbove n = 32 ∨ SetTable.sizeAbove n = 64 ∨ SetTable.sizeAbove n = 128 ∨ SetTable.sizeAbove n = 256 ∨ SetTable.sizeAbove n = 512) ∧ n < SetTable.sizeAbove n := by decide +kernel
  exact fun n h => key n (by omega)
theorem reorder_perm {es : Array (Int × Value)} {order : Array Nat} (h : order.toList.Perm (List.range es.size)) : (order.filterMap (es[·]?)).toList.Perm es.toList := by
  rw [Array.toList_filterMap]
  exact (h.filterMap _).trans (by rw [filterMap_getElem?_range])
theorem erase_perm {α : Type} : ∀ (l : List α) (i : Nat) (h : i < l.length), (l[i] :: l.eraseIdx i).Perm l
  | x :: l, 0, _ => List.Perm.refl _
  | x :: l, i + 1, h => by
    have h' : i < l.length := by simpa using h
    have ih := erase_perm l i h'
    exact (List.Perm.swap x (l[i]'h') (l.eraseIdx i)).trans (ih.cons x)
theorem pick_perm {α : Type} (next : Nat → Nat) (xs : Array α) : (pickOrder next xs).toList.Perm xs.toList := by
  have key : ∀ (fuel k : Nat) (left : List α) (out : Array α), left.length = fuel → (pickOrder.go next fuel k left out).toList.Perm (out.toList ++ left) := by
    intro fuel
    induction fuel with
    | zero =>
      intro k left out hl
      obtain rfl := List.length_eq_zero_iff.mp hl
      rw [pickOrder.go, List.append_nil]
    | succ fuel ih =>
      intro k left out hl
      have hlt : next k % left.length < left.length := Nat.mod_lt _ (by omega)
      rw [pickOrder.go, List.getElem?_eq_getElem hlt]
      dsimp only
      refine (ih _ _ _ (by rw [List.length_eraseIdx_of_lt hlt]; omega)).trans ?_
      rw [Array.toList_push, List.append_assoc]
      refine List.Perm.append_left _ ?_
      exact erase_perm left _ hlt
  have z := key xs.size 0 xs.toList #[] (Array.length_toList)
  simpa [pickOrder] using z
section
variable {prog : Program} {w : World} {A : Around} {E : Value → Shared → Prop} {s : Shared}
theorem byText_ok {Q : Bool → Shared → Prop} (h : Q (byT w) s) : wpAny (model prog w) A setsByText Q E s := by
  unfold setsByText
  exact wpAny_bind (wpAny_askSetting (wpAny_pure h))
theorem relay_ok {a : Addr} {ms : List Str} {n : Nat} {Q : Unit → Shared → Prop} {o : Obj} {es : Array (Int × Value)} {ep : Nat} {t : SetTable} (ho : s.heap.get? a = some o) (hd : o.data = .set es ep t) (hf : t.fits es.size = true) (hn : n ≤ 256) (hm : es.size ≤ n)
    (h : ∀ (es' : Array (Int × Value)) (t' : SetTable), es'.toList.Perm es.toList → t'.place.size = es.size → t'.mask + 1 = SetTable.sizeAbove n → t'.dummies = #[] → t'.led = t.led → t'.plain = t.plain → Q () { s with heap := s.heap.update a (Obj.putSet es' t') }) :
    wpAny (model prog w) A (setRelay a n) Q E s := by
  obtain ⟨hM, hlt⟩ := above_ok n hn
  have h8 := hM.pos
  unfold setRelay
  refine wpAny_bind (wpAny_setState_of ho hd hf ?_)
  dsimp only
  have hs : sizeLine = 16777216 := sizeLine_eq
  have hsl : ¬ SetTable.sizeAbove n > sizeLine := by
    rcases hM with e | e | e | e | e | e | e <;> omega
  rw [if_neg hsl]
  obtain ⟨t', order, e1, e2, e3, e4, e5, e6, e7⟩ := ST.laid_ok (mask := SetTable.sizeAbove n - 1) (finger := t.finger) (moves := t.movedTo (SetTable.sizeAbove n - 1)) (led := t.led) (plain := t.plain) (hashes := es.map (·.1)) (by rw [Nat.sub_add_cancel (by omega)]; exact hM) (by rw [Array.size_map]; omega)
  have e1' : t.relaid (es.map (·.1)) n = some (t', order) := e1
  rw [e1']
  rw [Array.size_map] at e2 e3
  have hp := reorder_perm e2
  have hsz : (order.filterMap (es[·]?)).size = es.size := by rw [← Array.length_toList, hp.length_eq, Array.length_toList]
  refine wpAny_bind (m := (do
    if ((order.filterMap (es[·]?)).size != es.size) = true then unsupported "internal:set-table-lost-an-element"
    pure (order.filterMap (es[·]?), t'))) ?_
  rw [hsz, bne_self_eq_false, if_neg Bool.false_ne_true]
  refine wpAny_pure ?_
  exact wpAny_storeSet_of ho hd (h _ _ hp e3 (by rw [e4]; omega) e5 e6 e7) (by rw [hsz]; omega)
theorem quiet_ok {a b : Addr} {ms ms' : List Str} {Q : Bool → Shared → Prop} (h1 : Is w s.heap a ms) (h2 : Is w s.heap b ms') (h : Q true s) : wpAny (model prog w) A (setsQuiet [a, b]) Q E s := by
  unfold setsQuiet
  refine wpAny_bind ?_
  refine wpAny_forIn_list _ (fun rest r s' => r = (none, ()) ∧ s' = s ∧ ∀ c ∈ rest, ∃ ks, Is w s.heap c ks) _ ?_ ?_ _ _ ⟨rfl, rfl, fun c hc => ?_⟩
  · rintro c rest r s' ⟨rfl, rfl, hall⟩
    obtain ⟨ks, hc⟩ := hall c (List.mem_cons_self ..)
    obtain ⟨o, es, ep, t, ho, hex, hd, hel, hnd, hb, hf, _⟩ := hc
    refine wpAny_bind (wpAny_setEntries_of ho hd hf (wpAny_bind ?_))
    rw [← Array.forIn_toList]
    refine wpAny_forIn_list _ (fun rest r s2 => r = (none, ()) ∧ s2 = s' ∧ ∀ e ∈ rest, El w e) _ ?_ ?_ _ _ ⟨rfl, rfl, hel.1⟩
    · rintro ⟨hh, x⟩ rest2 r s2 ⟨rfl, rfl, hall2⟩
      obtain ⟨_, tk, e⟩ := hall2 _ (List.mem_cons_self ..)
      dsimp only at e ⊢
      rw [e]
      exact wpAny_pure ⟨rfl, rfl, fun u hu => hall2 u (List.mem_cons_of_mem _ hu)⟩
    · rintro r s2 ⟨rfl, rfl, _⟩
      exact wpAny_pure ⟨rfl, rfl, fun u hu => hall u (List.mem_cons_of_mem _ hu)⟩
  · rintro r s' ⟨rfl, rfl, _⟩
    exact wpAny_pure h
  · rcases List.mem_cons.mp hc with rfl | hc
    · exact ⟨ms, h1⟩
    · rcases List.mem_cons.mp hc with rfl | hc
      · exact ⟨ms', h2⟩
      · cases hc
theorem walkU {a b : Addr} {ms1 ms2 : List Str} {Q : Array (Int × Value) → Shared → Prop} (h1 : Is w s.heap a ms1) (hne : ms1 ≠ []) (h2 : Is w s.heap b ms2) (h : ∀ es : Array (Int × Value), Els w es.toList ms2 → Q es s) :
    wpAny (model prog w) A (setWalkUnseen b [a] (some a)) Q E s := by
  obtain ⟨o, es, ep, t, ho, hex, hd, hel, hnd, hb, hf, hl, hp⟩ := id h2
  unfold setWalkUnseen
  refine wpAny_bind (wpAny_setState_of ho hd hf ?_)
  dsimp only
  refine wpAny_bind (byText_ok ?_)
  have walk : ∀ Q' : Array (Int × Value) → Shared → Prop, (byT w = true ∨ es.size ≤ 1) → (∀ es' : Array (Int × Value), Els w es'.toList ms2 → Q' es' s) → wpAny (model prog w) A (setWalk b) Q' E s := fun Q' hc hQ => by
    unfold setWalk
    refine wpAny_bind (wpAny_setState_of ho hd hf ?_)
    dsimp only
    refine wpAny_bind (byText_ok ?_)
    by_cases hby : byT w = true
    · rw [if_pos hby]
      refine wpAny_bind (wpAny_askSetting (wpAny_pure (hQ _ (hel.perm (pick_perm _ _)))))
    · rw [if_neg hby]
      have h1 : es.size ≤ 1 := hc.resolve_left hby
      have hdr : (!t.plain && decide (es.size > 1)) = false := by
        rw [decide_eq_false (by omega), Bool.and_false]
      have hml : (!t.led && decide (es.size > 1)) = false := by
        rw [decide_eq_false (by omega), Bool.and_false]
      show wpAny _ _ (if (!t.plain && decide (es.size > 1)) = true then _ else _) _ _ s
      rw [hdr, if_neg Bool.false_ne_true]
      refine wpAny_bind (m := if (!t.led && decide (es.size > 1)) = true then unsupported "set:maker-not-led" else pure ()) ?_
      rw [hml, if_neg Bool.false_ne_true]
      exact wpAny_pure (wpAny_pure (hQ _ hel))
  by_cases hc : byT w = true ∨ es.size ≤ 1
  · have e : (byT w || (t.led && t.plain) || decide (es.size ≤ 1)) = true := by
      rcases hc with z | z
      · rw [z]; simp
      · rw [decide_eq_true z]; simp
    rw [e, if_pos rfl]
    exact walk _ hc h
  · have hby : byT w = false := Bool.eq_false_iff.mpr fun z => hc (.inl z)
    have hs1 : ¬ es.size ≤ 1 := fun z => hc (.inr z)
    have hpl : t.plain = false := hp.resolve_left (by omega)
    have hld : t.led = true := hl.resolve_left (by rw [hby]; exact Bool.false_ne_true)
    have e : (byT w || (t.led && t.plain) || decide (es.size ≤ 1)) = false := by
      rw [hby, hpl, decide_eq_false hs1]; simp
    rw [e, if_neg Bool.false_ne_true]
    refine wpAny_bind (quiet_ok h2 h1 ?_)
    simp only [Bool.not_true, Bool.false_eq_true, ↓reduceIte]
    refine wpAny_bind (wpAny_rule ?_)
    obtain ⟨o1, es1, ep1, t1, ho1, hex1, hd1, hel1, hnd1, hb1, hf1, hl1, hp1⟩ := id h1
    refine wpAny_bind (wpAny_setState_of ho1 hd1 hf1 ?_)
    dsimp only
    have hs0 : es1.size ≠ 0 := fun z => hne (List.length_eq_zero_iff.mp (by rw [← hel1.len, Array.length_toList]; exact z))
    have hpl1 : t1.plain = false := hp1.resolve_left hs0
    have hc2 : (t1.led && !t.led || t1.plain && !t.plain) = false := by
      rw [hld, hpl1]; simp
    rw [hc2, if_neg Bool.false_ne_true]
    exact wpAny_pure (h es hel)
theorem room_ok {a : Addr} {ms : List Str} {m : Nat} {Q : Unit → Shared → Prop} (hS : Is w s.heap a ms) (hm : ms.length + m ≤ 128) (h : ∀ h', Heap.SameBut a s.heap h' → Is w h' a ms → Q () { s with heap := h' }) : wpAny (model prog w) A (setRoomFor a m) Q E s := by
  obtain ⟨o, es, ep, t, ho, hex, hd, hel, hnd, hb, hf, hl, hp⟩ := id hS
  have hn : es.size = ms.length := by rw [← hel.len, Array.length_toList]
  have hpsz : t.place.size = es.size := by
    simp only [SetTable.fits, Bool.and_eq_true, beq_iff_eq] at hf
    exact hf.1
  unfold setRoomFor
  refine wpAny_bind (wpAny_setState_of ho hd hf ?_)
  dsimp only
  unfold SetTable.roomFor
  by_cases hc : (t.fill + m) * 5 ≥ t.mask * 3
  · rw [if_pos hc]
    refine relay_ok (ms := ms) ho hd hf (by omega) (by omega) fun es' t' p1 p2 p3 p4 p5 p6 => ?_
    have hsz : es'.size = es.size := by rw [← Array.length_toList, p1.length_eq, Array.length_toList]
    have h8 := (above_ok ((t.place.size + m) * 2) (by omega)).2
    have hf' : t'.fits es'.size = true := by
      simp only [SetTable.fits, Bool.and_eq_true, beq_iff_eq, decide_eq_true_eq, SetTable.fill, p4]
      exact ⟨by omega, by show t'.place.size + 0 ≤ t'.mask; omega⟩
    exact h _ (Heap.SameBut.update _ a _) (Is.store prog ho hex hd (hel.perm p1) hnd (by omega) hf' (hl.imp id fun z => p5.trans z) (hp.imp (fun z => by omega) fun z => p6.trans z)).2
  · rw [if_neg hc]
    exact wpAny_pure (h s.heap (Heap.SameBut.refl a _) hS)
theorem merge_on {a b : Addr} {ms1 ms2 : List Str} {each : Sem Unit} {Q : Unit → Shared → Prop} (hab : a ≠ b) (h1 : Is w s.heap a ms1) (h2 : Is w s.heap b ms2) (hne : ms1 ≠ []) (hsz : ms1.length + ms2.length ≤ 128)
    (heach : ∀ (s' : Shared) (Q' : Unit → Shared → Prop), (∀ o, s.heap.get? b = some o → s'.heap.get? b = some o) → Q' () s' → wpAny (model prog w) A each Q' E s')
    (h : ∀ h' ms', Heap.SameBut a s.heap h' → Is w h' a ms' → (∀ x, x ∈ ms' ↔ x ∈ ms1 ∨ x ∈ ms2) → ms'.length ≤ ms1.length + ms2.length → Q () { s with heap := h' }) : wpAny (model prog w) A (setMerge a b each) Q E s := by
  obtain ⟨o, es, ep, t, ho, hex, hd, hel, hnd, hb, hf, hl, hp⟩ := id h2
  have hn : es.size = ms2.length := by rw [← hel.len, Array.length_toList]
  unfold setMerge
  rw [if_neg (show ¬ ((a == b) = true) by rw [beq_iff_eq]; exact hab)]
  refine wpAny_bind (wpAny_setState_of ho hd hf ?_)
  dsimp only
  by_cases h0 : es.isEmpty = true
  · rw [if_pos h0]
    have e0 : ms2 = [] := List.length_eq_zero_iff.mp (by rw [← hn]; simpa using h0)
    exact wpAny_pure (h s.heap ms1 (Heap.SameBut.refl a _) h1 (fun x => by rw [e0]; simp) (by omega))
  rw [if_neg h0]
  refine wpAny_bind (room_ok h1 (by omega) fun h3 sb3 i3 => ?_)
  have hb3 : h3.get? b = some o := (sb3.2 b (Ne.symm hab)).trans ho
  have h2' : Is w h3 b ms2 := ⟨o, es, ep, t, hb3, hex, hd, hel, hnd, hb, hf, hl, hp⟩
  obtain ⟨o3, es3, ep3, t3, ho3, hex3, hd3, hel3, hnd3, hb3', hf3, hl3, hp3⟩ := id i3
  refine wpAny_bind (wpAny_setState_of (s := { s with heap := h3 }) ho3 hd3 hf3 ?_)
  dsimp only
  have hroad : t3.road t = .oneByOne := by
    unfold SetTable.road
    have hp : t3.place.size = es3.size := by
      simp only [SetTable.fits, Bool.and_eq_true, beq_iff_eq] at hf3
      exact hf3.1
    have hpos : 0 < es3.size := by
      rw [← Array.length_toList, hel3.len]
      exact List.length_pos_iff.mpr hne
    rw [if_pos]
    rw [bne_iff_ne]
    unfold SetTable.fill
    omega
  rw [hroad]
  dsimp only
  refine wpAny_bind (walkU (s := { s with heap := h3 }) i3 hne h2' fun es4 hel4 => wpAny_bind ?_)
  rw [← Array.forIn_toList]
  refine wpAny_forIn_list _ (fun rest _ s' => ∃ dn ms', es4.toList = dn ++ rest ∧ s' = { s with heap := s'.heap } ∧ Heap.SameBut a s.heap s'.heap ∧ Is w s'.heap a ms' ∧ (∀ x, x ∈ ms' ↔ x ∈ ms1 ∨ ∃ e ∈ dn, x = keyV e.2) ∧ ms'.length ≤ ms1.length + dn.length) _ ?_ ?_ _ _ ⟨[], ms1, rfl, rfl, sb3, i3, fun x => by simp, by simp⟩
  · rintro ⟨hh, x⟩ rest u s' ⟨dn, ms', e1, e2, sb, i4, hm, hle⟩
    obtain ⟨q1, tk, q2⟩ := hel4.1 (hh, x) (by rw [e1]; simp)
    dsimp only at q1 q2 ⊢
    have hlen : dn.length + (rest.length + 1) = ms2.length := by
      have := congrArg List.length e1
      rw [hel4.len, List.length_append, List.length_cons] at this
      omega
    rw [q2, q1]
    have sb128 : scanBound = 4096 := rfl
    refine wpAny_bind (wpAny_holding (add_ok (s := s') i4 (by omega) fun h5 ms5 sb5 i5 hm5 hl5 => ?_))
    have hb5 : h5.get? b = some o := (sb5.2 b (Ne.symm hab)).trans ((sb.2 b (Ne.symm hab)).trans ho)
    refine wpAny_bind (heach _ _ (fun o' z => ?_) ?_)
    · rw [ho] at z
      cases z
      exact hb5
    · refine wpAny_bind (wpAny_setState_of (s := { s' with heap := h5 }) hb5 hd hf ?_)
      dsimp only
      rw [bne_self_eq_false, if_neg Bool.false_ne_true]
      refine wpAny_pure ⟨dn ++ [(hh, x)], ms5, by rw [e1, List.append_assoc]; rfl, by rw [e2], sb.trans sb5, i5, fun y => ?_, by rw [List.length_append, List.length_singleton]; omega⟩
      rw [hm5, hm]
      constructor
      · rintro ((z | ⟨e, he, rfl⟩) | rfl)
        · exact .inl z
        · exact .inr ⟨e, List.mem_append_left _ he, rfl⟩
        · exact .inr ⟨(hh, x), by simp, rfl⟩
      · rintro (z | ⟨e, he, rfl⟩)
        · exact .inl (.inl z)
        · rcases List.mem_append.mp he with z | z
          · exact .inl (.inr ⟨e, z, rfl⟩)
          · have : e = (hh, x) := by simpa using z
            subst this
            exact .inr rfl
  · rintro u s' ⟨dn, ms', e1, e2, sb, i4, hm, hle⟩
    rw [List.append_nil] at e1
    rw [e2]
    refine wpAny_pure (h _ ms' sb i4 (fun x => ?_) ?_)
    · rw [hm, ← e1, ← hel4.2.mem_iff, List.mem_map]
      exact or_congr Iff.rfl ⟨fun ⟨e, he, z⟩ => ⟨e, he, z.symm⟩, fun ⟨e, he, z⟩ => ⟨e, he, z.symm⟩⟩
    · have := congrArg List.length e1
      rw [hel4.len] at this
      omega
end
end SS

set_option Elab.async false
set_option linter.all false
set_option maxRecDepth 100000
set_option maxHeartbeats 4000000
namespace SS
open PySem PyProof.Rows
section
variable {prog : Program} {w : World} {A : Around} {E : Value → Shared → Prop} {s : Shared}
noncomputable def freshO (w : World) : Obj := { cls := .type "set", dict := none, data := .set #[] 0 (.fresh 0 0 (!byT w)) }
theorem new_ok {Q : Value → Shared → Prop} (h : Q (.ref s.heap.objs.size) { s with heap := s.heap.push (freshO w) }) : wpAny (model prog w) A (newSet (.type "set")) Q E s := by
  unfold newSet
  refine wpAny_bind (byText_ok ?_)
  dsimp only
  simp only [newObj]
  exact wpAny_bind (wpAny_alloc (wpAny_pure h))
theorem Is.fresh (h : Heap) : Is w (h.push (freshO w)) h.objs.size [] := by
  refine ⟨freshO w, #[], 0, .fresh 0 0 (!byT w), Heap.get?_push_size _ rfl, ⟨rfl, rfl, rfl⟩, rfl, ⟨fun e he => by simp at he, by simp⟩, List.nodup_nil, by decide, rfl, ?_, .inl rfl⟩
  cases byT w
  · exact .inr rfl
  · exact .inl rfl
theorem room_new {a : Addr} {n : Nat} {Q : Unit → Shared → Prop} (ho1 : s.heap.get? a = some (freshO w)) (hn : n ≤ 128)
    (h : ∀ (h3 : Heap) (o3 : Obj) (ep3 : Nat) (t3 : SetTable), Heap.SameBut a s.heap h3 → h3.get? a = some o3 → o3.ExactSet → o3.data = .set #[] ep3 t3 → t3.place.size = 0 → t3.dummies = #[] → ST.Size (t3.mask + 1) → n ≤ t3.mask → (byT w = true ∨ t3.led = true) → Q () { s with heap := h3 }) :
    wpAny (model prog w) A (setRoomFor a n) Q E s := by
  have hled : byT w = true ∨ (!byT w) = true := by cases byT w <;> simp
  unfold setRoomFor
  refine wpAny_bind (wpAny_setState_of ho1 rfl rfl ?_)
  dsimp only
  unfold SetTable.roomFor
  by_cases hc : ((SetTable.fresh 0 0 (!byT w)).fill + n) * 5 ≥ (SetTable.fresh 0 0 (!byT w)).mask * 3
  · rw [if_pos hc]
    refine relay_ok (ms := []) ho1 rfl rfl (by show (0 + n) * 2 ≤ 256; omega) (Nat.zero_le _) fun es' t' p1 p2 p3 p4 p5 p6 => ?_
    obtain rfl : es' = #[] := by
      have := p1.length_eq
      rw [Array.length_toList] at this
      exact Array.eq_empty_of_size_eq_zero this
    obtain ⟨hM, hlt⟩ := above_ok ((0 + n) * 2) (by omega)
    have p3' : t'.mask + 1 = SetTable.sizeAbove ((0 + n) * 2) := p3
    have hg : (s.heap.update a (Obj.putSet #[] t')).get? a = some { freshO w with data := .set #[] (0 + 1) t' } := by
      have := Heap.get?_update_self (Obj.putSet #[] t') ho1 (by rw [putSet_of (o := freshO w) #[] t' rfl]; rfl)
      rw [putSet_of (o := freshO w) #[] t' rfl] at this
      exact this
    exact h _ _ 1 t' (Heap.SameBut.update _ a _) hg ⟨rfl, rfl, rfl⟩ rfl p2 p4 (by rw [p3']; exact hM) (by omega) (hled.imp id fun z => p5.trans z)
  · rw [if_neg hc]
    have hc' : ¬ (0 + n) * 5 ≥ 7 * 3 := hc
    exact wpAny_pure (h s.heap (freshO w) 0 _ (Heap.SameBut.refl a _) ho1 ⟨rfl, rfl, rfl⟩ rfl rfl rfl (.inl rfl) (by show n ≤ 7; omega) hled)
theorem merge_new {a b : Addr} {ms : List Str} {Q : Unit → Shared → Prop} (hab : a ≠ b) (ho1 : s.heap.get? a = some (freshO w)) (h2 : Is w s.heap b ms) (hsz : ms.length ≤ 128)
    (h : ∀ h', Heap.SameBut a s.heap h' → Is w h' a ms → Q () { s with heap := h' }) : wpAny (model prog w) A (setMerge a b) Q E s := by
  obtain ⟨o, es, ep, t, ho, hex, hd, hel, hnd, hb, hf, hl, hp⟩ := id h2
  have hn : es.size = ms.length := by rw [← hel.len, Array.length_toList]
  have hled : byT w = true ∨ (!byT w) = true := by cases byT w <;> simp
  unfold setMerge
  rw [if_neg (show ¬ ((a == b) = true) by rw [beq_iff_eq]; exact hab)]
  refine wpAny_bind (wpAny_setState_of ho hd hf ?_)
  dsimp only
  by_cases h0 : es.isEmpty = true
  · rw [if_pos h0]
    have e0 : ms = [] := List.length_eq_zero_iff.mp (by rw [← hn]; simpa using h0)
    subst e0
    exact wpAny_pure (h s.heap (Heap.SameBut.refl a _) ⟨freshO w, #[], 0, .fresh 0 0 (!byT w), ho1, ⟨rfl, rfl, rfl⟩, rfl, ⟨fun e he => by simp at he, by simp⟩, List.nodup_nil, by decide, rfl, hled, .inl rfl⟩)
  rw [if_neg h0]
  have hpos : 0 < es.size := by
    rcases Nat.eq_zero_or_pos es.size with z | z
    · exact absurd (by simpa using z) h0
    · exact z
  have hpl : t.plain = false := hp.resolve_left (by omega)
  refine wpAny_bind (room_new ho1 (by omega) fun h3 o3 ep3 t3 sb3 ho3 hex3 hd3 hps hdu hM hle hld3 => ?_)
  have hf3 : t3.fits (#[] : Array (Int × Value)).size = true := by
    simp only [SetTable.fits, Bool.and_eq_true, beq_iff_eq, decide_eq_true_eq, SetTable.fill, hdu]
    exact ⟨hps, by show t3.place.size + 0 ≤ t3.mask; omega⟩
  refine wpAny_bind (wpAny_setState_of (s := { s with heap := h3 }) ho3 hd3 hf3 ?_)
  dsimp only
  have hled3 : byT w = true ∨ (t3.led && t.led) = true := by
    rcases hld3 with z | z
    · exact .inl z
    · rcases hl with y | y
      · exact .inl y
      · exact .inr (by rw [z, y]; rfl)
  have hfill : (t3.fill != 0) = false := by
    unfold SetTable.fill
    rw [hps, hdu]
    rfl
  unfold SetTable.road
  rw [hfill, if_neg Bool.false_ne_true]
  by_cases hm : (t3.mask == t.mask && t.dummies.isEmpty) = true
  · rw [if_pos hm]
    dsimp only
    refine wpAny_storeSet_of (s := { s with heap := h3 }) ho3 hd3 ?_ (fits_of_scanBound hb)
    exact h _ (sb3.trans (Heap.SameBut.update _ a _)) (Is.store prog (t' := { mask := t.mask, place := t.place, dummies := t.dummies, finger := t3.finger, led := t3.led && t.led, moves := t3.moves, plain := t3.plain && t.plain }) ho3 hex3 hd3 hel hnd hb hf hled3 (.inr (by show (t3.plain && t.plain) = false; rw [hpl, Bool.and_false]))).2
  · rw [if_neg hm]
    dsimp only
    obtain ⟨t', order, e1, e2, e3, e4, e5, e6, e7⟩ := ST.laid_ok (finger := t3.finger) (moves := t3.moves) (led := t3.led && t.led) (plain := t3.plain && t.plain) (hashes := es.map (·.1)) hM (by rw [Array.size_map]; exact hle)
    rw [e1]
    rw [Array.size_map] at e2 e3
    have hpm := reorder_perm e2
    have hsz' : (order.filterMap (es[·]?)).size = es.size := by rw [← Array.length_toList, hpm.length_eq, Array.length_toList]
    refine wpAny_bind (m := (do
      if ((order.filterMap (es[·]?)).size != es.size) = true then unsupported "internal:set-table-lost-an-element"
      pure (order.filterMap (es[·]?), t'))) ?_
    rw [hsz', bne_self_eq_false, if_neg Bool.false_ne_true]
    refine wpAny_pure ?_
    refine wpAny_storeSet_of (s := { s with heap := h3 }) ho3 hd3 ?_ (by rw [hsz']; exact fits_of_scanBound hb)
    have hf' : t'.fits (order.filterMap (es[·]?)).size = true := by
      simp only [SetTable.fits, Bool.and_eq_true, beq_iff_eq, decide_eq_true_eq, SetTable.fill, e5]
      exact ⟨by omega, by show t'.place.size + 0 ≤ t'.mask; omega⟩
    exact h _ (sb3.trans (Heap.SameBut.update _ a _)) (Is.store prog ho3 hex3 hd3 (hel.perm hpm) hnd (by rw [hsz']; exact hb) hf' (by rw [e6]; exact hled3) (.inr (by rw [e7, hpl, Bool.and_false]))).2
theorem Is.ty {a : Addr} {ms : List Str} (x : Is w s.heap a ms) : s.TypeIs (.ref a) "set" := by
  obtain ⟨o, _, _, _, ho, hex, _⟩ := x
  exact ⟨o, ho, hex.1⟩
theorem copy_ok {b : Addr} {ms : List Str} {Q : Value → Shared → Prop} (h2 : Is w s.heap b ms) (hsz : ms.length ≤ 128)
    (h : ∀ h', (∀ x o, s.heap.get? x = some o → h'.get? x = some o) → Is w h' s.heap.objs.size ms → Q (.ref s.heap.objs.size) { s with heap := h' }) : wpAny (model prog w) A (Builtin.Frozenset.copyOf b) Q E s := by
  unfold Builtin.Frozenset.copyOf Builtin.Frozenset.baseOf
  refine wpAny_bind (wpAny_bind (wpAny_isInstance h2.ty sub_set_self (wpAny_pure ?_)))
  rw [if_pos rfl]
  refine wpAny_bind (new_ok ?_)
  refine wpAny_bind (m := Builtin.Frozenset.addrOf (.ref s.heap.objs.size)) (wpAny_pure ?_)
  obtain ⟨o, ho⟩ := h2.there
  have hlt := Heap.lt_size ho
  refine wpAny_bind (merge_new (s := { s with heap := s.heap.push (freshO w) }) (Nat.ne_of_gt hlt) (Heap.get?_push_size _ rfl) (h2.at fun o e => Heap.get?_push_of_some _ e) hsz fun h' sb i => wpAny_pure ?_)
  exact h h' (fun x o e => (sb.2 x (Nat.ne_of_lt (Heap.lt_size e))).trans (Heap.get?_push_of_some _ e)) i
theorem entry_or : entryFor table "set.__or__" = some Builtin.«frozenset.__or__» :=
  entryFor_alias (id' := "frozenset.__or__") (by kernel_rfl) (by first | rfl | decide +kernel | (unfold String.splitOn; simp +decide [String.splitOnAux])) (by decide +kernel) (by kernel_rfl)
theorem or_ok {a b : Addr} {ms1 ms2 : List Str} {Q : Value → Shared → Prop} (hab : a ≠ b) (h1 : Is w s.heap a ms1) (h2 : Is w s.heap b ms2) (hne : ms1 ≠ []) (hsz : ms1.length + ms2.length ≤ 128)
    (h : ∀ h' ms', (∀ x o, s.heap.get? x = some o → h'.get? x = some o) → Is w h' s.heap.objs.size ms' → (∀ x, x ∈ ms' ↔ x ∈ ms1 ∨ x ∈ ms2) → ms'.length ≤ ms1.length + ms2.length → Q (.ref s.heap.objs.size) { s with heap := h' }) :
    wpAny (model prog w) A (binaryOp .BitOr (.ref a) (.ref b)) Q E s := by
  refine wpAny_binaryOp_same h1.ty h2.ty F.fills_set_or F.slot_set_or (wpAny_call_entry F.slot_set_or h1.ty entry_or ?_ (F.args_set_or_2 _ _))
  refine wpAny_bind (m := Builtin.Frozenset.slot1 "__or__" ⟨[.ref a, .ref b], []⟩) (wpAny_pure (a := (Value.ref a, Value.ref b)) ?_)
  dsimp only
  simp only [Bool.false_eq_true, ↓reduceIte]
  have any : ∀ (c : Addr) (ms : List Str) (A' : Around) (s' : Shared) (Q' : Bool → Shared → Prop), Is w s'.heap c ms → Q' true s' → wpAny (model prog w) A' (Builtin.Frozenset.isAnySet (.ref c)) Q' E s' := fun c ms A' s' Q' hc hQ => by
    unfold Builtin.Frozenset.isAnySet
    refine wpAny_bind (m := isInstance (.ref c) (.type "set")) (wpAny_isInstance hc.ty sub_set_self ?_)
    exact wpAny_pure hQ
  refine wpAny_bind (m := Builtin.Frozenset.isAnySet (.ref a) <&&> Builtin.Frozenset.isAnySet (.ref b)) ?_
  refine wpAny_bind (m := Builtin.Frozenset.isAnySet (.ref a)) (any a ms1 _ s _ h1 ?_)
  refine any b ms2 _ s _ h2 ?_
  simp only [Bool.not_true, Bool.false_eq_true, ↓reduceIte]
  refine wpAny_bind (m := Builtin.Frozenset.addrOf (.ref a)) (wpAny_pure ?_)
  refine wpAny_bind ?_
  refine wpAny_bind (m := Builtin.Frozenset.copyOf a) (copy_ok h1 (by omega) fun h3 kp3 i3 => ?_)
  have hb : (Value.ref b != Value.ref a) = true := by
    rw [bne_iff_ne]
    exact fun z => hab (by cases z; rfl)
  have hlt := Heap.lt_size h2.there.choose_spec
  have h2' : Is w h3 b ms2 := h2.at fun o e => kp3 b o e
  have nb : s.heap.objs.size ≠ b := Nat.ne_of_gt hlt
  rw [hb, if_pos rfl]
  refine wpAny_bind (m := holding [.ref s.heap.objs.size] (do Builtin.Frozenset.updateFrom _ (← Builtin.Frozenset.addrOf (.ref s.heap.objs.size)) (.ref b))) (wpAny_holding ?_)
  refine wpAny_bind (m := Builtin.Frozenset.addrOf (.ref s.heap.objs.size)) (wpAny_pure ?_)
  unfold Builtin.Frozenset.updateFrom
  refine wpAny_bind (m := Builtin.Frozenset.isAnySet (.ref b)) (any b ms2 _ { s with heap := h3 } _ h2' ?_)
  rw [if_pos rfl]
  refine wpAny_bind (m := Builtin.Frozenset.addrOf (.ref b)) (wpAny_pure ?_)
  unfold Builtin.Frozenset.merge
  obtain ⟨o, es, ep, t, ho, hex, hd, hel, hnd, hbs, hf, hl, hp⟩ := id h2'
  refine wpAny_bind (wpAny_setEpoch_of (s := { s with heap := h3 }) ho hd hf ?_)
  refine merge_on (s := { s with heap := h3 }) nb i3 h2' hne hsz (fun s' Q' keep hQ => ?_) fun h4 ms' sb4 i4 hm hle => ?_
  · unfold Builtin.Frozenset.unchanged
    refine wpAny_bind (wpAny_setEpoch_of (s := s') (keep o ho) hd hf ?_)
    rw [bne_self_eq_false, if_neg Bool.false_ne_true]
    exact wpAny_pure hQ
  · refine wpAny_pure (wpAny_pure ⟨_, rfl, (by intro z; cases z), h h4 ms' (fun x o' e => (sb4.2 x (Nat.ne_of_lt (Heap.lt_size e))).trans (kp3 x o' e)) i4 hm hle⟩)
end
end SS

set_option Elab.async false
set_option linter.all false
set_option maxRecDepth 100000
set_option maxHeartbeats 4000000
namespace SS
open PySem PyProof.Rows
theorem slot_next : Slot "set_iterator" "__next__" "set_iterator.__next__" :=
  .of (owner := "set_iterator") (n := "__next__") (by rw [typeLookup_type, builtinLookup_eq_fast]; kernel_rfl) (by decide +kernel) (by decide +kernel) (by decide +kernel) (by first | exact .inl (by decide +kernel) | exact .inr (by decide +kernel)) (by rw [isSubtype_type]; kernel_rfl)
theorem entry_next : entryFor table "set_iterator.__next__" = some Builtin.«set_iterator.__next__» := entryFor_of_tree (by kernel_rfl)
theorem args_next (a : Value) : argsOk "set_iterator.__next__" ⟨[a], []⟩ := by unfold argsOk; kernel_rfl
theorem slot_self : Slot "set_iterator" "__iter__" "set_iterator.__iter__" :=
  .of (owner := "set_iterator") (n := "__iter__") (by rw [typeLookup_type, builtinLookup_eq_fast]; kernel_rfl) (by decide +kernel) (by decide +kernel) (by decide +kernel) (by first | exact .inl (by decide +kernel) | exact .inr (by decide +kernel)) (by rw [isSubtype_type]; kernel_rfl)
theorem args_self (a : Value) : argsOk "set_iterator.__iter__" ⟨[a], []⟩ := by unfold argsOk; kernel_rfl
theorem entry_self : entryFor table "set_iterator.__iter__" = some Builtin.«dict_keyiterator.__iter__» :=
  entryFor_alias (id' := "dict_keyiterator.__iter__") (by kernel_rfl) (by first | rfl | decide +kernel | (unfold String.splitOn; simp +decide [String.splitOnAux])) (by decide +kernel) (by kernel_rfl)
theorem entry_iter : entryFor table "set.__iter__" = some Builtin.«frozenset.__iter__» :=
  entryFor_alias (id' := "frozenset.__iter__") (by kernel_rfl) (by first | rfl | decide +kernel | (unfold String.splitOn; simp +decide [String.splitOnAux])) (by decide +kernel) (by kernel_rfl)
noncomputable def It (h : Heap) (I a : Addr) (first : Value) (i n ep : Nat) : Prop := ∃ o, h.get? I = some o ∧ o.cls = .type "set_iterator" ∧ o.data = .fields #[first, rawInt (i : Int), .ref a, rawInt (n : Int), rawInt (ep : Int)]
theorem It.at {h h' : Heap} {I a : Addr} {first : Value} {i n ep : Nat} (x : It h I a first i n ep) (e : ∀ o, h.get? I = some o → h'.get? I = some o) : It h' I a first i n ep := let ⟨o, ho, r⟩ := x; ⟨o, e _ ho, r⟩
section
variable {prog : Program} {w : World} {A : Around} {E : Value → Shared → Prop} {s : Shared}
theorem It.ty {I a : Addr} {first : Value} {i n ep : Nat} (x : It s.heap I a first i n ep) : s.TypeIs (.ref I) "set_iterator" := let ⟨o, ho, hc, _⟩ := x; ⟨o, ho, hc⟩
theorem stop_ok {α : Type} {I : Addr} {s0 s : Shared} {Q : Option Value → Shared → Prop} (hh : A.handled = none) (hQ : ∀ h', (∀ b o, s.heap.get? b = some o → h'.get? b = some o) → Q none { s with heap := h' }) :
    wpAny (model prog w) A.in1 (newExc (.type "StopIteration") [] >>= fun e => (raiseNew e : Sem Fin)) (fun fin s' => ∃ v, fin = .done (.ret v) ∧ wpAny (model prog w) A (pure (some v)) Q E s')
      (fun e s' => wpAny (model prog w) A (do if ← isInstance e (.type "StopIteration") then pure none else throw e) Q E s') s := by
  refine wpAny_bind ?_
  simp only [newExc, newTuple]
  refine wpAny_bind (wpAny_newObj_type ?_ (by size_fits))
  refine wpAny_bind (m := firstArgMember _ _) (wpAny_of_eq (a := Value.none) (by first | rfl | (simp only [firstArgMember]; rfl)) ?_)
  refine wpAny_newObj_type ?_ (by size_fits)
  simp only [raiseNew]
  refine wpAny_bind (wpAny_handled ?_)
  first | rw [show A.in1.handled = none from hh] | rw [hh]
  refine wpAny_bind (wpAny_pure (wpAny_throw ?_))
  refine wpAny_bind (wpAny_isInstance (T := "StopIteration") (b := true) ⟨_, Heap.get?_push_size _ rfl, rfl⟩ isSubtype_stop ?_)
  refine wpAny_pure (hQ _ fun b ob eb => ?_)
  exact Heap.get?_push_of_some _ (Heap.get?_push_of_some _ eb)
end
end SS

set_option Elab.async false
set_option linter.all false
set_option maxRecDepth 100000
set_option maxHeartbeats 4000000
namespace SS
open PySem PyProof.Rows
section
variable {prog : Program} {w : World} {A : Around} {E : Value → Shared → Prop} {s : Shared}
theorem item_int {I a : Addr} {o : Obj} {es : Array (Int × Value)} {ep i slot nx : Nat} {t : SetTable} {x : Value} {Q : Option Value → Shared → Prop} (hI : It s.heap I a (rawInt (slot : Int)) i es.size ep) (hne : a ≠ I) (ho : s.heap.get? a = some o) (hd : o.data = .set es ep t) (hf : t.fits es.size = true)
    (hN : ∀ (A' : Around) (E' : Value → Shared → Prop) (Q' : Option (Value × Nat) → Shared → Prop), Q' (some (x, nx)) s → wpAny (model prog w) A' (setNext a slot i ep) Q' E' s)
    (hQ : ∀ h', It h' I a (rawInt (nx : Int)) (i + 1) es.size ep → Heap.SameBut I s.heap h' → Q (some x) { s with heap := h' }) : wpAny (model prog w) A (pyNext (.ref I)) Q E s := by
  obtain ⟨oi, hoi, hci, hdi⟩ := id hI
  unfold pyNext
  refine wpAny_bind (wpAny_attempt (wpAny_callSpecial?_slot (name := Str.ofString "__next__") hI.ty slot_next (wpAny_call_entry slot_next hI.ty entry_next ?_ (args_next _))))
  unfold Builtin.«set_iterator.__next__»
  refine wpAny_bind (wpAny_of_eq (a := (Value.ref I, [])) rfl ?_)
  try dsimp only
  refine wpAny_bind (wpAny_fieldsOf hoi hdi ?_)
  dsimp only [rawInt]
  refine wpAny_bind (wpAny_setEntries_of ho hd hf ?_)
  rw [if_neg (by simp)]
  refine wpAny_bind (m := setNext a (slot : Int).toNat (i : Int).toNat (ep : Int).toNat) ?_
  rw [Int.toNat_natCast, Int.toNat_natCast, Int.toNat_natCast]
  refine hN _ _ _ ?_
  dsimp only
  refine wpAny_bind (wpAny_setField hoi hdi (by simp) ?_)
  have h2 := Heap.get?_update_self (Obj.mapFields (·.setIfInBounds 0 (rawInt (nx : Int)))) hoi (Obj.isFreed_of_fields (Obj.data_mapFields hdi _))
  refine wpAny_bind (wpAny_setField h2 (Obj.data_mapFields hdi _) (by simp) ?_)
  refine wpAny_pure ⟨_, rfl, wpAny_pure (hQ _ ?_ ((Heap.SameBut.update ..).trans (Heap.SameBut.update ..)))⟩
  exact ⟨_, Heap.get?_update_self _ h2 (Obj.isFreed_of_fields (Obj.data_mapFields (Obj.data_mapFields hdi _) _)), (Obj.cls_mapFields ..).trans ((Obj.cls_mapFields ..).trans hci), by rw [Obj.data_mapFields (Obj.data_mapFields hdi _)]; simp [rawInt]⟩
theorem end_int {I a : Addr} {o : Obj} {es : Array (Int × Value)} {ep i slot : Nat} {t : SetTable} {Q : Option Value → Shared → Prop} (hh : A.handled = none) (hI : It s.heap I a (rawInt (slot : Int)) i es.size ep) (hne : a ≠ I) (ho : s.heap.get? a = some o) (hd : o.data = .set es ep t) (hf : t.fits es.size = true)
    (hN : ∀ (A' : Around) (E' : Value → Shared → Prop) (Q' : Option (Value × Nat) → Shared → Prop), Q' none s → wpAny (model prog w) A' (setNext a slot i ep) Q' E' s)
    (hQ : ∀ h', Heap.ExtBut I s.heap h' → Q none { s with heap := h' }) : wpAny (model prog w) A (pyNext (.ref I)) Q E s := by
  obtain ⟨oi, hoi, hci, hdi⟩ := id hI
  unfold pyNext
  refine wpAny_bind (wpAny_attempt (wpAny_callSpecial?_slot (name := Str.ofString "__next__") hI.ty slot_next (wpAny_call_entry slot_next hI.ty entry_next ?_ (args_next _))))
  unfold Builtin.«set_iterator.__next__»
  refine wpAny_bind (wpAny_of_eq (a := (Value.ref I, [])) rfl ?_)
  try dsimp only
  refine wpAny_bind (wpAny_fieldsOf hoi hdi ?_)
  dsimp only [rawInt]
  refine wpAny_bind (wpAny_setEntries_of ho hd hf ?_)
  rw [if_neg (by simp)]
  refine wpAny_bind (m := setNext a (slot : Int).toNat (i : Int).toNat (ep : Int).toNat) ?_
  rw [Int.toNat_natCast, Int.toNat_natCast, Int.toNat_natCast]
  refine hN _ _ _ ?_
  dsimp only
  refine wpAny_bind (wpAny_setField hoi hdi (by simp) ?_)
  refine wpAny_mono (stop_ok (α := Unit) (I := I) (s0 := s) (Q := Q) (E := E) hh fun h' kp => hQ h' fun b ob hb eb => kp b ob ((Heap.get?_update_other _ _ (Ne.symm hb)).trans eb)) (fun fin s' z => z) fun e s' z => z
theorem item_ref {I a tp : Addr} {o ot : Obj} {es : Array (Int × Value)} {ep i p nt : Nat} {t : SetTable} {x : Int × Value} {ps : List Nat} {Q : Option Value → Shared → Prop} (hI : It s.heap I a (.ref tp) i es.size ep) (ho : s.heap.get? a = some o) (hd : o.data = .set es ep t) (hf : t.fits es.size = true)
    (hot : s.heap.get? tp = some ot) (hdt : ot.data = .seq (ps.map fun j : Nat => rawInt (j : Int)).toArray nt) (hp : ps[i]? = some p) (hx : es[p]? = some x)
    (hQ : ∀ h', It h' I a (.ref tp) (i + 1) es.size ep → Heap.SameBut I s.heap h' → Q (some x.2) { s with heap := h' }) : wpAny (model prog w) A (pyNext (.ref I)) Q E s := by
  obtain ⟨oi, hoi, hci, hdi⟩ := id hI
  unfold pyNext
  refine wpAny_bind (wpAny_attempt (wpAny_callSpecial?_slot (name := Str.ofString "__next__") hI.ty slot_next (wpAny_call_entry slot_next hI.ty entry_next ?_ (args_next _))))
  unfold Builtin.«set_iterator.__next__»
  refine wpAny_bind (wpAny_of_eq (a := (Value.ref I, [])) rfl ?_)
  try dsimp only
  refine wpAny_bind (wpAny_fieldsOf hoi hdi ?_)
  dsimp only [rawInt]
  refine wpAny_bind (wpAny_setEntries_of ho hd hf ?_)
  rw [if_neg (by simp)]
  refine wpAny_bind (wpAny_seqItems hot hdt ?_)
  dsimp only
  rw [Int.toNat_natCast, List.getElem?_toArray, List.getElem?_map, hp]
  dsimp only [Option.map, rawInt]
  refine wpAny_bind (m := setNextDrawn a (p : Int).toNat (ep : Int).toNat) ?_
  rw [Int.toNat_natCast, Int.toNat_natCast]
  unfold setNextDrawn
  refine wpAny_bind (wpAny_setState_of ho hd hf ?_)
  dsimp only
  rw [bne_self_eq_false, if_neg Bool.false_ne_true, hx]
  refine wpAny_pure ?_
  refine wpAny_bind (wpAny_setField hoi hdi (by simp) ?_)
  refine wpAny_pure ⟨_, rfl, wpAny_pure (hQ _ ?_ (Heap.SameBut.update ..))⟩
  exact ⟨_, Heap.get?_update_self _ hoi (Obj.isFreed_of_fields (Obj.data_mapFields hdi _)), (Obj.cls_mapFields ..).trans hci, by rw [Obj.data_mapFields hdi]; simp [rawInt]⟩
theorem end_ref {I a tp : Addr} {o ot : Obj} {es : Array (Int × Value)} {ep i nt : Nat} {t : SetTable} {ps : List Nat} {Q : Option Value → Shared → Prop} (hh : A.handled = none) (hI : It s.heap I a (.ref tp) i es.size ep) (ho : s.heap.get? a = some o) (hd : o.data = .set es ep t) (hf : t.fits es.size = true)
    (hot : s.heap.get? tp = some ot) (hdt : ot.data = .seq (ps.map fun j : Nat => rawInt (j : Int)).toArray nt) (hp : ps[i]? = none)
    (hQ : ∀ h', Heap.ExtBut I s.heap h' → Q none { s with heap := h' }) : wpAny (model prog w) A (pyNext (.ref I)) Q E s := by
  obtain ⟨oi, hoi, hci, hdi⟩ := id hI
  unfold pyNext
  refine wpAny_bind (wpAny_attempt (wpAny_callSpecial?_slot (name := Str.ofString "__next__") hI.ty slot_next (wpAny_call_entry slot_next hI.ty entry_next ?_ (args_next _))))
  unfold Builtin.«set_iterator.__next__»
  refine wpAny_bind (wpAny_of_eq (a := (Value.ref I, [])) rfl ?_)
  try dsimp only
  refine wpAny_bind (wpAny_fieldsOf hoi hdi ?_)
  dsimp only [rawInt]
  refine wpAny_bind (wpAny_setEntries_of ho hd hf ?_)
  rw [if_neg (by simp)]
  refine wpAny_bind (wpAny_seqItems hot hdt ?_)
  dsimp only
  rw [Int.toNat_natCast, List.getElem?_toArray, List.getElem?_map, hp]
  dsimp only [Option.map]
  refine wpAny_bind (wpAny_setField hoi hdi (by simp) ?_)
  have h2 := Heap.get?_update_self (Obj.mapFields (·.setIfInBounds 0 (rawInt 0))) hoi (Obj.isFreed_of_fields (Obj.data_mapFields hdi _))
  refine wpAny_bind (wpAny_setField h2 (Obj.data_mapFields hdi _) (by simp) ?_)
  refine wpAny_mono (stop_ok (α := Unit) (I := I) (s0 := s) (Q := Q) (E := E) hh fun h' kp => hQ h' fun b ob hb eb => kp b ob ((Heap.get?_update_other _ _ (Ne.symm hb)).trans ((Heap.get?_update_other _ _ (Ne.symm hb)).trans eb))) (fun fin s' z => z) fun e s' z => z
theorem self_ok {I a : Addr} {first : Value} {i n ep : Nat} {Q : Value → Shared → Prop} (hI : It s.heap I a first i n ep) (h : Q (.ref I) s) : wpAny (model prog w) A (pyIter (.ref I)) Q E s := by
  refine wpAny_pyIter_slot hI.ty slot_self (wpAny_call_entry slot_self hI.ty entry_self ?_ (args_self _))
  show wpAny _ _ (ret (.ref I)) _ _ s
  exact wpAny_pure ⟨_, rfl, "set_iterator", _, hI.ty, slot_next.lookup, h⟩
theorem wpAny_choose {M : Model} {src : Source} {n : Nat} {Q : Nat → Shared → Prop} (hn : n ≠ 0) (h : ∀ i d, i < n → Q i { s with drawn := d }) : wpAny M A (choose src n) Q E s := fun Γ p hΓ => ⟨hn, h _ _ (Nat.mod_lt _ (Nat.pos_of_ne_zero hn))⟩
theorem draw_ok {α : Type} : ∀ (xs : List α) (s : Shared) (Q : List α → Shared → Prop), (∀ ys d, ys.Perm xs → Q ys { s with drawn := d }) → wpAny (model prog w) A (drawOrder xs.length xs) Q E s := by
  intro xs
  generalize hn : xs.length = n
  induction n generalizing xs with
  | zero =>
    intro s Q h
    obtain rfl := List.length_eq_zero_iff.mp hn
    rw [drawOrder]
    exact wpAny_pure (h [] s.drawn (List.Perm.refl _))
  | succ n ih =>
    intro s Q h
    cases xs with
    | nil => cases hn
    | cons x xs =>
      rw [drawOrder]
      rotate_left
      · intro z
        cases z
      refine wpAny_bind (wpAny_choose (by simp) fun i d hi => ?_)
      rw [List.getElem?_eq_getElem hi]
      dsimp only
      refine wpAny_bind (ih ((x :: xs).eraseIdx i) (by rw [List.length_eraseIdx_of_lt hi, hn]; rfl) _ _ fun ys d2 hp => wpAny_pure ?_)
      exact h _ d2 ((hp.cons _).trans (erase_perm _ i hi))
end
end SS

set_option Elab.async false
set_option linter.all false
set_option maxRecDepth 100000
set_option maxHeartbeats 4000000
namespace SS
open PySem PyProof.Rows
theorem walk_int {prog : Program} {w : World} {A : Around} {a I : Addr} {o : Obj} {es : Array (Int × Value)} {ep : Nat} {t : SetTable} {L : List (Int × Value)} {slots : Nat → Nat} (hh : A.handled = none) (hne : a ≠ I) (hd : o.data = .set es ep t) (hf : t.fits es.size = true)
    (hN : ∀ (i : Nat) (s : Shared) (A' : Around) (E' : Value → Shared → Prop) (Q' : Option (Value × Nat) → Shared → Prop), s.heap.get? a = some o → i ≤ L.length → Q' ((L[i]?).map fun e => (e.2, slots (i + 1))) s → wpAny (model prog w) A' (setNext a (slots i) i ep) Q' E' s) :
    Walks prog w A I [I, a] [I] L.length (fun i v => (L.map (·.2))[i]? = some v) (fun i h => h.get? a = some o ∧ It h I a (rawInt (slots i : Int)) i es.size ep) where
  sub := fun b hb => by simp at hb; simp [hb]
  frame := fun _ _ _ y hk => ⟨hk a (by simp) o y.1, y.2.at fun o e => hk I (by simp) o e⟩
  item := fun i s Q E hi y hQ => by
    refine item_int (x := L[i].2) (nx := slots (i + 1)) y.2 hne y.1 hd hf (fun A' E' Q' q => hN i s A' E' Q' y.1 (by omega) ?_) fun h' hit hs => ?_
    · rw [List.getElem?_eq_getElem hi]
      exact q
    · exact hQ _ h' s.toks (by rw [List.getElem?_map, List.getElem?_eq_getElem hi]; rfl) ⟨(hs.2 a hne).trans y.1, hit⟩ fun b o hb eo => hs.extBut b o (fun h => hb (by simp [h])) eo
  done := fun s Q E y hQ => by
    refine end_int hh y.2 hne y.1 hd hf (fun A' E' Q' q => hN L.length s A' E' Q' y.1 (Nat.le_refl _) ?_) fun h' he => hQ h' s.toks fun b o hb eo => he b o (fun h => hb (by simp [h])) eo
    rw [List.getElem?_eq_none (Nat.le_refl _)]
    exact q
  self := fun _ _ _ _ y hQ => self_ok y.2 hQ
theorem walk_ref {prog : Program} {w : World} {A : Around} {a I tp : Addr} {o ot : Obj} {es : Array (Int × Value)} {ep nt : Nat} {t : SetTable} {ps : List Nat} (hh : A.handled = none) (hne : a ≠ I) (hnt : tp ≠ I) (hd : o.data = .set es ep t) (hf : t.fits es.size = true)
    (hdt : ot.data = .seq (ps.map fun j : Nat => rawInt (j : Int)).toArray nt) (hps : ∀ p ∈ ps, p < es.size) :
    Walks prog w A I [I, a, tp] [I] ps.length (fun i v => (ps.map fun p => (es.getD p (0, .none)).2)[i]? = some v) (fun i h => h.get? a = some o ∧ h.get? tp = some ot ∧ It h I a (.ref tp) i es.size ep) where
  sub := fun b hb => by simp at hb; simp [hb]
  frame := fun _ _ _ y hk => ⟨hk a (by simp) o y.1, hk tp (by simp) ot y.2.1, y.2.2.at fun o e => hk I (by simp) o e⟩
  item := fun i s Q E hi y hQ => by
    have hp : ps[i]? = some ps[i] := List.getElem?_eq_getElem hi
    have hlt := hps _ (List.getElem_mem hi)
    have hx : es[ps[i]]? = some (es[ps[i]]'hlt) := Array.getElem?_eq_getElem hlt
    refine item_ref y.2.2 y.1 hd hf y.2.1 hdt hp hx fun h' hit hs => ?_
    refine hQ _ h' s.toks ?_ ⟨(hs.2 a hne).trans y.1, (hs.2 tp hnt).trans y.2.1, hit⟩ fun b o hb eo => hs.extBut b o (fun h => hb (by simp [h])) eo
    rw [List.getElem?_map, hp]
    show some (es.getD ps[i] (0, Value.none)).2 = _
    rw [Array.getD_eq_getD_getElem?, hx]
    rfl
  done := fun s Q E y hQ => end_ref hh y.2.2 y.1 hd hf y.2.1 hdt (List.getElem?_eq_none (Nat.le_refl _)) fun h' he => hQ h' s.toks fun b o hb eo => he b o (fun h => hb (by simp [h])) eo
  self := fun _ _ _ _ y hQ => self_ok y.2.2 hQ
theorem strs_els {w : World} : ∀ L : List (Int × Value), (∀ e ∈ L, El w e) → StrsAre (L.map (·.2)) (L.map fun e => keyV e.2)
  | [], _ => .nil
  | e :: L, h => by
    obtain ⟨_, tk, q⟩ := h e (List.mem_cons_self ..)
    rw [List.map_cons, List.map_cons]
    have r := strs_els L fun x hx => h x (List.mem_cons_of_mem _ hx)
    have z : StrsAre (Value.str (keyV e.2) tk :: L.map (·.2)) (keyV e.2 :: L.map fun e => keyV e.2) := .cons _ _ r
    rw [← q] at z
    exact z
section
variable {prog : Program} {w : World} {A : Around} {E : Value → Shared → Prop} {s : Shared}
theorem iter_ok {a : Addr} {ms : List Str} {Q : Value → Shared → Prop} (hS : Is w s.heap a ms)
    (h : ∀ (h' : Heap) (d : Drawn) (I : Addr) (fp : List Addr) (xs : List Value) (ss : List Str) (St : Nat → Heap → Prop), (∀ A' : Around, A'.handled = none → Walks prog w A' I fp [I] xs.length (fun i v => xs[i]? = some v) St) → St 0 h' →
      (∀ b o, s.heap.get? b = some o → h'.get? b = some o) → s.heap.objs.size ≤ I → (∀ b ∈ fp, b = a ∨ s.heap.objs.size ≤ b) → StrsAre xs ss → ss.Perm ms → Q (.ref I) { s with heap := h', drawn := d }) :
    wpAny (model prog w) A (pyIter (.ref a)) Q E s := by
  obtain ⟨o, es, ep, t, ho, hex, hd, hel, hnd, hb, hf, hl, hp⟩ := id hS
  have hlt := Heap.lt_size ho
  have hps : t.place.size = es.size := by
    simp only [SetTable.fits, Bool.and_eq_true, beq_iff_eq] at hf
    exact hf.1
  refine wpAny_pyIter_slot hS.ty F.slot_set_iter (wpAny_call_entry F.slot_set_iter hS.ty entry_iter ?_ (F.args_set_iter_1 _))
  unfold Builtin.«frozenset.__iter__»
  refine wpAny_bind (m := Builtin.Frozenset.slot0 "__iter__" ⟨[.ref a], []⟩) (wpAny_of_eq (a := a) rfl ?_)
  unfold Builtin.Frozenset.sizeOf
  refine wpAny_bind (wpAny_bind (wpAny_setEntries_of ho hd hf (wpAny_pure ?_)))
  have hlist : ∀ L : List (Int × Value), L.Perm es.toList → StrsAre (L.map (·.2)) (L.map fun e => keyV e.2) ∧ (L.map fun e => keyV e.2).Perm ms := fun L hp => ⟨strs_els L (hel.perm hp).1, (hel.perm hp).2⟩

  have fin : ∀ (L : List (Int × Value)) (slots : Nat → Nat), slots 0 = 0 → L.Perm es.toList → (∀ (i : Nat) (s : Shared) (A' : Around) (E' : Value → Shared → Prop) (Q' : Option (Value × Nat) → Shared → Prop), s.heap.get? a = some o → i ≤ L.length → Q' ((L[i]?).map fun e => (e.2, slots (i + 1))) s → wpAny (model prog w) A' (setNext a (slots i) i ep) Q' E' s) →
      wpAny (model prog w) A.in1 (setEpoch a >>= fun e => newFields "set_iterator" [rawInt 0, rawInt 0, .ref a, rawInt (es.size : Int), rawInt (e : Int)] >>= ret) (fun fin s' => ∃ v, fin = .done (.ret v) ∧ ∃ (T : String) (r : Value), s'.TypeIs v T ∧ typeLookup (.type T) "__next__" = pure (some r) ∧ Q v s') E s := fun L slots h0 hL hN => by
    refine wpAny_bind (wpAny_setEpoch_of ho hd hf ?_)
    have hI : It (s.heap.push { cls := .type "set_iterator", data := .fields #[rawInt 0, rawInt 0, .ref a, rawInt (es.size : Int), rawInt (ep : Int)] }) s.heap.objs.size a (rawInt (slots 0 : Int)) 0 es.size ep := ⟨_, Heap.get?_push_size _ rfl, rfl, by rw [h0]; rfl⟩
    obtain ⟨q1, q2⟩ := hlist L hL
    refine wpAny_bind (wpAny_newObj_type (wpAny_pure ⟨_, rfl, "set_iterator", _, ⟨_, Heap.get?_push_size _ rfl, rfl⟩, slot_next.lookup, ?_⟩))
    have z := h (s.heap.push { cls := .type "set_iterator", data := .fields #[rawInt 0, rawInt 0, .ref a, rawInt (es.size : Int), rawInt (ep : Int)] }) s.drawn s.heap.objs.size [s.heap.objs.size, a] (L.map (·.2)) _ (fun i h => h.get? a = some o ∧ It h s.heap.objs.size a (rawInt (slots i : Int)) i es.size ep) (fun A' hA' => by
        rw [List.length_map]
        exact walk_int hA' (Nat.ne_of_lt hlt) hd hf hN) ⟨Heap.get?_push_of_some _ ho, hI⟩ (fun b o e => Heap.get?_push_of_some _ e) (Nat.le_refl _) (fun b hb => by
        rcases List.mem_cons.mp hb with rfl | hb
        · exact .inr (Nat.le_refl _)
        · exact .inl (List.mem_singleton.mp hb)) q1 q2
    exact z
  have hdrw : ∀ (Q' : Bool → Shared → Prop), Q' (!byT w && (!t.plain && decide (es.size > 1))) s → wpAny (model prog w) A.in1 (setDrawn a) Q' E s := fun Q' q => by
    unfold setDrawn
    refine wpAny_bind (wpAny_setState_of ho hd hf ?_)
    dsimp only
    exact wpAny_bind (byText_ok (wpAny_pure q))
  refine wpAny_bind (hdrw _ ?_)
  by_cases hby : byT w = true
  · rw [hby]
    simp only [Bool.not_true, Bool.false_and, Bool.false_eq_true, ↓reduceIte]
    refine wpAny_bind (wpAny_pure ?_)
    refine fin (pickOrder (w.params.setOrder a ep) es).toList (fun _ => 0) rfl (pick_perm _ _) fun i s' A' E' Q' ho' hi q => ?_
    unfold setNext
    refine wpAny_bind (wpAny_setState_of ho' hd hf ?_)
    dsimp only
    refine wpAny_bind (byText_ok ?_)
    rw [hby, if_pos rfl, bne_self_eq_false, if_neg Bool.false_ne_true]
    unfold setWalk
    refine wpAny_bind (wpAny_bind (wpAny_setState_of ho' hd hf ?_))
    dsimp only
    refine wpAny_bind (byText_ok ?_)
    rw [hby, if_pos rfl]
    refine wpAny_bind (wpAny_askSetting (wpAny_pure (wpAny_pure ?_)))
    rw [Array.getElem?_toList] at q
    exact q
  · have hbf : byT w = false := Bool.eq_false_iff.mpr hby
    have hld : t.led = true := hl.resolve_left hby
    by_cases h1 : es.size ≤ 1
    · have hnot : (!byT w && (!t.plain && decide (es.size > 1))) = false := by rw [decide_eq_false (by omega)]; simp
      rw [hnot]
      simp only [Bool.false_eq_true, ↓reduceIte]
      refine wpAny_bind (wpAny_pure ?_)
      have hN : ∀ (slot i : Nat) (s' : Shared) (A' : Around) (E' : Value → Shared → Prop) (Q' : Option (Value × Nat) → Shared → Prop), s'.heap.get? a = some o →
          Q' (match es[SetTable.below t.place slot]?, t.place[SetTable.below t.place slot]? with | some (_, x), some j => some (x, j + 1) | _, _ => none) s' → wpAny (model prog w) A' (setNext a slot i ep) Q' E' s' := fun slot i s' A' E' Q' ho' q => by
        unfold setNext
        refine wpAny_bind (wpAny_setState_of ho' hd hf ?_)
        dsimp only
        refine wpAny_bind (byText_ok ?_)
        rw [hbf, if_neg Bool.false_ne_true]
        have hdr : (!t.plain && decide (es.size > 1)) = false := by rw [decide_eq_false (by omega)]; simp
        show wpAny _ _ (if (!t.plain && decide (es.size > 1)) = true then _ else _) _ _ s'
        rw [hdr, if_neg Bool.false_ne_true]
        refine wpAny_bind (m := if (!t.led && !es.isEmpty) = true then unsupported "set:maker-not-led" else pure ()) ?_
        rw [hld]
        simp only [Bool.not_true, Bool.false_and, Bool.false_eq_true, ↓reduceIte]
        exact wpAny_pure (wpAny_pure q)
      by_cases h0 : es.size = 0
      · have ee : es = #[] := Array.eq_empty_of_size_eq_zero h0
        refine fin [] (fun _ => 0) rfl (by rw [ee]) fun i s' A' E' Q' ho' hi q => hN 0 i s' A' E' Q' ho' ?_
        rw [ee, Array.getElem?_eq_none (by simp)]
        exact q
      · obtain ⟨e0, he0⟩ : ∃ e0, es = #[e0] := by
          obtain ⟨l⟩ := es
          match l, h0, h1 with
          | [e0], _, _ => exact ⟨e0, rfl⟩
          | [], h, _ => exact absurd rfl h
          | _ :: _ :: _, _, h => simp at h
        obtain ⟨j, hj⟩ : ∃ j, t.place = #[j] := by
          rw [he0] at hps
          cases hpl : t.place with
          | mk l =>
            rw [hpl] at hps
            match l, hps with
            | [j], _ => exact ⟨j, rfl⟩
        refine fin [e0] (fun i => if i = 0 then 0 else j + 1) rfl (by rw [he0]) fun i s' A' E' Q' ho' hi q => hN _ i s' A' E' Q' ho' ?_
        have b0 : SetTable.below #[j] 0 = 0 := by
          simp [SetTable.below, SetTable.below.go]
        have b1 : SetTable.below #[j] (j + 1) = 1 := by
          simp [SetTable.below, SetTable.below.go]
        match i, hi with
        | 0, _ =>
          rw [if_pos rfl, hj, b0, he0]
          exact q
        | 1, _ =>
          rw [if_neg (by decide), hj, b1, he0]
          exact q
    · have hpl : t.plain = false := hp.resolve_left (by omega)
      have hyes : (!byT w && (!t.plain && decide (es.size > 1))) = true := by rw [hbf, hpl, decide_eq_true (by omega)]; rfl
      rw [hyes, if_pos rfl]
      have hr : (List.range es.size).length = es.size := List.length_range
      refine wpAny_bind (m := drawOrder es.size (List.range es.size)) ?_
      have dr := draw_ok (prog := prog) (w := w) (A := A.in1) (E := E) (List.range es.size) s
      rw [hr] at dr
      refine dr _ fun ps d hpp => ?_
      have hpl : ps.length = es.size := by rw [hpp.length_eq, hr]
      have hs : sizeLine = 16777216 := sizeLine_eq
      have sb : scanBound = 4096 := rfl
      refine wpAny_bind (wpAny_newTuple ?_ (by rw [List.length_map]; omega))
      generalize hot : ({ cls := .type "tuple", data := .seq (ps.map fun j : Nat => rawInt (j : Int)).toArray } : Obj) = ot
      have hg : (s.heap.push ot).get? s.heap.objs.size = some ot := Heap.get?_push_size _ (by rw [← hot]; rfl)
      have ho2 : (s.heap.push ot).get? a = some o := Heap.get?_push_of_some _ ho
      refine wpAny_bind (wpAny_setEpoch_of (s := { s with heap := s.heap.push ot, drawn := d }) ho2 hd hf ?_)
      refine wpAny_bind (wpAny_newObj_type (wpAny_pure ⟨_, rfl, "set_iterator", _, ⟨_, Heap.get?_push_size _ rfl, rfl⟩, slot_next.lookup, ?_⟩))
      have hsz : (s.heap.push ot).objs.size = s.heap.objs.size + 1 := Heap.size_push _ _
      have hfm : (ps.map fun p => es.getD p (0, Value.none)).Perm es.toList := by
        have e1 : (List.range es.size).map (fun p => es.getD p (0, Value.none)) = es.toList := by
          apply List.ext_getElem
          · simp
          · intro i g1 g2
            have g3 : i < es.size := by simpa using g1
            simp [Array.getD_eq_getD_getElem?, g3]
        exact (hpp.map _).trans (by rw [e1])
      obtain ⟨q1, q2⟩ := hlist _ hfm
      rw [List.map_map, List.map_map] at q1
      rw [List.map_map] at q2
      have hps' : ∀ p ∈ ps, p < es.size := fun p hp => List.mem_range.mp (hpp.mem_iff.mp hp)
      have hgo : ∀ (o2 : Obj), o2 = { cls := .type "set_iterator", data := .fields #[.ref s.heap.objs.size, rawInt 0, .ref a, rawInt (es.size : Int), rawInt (ep : Int)] } → Q (.ref (s.heap.objs.size + 1)) { s with heap := (s.heap.push ot).push o2, drawn := d } := fun o2 ho2' => by
       refine h ((s.heap.push ot).push o2) d (s.heap.objs.size + 1) [s.heap.objs.size + 1, a, s.heap.objs.size] (ps.map fun p => (es.getD p (0, Value.none)).2) _ (fun i h => h.get? a = some o ∧ h.get? s.heap.objs.size = some ot ∧ It h (s.heap.objs.size + 1) a (.ref s.heap.objs.size) i es.size ep) (fun A' hA' => by
           rw [List.length_map]
           exact walk_ref (ot := ot) (nt := 0) hA' (Nat.ne_of_lt (Nat.lt_succ_of_lt hlt)) (Nat.ne_of_lt (Nat.lt_succ_self _)) hd hf (by rw [← hot]) hps') ⟨Heap.get?_push_of_some _ ho2, Heap.get?_push_of_some _ hg, ?_⟩ (fun b o e => Heap.get?_push_of_some _ (Heap.get?_push_of_some _ e)) (Nat.le_succ _) (fun b hb => ?_) q1 q2
       · rw [← hsz]
         exact ⟨o2, Heap.get?_push_size _ (by rw [ho2']; rfl), by rw [ho2'], by rw [ho2']; rfl⟩
       · rcases List.mem_cons.mp hb with rfl | hb
         · exact .inr (Nat.le_succ _)
         · rcases List.mem_cons.mp hb with rfl | hb
           · exact .inl rfl
           · exact .inr (Nat.le_of_eq (List.mem_singleton.mp hb).symm)
      have z := hgo _ rfl
      rw [← hsz] at z
      exact z
end
end SS

set_option Elab.async false
set_option linter.all false
set_option maxRecDepth 100000
set_option maxHeartbeats 4000000
namespace SS
open PySem PyProof.Rows
theorem items_eq {xs : List Value} {acc : Array Value} (h : ItemsOf (fun i v => xs[i]? = some v) acc xs.length) : acc.toList = xs := by
  apply List.ext_getElem?
  intro i
  rw [Array.getElem?_toList]
  cases e : acc[i]? with
  | some v => exact (h.2 i v e).symm
  | none =>
    have : acc.size ≤ i := by
      rcases Nat.lt_or_ge i acc.size with z | z
      · rw [Array.getElem?_eq_getElem z] at e; cases e
      · exact z
    rw [List.getElem?_eq_none (by rw [← h.1]; exact this)]
section
variable {prog : Program} {w : World} {A : Around} {E : Value → Shared → Prop} {s : Shared}
theorem hint_ok {a : Addr} {ms : List Str} {Q : Bool → Shared → Prop} (hS : Is w s.heap a ms) (h : Q false s) : wpAny (model prog w) A (Builtin.List.listLengthHint (.ref a)) Q E s := by
  unfold Builtin.List.listLengthHint
  refine wpAny_bind (wpAny_specialOf hS.ty F.slot_set_len.lookup ?_)
  generalize hid : ("set.__len__" : String) = id0
  wp_delta
  rw [show splitId id0 = some ("set", "__len__") from by subst hid; decide +kernel]
  subst hid
  refine wpAny_bind (wpAny_isInstance (T := "set") (b := true) hS.ty sub_set_self ?_)
  refine wpAny_ite_split (fun hab => absurd hab (by decide)) (fun _ => ?_)
  refine wpAny_ite_split (fun _ => ?_) (fun hab => absurd (by decide +kernel) hab)
  refine wpAny_bind (wpAny_typeOf hS.ty ?_)
  exact wpAny_pure h
theorem extend_ok {a : Addr} {ms : List Str} {R : Result → Shared → Prop} (hh : A.handled = none) (hS : Is w s.heap a ms) (hz : ms.length ≤ sizeLine) (S : Addr) (res : Value) (h1 : S ≠ a) (hSl : s.heap.get? S = some { cls := .type "list", data := .seq #[] })
    (hR : ∀ s' acc' c' ss, (∀ b o, b ≠ S → s.heap.get? b = some o → s'.heap.get? b = some o) → s'.gens = s.gens → s'.os = s.os → s'.heap.get? S = some { cls := .type "list", dict := none, data := .seq acc' c', slots := #[] } → StrsAre acc'.toList ss → ss.Perm ms → R (.ok (.ret res)) s') :
    wpAny (model prog w) A.in1 (Builtin.List.listExtendWith (.ref S) (.ref a) res)
      (fun fin s' => match fin with | .done f => R (.ok f) s' | .again c' => c'.quiet = true ∧ codeAny (model prog w) A c' R s') (fun e s' => R (.error e) s') s := by
  unfold Builtin.List.listExtendWith
  refine wpAny_bind (wpAny_typeOf hS.ty ?_)
  have g1 : Builtin.List.listSameRef (.ref S) (.ref a) = false := by simp [Builtin.List.listSameRef, h1]
  have g2 : (Value.type "set" == Value.type "list") = false := by decide
  have g3 : (Value.type "set" == Value.type "tuple") = false := by decide
  simp only [g1, g2, g3, Bool.or_false, Bool.false_eq_true, if_false]
  refine wpAny_bind (iter_ok (A := A.in1) hS fun h2 d I fp xs ss St W st0 kp hIs hfp hss hpm => ?_)
  have hlt := Heap.lt_size hSl
  have hSI : S ≠ I := Nat.ne_of_lt (Nat.lt_of_lt_of_le hlt hIs)
  have hSf : S ∉ fp := fun z => by
    rcases hfp S z with e | e
    · exact h1 e
    · exact absurd hlt (Nat.not_lt.mpr e)
  have hS2 : Is w h2 a ms := hS.at fun o e => kp a o e
  refine wpAny_bind (wpAny_holding (hint_ok (s := { s with heap := h2, drawn := d }) hS2 ?_))
  have WS := (W A.in1 hh).toS
  have hxl : xs.length = ms.length := by rw [hss.length, hpm.length_eq]
  have last : ∀ (h0 : Heap) (c0 : Nat), (∀ b o, b ≠ S → h2.get? b = some o → h0.get? b = some o) → h0.get? S = some { cls := .type "list", data := .seq #[] c0 } →
      wpAny (model prog w) A.in1 (again (.builtin "list.extend.loop" ⟨[.ref S, .ref I, res], []⟩))
        (fun fin s' => match fin with | .done f => R (.ok f) s' | .again c' => c'.quiet = true ∧ codeAny (model prog w) A c' R s') (fun e s' => R (.error e) s') { s with heap := h0, drawn := d } := fun h0 c0 hk0 hS0 => by
    refine wpAny_pure ⟨plainId_quiet F.plain_extend_loop _, codeAny_extend_loopS WS (by omega) S hSf res xs.length 0 _ #[] c0 rfl (Nat.zero_le _) ?_ hS0 (ItemsOf.nil _) fun s' acc' c' hm hS' hacc => ?_⟩
    · exact (W A.in1 hh).frame 0 h2 h0 st0 fun b hb o e => hk0 b o (fun z => hSf (z ▸ hb)) e
    · refine hR s' acc' c' ss (fun b o hb e => ?_) hm.gens hm.os hS' (by rw [items_eq hacc]; exact hss) hpm
      by_cases hbI : b = I
      · subst hbI
        exact absurd (Heap.lt_size e) (Nat.not_lt.mpr hIs)
      · exact hm.heap b o (by simp [hb, hbI]) (hk0 b o hb (kp b o e))
  refine wpAny_ite_split (fun _ => ?_) (fun hab => absurd (by decide +kernel) hab)
  refine wpAny_bind (wpAny_rule ?_)
  have hSl2 : h2.get? S = some { cls := .type "list", data := .seq #[] } := kp S _ hSl
  refine wpAny_bind (m := ((do updateSeq S (fun z => z.push .none); updateSeq S (fun z => z.pop)) : Sem Unit)) (wpAny_bind (wpAny_updateSeq (s := { s with heap := h2, drawn := d }) hSl2 rfl ?_))
  have k1 := Heap.get?_update_self (Obj.mapSeq (fun z => z.push .none)) hSl2 rfl
  refine wpAny_updateSeq k1 rfl ?_
  have k2 := Heap.get?_update_self (Obj.mapSeq (fun z => z.pop)) k1 rfl
  exact last _ _ (fun b o hb e => (Heap.get?_update_other _ _ (Ne.symm hb)).trans ((Heap.get?_update_other _ _ (Ne.symm hb)).trans e)) k2
theorem collect_ok {a : Addr} {ms : List Str} {Q : List Value → Shared → Prop} (hh : A.handled = none) (hS : Is w s.heap a ms) (hz : ms.length ≤ sizeLine)
    (hQ : ∀ s' vs ss, (∀ b o, s.heap.get? b = some o → s'.heap.get? b = some o) → s'.gens = s.gens → s'.os = s.os → StrsAre vs ss → ss.Perm ms → Q vs s') : wpAny (model prog w) A (collect (.ref a)) Q E s := by
  have hlt := Heap.lt_size hS.there.choose_spec
  unfold collect
  refine wpAny_bind (wpAny_runValue (codeAny_builtin F.entry_proto_collect ?_))
  rw [Around.under_plainId F.plain_proto_collect]
  refine wpAny_bind (m := newList []) (wpAny_newObj_type (wpAny_pure ⟨plainId_quiet F.plain_list_iadd _, codeAny_builtin F.entry_list_iadd ?_⟩))
  rw [Around.under_plainId F.plain_list_iadd]
  have hSl : (s.heap.push { cls := .type "list", data := .seq #[] }).get? s.heap.objs.size = some { cls := .type "list", data := .seq #[] } := Heap.get?_push_size _ rfl
  have go : ∀ R : Result → Shared → Prop, (∀ s' acc' c' ss, (∀ b o, s.heap.get? b = some o → s'.heap.get? b = some o) → s'.gens = s.gens → s'.os = s.os → s'.heap.get? s.heap.objs.size = some { cls := .type "list", dict := none, data := .seq acc' c', slots := #[] } → StrsAre acc'.toList ss → ss.Perm ms → R (.ok (.ret (.ref s.heap.objs.size))) s') →
      wpAny (model prog w) A.in1 (Builtin.List.listExtendWith (.ref s.heap.objs.size) (.ref a) (.ref s.heap.objs.size))
        (fun fin s' => match fin with | .done f => R (.ok f) s' | .again c' => c'.quiet = true ∧ codeAny (model prog w) A c' R s') (fun e s' => R (.error e) s') { s with heap := s.heap.push { cls := .type "list", data := .seq #[] } } := fun R hR =>
    extend_ok (A := A) (s := { s with heap := s.heap.push { cls := .type "list", data := .seq #[] } }) hh (hS.at fun o e => Heap.get?_push_of_some _ e) hz s.heap.objs.size (.ref s.heap.objs.size) (Nat.ne_of_gt hlt) hSl
      fun s' acc' c' ss kp g1 g2 e1 e2 e3 => hR s' acc' c' ss (fun b o e => kp b o (Nat.ne_of_lt (Heap.lt_size e)) (Heap.get?_push_of_some _ e)) g1 g2 e1 e2 e3
  refine go (fun r s' => match r with
    | .ok (.ret v) => wpAny (model prog w) A (match v with
      | .ref a => do
        match (← load a).data with
        | .seq xs _ => pure xs.toList
        | _ => unsupported "internal:collect"
      | _ => unsupported "internal:collect") Q E s'
    | .ok _ => False
    | .error e => E e s') fun s' acc' c' ss kp g1 g2 hS' e2 e3 => ?_
  refine wpAny_bind (m := load s.heap.objs.size) (wpAny_load hS' (wpAny_pure ?_))
  exact hQ s' acc'.toList ss kp g1 g2 e2 e3
theorem code_new1 (a : Value) {Q₁ : Value → Shared → Prop} (h : Q₁ (.ref s.heap.objs.size) { s with heap := s.heap.push (freshO w) }) : codeAny (model prog w) A (.call (.builtin "set.__new__") ⟨[.type "set", a], []⟩) (wants Q₁ E) s := by
  refine codeAny_of_tree (show wpAny _ A.in1 (do checkBuiltinCall "set.__new__" ⟨[.type "set", a], []⟩; again (.builtin "set.__new__" ⟨[.type "set", a], []⟩)) _ _ s from ?_)
  refine wpAny_bind (wpAny_of_eq (F.newCall_set_1 a) (wpAny_pure ⟨plainId_quiet F.plain_set_new _, codeAny_builtin F.entry_set_new ?_⟩))
  rw [Around.under_plainId F.plain_set_new _]
  unfold Builtin.«set.__new__» Builtin.Frozenset.newClass
  have hsub := sub_set_self
  obtain ⟨hp, g, d, tk, os⟩ := s
  dsimp only
  wp_walk
  refine wpAny_askSetting (wpAny_pure ?_)
  dsimp only
  simp only [newObj]
  refine wpAny_bind (wpAny_alloc (wpAny_pure (wpAny_pure h)))
end
end SS

set_option Elab.async false
set_option linter.all false
set_option maxRecDepth 100000
set_option maxHeartbeats 4000000
namespace L2
open PySem PySem.Spec PyProof.Rows
namespace SE
noncomputable def Of (w : World) (h : Heap) (D : Addr) (ls : List (List Nat)) (i : Nat) : Prop := ∃ ms, SS.Is w h D ms ∧ (∀ x, x ∈ ms ↔ x ∈ (ls.take i).map tx) ∧ ms.length ≤ i
theorem Of.at {w : World} {h h' : Heap} {D : Addr} {ls : List (List Nat)} {i : Nat} (x : Of w h D ls i) (k : ∀ o, h.get? D = some o → h'.get? D = some o) : Of w h' D ls i := let ⟨ms, a, b⟩ := x; ⟨ms, a.at k, b⟩
section
variable {prog : Program} {w : World} {A : Around} {R : Result → Shared → Prop} {J : Addr} {fp wr : List Addr} {G : Array GenState → Array GenState → Prop} {n : Nat} {P : Nat → Value → Prop} {St : Nat → Shared → Prop}
theorem loopI (W : WalksS prog w A.in1 J fp wr G n P St) {D : Addr} (hD : D ∉ fp) (ls : List (List Nat)) (hv : ∀ i v, P i v → ∃ t, v = Value.str (tx (ls.getD i [])) t) (hn : n + 1 < scanBound) (hnl : n ≤ ls.length) :
    ∀ (k i : Nat) (s : Shared), n - i = k → i ≤ n → St i s → Of w s.heap D ls i →
      (∀ s', Moved (D :: wr) G s s' → Of w s'.heap D ls n → R (.ok (.ret .none)) s') → codeAny (model prog w) A (.builtin "set.update.loop" ⟨[.ref D, .ref J], []⟩) R s := by
  have hDw : D ∉ wr := fun z => hD (W.sub _ z)
  have up : ∀ b ∈ wr, b ∈ D :: wr := fun b hb => .tail _ hb
  intro k
  induction k with
  | zero =>
    intro i s hk hi st hs hR
    obtain rfl : i = n := by omega
    refine codeAny_builtin PyProof.Rows.F.entry_set_update_loop ?_
    rw [Around.under_plainId PyProof.Rows.F.plain_set_update_loop]
    refine wpAny_bind (m := pyNext (.ref J)) (W.done s _ _ st fun s2 mv => ?_)
    exact (show wpAny _ A.in1 (ret Value.none) _ _ s2 from wpAny_pure (hR s2 (mv.mono up) (hs.at fun o e => mv.heap D o hDw e)))
  | succ k ih =>
    intro i s hk hi st hs hR
    have hlt : i < n := by omega
    refine codeAny_builtin PyProof.Rows.F.entry_set_update_loop ?_
    rw [Around.under_plainId PyProof.Rows.F.plain_set_update_loop]
    refine wpAny_bind (m := pyNext (.ref J)) (W.item i s _ _ hlt st fun v s2 pv st2 mv => ?_)
    obtain ⟨t, rfl⟩ := hv i v pv
    have hs2 := hs.at fun o e => mv.heap D o hDw e
    refine wpAny_bind (m := holding [Value.str (tx (ls.getD i [])) t] (setAdd D (.str (tx (ls.getD i [])) t))) (wpAny_holding ?_)
    unfold setAdd
    refine wpAny_holding (wpAny_bind ((PySem.strKind prog w).pyHash (k := tx (ls.getD i [])) (strKind_is _ _ _ _) ?_))
    obtain ⟨ms, hi1, hi2, hi3⟩ := hs2
    refine SS.add_ok (s := { s2 with toks := s2.toks + 1 }) hi1 (by omega) fun h3 ms3 sb i3 m3 l3 => ?_
    have x4 : Of w h3 D ls (i + 1) := by
      refine ⟨ms3, i3, fun x => ?_, by omega⟩
      have e : ls.take (i + 1) = ls.take i ++ [ls.getD i []] := by
        rw [List.take_add_one, List.getD_eq_getElem?_getD, List.getElem?_eq_getElem (by omega)]
        rfl
      rw [m3, hi2, e, List.map_append, List.mem_append, List.map_cons, List.map_nil, List.mem_singleton]
    refine wpAny_pure ⟨plainId_quiet PyProof.Rows.F.plain_set_update_loop _, ih (i + 1) _ (by omega) hlt (W.frame _ s2 _ _ st2 (Nat.le_succ _) fun b hb o e => (sb.2 b fun z => hD (z ▸ hb)).trans e) x4 fun s5 m5 x5 => ?_⟩
    refine hR s5 (Moved.trans W.gtrans ((mv.mono up).then_heap (Nat.le_succ _) fun b o hb e => (sb.2 b fun z => hb (z ▸ .head _)).trans e) m5) x5

variable {E : Value → Shared → Prop} {s : Shared}
theorem call_ofI {l : Addr} {its : Array Value} {ls : List (List Nat)} {Q : Value → Shared → Prop} (hh : A.handled = none) (hl : s.heap.IsList l its) (hv : ∀ i v, its[i]? = some v → ∃ t, v = Value.str (tx (ls.getD i [])) t) (hn : its.size + 1 < scanBound) (hnl : its.size ≤ ls.length)
    (h : ∀ (h' : Heap) (tk : Nat), Of w h' s.heap.objs.size ls its.size → (∀ b o, s.heap.get? b = some o → h'.get? b = some o) → Q (.ref s.heap.objs.size) { s with heap := h', toks := tk }) :
    wpAny (model prog w) A (call (.type "set") [.ref l]) Q E s := by
  obtain ⟨mc, mt, f0⟩ := F.called_set.mro
  have f1 := F.called_set.made; have f2 := F.called_set.sub; have f3 := F.called_set.notType; have f4 := F.called_set.canCreate; have f5 := F.typeCall_set_1 (.ref l)
  refine wpAny_call (codeAny_of_tree (show wpAny _ _ (callAny (.type "set") _) _ _ _ from wpAny_pure ⟨Code.quiet_builtin _ (by decide +kernel), codeAny_builtin F.entry_type_call ?_⟩))
  rw [Around.under_plain (weight_type_call_type "set" [.ref l] []) rfl]
  repeat (any_goals (first | wp_step | assumption))
  refine codeAny_mono (SS.code_new1 (.ref l) (E := E) (Q₁ := fun ob s1 => ob = .ref s.heap.objs.size ∧ s1 = { s with heap := s.heap.push (SS.freshO w) }) ⟨rfl, rfl⟩) fun r s1 hr => ?_
  cases r with
  | error e => exact hr
  | ok fl =>
    cases fl with
    | ret ob =>
      obtain ⟨rfl, rfl⟩ := hr
      generalize hob : SS.freshO w = ob
      have hD : (s.heap.push ob).get? s.heap.objs.size = some ob := Heap.get?_push_size _ (by rw [← hob]; rfl)
      have hT : Shared.TypeIs { s with heap := s.heap.push ob } (.ref s.heap.objs.size) "set" := ⟨_, hD, by rw [← hob]; rfl⟩
      have f6 := F.called_set.init.lookup; have f7 := F.called_set.init.bind (.ref s.heap.objs.size)
      repeat (any_goals (first | wp_step | assumption))
      refine codeAny_mono (codeAny_call_builtin (R := wants (fun r s2 => r = .none ∧ ∃ h' tk, s2 = { s with heap := h', toks := tk } ∧ Of w h' s.heap.objs.size ls its.size ∧ ∀ b o, s.heap.get? b = some o → h'.get? b = some o) E)
        F.called_set.init.plain F.entry_set_init (check_set_init_1 hT ?_)) fun r2 s2 hr2 => ?_
      · obtain ⟨⟨oc, od, odt, osl⟩, hol, hcl, nl, hdl⟩ := id hl
        simp only at hcl hdl
        subst hcl hdl
        have hol' : (s.heap.push ob).get? l = some { cls := .type "list", dict := od, data := .seq its nl, slots := osl } := Heap.get?_push_of_some _ hol
        have f8 := F.sub_list_set; have f9 := F.sub_list_frozenset
        have f10 : (Value.type "list" == Value.type "dict") = false := by decide
        have hl1 : (s.heap.push ob).IsList l its := ⟨_, hol', rfl, nl, rfl⟩
        subst hob
        unfold Builtin.«set.__init__» noKeywords Builtin.Frozenset.updateFrom
        generalize hPI : pyIter = PI
        wp_walk
        subst hPI
        refine wpAny_pyIter_list hl1 ?_
        refine wpAny_bind (wpAny_runValue ?_)
        have hlt : l < s.heap.objs.size := Heap.lt_size hol
        have hh3 : A.in1.in1.in1.handled = none := by simp [hh]
        have hsz : (s.heap.push (SS.freshO w)).objs.size = s.heap.objs.size + 1 := Heap.size_push _ _
        have hne : l ≠ (s.heap.push (SS.freshO w)).objs.size := by rw [hsz]; exact Nat.ne_of_lt (Nat.lt_succ_of_lt hlt)
        have hfp : s.heap.objs.size ∉ [(s.heap.push (SS.freshO w)).objs.size, l] := by
          rw [hsz]
          intro z
          rcases List.mem_cons.mp z with e | e
          · exact Nat.ne_of_lt (Nat.lt_succ_self _) e
          · exact Nat.ne_of_gt hlt (List.mem_singleton.mp e)
        refine loopI ((Walks.list hh3 _ l hne its).toS) (D := s.heap.objs.size) hfp ls hv hn hnl (its.size - 0) 0 _ (by omega) (Nat.zero_le _) ⟨⟨_, Heap.get?_push_size _ rfl, rfl, rfl⟩, hl1.push _⟩ ?_ fun s3 mv x3 => ?_
        · have hg : ((s.heap.push (SS.freshO w)).push { cls := .type "list_iterator", data := .fields #[.ref l, .int 0 0] }).get? s.heap.objs.size = some (SS.freshO w) := Heap.get?_push_of_some _ hD
          exact ⟨[], (SS.Is.fresh s.heap).at fun o e => Heap.get?_push_of_some _ e, fun x => by simp, Nat.zero_le _⟩
        · obtain ⟨h3, g3, d3, tk3, os3⟩ := s3
          obtain rfl : g3 = s.gens := mv.gens
          obtain rfl : d3 = s.drawn := mv.drawn
          obtain rfl : os3 = s.os := mv.os
          refine wpAny_pure (show wpAny _ _ (ret Value.none) _ _ _ from wpAny_pure ⟨rfl, h3, tk3, rfl, x3, fun c o e => ?_⟩)
          have hc := Heap.lt_size e
          exact mv.heap c o (show c ∉ [s.heap.objs.size, (s.heap.push (SS.freshO w)).objs.size] by
            rw [hsz]
            intro z
            rcases List.mem_cons.mp z with e | e
            · exact Nat.ne_of_lt hc e
            · exact Nat.ne_of_lt (Nat.lt_succ_of_lt hc) (List.mem_singleton.mp e)) (Heap.get?_push_of_some _ (Heap.get?_push_of_some _ e))
      · cases r2 with
        | error e => exact hr2
        | ok fl2 =>
          cases fl2 with
          | ret r =>
            obtain ⟨rfl, h3, tk, rfl, x3, k3⟩ := hr2
            repeat (any_goals (first | wp_step | assumption))
            exact h _ _ x3 k3
          | _ => exact hr2.elim
    | _ => exact hr.elim
end
end SE
noncomputable def SetI (w : World) (D : Addr) (ms : List (List Nat)) : HO := .ext fun h => SS.Is w h D (ms.map tx)
theorem mem_tx {ls : List (List Nat)} {x : Str} : x ∈ ls.map tx ↔ x.cps.toList ∈ ls := by
  rw [List.mem_map]
  constructor
  · rintro ⟨l, h, rfl⟩
    rw [tx_cps]
    exact h
  · intro h
    exact ⟨_, h, tx_eta x⟩
theorem is_perm {w : World} {h : Heap} {D : Addr} {ms ms' : List Str} (x : SS.Is w h D ms) (p : ms.Perm ms') : SS.Is w h D ms' := by
  obtain ⟨o, es, ep, t, ho, hex, hd, hel, hnd, r⟩ := x
  exact ⟨o, es, ep, t, ho, hex, hd, ⟨hel.1, hel.2.trans p⟩, p.nodup_iff.mp hnd, r⟩
theorem is_nodup {w : World} {h : Heap} {D : Addr} {ms : List Str} (x : SS.Is w h D ms) : ms.Nodup := let ⟨_, _, _, _, _, _, _, _, n, _⟩ := x; n
theorem nodup_tx {ls : List (List Nat)} (h : ls.Nodup) : (ls.map tx).Nodup := by
  refine List.pairwise_map.mpr (h.imp fun hne e => hne (tx_inj e))
section
variable {X : Cx}
theorem setI_ok {pins : List (Addr × Obj)} {σ : St} {H : Hp} {s : Shared} {D : Addr} {ms : List (List Nat)} (I : Inv X pins σ H s) (h : H D = some (SetI X.w D ms)) : SS.Is X.w s.heap D (ms.map tx) := by
  obtain ⟨x, _⟩ := (show ObjOk X.prog X.w H s.heap D (SetI X.w D ms) from I.hok D _ h)
  exact x
theorem call_setI (hc : X.calm = true) : CallR X (.type "set") (fun xs H Q => ∃ (p : Addr) (ls : List (List Nat)), xs = [.ref p] ∧ SqL X.K H p (ls.map T) ∧ ls.length + 1 < 4096 ∧ ∀ D, H D = none → Q (.ref D) (upd H D (SetI X.w D (uniq ls)))) := by
  intro pins s σ H xs us Q I r h
  obtain ⟨p, ls, rfl, hq, hz, q⟩ := h
  obtain ⟨u, rfl, ru⟩ := vals1 r
  cases ru
  obtain ⟨its, rv, pl, _⟩ := I.list hq
  have hlen := rv.length
  rw [List.length_map] at hlen
  refine SE.call_ofI (I.ok.hd hc) pl.isList (ls := ls) (fun i v e => str_at rv (by simpa using e)) (by rw [List.size_toArray]; unfold scanBound; omega) (by rw [List.size_toArray]; omega) fun h' tk x k => ?_
  obtain ⟨ms, i1, i2, _⟩ := x
  have x : SS.Is X.w h' s.heap.objs.size ((uniq ls).map tx) := by
    refine is_perm i1 ((List.perm_ext_iff_of_nodup (is_nodup i1) (nodup_tx (uniq_nodup ls))).mpr fun y => ?_)
    rw [i2, mem_tx, mem_tx, uniq_mem, List.size_toArray, ← hlen, List.take_length]
  have hf : H s.heap.objs.size = none := I.hok.fresh (Nat.le_refl _)
  refine ⟨.ref s.heap.objs.size, _, I.laid (t' := tk) k (Nat.le_refl _) (o := SetI X.w s.heap.objs.size (uniq ls)) ⟨x, x.there, fun h1 h2 x1 kk => x1.at kk⟩, rfl, q _ hf⟩
theorem op_orI : OpR X (binaryOp .BitOr) (fun x y H Q => ∃ (a b : Addr) (ls ms : List (List Nat)), x = .ref a ∧ y = .ref b ∧ a ≠ b ∧ H a = some (SetI X.w a ls) ∧ H b = some (SetI X.w b ms) ∧ ls ≠ [] ∧ ls.length + ms.length ≤ 128 ∧
    ∀ (D : Addr) (qs : List (List Nat)), H D = none → qs.Nodup → qs.length ≤ ls.length + ms.length → (∀ z, z ∈ qs ↔ z ∈ ls ∨ z ∈ ms) → Q (.ref D) (upd H D (SetI X.w D qs))) := by
  intro pins s σ H x y v u Q I rx ry h
  obtain ⟨a, b, ls, ms, rfl, rfl, hab, h1, h2, hne, hsz, q⟩ := h
  cases rx
  cases ry
  refine SS.or_ok hab (setI_ok I h1) (setI_ok I h2) (fun z => hne (List.map_eq_nil_iff.mp z)) (by rw [List.length_map, List.length_map]; exact hsz) fun h' ms' kp i hm hl => ?_
  have em : (ms'.map fun x => x.cps.toList).map tx = ms' := by
    rw [List.map_map]
    conv => rhs; rw [← List.map_id ms']
    exact List.map_congr_left fun x _ => tx_eta x
  have hnd : (ms'.map fun x => x.cps.toList).Nodup := List.pairwise_map.mpr ((is_nodup i).imp fun {a b} hne e => hne ((tx_eta a).symm.trans ((congrArg tx e).trans (tx_eta b))))
  have x : SS.Is X.w h' s.heap.objs.size ((ms'.map fun x => x.cps.toList).map tx) := by rw [em]; exact i
  refine ⟨.ref s.heap.objs.size, _, I.laid (t' := s.toks) kp (Nat.le_refl _) (o := SetI X.w s.heap.objs.size (ms'.map fun x => x.cps.toList)) ⟨x, x.there, fun h1 h2 x1 kk => x1.at kk⟩, rfl, q _ _ (I.hok.fresh (Nat.le_refl _)) hnd (by rw [List.length_map]; rw [List.length_map, List.length_map] at hl; exact hl) fun z => ?_⟩
  have e := hm (tx z)
  rw [mem_tx, mem_tx, tx_cps] at e
  rw [← e, ← em, mem_tx, tx_cps, em]
end
end L2

set_option Elab.async false
set_option linter.all false
set_option maxRecDepth 100000
namespace L2
open PySem PySem.Spec PyProof.Rows
set_option genInjectivity false in
structure Reads (J : It) (H : Hp) (vs : List V) : Prop where
  go : ∀ i H', Same H H' → i < vs.length → J.go i H'
  yl : ∀ i H' y H2, Same H H' → J.yld i H' y H2 → H2 = H' ∧ vs[i]? = some y
  st : ∀ H', Same H H' → J.stop vs.length H'
theorem reads_list {K : PySem.W.Frag} {a : Addr} {H : Hp} {vs : List V} (h : SqL K H a vs) : Reads (Itl K a) H vs :=
  ⟨fun i H' s hi => ⟨vs, vs[i], s.seq h, List.getElem?_eq_getElem hi⟩, fun i H' y H2 s ⟨e1, e2⟩ => ⟨e1, e2 vs (s.seq h)⟩, fun H' s => ⟨vs, s.seq h, Nat.le_refl _⟩⟩
theorem tupOn {K : PySem.W.Frag} {H H' : Hp} {p : Addr} {xs : List V} (s : Same H H') (h : SqT K H p xs) : SqT K H' p xs := by
  rcases h with (h | ⟨q, h⟩) | h
  · exact .inl (.inl (s _ _ h))
  · exact .inl (.inr ⟨q, s _ _ h⟩)
  · exact .inr h
theorem reads_tup {K : PySem.W.Frag} {a : Addr} {H : Hp} {vs : List V} (h : SqT K H a vs) : Reads (Itt K a) H vs :=
  ⟨fun i H' s hi => ⟨vs, vs[i], tupOn s h, List.getElem?_eq_getElem hi⟩, fun i H' y H2 s ⟨e1, e2⟩ => ⟨e1, e2 vs (tupOn s h)⟩, fun H' s => ⟨vs, tupOn s h, Nat.le_refl _⟩⟩
theorem reads_text {l : List Nat} {H : Hp} : Reads (Itx l) H ((l.map fun c => [c]).map T) :=
  ⟨fun i H' _ hi => by (show i < l.length; simpa using hi), fun i H' y H2 _ ⟨e1, c, hc, e2⟩ => ⟨e1, by rw [List.getElem?_map, List.getElem?_map, hc, e2]; rfl⟩, fun H' _ => by show l.length ≤ _; simp⟩
theorem compG {J : It} {vs : List V} {te : TE} {σ : St} {H : Hp} {Q : VK} (f : V → V) (rd : Reads J H vs) (hn : vs.length ≤ sizeLine)
    (he : ∀ x H', x ∈ vs → Same H H' → ∀ N : V → Hp → Prop, (∀ H'', Same H' H'' → N (f x) H'') → te (some x :: σ) H' N)
    (hq : ∀ D H', H D = none → Same H H' → H' D = some (.lst (vs.map f)) → Q (.ref D) H') : compAt te σ Q J H := by
  intro D hD
  refine ⟨fun i m ys H2 => m = vs.length - i ∧ i ≤ vs.length ∧ ys = (vs.take i).map f ∧ Same H H2 ∧ H2 D = some (.lst ys), ⟨vs.length, rfl, Nat.zero_le _, rfl, fun b o e => ?_, upd_same⟩, ?_⟩
  · rw [upd_ne (ne_of_none e hD)]
    exact e
  · rintro i m ys H2 ⟨rfl, hi, rfl, hs, hd⟩
    by_cases hlt : i < vs.length
    · have hx : vs[i]? = some vs[i] := List.getElem?_eq_getElem hlt
      refine .inr ⟨rd.go i H2 hs hlt, by rw [List.length_map, List.length_take]; omega, fun v H' => v = f vs[i] ∧ Same H2 H', fun v H' ⟨ev, hs'⟩ => ⟨hs' D _ hd, vs.length - (i + 1), by omega, rfl, hlt, ?app, fun b o e => ?kp, upd_same⟩, fun y H' hy => ?stp⟩
      case app =>
        rw [ev, List.take_add_one, hx, List.map_append]
        rfl
      case kp =>
        rw [upd_ne (ne_of_none e hD)]
        exact hs' b o (hs b o e)
      case stp =>
        obtain ⟨rfl, e2⟩ := rd.yl i H2 y H' hs hy
        have e4 : y = vs[i] := by rw [hx] at e2; exact (Option.some.inj e2).symm
        subst e4
        exact he _ _ (List.getElem_mem hlt) hs _ fun H'' h'' => ⟨rfl, h''⟩
    · have e : i = vs.length := by omega
      subst e
      rw [List.take_length] at hd
      exact .inl ⟨rd.st H2 hs, hq D H2 hD hs hd⟩
theorem compFG {J : It} {vs : List V} {tc : TT} {te : TE} {σ : St} {H : Hp} {Q : VK} (p : V → Bool) (f : V → V) (rd : Reads J H vs) (hn : vs.length ≤ sizeLine)
    (ht : ∀ x H', x ∈ vs → Same H H' → ∀ N : Bool → Hp → Prop, (∀ H'', Same H' H'' → N (p x) H'') → tc (some x :: σ) H' N)
    (he : ∀ x H', x ∈ vs → p x = true → Same H H' → ∀ N : V → Hp → Prop, (∀ H'', Same H' H'' → N (f x) H'') → te (some x :: σ) H' N)
    (hq : ∀ D H', H D = none → Same H H' → H' D = some (.lst ((vs.filter p).map f)) → Q (.ref D) H') : compAtF tc te σ Q J H := by
  intro D hD
  refine ⟨fun i m ys H2 => m = vs.length - i ∧ i ≤ vs.length ∧ ys = ((vs.take i).filter p).map f ∧ Same H H2 ∧ H2 D = some (.lst ys), ⟨vs.length, rfl, Nat.zero_le _, rfl, fun b o e => ?_, upd_same⟩, ?_⟩
  · rw [upd_ne (ne_of_none e hD)]
    exact e
  · rintro i m ys H2 ⟨rfl, hi, rfl, hs, hd⟩
    by_cases hlt : i < vs.length
    · have hx : vs[i]? = some vs[i] := List.getElem?_eq_getElem hlt
      refine .inr ⟨rd.go i H2 hs hlt, by have := filter_take_len p vs i; rw [List.length_map]; omega, fun v H' => v = f vs[i] ∧ p vs[i] = true ∧ Same H2 H', fun v H' ⟨ev, hp, hs'⟩ => ⟨hs' D _ hd, vs.length - (i + 1), by omega, rfl, hlt, ?app, fun b o e => ?kp, upd_same⟩,
        fun H' => p vs[i] = false ∧ Same H2 H', fun H' ⟨hp, hs'⟩ => ⟨vs.length - (i + 1), by omega, rfl, hlt, ?skp, fun b o e => hs' b o (hs b o e), hs' D _ hd⟩, fun y H' hy => ?stp⟩
      case app =>
        rw [ev, take_filter p vs i _ hx, hp, List.map_append]
        rfl
      case kp =>
        rw [upd_ne (ne_of_none e hD)]
        exact hs' b o (hs b o e)
      case skp =>
        rw [take_filter p vs i _ hx, hp]
        simp
      case stp =>
        obtain ⟨rfl, e2⟩ := rd.yl i H2 y H' hs hy
        have e4 : y = vs[i] := by rw [hx] at e2; exact (Option.some.inj e2).symm
        subst e4
        refine ht _ _ (List.getElem_mem hlt) hs _ fun H'' h'' => ?_
        by_cases hp : p vs[i] = true
        · rw [if_pos hp]
          exact he _ _ (List.getElem_mem hlt) hp (hs.trans h'') _ fun H3 h3 => ⟨rfl, hp, h''.trans h3⟩
        · rw [if_neg hp]
          exact ⟨by simpa using hp, h''⟩
    · have e : i = vs.length := by omega
      subst e
      rw [List.take_length] at hd
      exact .inl ⟨rd.st H2 hs, hq D H2 hD hs hd⟩
noncomputable def unT : V → List Nat
  | .str x => x.cps.toList
  | _ => []
theorem unT_T (l : List Nat) : unT (T l) = l := tx_cps l
section
variable {X : Cx}
theorem op_in_seqK (K : PySem.W.Frag) (h : X.K = K) : OpR X (compareOp .In) (rIn K false) := by subst h; exact op_in_seq
theorem op_notIn_seqK (K : PySem.W.Frag) (h : X.K = K) : OpR X (compareOp .NotIn) (rIn K true) := by subst h; exact op_notIn_seq
end
theorem map_unT {f : List Nat → V} (ls : List (List Nat)) : (ls.map T).map (fun x => f (unT x)) = ls.map f := by
  rw [List.map_map]
  exact List.map_congr_left fun l _ => by show f (unT (T l)) = f l; rw [unT_T]
theorem filter_unT {p : List Nat → Bool} : ∀ ls : List (List Nat), (ls.map T).filter (fun x => p (unT x)) = (ls.filter p).map T
  | [] => rfl
  | l :: ls => by
    rw [List.map_cons, List.filter_cons, List.filter_cons, unT_T, filter_unT ls]
    split <;> rfl
end L2

set_option Elab.async false
set_option linter.all false
set_option maxRecDepth 100000
set_option maxHeartbeats 4000000
namespace SS
open PySem PyProof.Rows L2
section
variable {prog : Program} {w : World} {A : Around} {E : Value → Shared → Prop} {s : Shared}
theorem dhint_ok {a : Addr} {Q : Bool → Shared → Prop} (hS : s.TypeIs (.ref a) "dict") (h : Q false s) : wpAny (model prog w) A (Builtin.List.listLengthHint (.ref a)) Q E s := by
  unfold Builtin.List.listLengthHint
  refine wpAny_bind (wpAny_specialOf hS F.slot_dict_len.lookup ?_)
  generalize hid : ("dict.__len__" : String) = id0
  wp_delta
  rw [show splitId id0 = some ("dict", "__len__") from by subst hid; decide +kernel]
  subst hid
  refine wpAny_bind (wpAny_isInstance (T := "dict") (b := true) hS F.sub_dict_dict ?_)
  refine wpAny_ite_split (fun hab => absurd hab (by decide)) (fun _ => ?_)
  refine wpAny_ite_split (fun _ => ?_) (fun hab => absurd (by decide +kernel) hab)
  refine wpAny_bind (wpAny_typeOf hS ?_)
  exact wpAny_pure h
noncomputable def KeyAt (vs : List (Key × Value)) (i : Nat) (v : Value) : Prop := ∃ k x, vs[i]? = some (k, x) ∧ keyIs k v = true
theorem dat_push {h : Heap} {a : Addr} {vs : List (Key × Value)} {ep : Nat} {ob : Obj} (hD : Heap.DictAt (mixKind prog w) h a vs ep) : Heap.DictAt (mixKind prog w) (h.push ob) a vs ep := by
  obtain ⟨o, es, g, r⟩ := hD
  exact ⟨o, es, Heap.get?_push_of_some _ g, r⟩
theorem dat_ty {a : Addr} {vs : List (Key × Value)} {ep : Nat} (hD : Heap.DictAt (mixKind prog w) s.heap a vs ep) : s.TypeIs (.ref a) "dict" := by
  obtain ⟨o, es, g, r⟩ := hD
  exact (show Heap.DictOf (mixKind prog w) s.heap a vs from ⟨o, es, ep, g, r⟩).typeIs
theorem dextend_ok {a : Addr} {vs : List (Key × Value)} {ep : Nat} {R : Result → Shared → Prop} (hh : A.handled = none) (hd : (a == sysModules) = false) (hD : Heap.DictAt (mixKind prog w) s.heap a vs ep) (hz : vs.length ≤ sizeLine) (S : Addr) (res : Value) (h1 : S ≠ a) (hSl : s.heap.get? S = some { cls := .type "list", data := .seq #[] })
    (hR : ∀ s' acc' c', (∀ b o, b ≠ S → s.heap.get? b = some o → s'.heap.get? b = some o) → s'.gens = s.gens → s'.os = s.os → s'.heap.get? S = some { cls := .type "list", dict := none, data := .seq acc' c', slots := #[] } → ItemsOf (KeyAt vs) acc' vs.length → R (.ok (.ret res)) s') :
    wpAny (model prog w) A.in1 (Builtin.List.listExtendWith (.ref S) (.ref a) res)
      (fun fin s' => match fin with | .done f => R (.ok f) s' | .again c' => c'.quiet = true ∧ codeAny (model prog w) A c' R s') (fun e s' => R (.error e) s') s := by
  unfold Builtin.List.listExtendWith
  refine wpAny_bind (wpAny_typeOf (dat_ty hD) ?_)
  have g1 : Builtin.List.listSameRef (.ref S) (.ref a) = false := by simp [Builtin.List.listSameRef, h1]
  have g2 : (Value.type "dict" == Value.type "list") = false := by decide
  have g3 : (Value.type "dict" == Value.type "tuple") = false := by decide
  simp only [g1, g2, g3, Bool.or_false, Bool.false_eq_true, if_false]
  refine wpAny_bind (wpAny_pyIter_dict hd hD ?_)
  have hlt := Heap.lt_size hSl
  have hal : a < s.heap.objs.size := by obtain ⟨o, es, g, r⟩ := hD; exact Heap.lt_size g
  generalize hio : ({ cls := Value.type "dict_keyiterator", data := Data.fields #[Value.ref a, Value.int 0 0, Value.int (↑vs.length) 0, Value.int (↑ep) 0] } : Obj) = io
  have hIs : s.heap.objs.size ≤ s.heap.objs.size := Nat.le_refl _
  have hSI : S ≠ s.heap.objs.size := Nat.ne_of_lt hlt
  have haI : a ≠ s.heap.objs.size := Nat.ne_of_lt hal
  have kp : ∀ b o, s.heap.get? b = some o → (s.heap.push io).get? b = some o := fun b o e => Heap.get?_push_of_some _ e
  have W := Walks.dictKeys (prog := prog) (w := w) (knd := mixKind prog w) (A := A.in1) hh s.heap.objs.size a haI vs ep
  have hD2 : Heap.DictAt (mixKind prog w) (s.heap.push io) a vs ep := dat_push hD
  have st0 : (s.heap.push io).IsKeyIter s.heap.objs.size a 0 vs.length ep ∧ Heap.DictAt (mixKind prog w) (s.heap.push io) a vs ep := by
    refine ⟨⟨io, Heap.get?_push_size _ (by rw [← hio]; rfl), ?_, ?_⟩, hD2⟩
    · rw [← hio]
    · rw [← hio]; rfl
  have hSf : S ∉ [s.heap.objs.size, a] := by simp [hSI, h1]
  refine wpAny_bind (wpAny_holding (dhint_ok (s := { s with heap := s.heap.push io }) (dat_ty (s := { s with heap := s.heap.push io }) hD2) ?_))
  have WS := W.toS
  have last : ∀ (h0 : Heap) (c0 : Nat), (∀ b o, b ≠ S → (s.heap.push io).get? b = some o → h0.get? b = some o) → h0.get? S = some { cls := .type "list", data := .seq #[] c0 } →
      wpAny (model prog w) A.in1 (again (.builtin "list.extend.loop" ⟨[.ref S, .ref s.heap.objs.size, res], []⟩))
        (fun fin s' => match fin with | .done f => R (.ok f) s' | .again c' => c'.quiet = true ∧ codeAny (model prog w) A c' R s') (fun e s' => R (.error e) s') { s with heap := h0 } := fun h0 c0 hk0 hS0 => by
    refine wpAny_pure ⟨plainId_quiet F.plain_extend_loop _, codeAny_extend_loopS WS (by omega) S hSf res vs.length 0 _ #[] c0 rfl (Nat.zero_le _) ?_ hS0 (ItemsOf.nil _) fun s' acc' c' hm hS' hacc => ?_⟩
    · exact W.frame 0 (s.heap.push io) h0 st0 fun b hb o e => hk0 b o (fun z => hSf (z ▸ hb)) e
    · refine hR s' acc' c' (fun b o hb e => ?_) hm.gens hm.os hS' hacc
      by_cases hbI : b = s.heap.objs.size
      · subst hbI
        exact absurd (Heap.lt_size e) (Nat.not_lt.mpr hIs)
      · exact hm.heap b o (by simp [hb, hbI]) (hk0 b o hb (kp b o e))
  refine wpAny_ite_split (fun _ => ?_) (fun hab => absurd (by decide +kernel) hab)
  refine wpAny_bind (wpAny_rule ?_)
  have hSl2 : (s.heap.push io).get? S = some { cls := .type "list", data := .seq #[] } := kp S _ hSl
  refine wpAny_bind (m := ((do updateSeq S (fun z => z.push .none); updateSeq S (fun z => z.pop)) : Sem Unit)) (wpAny_bind (wpAny_updateSeq (s := { s with heap := s.heap.push io }) hSl2 rfl ?_))
  have k1 := Heap.get?_update_self (Obj.mapSeq (fun z => z.push .none)) hSl2 rfl
  refine wpAny_updateSeq k1 rfl ?_
  have k2 := Heap.get?_update_self (Obj.mapSeq (fun z => z.pop)) k1 rfl
  exact last _ _ (fun b o hb e => (Heap.get?_update_other _ _ (Ne.symm hb)).trans ((Heap.get?_update_other _ _ (Ne.symm hb)).trans e)) k2
theorem dcollect_ok {a : Addr} {vs : List (Key × Value)} {ep : Nat} {Q : List Value → Shared → Prop} (hh : A.handled = none) (hd : (a == sysModules) = false) (hD : Heap.DictAt (mixKind prog w) s.heap a vs ep) (hz : vs.length ≤ sizeLine)
    (hQ : ∀ (s' : Shared) (acc : Array Value), (∀ b o, s.heap.get? b = some o → s'.heap.get? b = some o) → s'.gens = s.gens → s'.os = s.os → ItemsOf (KeyAt vs) acc vs.length → Q acc.toList s') : wpAny (model prog w) A (collect (.ref a)) Q E s := by
  have hlt : a < s.heap.objs.size := by obtain ⟨o, es, g, r⟩ := hD; exact Heap.lt_size g
  unfold collect
  refine wpAny_bind (wpAny_runValue (codeAny_builtin F.entry_proto_collect ?_))
  rw [Around.under_plainId F.plain_proto_collect]
  refine wpAny_bind (m := newList []) (wpAny_newObj_type (wpAny_pure ⟨plainId_quiet F.plain_list_iadd _, codeAny_builtin F.entry_list_iadd ?_⟩))
  rw [Around.under_plainId F.plain_list_iadd]
  have hSl : (s.heap.push { cls := .type "list", data := .seq #[] }).get? s.heap.objs.size = some { cls := .type "list", data := .seq #[] } := Heap.get?_push_size _ rfl
  have go : ∀ R : Result → Shared → Prop, (∀ s' acc' c', (∀ b o, s.heap.get? b = some o → s'.heap.get? b = some o) → s'.gens = s.gens → s'.os = s.os → s'.heap.get? s.heap.objs.size = some { cls := .type "list", dict := none, data := .seq acc' c', slots := #[] } → ItemsOf (KeyAt vs) acc' vs.length → R (.ok (.ret (.ref s.heap.objs.size))) s') →
      wpAny (model prog w) A.in1 (Builtin.List.listExtendWith (.ref s.heap.objs.size) (.ref a) (.ref s.heap.objs.size))
        (fun fin s' => match fin with | .done f => R (.ok f) s' | .again c' => c'.quiet = true ∧ codeAny (model prog w) A c' R s') (fun e s' => R (.error e) s') { s with heap := s.heap.push { cls := .type "list", data := .seq #[] } } := fun R hR =>
    dextend_ok (A := A) (s := { s with heap := s.heap.push { cls := .type "list", data := .seq #[] } }) hh hd (dat_push hD) hz s.heap.objs.size (.ref s.heap.objs.size) (Nat.ne_of_gt hlt) hSl
      fun s' acc' c' kp g1 g2 e1 e2 => hR s' acc' c' (fun b o e => kp b o (Nat.ne_of_lt (Heap.lt_size e)) (Heap.get?_push_of_some _ e)) g1 g2 e1 e2
  refine go (fun r s' => match r with
    | .ok (.ret v) => wpAny (model prog w) A (match v with
      | .ref a => do
        match (← load a).data with
        | .seq xs _ => pure xs.toList
        | _ => unsupported "internal:collect"
      | _ => unsupported "internal:collect") Q E s'
    | .ok _ => False
    | .error e => E e s') fun s' acc' c' kp g1 g2 hS' e2 => ?_
  refine wpAny_bind (m := load s.heap.objs.size) (wpAny_load hS' (wpAny_pure ?_))
  exact hQ s' acc' kp g1 g2 e2
end
end SS
namespace L2
open PySem PyProof.Rows
noncomputable def tKs (ls : List (List Nat)) (v : V) : List (Key × V) := ls.map fun t => (Sum.inr (tx t), v)
section
variable {X : Cx}
theorem strs_pt : ∀ (ls : List Str) (us : List Value), us.length = ls.length → (∀ (i : Nat) (v : Value), us[i]? = some v → ∃ x t, ls[i]? = some x ∧ v = Value.str x t) → StrsAre us ls
  | [], [], _, _ => .nil
  | [], _ :: _, h, _ => nomatch h
  | _ :: _, [], h, _ => nomatch h
  | y :: ls, u :: us, h, hp => by
    obtain ⟨x, t, e1, e2⟩ := hp 0 u rfl
    have e3 : y = x := by simpa using e1
    rw [e2, ← e3]
    exact .cons _ _ (strs_pt ls us (by simpa using h) fun i v e => by simpa using hp (i + 1) v (by simpa using e))
theorem kv_fst : ∀ {kvs : List (Key × V)} {vs : List (Key × Value)}, KV kvs vs → vs.map (·.1) = kvs.map (·.1)
  | [], [], .nil => rfl
  | _ :: _, _ :: _, .cons h r => by rw [List.map_cons, List.map_cons, h.1, kv_fst r]
theorem keys_strs {ls : List (List Nat)} {kvs : List (Key × V)} {vs : List (Key × Value)} {acc : Array Value} (hk : kvs.map (·.1) = ls.map fun t => Sum.inr (tx t)) (r : KV kvs vs) (h : ItemsOf (SS.KeyAt vs) acc vs.length) : StrsAre acc.toList (ls.map tx) := by
  have e0 : vs.map (·.1) = (ls.map tx).map Sum.inr := by rw [kv_fst r, hk, List.map_map]; rfl
  have el : vs.length = ls.length := by have := congrArg List.length e0; simpa using this
  refine strs_pt _ _ (by rw [Array.length_toList, h.1, el, List.length_map]) fun i v e => ?_
  obtain ⟨k, x, g1, g2⟩ := h.2 i v (by rw [← Array.getElem?_toList]; exact e)
  have g3 : (vs.map (·.1))[i]? = some k := by rw [List.getElem?_map, g1]; rfl
  rw [e0, List.getElem?_map] at g3
  cases g4 : (ls.map tx)[i]? with
  | none => rw [g4] at g3; cases g3
  | some y =>
    rw [g4] at g3
    obtain rfl : Sum.inr y = k := Option.some.inj g3
    rcases keyIs_shape g2 with ⟨j, t, q1, _⟩ | ⟨z, t, q1, q2⟩
    · cases q1
    · cases q1
      exact ⟨y, t, rfl, q2⟩
end
end L2

set_option Elab.async false
set_option linter.all false
set_option maxRecDepth 100000
set_option maxHeartbeats 4000000
namespace L2
open PySem PyProof.Rows PySem.Spec
namespace SE
section
variable {prog : Program} {w : World} {A : Around} {E : Value → Shared → Prop} {s : Shared}
theorem call_ofTuI {l : Addr} {its : Array Value} {ls : List (List Nat)} {Q : Value → Shared → Prop} (hh : A.handled = none) (hl : s.heap.IsTuple l its) (hv : ∀ i v, its[i]? = some v → ∃ t, v = Value.str (tx (ls.getD i [])) t) (hn : its.size + 1 < scanBound) (hnl : its.size ≤ ls.length)
    (h : ∀ (h' : Heap) (tk : Nat), Of w h' s.heap.objs.size ls its.size → (∀ b o, s.heap.get? b = some o → h'.get? b = some o) → Q (.ref s.heap.objs.size) { s with heap := h', toks := tk }) :
    wpAny (model prog w) A (call (.type "set") [.ref l]) Q E s := by
  obtain ⟨mc, mt, f0⟩ := F.called_set.mro
  have f1 := F.called_set.made; have f2 := F.called_set.sub; have f3 := F.called_set.notType; have f4 := F.called_set.canCreate; have f5 := F.typeCall_set_1 (.ref l)
  refine wpAny_call (codeAny_of_tree (show wpAny _ _ (callAny (.type "set") _) _ _ _ from wpAny_pure ⟨Code.quiet_builtin _ (by decide +kernel), codeAny_builtin F.entry_type_call ?_⟩))
  rw [Around.under_plain (weight_type_call_type "set" [.ref l] []) rfl]
  repeat (any_goals (first | wp_step | assumption))
  refine codeAny_mono (SS.code_new1 (.ref l) (E := E) (Q₁ := fun ob s1 => ob = .ref s.heap.objs.size ∧ s1 = { s with heap := s.heap.push (SS.freshO w) }) ⟨rfl, rfl⟩) fun r s1 hr => ?_
  cases r with
  | error e => exact hr
  | ok fl =>
    cases fl with
    | ret ob =>
      obtain ⟨rfl, rfl⟩ := hr
      generalize hob : SS.freshO w = ob
      have hD : (s.heap.push ob).get? s.heap.objs.size = some ob := Heap.get?_push_size _ (by rw [← hob]; rfl)
      have hT : Shared.TypeIs { s with heap := s.heap.push ob } (.ref s.heap.objs.size) "set" := ⟨_, hD, by rw [← hob]; rfl⟩
      have f6 := F.called_set.init.lookup; have f7 := F.called_set.init.bind (.ref s.heap.objs.size)
      repeat (any_goals (first | wp_step | assumption))
      refine codeAny_mono (codeAny_call_builtin (R := wants (fun r s2 => r = .none ∧ ∃ h' tk, s2 = { s with heap := h', toks := tk } ∧ Of w h' s.heap.objs.size ls its.size ∧ ∀ b o, s.heap.get? b = some o → h'.get? b = some o) E)
        F.called_set.init.plain F.entry_set_init (check_set_init_1 hT ?_)) fun r2 s2 hr2 => ?_
      · obtain ⟨⟨oc, od, odt, osl⟩, hol, hcl, nl, hdl⟩ := id hl
        simp only at hcl hdl
        subst hcl hdl
        have hol' : (s.heap.push ob).get? l = some { cls := .type "tuple", dict := od, data := .seq its nl, slots := osl } := Heap.get?_push_of_some _ hol
        have f8 := F.sub_tuple_set; have f9 := F.sub_tuple_frozenset
        have f10 : (Value.type "tuple" == Value.type "dict") = false := by decide
        have hl1 : (s.heap.push ob).IsTuple l its := ⟨_, hol', rfl, nl, rfl⟩
        subst hob
        unfold Builtin.«set.__init__» noKeywords Builtin.Frozenset.updateFrom
        generalize hPI : pyIter = PI
        wp_walk
        subst hPI
        refine wpAny_pyIter_tuple hl1 ?_
        refine wpAny_bind (wpAny_runValue ?_)
        have hlt : l < s.heap.objs.size := Heap.lt_size hol
        have hh3 : A.in1.in1.in1.handled = none := by simp [hh]
        have hsz : (s.heap.push (SS.freshO w)).objs.size = s.heap.objs.size + 1 := Heap.size_push _ _
        have hne : l ≠ (s.heap.push (SS.freshO w)).objs.size := by rw [hsz]; exact Nat.ne_of_lt (Nat.lt_succ_of_lt hlt)
        have hfp : s.heap.objs.size ∉ [(s.heap.push (SS.freshO w)).objs.size, l] := by
          rw [hsz]
          intro z
          rcases List.mem_cons.mp z with e | e
          · exact Nat.ne_of_lt (Nat.lt_succ_self _) e
          · exact Nat.ne_of_gt hlt (List.mem_singleton.mp e)
        refine loopI ((Walks.tuple hh3 _ l hne its).toS) (D := s.heap.objs.size) hfp ls hv hn hnl (its.size - 0) 0 _ (by omega) (Nat.zero_le _) ⟨⟨_, Heap.get?_push_size _ rfl, rfl, rfl⟩, hl1.push _⟩ ?_ fun s3 mv x3 => ?_
        · have hg : ((s.heap.push (SS.freshO w)).push { cls := .type "tuple_iterator", data := .fields #[.ref l, .int 0 0] }).get? s.heap.objs.size = some (SS.freshO w) := Heap.get?_push_of_some _ hD
          exact ⟨[], (SS.Is.fresh s.heap).at fun o e => Heap.get?_push_of_some _ e, fun x => by simp, Nat.zero_le _⟩
        · obtain ⟨h3, g3, d3, tk3, os3⟩ := s3
          obtain rfl : g3 = s.gens := mv.gens
          obtain rfl : d3 = s.drawn := mv.drawn
          obtain rfl : os3 = s.os := mv.os
          refine wpAny_pure (show wpAny _ _ (ret Value.none) _ _ _ from wpAny_pure ⟨rfl, h3, tk3, rfl, x3, fun c o e => ?_⟩)
          have hc := Heap.lt_size e
          exact mv.heap c o (show c ∉ [s.heap.objs.size, (s.heap.push (SS.freshO w)).objs.size] by
            rw [hsz]
            intro z
            rcases List.mem_cons.mp z with e | e
            · exact Nat.ne_of_lt hc e
            · exact Nat.ne_of_lt (Nat.lt_succ_of_lt hc) (List.mem_singleton.mp e)) (Heap.get?_push_of_some _ (Heap.get?_push_of_some _ e))
      · cases r2 with
        | error e => exact hr2
        | ok fl2 =>
          cases fl2 with
          | ret r =>
            obtain ⟨rfl, h3, tk, rfl, x3, k3⟩ := hr2
            repeat (any_goals (first | wp_step | assumption))
            exact h _ _ x3 k3
          | _ => exact hr2.elim
    | _ => exact hr.elim
end
end SE
section
variable {X : Cx}
theorem call_setTuI (hc : X.calm = true) : CallR X (.type "set") (fun xs H Q => ∃ (p : Addr) (ls : List (List Nat)), xs = [.ref p] ∧ SqT X.K H p (ls.map T) ∧ ls.length + 1 < 4096 ∧ ∀ D, H D = none → Q (.ref D) (upd H D (SetI X.w D (uniq ls)))) := by
  intro pins s σ H xs us Q I r h
  obtain ⟨p, ls, rfl, hq, hz, q⟩ := h
  obtain ⟨u, rfl, ru⟩ := vals1 r
  cases ru
  obtain ⟨its, rv, pl, _⟩ := I.tuple hq
  have hlen := rv.length
  rw [List.length_map] at hlen
  refine SE.call_ofTuI (I.ok.hd hc) pl (ls := ls) (fun i v e => str_at rv (by simpa using e)) (by rw [List.size_toArray]; unfold scanBound; omega) (by rw [List.size_toArray]; omega) fun h' tk x k => ?_
  obtain ⟨ms, i1, i2, _⟩ := x
  have x : SS.Is X.w h' s.heap.objs.size ((uniq ls).map tx) := by
    refine is_perm i1 ((List.perm_ext_iff_of_nodup (is_nodup i1) (nodup_tx (uniq_nodup ls))).mpr fun y => ?_)
    rw [i2, mem_tx, mem_tx, uniq_mem, List.size_toArray, ← hlen, List.take_length]
  have hf : H s.heap.objs.size = none := I.hok.fresh (Nat.le_refl _)
  refine ⟨.ref s.heap.objs.size, _, I.laid (t' := tk) k (Nat.le_refl _) (o := SetI X.w s.heap.objs.size (uniq ls)) ⟨x, x.there, fun h1 h2 x1 kk => x1.at kk⟩, rfl, q _ hf⟩
end
end L2

set_option Elab.async false
set_option linter.all false
set_option maxRecDepth 100000
set_option maxHeartbeats 4000000
namespace L2
open PySem PyProof.Rows PySem.Spec
section
variable {X : Cx}
end
end L2

set_option Elab.async false
set_option linter.all false
set_option maxRecDepth 100000
set_option maxHeartbeats 4000000
namespace L2
open PySem PyProof.Rows PySem.Spec
section
variable {X : Cx}
theorem eqT_tuples {pins : List (Addr × Obj)} {σ : St} {H : Hp} {s : Shared} {A : Around} (I : Inv X pins σ H s) (hu : A.units < cLine) {D F : Addr} {ls : List (List Nat)} (h1 : SqT X.K H D (ls.map T)) (h2 : SqT X.K H F (ls.map T)) : SeqAt.EqAt A s (.ref D) (.ref F) true := by
  by_cases hne : D = F
  · subst hne
    exact SeqAt.EqAt.same _
  obtain ⟨its, r, pl, _⟩ := I.tuple h1
  obtain ⟨its2, r2, pl2, _⟩ := I.tuple h2
  have l1 := r.length
  have l2 := r2.length
  have z := SeqAt.EqAt.of_refs hne (SeqAt.RcAt.tuples (A := A) (s := s) (e := fun _ => true) pl pl2 hu fun j g1 g2 => ?_)
  · rw [show ((List.range (min its.toArray.size its2.toArray.size)).all (fun _ => true) && its.toArray.size == its2.toArray.size) = true by rw [show its.toArray.size = its2.toArray.size by rw [List.size_toArray, List.size_toArray]; omega]; simp] at z
    exact z
  · have hj : j < ls.length := by
      rw [List.length_map] at l1
      rw [List.size_toArray] at g1
      omega
    obtain ⟨u', e1, q1⟩ := r.get (i := j) (x := T ls[j]) (by rw [List.getElem?_map, List.getElem?_eq_getElem hj]; rfl)
    obtain ⟨w', e2, q2⟩ := r2.get (i := j) (x := T ls[j]) (by rw [List.getElem?_map, List.getElem?_eq_getElem hj]; rfl)
    have e := eqAt_V (A := A.in1) (s := s) q1 q2 rfl rfl
    rw [show eqV (T ls[j]) (T ls[j]) = true from by show (tx ls[j] == tx ls[j]) = true; rw [beq_iff_eq]] at e
    have a1 : its.toArray[j] = u' := by
      rw [List.getElem_toArray]
      exact (List.getElem?_eq_some_iff.mp e1).2
    have a2 : its2.toArray[j] = w' := by
      rw [List.getElem_toArray]
      exact (List.getElem?_eq_some_iff.mp e2).2
    rw [a1, a2]
    exact e
theorem op_ne_P (hu : X.A.units + 1 < cLine) : OpR X (compareOp .NotEq) (fun x y H Q => ((x = .non ∧ y = .non) ∨ ∃ (p b D F : Addr) (kd : List Nat) (ls : List (List Nat)), x = .ref p ∧ y = .ref b ∧ SqT X.K H p [T kd, .ref D] ∧ SqT X.K H b [T kd, .ref F] ∧ SqT X.K H D (ls.map T) ∧ SqT X.K H F (ls.map T)) ∧ Q (.bl false) H) := by
  intro pins s σ H x y v u Q I rx ry h
  obtain ⟨⟨rfl, rfl⟩ | ⟨p, b, D, F, kd, ls, rfl, rfl, h1, h2, h3, h4⟩, q⟩ := h
  · exact op_ne pins s σ H _ _ v u Q I rx ry ⟨rfl, q⟩
  cases rx
  cases ry
  obtain ⟨its, r, pl, _⟩ := I.tuple h1
  obtain ⟨its2, r2, pl2, _⟩ := I.tuple h2
  obtain ⟨u1, w1, rfl, k1, rfl⟩ := vals2 r
  obtain ⟨u2, w2, rfl, k2, rfl⟩ := vals2 r2
  refine SeqAt.RcNeAt.tuples (e := fun _ => true) pl pl2 (Nat.lt_of_succ_lt hu) (fun j g1 g2 => ?_) _ _ _ _ ⟨.bl false, H, I, rfl, q⟩
  match j, g1 with
  | 0, _ =>
    have e := eqAt_V (A := X.A.in1) (s := s) k1 k2 rfl rfl
    rw [show eqV (T kd) (T kd) = true from by show (tx kd == tx kd) = true; rw [beq_iff_eq]] at e
    exact e
  | 1, _ => exact eqT_tuples I hu h3 h4
  | j + 2, g => exact absurd g (by simp)
end
end L2

set_option Elab.async false
set_option linter.all false
set_option maxRecDepth 100000
set_option maxHeartbeats 4000000

namespace L2
open PySem PyProof.Rows PySem.Spec
theorem raiseXI {P : Program} {w : World} {K : PySem.W.Frag} {mg : Str → Option Value} {base : Heap} {N : List Str} {qual : Str} {scope : Scope} {f : Addr} {cdv : Value} {A : Around} {outer : List Env} {s : Shared} {H : Hp} {E : XK} {C : Addr}
    (pins : List (Addr × Obj)) (σ : St) (H1 : Hp) (s1 : Shared) (a dx : Addr) (I : Inv (cxOf (CX2 P w) P w K mg base N qual scope f cdv A outer s H E) pins σ H1 s1)
    (hx : ∀ E' : Value → Shared → Prop, wpAny (model P w) (cxOf (CX2 P w) P w K mg base N qual scope f cdv A outer s H E).A (leaving (cxOf (CX2 P w) P w K mg base N qual scope f cdv A outer s H E).env (.ref a)) (fun _ s'' => Fly P w outer H s a (.ref C) H1 s'' ∧ DictIs s''.heap a (some dx)) E' s1)
    (q : E (.ref C) (some dx) H1) : (cxOf (CX2 P w) P w K mg base N qual scope f cdv A outer s H E).xe (.ref a) s1 := thn (hx _) fun _ s'' Z => ⟨a, .ref C, some dx, H1, rfl, Z.1, Z.2, q⟩
section
variable {X : Cx}
theorem call_isinstD (K : PySem.W.Frag) (hK : X.K = K) : CallR X (.builtin "isinstance") (fun xs H Q => ∃ (a C : Addr) (od : Option Addr) (c : Value) (v : V) (b : Bool), xs = [.ref a, v] ∧ clsV c = some v ∧ H a = some (ExD a (.ref C) od) ∧ Knd K C ∧ PySem.W.kitOne K (.ref C) c = some b ∧ Q (.bl b) H) := by
  subst hK
  intro pins s σ H xs us Q I r h
  obtain ⟨a, C, od, c, v, b, rfl, hv, ha, k, e, q⟩ := h
  obtain ⟨u, w', rfl, ru, rw'⟩ := vals2 r
  cases ru
  obtain rfl := clsV_rel hv rw'
  obtain ⟨p, _⟩ := (show ObjOk X.prog X.w H s.heap a (ExD a (.ref C) od) from I.hok a _ ha)
  exact PySem.W.kia_one (EX.kit k) I.kIn (let ⟨o, h1, h2, _⟩ := p.1; ⟨o, h1, h2⟩) e (fun z => nomatch z) fun tk => ⟨.bl b, H, I.tok tk, rfl, q⟩
theorem call_isinstDs (K : PySem.W.Frag) (hK : X.K = K) : CallR X (.builtin "isinstance") (fun xs H Q => ∃ (a C tp : Addr) (od : Option Addr) (cs : List Addr) (b : Bool), xs = [.ref a, .ref tp] ∧ H tp = some (.tup (cs.map V.ref)) ∧ H a = some (ExD a (.ref C) od) ∧ Knd K C ∧ PySem.W.kitAny K (.ref C) (cs.map Value.ref) = some b ∧ Q (.bl b) H) := by
  subst hK
  intro pins s σ H xs us Q I r h
  obtain ⟨a, C, tp, od, cs, b, rfl, ht, ha, k, e, q⟩ := h
  obtain ⟨u, w', rfl, ru, rw'⟩ := vals2 r
  cases ru
  cases rw'
  obtain ⟨p, _⟩ := (show ObjOk X.prog X.w H s.heap a (ExD a (.ref C) od) from I.hok a _ ha)
  obtain ⟨_, its, rv, ⟨⟨oc, od2, odt, osl⟩, ho, hc, n, hd⟩⟩ := (show ObjOk X.prog X.w H s.heap tp (.tup (cs.map V.ref)) from I.hok tp _ ht)
  obtain rfl := vals_refs rv
  simp only at hc hd
  subst hc hd
  exact PySem.W.kia_tup (EX.kit k) I.kIn (let ⟨o, h1, h2, _⟩ := p.1; ⟨o, h1, h2⟩) ho e (fun z => nomatch z) fun tk => ⟨.bl b, H, I.tok tk, rfl, q⟩
end
namespace EX
open PySem.W PySem.Calls PySem.Builtin PySem.Builtin.ObjectAttr PySem.Builtin.Getset_descriptor
variable {prog : Program} {w : World} {A : Around} {E : Value → Shared → Prop} {s : Shared} {K : PySem.W.Frag} {a C : Addr}
theorem fld {name : Str} {expr : Bool} {oa od : Obj} {v : Value} {Q : Value → Shared → Prop} (X : K.In s.heap) (k : Knd K C) (hn : findIn K (.ref C) name = some none) (hh : hasDictIn K C = true) (I : PySem.W.InstAt s.heap a oa C (some od))
    (hl : lookIn name od = some (some v)) (hv : handedIn v = true) (h : Q v { s with toks := s.toks + 1 }) : wpAny (model prog w) A (getAttr (.ref a) name expr) Q E s := by
  have p : ∃ o, s.heap.get? a = some o ∧ o.cls = .ref C := ⟨oa, I.at_, I.cls⟩
  have L3 := looks_find (M := model prog w) X I (findObj_own hh hn rfl hl)
  obtain ⟨h1, g, d, t, os⟩ := s
  have L0 := ty (M := model prog w) p
  have L1 := looks_findIn (M := model prog w) X k.ga
  have L2 := looks_findIn (M := model prog w) X k.hk
  have L4 := looks_mroIn (M := model prog w) X k.hb
  unfold getAttr getAttrBy
  refine wpAny_bind (wpAny_mkText (wpAny_holding (wpAny_bind (L0.at (wpAny_bind (L1.at ?_))))))
  dsimp only
  have x0 : (Value.builtin "BaseException.__getattribute__" == Value.builtin "object.__getattribute__") = false := by decide +kernel
  rw [if_neg (by rw [x0, Bool.and_false]; exact Bool.false_ne_true)]
  unfold getAttrByItsOwn hookBefore
  refine wpAny_bind (L2.at (wpAny_bind (wpAny_attempt (wpAny_holding ?_))))
  unfold callGetattribute boundAndCalled
  rw [if_neg (show ¬ (expr && onTheHeap (Value.builtin "BaseException.__getattribute__")) = true by rw [show onTheHeap (Value.builtin "BaseException.__getattribute__") = false from rfl, Bool.and_false]; exact Bool.false_ne_true)]
  refine wpAny_bind (wpAny_of_eq (F.attr_ValueError.ga.bind (.ref a)) ?_)
  have b1 : builtinKind "BaseException.__getattribute__" = some .slot := by decide +kernel
  have b2 : splitId "BaseException.__getattribute__" = some ("BaseException", "__getattribute__") := by decide +kernel
  have b3 := F.args_bexc_ga (.ref a) (.str name t)
  refine wpAny_call (codeAny_call_builtin F.attr_ValueError.ga.plain F.entry_bexc_ga ?_)
  simp only [checkBuiltinCall, b1, b2]
  unfold isInstance
  refine wpAny_bind (wpAny_bind (L0.at (L4.at ?_)))
  rw [if_neg (by decide)]
  refine wpAny_of_eq b3 ?_
  show wpAny _ A.in1 («object.__getattribute__» ⟨[.ref a, .str name t], []⟩) _ _ _
  unfold «object.__getattribute__» slotArgs attrName
  iterate 8 lk
  refine wpAny_bind (wpAny_pure (wpAny_bind (L0.at (wpAny_bind (L3.at ?_)))))
  refine wpAny_pure ?_
  show wpAny _ _ (handedOut v) _ _ _
  exact handed_on hv h
end EX
section
variable {X : Cx}
noncomputable def tXFld (K : PySem.W.Frag) (f : Str) (ta : TE) : TE := fun σ H Q => ta σ H fun x H1 => ∃ (a C dx : Addr) (fs : List (Str × V)) (v : V), x = .ref a ∧ H1 a = some (ExD a (.ref C) (some dx)) ∧ H1 dx = some (.xd fs) ∧ Knd K C ∧ NoAttr K C f ∧ PySem.W.hasDictIn K C = true ∧ fs.lookup f = some v ∧ Q v H1
theorem pe_xfld (K : PySem.W.Frag) (hK : X.K = K) {e : Expr} {f : Str} {ta : TE} {pos : Pos} (he : PE X e ta) (hb : attributeBase e f X.env (eval e X.env) = eval e X.env := by rfl) : PE X (.Attribute e f pos) (tXFld K f ta) := by
  subst hK
  intro pins s σ H Q I h
  refine attr_of hb (thn (he pins s σ H _ I h) fun u s1 ⟨x, H1, I1, rx, a, C, dx, fs, v, ex, ea, ed, k, n, hh, l, q⟩ => ?_)
  subst ex
  obtain rfl : u = Value.ref a := rx
  obtain ⟨p, _⟩ := (show ObjOk X.prog X.w H1 s1.heap a (ExD a (.ref C) (some dx)) from I1.hok a _ ea)
  obtain ⟨⟨oa, e1, c1, vs, f1⟩, ⟨oa2, e2, d2⟩⟩ := p
  rw [e1] at e2
  cases e2
  obtain ⟨mA, hn, r⟩ := (show ObjOk X.prog X.w H1 s1.heap dx (.xd fs) from I1.hok dx _ ed)
  obtain ⟨od, ho, hl⟩ := lookIn_ns hn
  obtain ⟨u, hu, ru⟩ := RelO.some_of (v := v) (o := mA f) (by rw [← l]; exact r f)
  have hcl : PySem.W.notCls oa = true := by
    unfold PySem.W.notCls
    rw [f1]
  exact EX.fld I1.kIn k n hh ⟨e1, c1, hcl, by rw [d2]; exact ho⟩ (by rw [hl, hu]) (handed_of ru) ⟨v, H1, I1.tok _, ru, q⟩
theorem eqP_papers {pins : List (Addr × Obj)} {σ : St} {H : Hp} {s : Shared} {A : Around} (I : Inv X pins σ H s) (hu : A.units + 1 < cLine) {p b D F : Addr} {kd : List Nat} {ls : List (List Nat)} (h1 : SqT X.K H p [T kd, .ref D]) (h2 : SqT X.K H b [T kd, .ref F]) (h3 : SqT X.K H D (ls.map T)) (h4 : SqT X.K H F (ls.map T)) : SeqAt.EqAt A s (.ref p) (.ref b) true := by
  by_cases hne : p = b
  · subst hne
    exact SeqAt.EqAt.same _
  obtain ⟨its, r, pl, _⟩ := I.tuple h1
  obtain ⟨its2, r2, pl2, _⟩ := I.tuple h2
  obtain ⟨u1, w1, rfl, k1, rfl⟩ := vals2 r
  obtain ⟨u2, w2, rfl, k2, rfl⟩ := vals2 r2
  refine SeqAt.EqAt.of_refs hne (SeqAt.RcAt.tuples (A := A) (s := s) (e := fun _ => true) pl pl2 (Nat.lt_of_succ_lt hu) fun j g1 g2 => ?_)
  match j, g1 with
  | 0, _ =>
    have e := eqAt_V (A := A.in1) (s := s) k1 k2 rfl rfl
    rw [show eqV (T kd) (T kd) = true from by show (tx kd == tx kd) = true; rw [beq_iff_eq]] at e
    exact e
  | 1, _ => exact eqT_tuples I hu h3 h4
  | j + 2, g => exact absurd g (by simp)
theorem op_eq_PB (K : PySem.W.Frag) (hK : X.K = K) (hu : X.A.units + 2 < cLine) : OpR X (compareOp .Eq) (fun x y H Q => ∃ (t1 t2 p b D F : Addr) (c : Bool) (kd : List Nat) (ls : List (List Nat)), x = .ref t1 ∧ y = .ref t2 ∧ SqT K H t1 [.ref p, .bl c] ∧ SqT K H t2 [.ref b, .bl c] ∧ SqT K H p [T kd, .ref D] ∧ SqT K H b [T kd, .ref F] ∧ SqT K H D (ls.map T) ∧ SqT K H F (ls.map T) ∧ Q (.bl true) H) := by
  subst hK
  intro pins s σ H x y v u Q I rx ry h
  obtain ⟨t1, t2, p, b, D, F, c, kd, ls, rfl, rfl, g1, g2, h1, h2, h3, h4, q⟩ := h
  cases rx
  cases ry
  obtain ⟨its, r, pl, _⟩ := I.tuple g1
  obtain ⟨its2, r2, pl2, _⟩ := I.tuple g2
  obtain ⟨u1, w1, rfl, rfl, k1⟩ := vals2 r
  obtain ⟨u2, w2, rfl, rfl, k2⟩ := vals2 r2
  refine SeqAt.RcAt.tuples (e := fun _ => true) pl pl2 (Nat.lt_of_succ_lt (Nat.lt_of_succ_lt hu)) (fun j g1 g2 => ?_) _ _ _ _ ⟨.bl true, H, I, rfl, q⟩
  match j, g1 with
  | 0, _ => exact eqP_papers I hu h1 h2 h3 h4
  | 1, _ =>
    have e := eqAt_V (A := X.A.in1) (s := s) k1 k2 rfl rfl
    rw [show eqV (.bl c) (.bl c) = true from by show (c == c) = true; rw [beq_iff_eq]] at e
    exact e
  | j + 2, g => exact absurd g (by simp)
end
set_option genInjectivity false in
structure Cxi (P : Program) (w : World) (K : PySem.W.Frag) (mg : Str → Option Value) (base : Heap) (x : Str) (C : Addr) (F : Str) (j : Nat) (ps : List Str) : Prop where
  ex : ∃ f fd, FnOk P w K mg base (CX2 P w) j f fd ps (spInitE C F) ∧ ExcI K C f ∧ mg x = some (.ref C) ∧ PySem.W.keepIn K (.ref C) = true ∧ Binds K fd ps []
theorem ps_rai {X : Cx} {x F : Str} {C : Addr} {k j : Nat} {ps : List Str} {e₀ : Expr} {rest : List Expr} {np cpos pos : Pos} {t : TA} {E : XK} (c : Cxi X.prog X.w X.K X.mg X.base x C F j ps) (O : Own X) (hc : X.calm = true) (hr : Room k X.A)
    (hE : ∀ (pins : List (Addr × Obj)) (σ : St) (H : Hp) (s : Shared) (a dx : Addr), Inv X pins σ H s → (∀ E' : Value → Shared → Prop, wpAny (model X.prog X.w) X.A (leaving X.env (.ref a)) (fun _ s'' => Fly X.prog X.w X.outer X.H₀ X.s₀ a (.ref C) H s'' ∧ DictIs s''.heap a (some dx)) E' s) → E (.ref C) (some dx) H → X.xe (.ref a) s)
    (ha : PA X (e₀ :: rest) t) (hjk : j + 1 ≤ k := by decide) (hg : Gl X x := by rfl) (hd : (x == ("__debug__" : Str)) = false := by decide)
    (he : starEach (e₀ :: rest) X.env = (false, eval e₀ X.env) :: starEach rest X.env := by rfl) (hpl : (backTo cpos (starEach rest X.env)).any (·.1) = false := by rfl) :
    PS X (.Raise (some (.Call (.Name x np) (e₀ :: rest) [] cpos)) none pos) (tRaiseI E C F t) := by
  obtain ⟨f, fd, Fn, ci, hm, kp, hb⟩ := c.ex
  exact ps_raiseI hm ci kp O hc Fn pass2 hr hb hE ha hjk hg hd he hpl
end L2

set_option linter.all false
namespace L2
open PySem PySem.Spec PyProof.Rows
section
variable {X : Cx}
theorem op_eq_TU (hu : X.A.units + 1 < cLine) : OpR X (compareOp .Eq) (fun x y H Q => ∃ (p b : Addr) (ls : List (List Nat)), x = .ref p ∧ y = .ref b ∧ SqT X.K H p (ls.map T) ∧ SqT X.K H b (ls.map T) ∧ Q (.bl true) H) := by
  intro pins s σ H x y v u Q I rx ry h
  obtain ⟨p, b, ls, rfl, rfl, h1, h2, q⟩ := h
  cases rx
  cases ry
  obtain ⟨its, r, pl, _⟩ := I.tuple h1
  obtain ⟨its2, r2, pl2, _⟩ := I.tuple h2
  have l1 := r.length
  have l2 := r2.length
  refine SeqAt.RcAt.tuples (e := fun _ => true) pl pl2 (Nat.lt_of_succ_lt hu) (fun j g1 g2 => ?_) _ _ _ _ ?_
  · have hj : j < ls.length := by
      rw [List.length_map] at l1
      rw [List.size_toArray] at g1
      omega
    obtain ⟨u', e1, q1⟩ := r.get (i := j) (x := T ls[j]) (by rw [List.getElem?_map, List.getElem?_eq_getElem hj]; rfl)
    obtain ⟨w', e2, q2⟩ := r2.get (i := j) (x := T ls[j]) (by rw [List.getElem?_map, List.getElem?_eq_getElem hj]; rfl)
    have e := eqAt_V (A := X.A.in1) (s := s) q1 q2 rfl rfl
    rw [show eqV (T ls[j]) (T ls[j]) = true from by show (tx ls[j] == tx ls[j]) = true; rw [beq_iff_eq]] at e
    have a1 : its.toArray[j] = u' := by
      rw [List.getElem_toArray]
      exact (List.getElem?_eq_some_iff.mp e1).2
    have a2 : its2.toArray[j] = w' := by
      rw [List.getElem_toArray]
      exact (List.getElem?_eq_some_iff.mp e2).2
    rw [a1, a2]
    exact e
  · rw [show ((List.range (min its.toArray.size its2.toArray.size)).all (fun _ => true) && its.toArray.size == its2.toArray.size) = true by rw [show its.toArray.size = its2.toArray.size by rw [List.size_toArray, List.size_toArray]; omega]; simp]
    exact ⟨.bl true, H, I, rfl, q⟩
end
end L2

set_option Elab.async false
set_option linter.all false
set_option maxRecDepth 100000
set_option maxHeartbeats 4000000
namespace L2
open PySem PyProof.Rows PySem.Spec
section
variable {X : Cx}
theorem sorted_ofS {pins : List (Addr × Obj)} {σ : St} {H : Hp} {s : Shared} {v : Value} {ls : List (List Nat)} {Q : VK} (h64 : ls.length < 64)
    (hc : ∀ (A' : Around) (Q' : List Value → Shared → Prop), A'.handled = X.A.handled → (∀ (vs : List Value) (ss : List Str) (s1 : Shared), StrsAre vs ss → ss.Perm (ls.map tx) → Inv X pins σ H s1 → Q' vs s1) → wpAny (model X.prog X.w) A' (collect v) Q' X.xe s)
    (q : ∀ (ms : List (List Nat)) (D : Addr), H D = none → ms.Perm ls → ms.Pairwise (fun a b => ¬ b < a) → Q (.ref D) (upd H D (.lst (ms.map T)))) :
    wpAny (model X.prog X.w) X.A (call (.builtin "sorted") [v]) (EP X pins σ Q) X.xe s := by
  have hz : ls.length ≤ sizeLine := by rw [sizeLine_eq]; omega
  refine Calls.call_function_entry kind_sorted plain_sorted entry_sorted (args_sorted1 _) ?_
  unfold Builtin.«sorted»
  refine wpAny_bind (m := checkCount "sorted" 1 1 _) (wpAny_pure (wpAny_bind (hc _ _ (by simp) fun vs ss s1 hS hp I1 => wpAny_bind (wpAny_newList ?_ (by rw [hS.length, hp.length_eq, List.length_map]; exact hz)))))
  have e2 : (s1.heap.push (seqObj "list" vs.toArray 0)).get? s1.heap.objs.size = some (seqObj "list" vs.toArray 0) := Heap.get?_push_size _ rfl
  have hvl : vs.length = ls.length := by rw [hS.length, hp.length_eq, List.length_map]
  show wpAny _ _ _ _ _ { s1 with heap := s1.heap.push (seqObj "list" vs.toArray 0) }
  have key : ∀ (out : Array Value) (ss' : List Str), StrsAre out.toList ss' → ss'.Perm ss → sortedS ss' = true → EP X pins σ Q (.ref s1.heap.objs.size) { s1 with heap := sortedHeap (s1.heap.push (seqObj "list" vs.toArray 0)) s1.heap.objs.size vs out } := fun out ss' b1 b2 b3 => by
    obtain ⟨e, he⟩ := sortedHeap_at (out := out) e2
    have em : (ss'.map fun x => x.cps.toList).map tx = ss' := by
      rw [List.map_map]
      conv => rhs; rw [← List.map_id ss']
      exact List.map_congr_left fun x _ => tx_eta x
    have hp' : (ss'.map fun x => x.cps.toList).Perm ls := by
      have y := (b2.trans hp).map fun x => x.cps.toList
      rw [List.map_map, show (fun x => x.cps.toList) ∘ tx = id from funext tx_cps, List.map_id] at y
      exact y
    refine ⟨.ref _, _, I1.laid (t' := s1.toks) (fun b o eo => ?_) (Nat.le_refl _) (o := .lst ((ss'.map fun x => x.cps.toList).map T)) ⟨?_, out.toList, e, strs_back b1, by simpa using he⟩, rfl, q _ _ (I1.hok.fresh (Nat.le_refl _)) hp' (sorted_pw _ (by rw [em]; exact b3))⟩
    · have hlt := Heap.lt_size eo
      rw [sortedHeap_old (Nat.ne_of_lt hlt) (by rw [size_push']; exact Nat.lt_succ_of_lt hlt)]
      exact Heap.get?_push_of_some _ eo
    · rw [List.length_map, hp'.length_eq]
      exact hz
  refine wpAny_bind (wpAny_holding (wpAny_call_entry slot_list_sort ⟨_, e2, rfl⟩ entry_list_sort (list_sort_treeK strKind_oneLt e2 hS.keysOf (fun v1 v2 r e => ?_) (by omega) fun st' a1 a2 => ⟨_, rfl, wpAny_pure ⟨_, rfl, ?_⟩⟩) (args_list_sort _)))
  · have hS2 := hS
    rw [e] at hS2
    exact keyKind_strs hS2
  · obtain ⟨ss', b1, b2, b3⟩ := sorted_out_str hS a1 a2
    exact key _ ss' b1 b2 b3
theorem call_sortedIS (hc : X.calm = true) : CallR X (.builtin "sorted") (fun xs H Q => ∃ (p : Addr) (ls : List (List Nat)), xs = [.ref p] ∧ H p = some (SetI X.w p ls) ∧ ls.length < 64 ∧ ∀ (ms : List (List Nat)) (D : Addr), H D = none → ms.Perm ls → ms.Pairwise (fun a b => ¬ b < a) → Q (.ref D) (upd H D (.lst (ms.map T)))) := by
  intro pins s σ H xs us Q I r h
  obtain ⟨p, ls, rfl, hq, hz, q⟩ := h
  obtain ⟨u, rfl, ru⟩ := vals1 r
  cases ru
  have hs : sizeLine = 16777216 := sizeLine_eq
  refine sorted_ofS hz (fun A' Q' hA hQ => SS.collect_ok (by rw [hA]; exact I.ok.hd hc) (setI_ok I hq) (by rw [List.length_map]; omega) fun s' vs ss kp g1 g2 e1 e2 => hQ vs ss s' e1 e2 ?_) q
  have hg : AllBare s'.gens := by rw [g1]; exact I.bare
  exact I.call' (ch := []) g2 (Un.kept kp) (I.hok.kept kp) hg fun _ z => nomatch z
theorem call_sortedDS (hc : X.calm = true) : CallR X (.builtin "sorted") (fun xs H Q => ∃ (p : Addr) (ls : List (List Nat)) (kvs : List (Key × V)), xs = [.ref p] ∧ H p = some (.dK kvs) ∧ kvs.map (·.1) = ls.map (fun t => Sum.inr (tx t)) ∧ ls.length < 64 ∧ ∀ (ms : List (List Nat)) (D : Addr), H D = none → ms.Perm ls → ms.Pairwise (fun a b => ¬ b < a) → Q (.ref D) (upd H D (.lst (ms.map T)))) := by
  intro pins s σ H xs us Q I r h
  obtain ⟨p, ls, kvs, rfl, hq, hk, h64, q⟩ := h
  obtain ⟨u, rfl, ru⟩ := vals1 r
  cases ru
  obtain ⟨z, hd, vs, rel, dd⟩ := dk_of I.hok hq
  obtain ⟨o, es, ep, rest⟩ := dd
  have hl : ls.length = kvs.length := by have := congrArg List.length hk; simpa using this.symm
  refine sorted_ofS h64 (fun A' Q' hA hQ => SS.dcollect_ok (vs := vs) (ep := ep) (by rw [hA]; exact I.ok.hd hc) hd ⟨o, es, rest⟩ (by rw [← rel.length]; exact z) fun s' acc kp g1 g2 e1 => hQ _ (ls.map tx) s' (keys_strs hk rel e1) (List.Perm.refl _) ?_) q
  have hg : AllBare s'.gens := by rw [g1]; exact I.bare
  exact I.call' (ch := []) g2 (Un.kept kp) (I.hok.kept kp) hg fun _ z => nomatch z
end
end L2

set_option Elab.async false
set_option linter.all false
set_option maxRecDepth 100000
set_option maxHeartbeats 4000000
namespace L2
open PySem PyProof.Rows PySem.Spec
theorem on1 {α : Type} {C : List α → Prop} {us : List α} (h : us.length = 1) (k : ∀ a, C [a]) : C us := match us, h with | [a], _ => k a
theorem on2 {α : Type} {C : List α → Prop} {us : List α} (h : us.length = 2) (k : ∀ a b, C [a, b]) : C us := match us, h with | [a, b], _ => k a b
theorem on3 {α : Type} {C : List α → Prop} {us : List α} (h : us.length = 3) (k : ∀ a b c, C [a, b, c]) : C us := match us, h with | [a, b, c], _ => k a b c
section
variable {X : Cx}
end
end L2

set_option Elab.async false
set_option linter.all false
set_option maxRecDepth 100000
namespace L2
open PySem PyProof.Rows
section
variable {X : Cx} {pins : List (Addr × Obj)} {σ : List (Option V)} {H H' : Hp} {s : Shared}
end
section
variable {X : Cx} {tg : Expr}
end
end L2
namespace L2
open PySem PyProof.Rows
section
variable {X : Cx} {o : Expr} {td : TE} {apos cpos : Pos}
end
end L2
namespace L2
open PySem PyProof.Rows PySem.Spec
section
variable {X : Cx}
end
end L2

set_option Elab.async false
set_option linter.all false
set_option maxRecDepth 100000
namespace L2
open PySem PyProof.Rows
section
variable {X : Cx}
end
end L2
namespace L2
open PySem PyProof.Rows PySem.Spec
section
variable {X : Cx}
end
end L2
namespace L2
open PySem PyProof.Rows PySem.Spec
section
variable {X : Cx}
end
end L2

set_option Elab.async false
set_option linter.all false
namespace L2
open PySem
section
variable {X : Cx}
theorem ps_wk {st : Stmt} {t t' : TS} (h : PS X st t) (hw : ∀ (D : Ends) (σ : St) (H : Hp), t' D σ H → t D σ H) : PS X st t' := fun pins s σ H D I q => h pins s σ H D I (hw D σ H q)
end
end L2

set_option Elab.async false
set_option linter.all false
set_option maxRecDepth 100000
set_option maxHeartbeats 4000000
namespace K21
open PySem L2
seal L2.PSs L2.PS L2.PE L2.PA L2.PT L2.PW L2.PI L2.PG L2.PGs L2.PO L2.PTy L2.PH L2.OpR L2.CallR L2.IxR L2.SlR L2.UnR L2.PSet
noncomputable def top (i : Nat) : Stmt := PySem.Challenge.pw_onceround_k21_whole_row_ends.main.body.getD i (.Pass ⟨0, 0, 0, 0⟩)
noncomputable abbrev s_looked_kinds : Stmt := top 14
noncomputable abbrev s_looked_length : Stmt := top 15
noncomputable abbrev s_letters : Stmt := top 16
noncomputable abbrev s_looked : Stmt := top 17
noncomputable abbrev s_looked_web : Stmt := top 21
noncomputable abbrev s_Web_init : Stmt := inClass (top 22) 0
noncomputable abbrev s_NoRing_init : Stmt := inClass (top 9) 0
noncomputable abbrev s_begin_of : Stmt := top 23
noncomputable abbrev s_end_of : Stmt := top 24
noncomputable abbrev s_pieces : Stmt := top 25
noncomputable abbrev s_excess : Stmt := top 26
noncomputable abbrev s_hanging_by : Stmt := top 27
noncomputable abbrev s_hanging : Stmt := top 28
noncomputable abbrev s_is_right_made : Stmt := top 33
noncomputable abbrev s_is_apart : Stmt := top 34
noncomputable abbrev s_shows_no_row : Stmt := top 35
noncomputable abbrev s_why_apart : Stmt := top 30
noncomputable abbrev s_why_no_ring : Stmt := top 31
noncomputable abbrev s_why_no_row : Stmt := top 32
noncomputable abbrev s_row_ends : Stmt := top 36
noncomputable abbrev s__law_cell_at : Stmt := top 38
noncomputable abbrev s__law_walk : Stmt := top 39
noncomputable abbrev s__law_ring_words : Stmt := top 40
noncomputable abbrev s__law_every : Stmt := top 41
noncomputable abbrev s__law_digit_words : Stmt := top 42
noncomputable abbrev s__law_some_words : Stmt := top 43
noncomputable abbrev s__law_degrees : Stmt := top 44
noncomputable abbrev s__law_hangs : Stmt := top 45
noncomputable abbrev s__law_two_webs : Stmt := top 46
noncomputable abbrev s__law_due : Stmt := top 47
noncomputable abbrev s__law_refusal : Stmt := top 48
noncomputable abbrev s__law_trail : Stmt := top 49
noncomputable abbrev s_law : Stmt := top 50
theorem sc_looked_kinds : FnScope ["kinds"] ["kinds"] (defScope s_looked_kinds) := ⟨rfl, rfl, rfl, by decide +kernel, rfl, by decide +kernel, by decide +kernel⟩
theorem sc_looked_length : FnScope ["length", "kinds"] ["length", "kinds"] (defScope s_looked_length) := ⟨rfl, rfl, rfl, by decide +kernel, rfl, by decide +kernel, by decide +kernel⟩
theorem sc_letters : FnScope ["kinds"] ["kinds"] (defScope s_letters) := ⟨rfl, rfl, rfl, by decide +kernel, rfl, by decide +kernel, by decide +kernel⟩
theorem sc_looked : FnScope ["word", "kinds", "known", "sign"] ["word", "kinds"] (defScope s_looked) := ⟨rfl, rfl, rfl, by decide +kernel, rfl, by decide +kernel, by decide +kernel⟩
theorem sc_looked_web : FnScope ["words", "word"] ["words"] (defScope s_looked_web) := ⟨rfl, rfl, rfl, by decide +kernel, rfl, by decide +kernel, by decide +kernel⟩
theorem sc_Web_init : FnScope ["self", "words"] ["self", "words"] (defScope s_Web_init) := ⟨rfl, rfl, rfl, by decide +kernel, rfl, by decide +kernel, by decide +kernel⟩
theorem sc_NoRing_init : FnScope ["self", "words", "paper"] ["self", "words", "paper"] (defScope s_NoRing_init) := ⟨rfl, rfl, rfl, by decide +kernel, rfl, by decide +kernel, by decide +kernel⟩
theorem sc_begin_of : FnScope ["word"] ["word"] (defScope s_begin_of) := ⟨rfl, rfl, rfl, by decide +kernel, rfl, by decide +kernel, by decide +kernel⟩
theorem sc_end_of : FnScope ["word"] ["word"] (defScope s_end_of) := ⟨rfl, rfl, rfl, by decide +kernel, rfl, by decide +kernel, by decide +kernel⟩
theorem sc_pieces : FnScope ["web"] ["web"] (defScope s_pieces) := ⟨rfl, rfl, rfl, by decide +kernel, rfl, by decide +kernel, by decide +kernel⟩
noncomputable def csc_pieces_0 : Scope := { kind := PySem.ScopeKind.function, names := [ (PySem.Str.ofString ".0", PySem.NameKind.local), (PySem.Str.ofString "word", PySem.NameKind.local), (PySem.Str.ofString "begin_of", PySem.NameKind.globalImplicit)], isGenerator := false, isCoroutine := false, more := [] : PySem.Scope }
theorem cs_pieces_0 : CompSc ["web"] ["word", "web"] (defScope s_pieces) csc_pieces_0 "word" := ⟨rfl, by decide +kernel, by decide +kernel, rfl, by decide +kernel, rfl, rfl, by decide +kernel, rfl, by decide +kernel, by decide +kernel⟩
noncomputable def csc_pieces_1 : Scope := { kind := PySem.ScopeKind.function, names := [ (PySem.Str.ofString ".0", PySem.NameKind.local), (PySem.Str.ofString "word", PySem.NameKind.local), (PySem.Str.ofString "end_of", PySem.NameKind.globalImplicit)], isGenerator := false, isCoroutine := false, more := [] : PySem.Scope }
theorem cs_pieces_1 : CompSc ["web"] ["word", "web"] (defScope s_pieces) csc_pieces_1 "word" := ⟨rfl, by decide +kernel, by decide +kernel, rfl, by decide +kernel, rfl, rfl, by decide +kernel, rfl, by decide +kernel, by decide +kernel⟩
theorem sc_excess : FnScope ["web", "some", "going", "coming"] ["web", "some"] (defScope s_excess) := ⟨rfl, rfl, rfl, by decide +kernel, rfl, by decide +kernel, by decide +kernel⟩
noncomputable def csc_excess_0 : Scope := { kind := PySem.ScopeKind.function, names := [ (PySem.Str.ofString ".0", PySem.NameKind.local), (PySem.Str.ofString "word", PySem.NameKind.local), (PySem.Str.ofString "begin_of", PySem.NameKind.globalImplicit), (PySem.Str.ofString "some", PySem.NameKind.free)], isGenerator := false, isCoroutine := false, more := [] : PySem.Scope }
theorem cs_excess_0 : CompSc ["web", "some", "going", "coming"] ["word", "web", "some", "going", "coming"] (defScope s_excess) csc_excess_0 "word" := ⟨rfl, by decide +kernel, by decide +kernel, rfl, by decide +kernel, rfl, rfl, by decide +kernel, rfl, by decide +kernel, by decide +kernel⟩
noncomputable def csc_excess_1 : Scope := { kind := PySem.ScopeKind.function, names := [ (PySem.Str.ofString ".0", PySem.NameKind.local), (PySem.Str.ofString "word", PySem.NameKind.local), (PySem.Str.ofString "end_of", PySem.NameKind.globalImplicit), (PySem.Str.ofString "some", PySem.NameKind.free)], isGenerator := false, isCoroutine := false, more := [] : PySem.Scope }
theorem cs_excess_1 : CompSc ["web", "some", "going", "coming"] ["word", "web", "some", "going", "coming"] (defScope s_excess) csc_excess_1 "word" := ⟨rfl, by decide +kernel, by decide +kernel, rfl, by decide +kernel, rfl, rfl, by decide +kernel, rfl, by decide +kernel, by decide +kernel⟩
theorem sc_hanging_by : FnScope ["words", "piece", "found", "known", "word"] ["words", "piece"] (defScope s_hanging_by) := ⟨rfl, rfl, rfl, by decide +kernel, rfl, by decide +kernel, by decide +kernel⟩
theorem sc_hanging : FnScope ["web", "piece"] ["web", "piece"] (defScope s_hanging) := ⟨rfl, rfl, rfl, by decide +kernel, rfl, by decide +kernel, by decide +kernel⟩
theorem sc_is_right_made : FnScope ["web", "some", "known", "strange"] ["web", "some"] (defScope s_is_right_made) := ⟨rfl, rfl, rfl, by decide +kernel, rfl, by decide +kernel, by decide +kernel⟩
noncomputable def csc_is_right_made_0 : Scope := { kind := PySem.ScopeKind.function, names := [ (PySem.Str.ofString ".0", PySem.NameKind.local), (PySem.Str.ofString "piece", PySem.NameKind.local), (PySem.Str.ofString "known", PySem.NameKind.free)], isGenerator := false, isCoroutine := false, more := [] : PySem.Scope }
theorem cs_is_right_made_0 : CompSc ["web", "some", "known", "strange"] ["piece", "web", "some", "known", "strange"] (defScope s_is_right_made) csc_is_right_made_0 "piece" := ⟨rfl, by decide +kernel, by decide +kernel, rfl, by decide +kernel, rfl, rfl, by decide +kernel, rfl, by decide +kernel, by decide +kernel⟩
theorem sc_is_apart : FnScope ["web", "some", "crossing"] ["web", "some"] (defScope s_is_apart) := ⟨rfl, rfl, rfl, by decide +kernel, rfl, by decide +kernel, by decide +kernel⟩
noncomputable def csc_is_apart_0 : Scope := { kind := PySem.ScopeKind.function, names := [ (PySem.Str.ofString ".0", PySem.NameKind.local), (PySem.Str.ofString "word", PySem.NameKind.local), (PySem.Str.ofString "begin_of", PySem.NameKind.globalImplicit), (PySem.Str.ofString "end_of", PySem.NameKind.globalImplicit), (PySem.Str.ofString "some", PySem.NameKind.free)], isGenerator := false, isCoroutine := false, more := [] : PySem.Scope }
theorem cs_is_apart_0 : CompSc ["web", "some", "crossing"] ["word", "web", "some", "crossing"] (defScope s_is_apart) csc_is_apart_0 "word" := ⟨rfl, by decide +kernel, by decide +kernel, rfl, by decide +kernel, rfl, rfl, by decide +kernel, rfl, by decide +kernel, by decide +kernel⟩
theorem sc_shows_no_row : FnScope ["web", "paper"] ["web", "paper"] (defScope s_shows_no_row) := ⟨rfl, rfl, rfl, by decide +kernel, rfl, by decide +kernel, by decide +kernel⟩
theorem sc_why_apart : FnScope ["web", "every", "together"] ["web"] (defScope s_why_apart) := ⟨rfl, rfl, rfl, by decide +kernel, rfl, by decide +kernel, by decide +kernel⟩
theorem sc_why_no_ring : FnScope ["web", "piece"] ["web"] (defScope s_why_no_ring) := ⟨rfl, rfl, rfl, by decide +kernel, rfl, by decide +kernel, by decide +kernel⟩
theorem sc_why_no_row : FnScope ["web", "above"] ["web"] (defScope s_why_no_row) := ⟨rfl, rfl, rfl, by decide +kernel, rfl, by decide +kernel, by decide +kernel⟩
noncomputable def csc_why_no_row_0 : Scope := { kind := PySem.ScopeKind.function, names := [ (PySem.Str.ofString ".0", PySem.NameKind.local), (PySem.Str.ofString "piece", PySem.NameKind.local), (PySem.Str.ofString "excess", PySem.NameKind.globalImplicit), (PySem.Str.ofString "web", PySem.NameKind.free)], isGenerator := false, isCoroutine := false, more := [] : PySem.Scope }
theorem cs_why_no_row_0 : CompSc ["web", "above"] ["piece", "web", "above"] (defScope s_why_no_row) csc_why_no_row_0 "piece" := ⟨rfl, by decide +kernel, by decide +kernel, rfl, by decide +kernel, rfl, rfl, by decide +kernel, rfl, by decide +kernel, by decide +kernel⟩
theorem sc_row_ends : FnScope ["web", "paper", "firsts", "lasts"] ["web"] (defScope s_row_ends) := ⟨rfl, rfl, rfl, by decide +kernel, rfl, by decide +kernel, by decide +kernel⟩
noncomputable def csc_row_ends_0 : Scope := { kind := PySem.ScopeKind.function, names := [ (PySem.Str.ofString ".0", PySem.NameKind.local), (PySem.Str.ofString "piece", PySem.NameKind.local), (PySem.Str.ofString "excess", PySem.NameKind.globalImplicit), (PySem.Str.ofString "web", PySem.NameKind.free)], isGenerator := false, isCoroutine := false, more := [] : PySem.Scope }
theorem cs_row_ends_0 : CompSc ["web", "paper", "firsts", "lasts"] ["piece", "web", "paper", "firsts", "lasts"] (defScope s_row_ends) csc_row_ends_0 "piece" := ⟨rfl, by decide +kernel, by decide +kernel, rfl, by decide +kernel, rfl, rfl, by decide +kernel, rfl, by decide +kernel, by decide +kernel⟩
noncomputable def csc_row_ends_1 : Scope := { kind := PySem.ScopeKind.function, names := [ (PySem.Str.ofString ".0", PySem.NameKind.local), (PySem.Str.ofString "piece", PySem.NameKind.local), (PySem.Str.ofString "excess", PySem.NameKind.globalImplicit), (PySem.Str.ofString "web", PySem.NameKind.free)], isGenerator := false, isCoroutine := false, more := [] : PySem.Scope }
theorem cs_row_ends_1 : CompSc ["web", "paper", "firsts", "lasts"] ["piece", "web", "paper", "firsts", "lasts"] (defScope s_row_ends) csc_row_ends_1 "piece" := ⟨rfl, by decide +kernel, by decide +kernel, rfl, by decide +kernel, rfl, rfl, by decide +kernel, rfl, by decide +kernel, by decide +kernel⟩
theorem sc__law_cell_at : FnScope ["script", "k"] ["script", "k"] (defScope s__law_cell_at) := ⟨rfl, rfl, rfl, by decide +kernel, rfl, by decide +kernel, by decide +kernel⟩
theorem sc__law_walk : FnScope ["cells", "kinds", "first", "words", "here", "cell", "free", "word"] ["cells", "kinds", "first"] (defScope s__law_walk) := ⟨rfl, rfl, rfl, by decide +kernel, rfl, by decide +kernel, by decide +kernel⟩
noncomputable def csc__law_walk_0 : Scope := { kind := PySem.ScopeKind.function, names := [ (PySem.Str.ofString ".0", PySem.NameKind.local), (PySem.Str.ofString "sign", PySem.NameKind.local), (PySem.Str.ofString "here", PySem.NameKind.free), (PySem.Str.ofString "words", PySem.NameKind.free)], isGenerator := false, isCoroutine := false, more := [] : PySem.Scope }
theorem cs__law_walk_0 : CompSc ["cells", "kinds", "first", "words", "here", "cell", "free", "word"] ["sign", "cells", "kinds", "first", "words", "here", "cell", "free", "word"] (defScope s__law_walk) csc__law_walk_0 "sign" := ⟨rfl, by decide +kernel, by decide +kernel, rfl, by decide +kernel, rfl, rfl, by decide +kernel, rfl, by decide +kernel, by decide +kernel⟩
theorem sc__law_ring_words : FnScope ["script", "at", "most", "length", "kinds", "drawn", "first", "k", "words"] ["script", "at", "most"] (defScope s__law_ring_words) := ⟨rfl, rfl, rfl, by decide +kernel, rfl, by decide +kernel, by decide +kernel⟩
theorem sc__law_every : FnScope ["kinds", "length", "words", "k", "longer", "word"] ["kinds", "length"] (defScope s__law_every) := ⟨rfl, rfl, rfl, by decide +kernel, rfl, by decide +kernel, by decide +kernel⟩
noncomputable def csc__law_every_0 : Scope := { kind := PySem.ScopeKind.function, names := [ (PySem.Str.ofString ".0", PySem.NameKind.local), (PySem.Str.ofString "sign", PySem.NameKind.local), (PySem.Str.ofString "word", PySem.NameKind.free)], isGenerator := false, isCoroutine := false, more := [] : PySem.Scope }
theorem cs__law_every_0 : CompSc ["kinds", "length", "words", "k", "longer", "word"] ["sign", "kinds", "length", "words", "k", "longer", "word"] (defScope s__law_every) csc__law_every_0 "sign" := ⟨rfl, by decide +kernel, by decide +kernel, rfl, by decide +kernel, rfl, rfl, by decide +kernel, rfl, by decide +kernel, by decide +kernel⟩
theorem sc__law_digit_words : FnScope ["cell", "most", "sizes", "kinds", "length", "part", "words", "word"] ["cell", "most"] (defScope s__law_digit_words) := ⟨rfl, rfl, rfl, by decide +kernel, rfl, by decide +kernel, by decide +kernel⟩
theorem sc__law_some_words : FnScope ["script", "at", "most", "words", "way", "drawn", "k", "word", "j", "part"] ["script", "at", "most"] (defScope s__law_some_words) := ⟨rfl, rfl, rfl, by decide +kernel, rfl, by decide +kernel, by decide +kernel⟩
theorem sc__law_degrees : FnScope ["words", "more", "word"] ["words"] (defScope s__law_degrees) := ⟨rfl, rfl, rfl, by decide +kernel, rfl, by decide +kernel, by decide +kernel⟩
theorem sc__law_hangs : FnScope ["words", "first", "met", "changed", "word"] ["words", "first"] (defScope s__law_hangs) := ⟨rfl, rfl, rfl, by decide +kernel, rfl, by decide +kernel, by decide +kernel⟩
theorem sc__law_two_webs : FnScope ["script", "words", "cell", "length", "signs", "word", "other"] ["script"] (defScope s__law_two_webs) := ⟨rfl, rfl, rfl, by decide +kernel, rfl, by decide +kernel, by decide +kernel⟩
noncomputable def csc__law_two_webs_0 : Scope := { kind := PySem.ScopeKind.function, names := [ (PySem.Str.ofString ".0", PySem.NameKind.local), (PySem.Str.ofString "sign", PySem.NameKind.local), (PySem.Str.ofString "signs", PySem.NameKind.free)], isGenerator := false, isCoroutine := false, more := [] : PySem.Scope }
theorem cs__law_two_webs_0 : CompSc ["script", "words", "cell", "length", "signs", "word", "other"] ["sign", "script", "words", "cell", "length", "signs", "word", "other"] (defScope s__law_two_webs) csc__law_two_webs_0 "sign" := ⟨rfl, by decide +kernel, by decide +kernel, rfl, by decide +kernel, rfl, rfl, by decide +kernel, rfl, by decide +kernel, by decide +kernel⟩
theorem sc__law_due : FnScope ["words", "more", "every", "some", "met"] ["words"] (defScope s__law_due) := ⟨rfl, rfl, rfl, by decide +kernel, rfl, by decide +kernel, by decide +kernel⟩
noncomputable def csc__law_due_0 : Scope := { kind := PySem.ScopeKind.function, names := [ (PySem.Str.ofString ".0", PySem.NameKind.local), (PySem.Str.ofString "piece", PySem.NameKind.local), (PySem.Str.ofString "more", PySem.NameKind.free)], isGenerator := false, isCoroutine := false, more := [] : PySem.Scope }
theorem cs__law_due_0 : CompSc ["words", "more", "every", "some", "met"] ["piece", "words", "more", "every", "some", "met"] (defScope s__law_due) csc__law_due_0 "piece" := ⟨rfl, by decide +kernel, by decide +kernel, rfl, by decide +kernel, rfl, rfl, by decide +kernel, rfl, by decide +kernel, by decide +kernel⟩
noncomputable def csc__law_due_1 : Scope := { kind := PySem.ScopeKind.function, names := [ (PySem.Str.ofString ".0", PySem.NameKind.local), (PySem.Str.ofString "piece", PySem.NameKind.local), (PySem.Str.ofString "more", PySem.NameKind.free)], isGenerator := false, isCoroutine := false, more := [] : PySem.Scope }
theorem cs__law_due_1 : CompSc ["words", "more", "every", "some", "met"] ["piece", "words", "more", "every", "some", "met"] (defScope s__law_due) csc__law_due_1 "piece" := ⟨rfl, by decide +kernel, by decide +kernel, rfl, by decide +kernel, rfl, rfl, by decide +kernel, rfl, by decide +kernel, by decide +kernel⟩
theorem sc__law_refusal : FnScope ["web", "paper", "e", "alone"] ["web"] (defScope s__law_refusal) := ⟨rfl, rfl, rfl, by decide +kernel, rfl, by decide +kernel, by decide +kernel⟩
theorem sc__law_trail : FnScope ["script", "words"] ["script"] (defScope s__law_trail) := ⟨rfl, rfl, rfl, by decide +kernel, rfl, by decide +kernel, by decide +kernel⟩
theorem sc_law : FnScope ["script", "words", "web", "due", "more", "first", "last", "found"] ["script"] (defScope s_law) := ⟨rfl, rfl, rfl, by decide +kernel, rfl, by decide +kernel, by decide +kernel⟩
noncomputable def csc_law_0 : Scope := { kind := PySem.ScopeKind.function, names := [ (PySem.Str.ofString ".0", PySem.NameKind.local), (PySem.Str.ofString "piece", PySem.NameKind.local), (PySem.Str.ofString "more", PySem.NameKind.free)], isGenerator := false, isCoroutine := false, more := [] : PySem.Scope }
theorem cs_law_0 : CompSc ["script", "words", "web", "due", "more", "first", "last", "found"] ["piece", "script", "words", "web", "due", "more", "first", "last", "found"] (defScope s_law) csc_law_0 "piece" := ⟨rfl, by decide +kernel, by decide +kernel, rfl, by decide +kernel, rfl, rfl, by decide +kernel, rfl, by decide +kernel, by decide +kernel⟩
noncomputable def csc_law_1 : Scope := { kind := PySem.ScopeKind.function, names := [ (PySem.Str.ofString ".0", PySem.NameKind.local), (PySem.Str.ofString "piece", PySem.NameKind.local), (PySem.Str.ofString "more", PySem.NameKind.free)], isGenerator := false, isCoroutine := false, more := [] : PySem.Scope }
theorem cs_law_1 : CompSc ["script", "words", "web", "due", "more", "first", "last", "found"] ["piece", "script", "words", "web", "due", "more", "first", "last", "found"] (defScope s_law) csc_law_1 "piece" := ⟨rfl, by decide +kernel, by decide +kernel, rfl, by decide +kernel, rfl, rfl, by decide +kernel, rfl, by decide +kernel, by decide +kernel⟩
set_option genInjectivity false in
structure Adr where
 OnceError : Addr
 NoRing : Addr
 Web : Addr
 BadDeed : Addr
 BadKinds : Addr
 BadRule : Addr
 BadText : Addr
 BadWord : Addr
 NoSuch : Addr
 NotOne : Addr
 TooMany : Addr
 u_LETTERS : Value
 u_LONGEST : Value
 u_MOST_OF_A_WEB : Value
 u_LONGEST_OF_A_WEB : Value

set_option genInjectivity false in
structure Txt (K : PySem.W.Frag) (mg : Str → Option Value) (ad : Adr) : Prop where
 b_abs : mg "abs" = none
 b_isinstance : mg "isinstance" = none
 b_len : mg "len" = none
 b_list : mg "list" = none
 b_range : mg "range" = none
 b_set : mg "set" = none
 b_sorted : mg "sorted" = none
 b_sum : mg "sum" = none
 b_tuple : mg "tuple" = none
 m_OnceError : mg "OnceError" = some (.ref ad.OnceError)
 m_NoRing : mg "NoRing" = some (.ref ad.NoRing)
 m_Web : mg "Web" = some (.ref ad.Web)
 m_BadDeed : mg "BadDeed" = some (.ref ad.BadDeed)
 m_BadKinds : mg "BadKinds" = some (.ref ad.BadKinds)
 m_BadRule : mg "BadRule" = some (.ref ad.BadRule)
 m_BadText : mg "BadText" = some (.ref ad.BadText)
 m_BadWord : mg "BadWord" = some (.ref ad.BadWord)
 m_NoSuch : mg "NoSuch" = some (.ref ad.NoSuch)
 m_NotOne : mg "NotOne" = some (.ref ad.NotOne)
 m_TooMany : mg "TooMany" = some (.ref ad.TooMany)
 x_BadKinds : Exc K mg "BadKinds" ad.BadKinds
 x_BadWord : Exc K mg "BadWord" ad.BadWord
 x_TooMany : Exc K mg "TooMany" ad.TooMany
 x_NoSuch : Exc K mg "NoSuch" ad.NoSuch
 n_NoRing : Knd K ad.NoRing
 g_LETTERS : mg "LETTERS" = some ad.u_LETTERS
 r_LETTERS : RelV (T [97, 98, 99, 100, 101, 102]) ad.u_LETTERS
 g_LONGEST : mg "LONGEST" = some ad.u_LONGEST
 r_LONGEST : RelV (.int 24) ad.u_LONGEST
 g_MOST_OF_A_WEB : mg "MOST_OF_A_WEB" = some ad.u_MOST_OF_A_WEB
 r_MOST_OF_A_WEB : RelV (.int 64) ad.u_MOST_OF_A_WEB
 g_LONGEST_OF_A_WEB : mg "LONGEST_OF_A_WEB" = some ad.u_LONGEST_OF_A_WEB
 r_LONGEST_OF_A_WEB : RelV (.int 8) ad.u_LONGEST_OF_A_WEB
 q_o : PySem.W.exmOne K (.ref ad.NoRing) (.ref ad.NoRing) = some true
 q_b : PySem.W.kitOne K (.ref ad.NoRing) (.ref ad.OnceError) = some true
 q_a : PySem.W.kitAny K (.ref ad.NoRing) [.ref ad.BadDeed, .ref ad.BadKinds, .ref ad.BadRule, .ref ad.BadText, .ref ad.BadWord, .ref ad.NoSuch, .ref ad.NotOne, .ref ad.TooMany] = some false
 cl_Web : Cls K ad.Web
 na_Web_words : NoAttr K ad.Web "words"
 na_Web_length : NoAttr K ad.Web "length"
 xi_NoRing : ∃ f, ExcI K ad.NoRing f
 hd_NoRing : PySem.W.hasDictIn K ad.NoRing = true
 na_NoRing_paper : NoAttr K ad.NoRing "paper"
 bi_OnceError : BaseI K mg "OnceError" ad.OnceError
section
variable {P : Program} {w : World} {K : PySem.W.Frag} {mg : Str → Option Value} {base : Heap} {ad : Adr}

theorem abc6 {m : Nat} (h : m < 6) : ([97, 98, 99, 100, 101, 102] : List Nat)[m]? = some (97 + m) := by
 have key : ∀ m : Nat, m < 6 → ([97, 98, 99, 100, 101, 102] : List Nat)[m]? = some (97 + m) := by decide
 exact key m h
theorem abc_mem {k c : Nat} (hk : k ≤ 6) : c ∈ ([97, 98, 99, 100, 101, 102] : List Nat).take k ↔ 97 ≤ c ∧ c < 97 + k := by
 have key : ∀ k : Nat, k < 7 → ([97, 98, 99, 100, 101, 102] : List Nat).take k = (List.range k).map (97 + ·) := by decide
 rw [key k (Nat.lt_succ_of_le hk), List.mem_map]
 exact ⟨fun ⟨i, h, e⟩ => e ▸ ⟨Nat.le_add_right _ _, Nat.add_lt_add_left (List.mem_range.mp h) _⟩, fun ⟨h1, h2⟩ => ⟨c - 97, List.mem_range.mpr (Nat.sub_lt_left_of_lt_add h1 h2), Nat.add_sub_cancel' h1⟩⟩
noncomputable def spKindsX (ad : Adr) : Sp := fun vs H Q E => ∃ k : Int, vs = [.int k] ∧ ((1 ≤ k ∧ k ≤ 6) → Q .non H) ∧ (¬ (1 ≤ k ∧ k ≤ 6) → E (.ref ad.BadKinds) none H)
theorem ok_looked_kinds {f : Addr} {fd : FuncData} (F : Fun K "looked_kinds" "looked_kinds" s_looked_kinds f fd) (tt : Txt K mg ad) : FnOk P w K mg base (CX2 P w) 1 f fd ["kinds"] (spKindsX ad) := by
 refine F.okX2 sc_looked_kinds (fun vs H Q E h => ?_) (fun cdv A outer s H vs Q E hr h => ?_)
 ·obtain ⟨k, rfl, _⟩ := h
  rfl
 ·obtain ⟨k, rfl, q, x⟩ := h
  have hs : sizeLine = 16777216 := sizeLine_eq
  refine ⟨_, (pss_one (ps_if (PW.pt (pw_or (pt_cmpR op_lt (pv 0) pe_int (nomark _)) (pw_or1 (pt_cmpR op_gt (pv 0) (pe_callB call_len_T (by rfl) tt.b_len PySem.boot_len (pa_cons (pe_glob (by rfl) tt.g_LETTERS tt.r_LETTERS) pa_nil)) (nomark _))))) (pss_one (ps_raise (E := fun cls H' => E cls none H') tt.x_BadKinds rfl (fun _ _ _ _ _ _ _ I hx q => raiseX2 I hx q) (pa_cons (pe_strT [107, 105, 110, 100, 115, 32, 97, 114, 101, 32, 97, 32, 119, 104, 111, 108, 101, 32, 110, 117, 109, 98, 101, 114, 32, 102, 114, 111, 109, 32, 49, 32, 116, 111, 32, 54] (by decide +kernel)) pa_nil))) pss_nil)), ?_⟩
  refine ⟨_, rfl, _, _, rfl, rfl, _, rfl, ?_⟩
  refine ite2 (fun h0 => iteT ?_) (fun h0 => ?_)
  ·have h1 : k < 1 := of_decide_eq_true h0
   exact ⟨(by show 1 ≤ sizeLine; omega), x fun z => by omega⟩
  ·have h1 : ¬ k < 1 := fun z => h0 (decide_eq_true z)
   refine ⟨_, rfl, _, rfl, (by show 6 ≤ sizeLine; omega), _, _, rfl, rfl, _, rfl, ?_⟩
   refine ite2 (fun h2 => ?_) (fun h2 => ?_)
   ·have h3 : (6 : Int) < k := of_decide_eq_true h2
    exact ⟨(by show 1 ≤ sizeLine; omega), x fun z => by omega⟩
   ·have h3 : ¬ (6 : Int) < k := fun z => h2 (decide_eq_true z)
    exact q ⟨by omega, by omega⟩

noncomputable def spLenX (ad : Adr) : Sp := fun vs H Q E => ∃ n k : Int, vs = [.int n, .int k] ∧ ((1 ≤ k ∧ k ≤ 6) → (1 ≤ n ∧ n ≤ 24) → Q .non H) ∧ (¬ (1 ≤ k ∧ k ≤ 6) → E (.ref ad.BadKinds) none H) ∧ ((1 ≤ k ∧ k ≤ 6) → ¬ (1 ≤ n ∧ n ≤ 24) → E (.ref ad.BadWord) none H)
theorem ok_looked_length {f : Addr} {fd : FuncData} (F : Fun K "looked_length" "looked_length" s_looked_length f fd) (tt : Txt K mg ad) (C_looked_kinds : Cal P w K mg base (CX2 P w) "looked_kinds" 1 ["kinds"] (spKindsX ad)) :
  FnOk P w K mg base (CX2 P w) 2 f fd ["length", "kinds"] (spLenX ad) := by
 refine F.okX2 sc_looked_length (fun vs H Q E h => ?_) (fun cdv A outer s H vs Q E hr h => ?_)
 ·obtain ⟨n, k, rfl, _⟩ := h
  rfl
 ·obtain ⟨n, k, rfl, q, x1, x2⟩ := h
  have hs : sizeLine = 16777216 := sizeLine_eq
  refine ⟨_, (pss_cons (ps_expr (pe_cal C_looked_kinds hr passX2 (pa_cons (pv 1) pa_nil)))
   (pss_one (ps_if (PW.pt (pw_or (pt_cmpR op_lt (pv 0) pe_int (nomark _)) (pw_or1 (pt_cmpR op_gt (pv 0) (pe_glob (by rfl) tt.g_LONGEST tt.r_LONGEST) (nomark _))))) (pss_one (ps_raise (E := fun cls H' => E cls none H') tt.x_BadWord rfl (fun _ _ _ _ _ _ _ I hx q => raiseX2 I hx q) (pa_cons (pe_strT [97, 32, 119, 111, 114, 100, 32, 104, 97, 115, 32, 49, 32, 116, 111, 32, 50, 52, 32, 108, 101, 116, 116, 101, 114, 115] (by decide +kernel)) pa_nil))) pss_nil))), ?_⟩
  refine ⟨_, rfl, k, rfl, fun hk => ?_, x1⟩
  refine ⟨_, rfl, _, _, rfl, rfl, _, rfl, ?_⟩
  refine ite2 (fun h0 => iteT ?_) (fun h0 => ?_)
  ·have h1 : n < 1 := of_decide_eq_true h0
   exact ⟨(by show 1 ≤ sizeLine; omega), x2 hk fun z => by omega⟩
  ·have h1 : ¬ n < 1 := fun z => h0 (decide_eq_true z)
   refine ⟨_, rfl, _, _, rfl, rfl, _, rfl, ?_⟩
   refine ite2 (fun h2 => ?_) (fun h2 => ?_)
   ·have h3 : (24 : Int) < n := of_decide_eq_true h2
    exact ⟨(by show 1 ≤ sizeLine; omega), x2 hk fun z => by omega⟩
   ·have h3 : ¬ (24 : Int) < n := fun z => h2 (decide_eq_true z)
    exact q hk ⟨by omega, by omega⟩

noncomputable def spLettersX (ad : Adr) : Sp := fun vs H Q E => ∃ k : Int, vs = [.int k] ∧ (∀ kn : Nat, k = (kn : Nat) → (1 ≤ kn ∧ kn ≤ 6) → Q (T (([97, 98, 99, 100, 101, 102] : List Nat).take kn)) H) ∧ (¬ (1 ≤ k ∧ k ≤ 6) → E (.ref ad.BadKinds) none H)
theorem ok_letters {f : Addr} {fd : FuncData} (F : Fun K "letters" "letters" s_letters f fd) (tt : Txt K mg ad) (C_looked_kinds : Cal P w K mg base (CX2 P w) "looked_kinds" 1 ["kinds"] (spKindsX ad)) : FnOk P w K mg base (CX2 P w) 2 f fd ["kinds"] (spLettersX ad) := by
 refine F.okX2 sc_letters (fun vs H Q E h => ?_) (fun cdv A outer s H vs Q E hr h => ?_)
 ·obtain ⟨k, rfl, _⟩ := h
  rfl
 ·obtain ⟨k, rfl, q, x⟩ := h
  have hs : sizeLine = 16777216 := sizeLine_eq
  refine ⟨_, (pss_cons (ps_expr (pe_cal C_looked_kinds hr passX2 (pa_cons (pv 0) pa_nil)))
   (pss_one (ps_ret (pe_slice sl_T (pe_glob (by rfl) tt.g_LETTERS tt.r_LETTERS) po_none (po_some (pv 0)))))), ?_⟩
  refine ⟨_, rfl, k, rfl, fun hk => ?_, x⟩
  obtain ⟨kn, rfl⟩ : ∃ kn : Nat, k = (kn : Nat) := ⟨k.toNat, by omega⟩
  refine ⟨_, rfl, _, rfl, _, rfl, (by show 6 ≤ sizeLine; omega), ?_⟩
  rw [cutL_to (by show kn ≤ 6; omega)]
  exact q kn rfl ⟨by omega, by omega⟩

noncomputable def Good (w : List Nat) (kn : Nat) : Prop := (1 ≤ w.length ∧ w.length ≤ 24) ∧ ∀ c ∈ w, 97 ≤ c ∧ c < 97 + kn
noncomputable def spLookedX (ad : Adr) : Sp := fun vs H Q E => ∃ (w : List Nat) (k : Int), vs = [T w, .int k] ∧ w.length ≤ 100000 ∧ (¬ (1 ≤ k ∧ k ≤ 6) → E (.ref ad.BadKinds) none H) ∧
 ∀ kn : Nat, k = (kn : Nat) → (1 ≤ kn ∧ kn ≤ 6) → (Good w kn → Q .non H) ∧ (¬ Good w kn → E (.ref ad.BadWord) none H)
theorem ok_looked {f : Addr} {fd : FuncData} (F : Fun K "looked" "looked" s_looked f fd) (tt : Txt K mg ad) (C_looked_length : Cal P w K mg base (CX2 P w) "looked_length" 2 ["length", "kinds"] (spLenX ad))
  (C_letters : Cal P w K mg base (CX2 P w) "letters" 2 ["kinds"] (spLettersX ad)) : FnOk P w K mg base (CX2 P w) 3 f fd ["word", "kinds"] (spLookedX ad) := by
 refine F.okX2 sc_looked (fun vs H Q E h => ?_) (fun cdv A outer s H vs Q E hr h => ?_)
 ·obtain ⟨w, k, rfl, _⟩ := h
  rfl
 ·obtain ⟨w, k, rfl, hw, x1, q⟩ := h
  have hs : sizeLine = 16777216 := sizeLine_eq
  refine ⟨_, (pss_cons (ps_expr (pe_cal C_looked_length hr passX2 (pa_cons (pe_callB call_len_T (by rfl) tt.b_len PySem.boot_len (pa_cons (pv 0) pa_nil)) (pa_cons (pv 1) pa_nil))))
   (pss_cons (ps_set (i := 2) sc_looked.nd rfl (Or.inl rfl) (pe_cal C_letters hr passX2 (pa_cons (pv 1) pa_nil)))
   (pss_one (ps_for PassesOwn.leaving rfl (pi_str (pv 0)) (pg_name (i := 3) sc_looked.nd rfl (Or.inl rfl)) (pss_one (ps_if (pt_cmpR op_notin_sT (pv 3) (pv 2) (by with_unfolding_all rfl)) (pss_one (ps_raise (E := fun cls H' => E cls none H') tt.x_BadWord rfl (fun _ _ _ _ _ _ _ I hx q => raiseX2 I hx q) (pa_cons (pe_strT [97, 32, 119, 111, 114, 100, 32, 104, 97, 115, 32, 108, 101, 116, 116, 101, 114, 115, 32, 111, 102, 32, 105, 116, 115, 32, 107, 105, 110, 100, 115, 32, 97, 108, 111, 110, 101] (by decide +kernel)) pa_nil))) pss_nil)))))), ?_⟩
  refine ⟨_, rfl, _, rfl, (by omega), _, rfl, _, k, rfl, fun hk hn => ?_, x1, fun hk hn => ?_⟩
  rotate_left
  ·obtain ⟨kn, rfl⟩ : ∃ kn : Nat, k = (kn : Nat) := ⟨k.toNat, by omega⟩
   exact (q kn rfl ⟨by omega, by omega⟩).2 fun z => hn ⟨by have := z.1; omega, by have := z.1; omega⟩
  obtain ⟨kn, rfl⟩ : ∃ kn : Nat, k = (kn : Nat) := ⟨k.toNat, by omega⟩
  obtain ⟨q1, q2⟩ := q kn rfl ⟨by omega, by omega⟩
  refine ⟨_, rfl, _, rfl, fun kn' ek hk' => ?_, fun z => absurd hk z⟩
  obtain rfl : kn = kn' := by omega
  refine ⟨_, rfl, _, rfl, ?_⟩
  refine for_text (l := w) (fun i σ H2 => H = H2 ∧ (∀ c ∈ w.take i, 97 ≤ c ∧ c < 97 + kn) ∧ ∃ v, σ = [some (T w), some (.int (kn : Nat)), some (T (([97, 98, 99, 100, 101, 102] : List Nat).take kn)), v]) ⟨rfl, fun c hc => (by simp at hc), none, rfl⟩ ?_ ?_
  ·rintro i c σ H2 hi ⟨rfl, hall, v, rfl⟩
   refine ⟨_, rfl, _, rfl, _, rfl, _, rfl, _, rfl, ?_⟩
   refine ite2 (fun h0 => ?_) (fun h0 => ?_)
   ·have h1 : ¬ c ∈ ([97, 98, 99, 100, 101, 102] : List Nat).take kn := fun z => by
     rw [decide_eq_true z] at h0
     cases h0
    refine ⟨(by show 1 ≤ sizeLine; omega), q2 fun z => h1 ?_⟩
    exact (abc_mem (by omega)).mpr (z.2 c (List.mem_of_getElem? hi))
   ·have h1 : c ∈ ([97, 98, 99, 100, 101, 102] : List Nat).take kn := by
     apply Classical.byContradiction
     intro z
     rw [decide_eq_false z] at h0
     exact h0 rfl
    refine ⟨rfl, fun d hd => ?_, _, rfl⟩
    have hil := (List.getElem?_eq_some_iff.mp hi).1
    rw [List.take_add_one, hi] at hd
    rcases List.mem_append.mp hd with z | z
    ·exact hall d z
    ·have : d = c := by simpa using z
     subst this
     exact (abc_mem (by omega)).mp h1
  ·rintro σ H2 ⟨rfl, hall, v, rfl⟩
   rw [List.take_length] at hall
   exact q1 ⟨⟨by omega, by omega⟩, hall⟩

noncomputable def FewN (k : Nat) (ls : List (List Nat)) : Prop := ∃ ps : List (List Nat), ps.length ≤ k ∧ ∀ w ∈ ls, w.take (w.length - 1) ∈ ps ∧ w.drop 1 ∈ ps
noncomputable def Few (ls : List (List Nat)) : Prop := FewN 61 ls
theorem FewN.sub {k : Nat} {ls ms : List (List Nat)} (h : FewN k ls) (s : ∀ w ∈ ms, w ∈ ls) : FewN k ms := h.elim fun ps g => ⟨ps, g.1, fun w hw => g.2 w (s w hw)⟩
theorem FewN.mono {k j : Nat} {ls : List (List Nat)} (h : FewN k ls) (hj : k ≤ j) : FewN j ls := h.elim fun ps g => ⟨ps, Nat.le_trans g.1 hj, g.2⟩
theorem FewN.len {k : Nat} {ls : List (List Nat)} (h : 2 * ls.length ≤ k) : FewN k ls := ⟨ls.map (fun w => w.take (w.length - 1)) ++ ls.map (fun w => w.drop 1), by rw [List.length_append, List.length_map, List.length_map]; omega, fun w hw => ⟨List.mem_append.mpr (.inl (List.mem_map.mpr ⟨w, hw, rfl⟩)), List.mem_append.mpr (.inr (List.mem_map.mpr ⟨w, hw, rfl⟩))⟩⟩
theorem FewN.app {k j : Nat} {ls ms : List (List Nat)} (h : FewN k ls) (g : FewN j ms) : FewN (k + j) (ls ++ ms) := by
 obtain ⟨ps, p1, p2⟩ := h
 obtain ⟨qs, q1, q2⟩ := g
 refine ⟨ps ++ qs, by rw [List.length_append]; omega, fun w hw => ?_⟩
 rcases List.mem_append.mp hw with z | z
 ·exact ⟨List.mem_append.mpr (.inl (p2 w z).1), List.mem_append.mpr (.inl (p2 w z).2)⟩
 ·exact ⟨List.mem_append.mpr (.inr (q2 w z).1), List.mem_append.mpr (.inr (q2 w z).2)⟩

theorem uniq_len {ls : List (List Nat)} (h : ls.Nodup) : (uniq ls).length = ls.length := ((List.perm_ext_iff_of_nodup (uniq_nodup ls) h).mpr fun x => uniq_mem ls x).length_eq
theorem sq_put {H : Hp} {p x C dx : Addr} {fs : List (Str × V)} {xs : List V} {o : HO} (h : SqL K H p xs) (hx : H x = some (.ins C dx fs)) : SqL K (upd H x o) p xs := by
 rcases h with (h | ⟨q, h⟩) | h
 ·exact .inl (.inl (by rw [upd_ne (fun z => by subst z; rw [hx] at h; cases h)]; exact h))
 ·exact .inl (.inr ⟨q, by rw [upd_ne (fun z => by subst z; rw [hx] at h; cases h)]; exact h⟩)
 ·exact .inr h
noncomputable def WebOk (ls : List (List Nat)) (n : Nat) : Prop := ls ≠ [] ∧ ls.length ≤ 63 ∧ ((1 ≤ n ∧ n ≤ 8) ∧ Few ls) ∧ (∀ x ∈ ls, x.length = n ∧ ∀ c ∈ x, 97 ≤ c ∧ c < 103) ∧ ls.Nodup
noncomputable def spWebL (K : PySem.W.Frag) : Sp := fun vs H Q _ => ∃ (p : Addr) (ls : List (List Nat)) (n : Nat), vs = [.ref p] ∧ SqL K H p (ls.map T) ∧ WebOk ls n ∧ ∀ H', Same H H' → Q .non H'
theorem ok_looked_web {f : Addr} {fd : FuncData} (F : Fun K "looked_web" "looked_web" s_looked_web f fd) (tt : Txt K mg ad) (C_looked : Cal P w K mg base (CX2 P w) "looked" 3 ["word", "kinds"] (spLookedX ad)) :
  FnOk P w K mg base (CX2 P w) 4 f fd ["words"] (spWebL K) := by
 refine F.okX2 sc_looked_web (fun vs H Q E h => ?_) (fun cdv A outer s H vs Q E hr h => ?_)
 ·obtain ⟨p, ls, n, rfl, _⟩ := h
  rfl
 ·obtain ⟨p, ls, n, rfl, hS, ⟨hne, h64, hn, hx, hnd⟩, q⟩ := h
  have hs : sizeLine = 16777216 := sizeLine_eq
  have hl0 : 0 < ls.length := List.length_pos_iff.mpr hne
  obtain ⟨x0, hx0⟩ : ∃ x0, ls[0]? = some x0 := ⟨_, List.getElem?_eq_getElem hl0⟩
  have hx0l := (hx x0 (List.mem_of_getElem? hx0)).1
  refine ⟨_, (pss_cons (ps_if (pt_cmpR op_gt (pe_callB call_len_seq (by rfl) tt.b_len PySem.boot_len (pa_cons (pv 0) pa_nil)) (pe_glob (by rfl) tt.g_MOST_OF_A_WEB tt.r_MOST_OF_A_WEB) (nomark _)) (pss_one (ps_raise (E := fun cls H' => E cls none H') tt.x_TooMany rfl (fun _ _ _ _ _ _ _ I hx q => raiseX2 I hx q) (pa_cons (pe_strT [97, 32, 119, 101, 98, 32, 104, 97, 115, 32, 97, 116, 32, 109, 111, 115, 116, 32, 54, 52, 32, 119, 111, 114, 100, 115] (by decide +kernel)) pa_nil))) pss_nil)
   (pss_cons (ps_if (pt_cmpR op_eq_I (pe_callB call_len_seq (by rfl) tt.b_len PySem.boot_len (pa_cons (pv 0) pa_nil)) pe_int (nomark _)) (pss_one (ps_raise (E := fun cls H' => E cls none H') tt.x_BadWord rfl (fun _ _ _ _ _ _ _ I hx q => raiseX2 I hx q) (pa_cons (pe_strT [97, 32, 119, 101, 98, 32, 104, 97, 115, 32, 97, 116, 32, 108, 101, 97, 115, 116, 32, 111, 110, 101, 32, 119, 111, 114, 100] (by decide +kernel)) pa_nil))) pss_nil)
   (pss_cons (ps_for PassesOwn.leaving rfl (pi_list (pv 0)) (pg_name (i := 1) sc_looked_web.nd rfl (Or.inl rfl)) (pss_cons (ps_expr (pe_cal C_looked hr passX2 (pa_cons (pv 1) (pa_cons (pe_callB call_len_T (by rfl) tt.b_len PySem.boot_len (pa_cons (pe_glob (by rfl) tt.g_LETTERS tt.r_LETTERS) pa_nil)) pa_nil))))
   (pss_cons (ps_if (pt_cmpR op_gt (pe_callB call_len_T (by rfl) tt.b_len PySem.boot_len (pa_cons (pv 1) pa_nil)) (pe_glob (by rfl) tt.g_LONGEST_OF_A_WEB tt.r_LONGEST_OF_A_WEB) (nomark _)) (pss_one (ps_raise (E := fun cls H' => E cls none H') tt.x_BadWord rfl (fun _ _ _ _ _ _ _ I hx q => raiseX2 I hx q) (pa_cons (pe_strT [97, 32, 119, 111, 114, 100, 32, 111, 102, 32, 97, 32, 119, 101, 98, 32, 104, 97, 115, 32, 97, 116, 32, 109, 111, 115, 116, 32, 56, 32, 108, 101, 116, 116, 101, 114, 115] (by decide +kernel)) pa_nil))) pss_nil)
   (pss_one (ps_if (pt_cmpR op_ne_I (pe_callB call_len_T (by rfl) tt.b_len PySem.boot_len (pa_cons (pv 1) pa_nil)) (pe_callB call_len_T (by rfl) tt.b_len PySem.boot_len (pa_cons (pe_ix ix_list (pv 0) pe_int (fun _ _ => rfl)) pa_nil)) (nomark _)) (pss_one (ps_raise (E := fun cls H' => E cls none H') tt.x_BadWord rfl (fun _ _ _ _ _ _ _ I hx q => raiseX2 I hx q) (pa_cons (pe_strT [116, 104, 101, 32, 119, 111, 114, 100, 115, 32, 111, 102, 32, 97, 32, 119, 101, 98, 32, 104, 97, 118, 101, 32, 111, 110, 101, 32, 108, 101, 110, 103, 116, 104] (by decide +kernel)) pa_nil))) pss_nil)))))
   (pss_one (ps_if (pt_cmpR op_ne_I (pe_callB call_lenS (by rfl) tt.b_len PySem.boot_len (pa_cons (pe_callTy (call_setT rfl) (by rfl) tt.b_set (by decide +kernel) (pa_cons (pv 0) pa_nil)) pa_nil)) (pe_callB call_len_seq (by rfl) tt.b_len PySem.boot_len (pa_cons (pv 0) pa_nil)) (nomark _)) (pss_one (ps_raise (E := fun cls H' => E cls none H') tt.x_BadWord rfl (fun _ _ _ _ _ _ _ I hx q => raiseX2 I hx q) (pa_cons (pe_strT [97, 32, 119, 111, 114, 100, 32, 115, 116, 97, 110, 100, 115, 32, 105, 110, 32, 97, 32, 119, 101, 98, 32, 111, 110, 99, 101] (by decide +kernel)) pa_nil))) pss_nil))))), ?_⟩
  refine ⟨_, rfl, p, _, rfl, .inl hS, _, _, rfl, rfl, _, rfl, ?_⟩
  rw [List.length_map]
  refine ite2 (fun h0 => absurd (of_decide_eq_true h0) (by omega)) (fun _ => ?_)
  refine ⟨_, rfl, p, _, rfl, .inl hS, _, rfl, _, rfl, _, rfl, ?_⟩
  rw [List.length_map]
  refine ite2 (fun h0 => absurd (of_decide_eq_true h0) (by omega)) (fun _ => ?_)
  refine ⟨_, rfl, p, rfl, ⟨_, hS⟩, ?_⟩
  refine for_list (K := K) (a := p) (xs := ls.map T) (fun i σ H2 => H2 = H ∧ ∃ v, σ = [some (.ref p), v]) ⟨rfl, none, rfl⟩ (fun i σ H2 _ h => by rw [h.1]; exact hS) ?_ ?_
  ·rintro i y σ H2 hi ⟨rfl, v, rfl⟩
   obtain ⟨x, hxi, rfl⟩ : ∃ x, ls[i]? = some x ∧ y = T x := by
    rw [List.getElem?_map] at hi
    obtain ⟨x, h1, h2⟩ := Option.map_eq_some_iff.mp hi
    exact ⟨x, h1, h2.symm⟩
   obtain ⟨hxl, hxc⟩ := hx x (List.mem_of_getElem? hxi)
   have hg : ∀ kn : Nat, (6 : Int) = (kn : Nat) → Good x kn := fun kn e => ⟨⟨by omega, by omega⟩, fun c hc => by have := hxc c hc; omega⟩
   refine ⟨_, rfl, _, rfl, (by show 6 ≤ sizeLine; omega), x, 6, rfl, (by omega), fun z => absurd ⟨by decide, by decide⟩ z, fun kn ek hk => ⟨fun _ => ?_, fun z => absurd (hg kn ek) z⟩⟩
   refine ⟨_, rfl, _, rfl, (by omega), _, _, rfl, rfl, _, rfl, ?_⟩
   refine ite2 (fun h0 => absurd (of_decide_eq_true h0) (by omega)) (fun _ => ?_)
   refine ⟨_, rfl, _, rfl, (by omega), _, rfl, p, _, _, _, rfl, rfl, hS, atI_nat (j := 0) (by rw [List.getElem?_map, hx0]; rfl), _, rfl, (by omega), _, rfl, _, rfl, _, rfl, ?_⟩
   refine iteNS (by rw [hxl, hx0l]) ?_
   exact ⟨rfl, _, rfl⟩
  ·rintro σ H2 ⟨rfl, v, rfl⟩
   refine ⟨_, rfl, p, ls, rfl, hS, (by omega), fun D hD => ?_⟩
   have sD : Same H2 (upd H2 D (SetT P w D (uniq ls))) := fun b o e => by rw [upd_ne (ne_of_none e hD)]; exact e
   refine ⟨D, _, rfl, upd_same, _, rfl, p, _, rfl, .inl (sD.seq hS), _, rfl, _, rfl, _, rfl, ?_⟩
   refine iteNS (by rw [List.length_map, uniq_len hnd]) ?_
   exact q _ sD
noncomputable def flds (tp : Addr) (n : Int) : List (Str × V) := putF "length" (.int n) (putF "words" (.ref tp) [])
theorem flds_w (tp : Addr) (n : Int) : (flds tp n).lookup ("words" : Str) = some (.ref tp) := by
 unfold flds
 rw [lookup_putF, if_neg (by decide +kernel), lookup_putF, if_pos rfl]
noncomputable def spWebI (K : PySem.W.Frag) (C : Addr) : Sp := fun vs H Q _ => ∃ (x dx p : Addr) (ls : List (List Nat)) (n : Nat), vs = [.ref x, .ref p] ∧ H x = some (.ins C dx []) ∧ SqL K H p (ls.map T) ∧ WebOk ls n ∧
 ∀ (tp : Addr) (ms : List (List Nat)) (H' : Hp), ms.Perm ls → ms.Pairwise (fun a b => ¬ b < a) → (∀ b o, H b = some o → b ≠ x → H' b = some o) → H' x = some (.ins C dx (flds tp (n : Nat))) → H' tp = some (.tup (ms.map T)) → Q .non H'
theorem ok_Web_init {f : Addr} {fd : FuncData} (F : Fun K "__init__" "Web.__init__" s_Web_init f fd) (tt : Txt K mg ad) (C_looked_web : Cal P w K mg base (CX2 P w) "looked_web" 4 ["words"] (spWebL K)) :
  FnOk P w K mg base (CX2 P w) 5 f fd ["self", "words"] (spWebI K ad.Web) := by
 refine F.okX2 sc_Web_init (fun vs H Q E h => ?_) (fun cdv A outer s H vs Q E hr h => ?_)
 ·obtain ⟨x, dx, p, ls, n, rfl, _⟩ := h
  rfl
 ·obtain ⟨x, dx, p, ls, n, rfl, hx, hS, hok, q⟩ := h
  have hs : sizeLine = 16777216 := sizeLine_eq
  obtain ⟨hne, h64, hn, hxs, hnd⟩ := id hok
  have hl0 : 0 < ls.length := List.length_pos_iff.mpr hne
  obtain ⟨x0, hx0⟩ : ∃ x0, ls[0]? = some x0 := ⟨_, List.getElem?_eq_getElem hl0⟩
  have hx0l := (hxs x0 (List.mem_of_getElem? hx0)).1
  refine ⟨_, (pss_cons (ps_expr (pe_cal C_looked_web hr passX2 (pa_cons (pv 1) pa_nil)))
   (pss_cons (ps_fld (pv 0) (pe_callTy call_tuple_of (by rfl) tt.b_tuple (by decide +kernel) (pa_cons (pe_callB call_sortedT (by rfl) tt.b_sorted PyProof.Rows.boot_sorted (pa_cons (pv 1) pa_nil)) pa_nil)) rfl)
   (pss_one (ps_fld (pv 0) (pe_callB call_len_T (by rfl) tt.b_len PySem.boot_len (pa_cons (pe_ix ix_list (pv 1) pe_int (fun _ _ => rfl)) pa_nil)) rfl)))), ?_⟩
  refine ⟨_, rfl, p, ls, n, rfl, hS, hok, fun H1 s1 => ?_⟩
  refine ⟨_, rfl, p, ls, rfl, s1.seq hS, (by omega), fun ms D hD hperm hpw => ?_⟩
  have s2 : Same H1 (upd H1 D (.lst (ms.map T))) := fun b o e => by rw [upd_ne (ne_of_none e hD)]; exact e
  refine ⟨D, _, rfl, .inl ⟨SqL.of upd_same, fun tp htp => ?_⟩⟩
  have s3 : Same (upd H1 D (.lst (ms.map T))) (upd (upd H1 D (.lst (ms.map T))) tp (.tup (ms.map T))) := fun b o e => by rw [upd_ne (ne_of_none e htp)]; exact e
  generalize hH3 : upd (upd H1 D (.lst (ms.map T))) tp (.tup (ms.map T)) = H3 at s3
  have htp3 : H3 tp = some (.tup (ms.map T)) := by rw [← hH3]; exact upd_same
  have s13 : Same H H3 := s1.trans (s2.trans s3)
  have hx3 := s13 x _ hx
  have hxt : tp ≠ x := fun z => by subst z; rw [htp3] at hx3; cases hx3
  refine ⟨_, rfl, x, ad.Web, dx, [], rfl, hx3, tt.cl_Web, tt.na_Web_words, (by show 0 < 1000; decide), ?_⟩
  have hS4 : SqL K (upd H3 x (.ins ad.Web dx (putF "words" (.ref tp) []))) p (ls.map T) := sq_put (s13.seq hS) hx3
  refine ⟨_, rfl, p, _, _, _, rfl, rfl, hS4, atI_nat (j := 0) (by rw [List.getElem?_map, hx0]; rfl), _, rfl, (by omega), _, rfl, x, ad.Web, dx, _, rfl, upd_same, tt.cl_Web, tt.na_Web_length, (by show 1 < 1000; decide), ?_⟩
  refine q tp ms _ hperm hpw (fun b o e hb => ?_) ?_ ?_
  ·rw [upd_ne hb, upd_ne hb]
   exact s13 b o e
  ·rw [upd_same, hx0l]
   rfl
  ·rw [upd_ne hxt, upd_ne hxt]
   exact htp3
noncomputable def WebAt (C : Addr) (H : Hp) (x tp : Addr) (n : Nat) (ms : List (List Nat)) : Prop := (∃ dx, H x = some (.ins C dx (flds tp (n : Nat)))) ∧ H tp = some (.tup (ms.map T))
theorem WebAt.on {C : Addr} {H H' : Hp} {x tp : Addr} {n : Nat} {ms : List (List Nat)} (h : WebAt C H x tp n ms) (s : Same H H') : WebAt C H' x tp n ms := let ⟨⟨dx, e⟩, t⟩ := h; ⟨⟨dx, s _ _ e⟩, s _ _ t⟩

noncomputable def spBegin : Sp := fun vs H Q _ => ∃ t : List Nat, vs = [T t] ∧ (1 ≤ t.length ∧ t.length ≤ 1000) ∧ Q (T (t.take (t.length - 1))) H
theorem cut_begin {t : List Nat} (h : 1 ≤ t.length) : cutL t none (some (-1)) = t.take (t.length - 1) := by
 unfold cutL
 rw [HT.sIx_none, List.drop_zero, Nat.sub_zero]
 show t.take (if (-1 : Int) < 0 then ((-1 : Int) + (t.length : Int)).toNat else min (-1 : Int).toNat t.length) = _
 rw [if_pos (by decide), show ((-1 : Int) + (t.length : Int)).toNat = t.length - 1 by omega]
theorem ok_begin_of {f : Addr} {fd : FuncData} (F : Fun K "begin_of" "begin_of" s_begin_of f fd) (tt : Txt K mg ad) : FnOk P w K mg base (CX2 P w) 1 f fd ["word"] spBegin := by
 refine F.okN2 sc_begin_of (fun vs H Q E h => ?_) (fun cdv A outer s H vs Q E hr h => ?_)
 ·obtain ⟨t, rfl, _⟩ := h
  rfl
 ·obtain ⟨t, rfl, hl, q⟩ := h
  have hs : sizeLine = 16777216 := sizeLine_eq
  refine ⟨_, (pss_one (ps_ret (pe_slice sl_T (pv 0) po_none (po_some (pe_un un_neg pe_int))))), ?_⟩
  refine ⟨_, rfl, _, rfl, _, rfl, _, rfl, (by omega), ?_⟩
  rw [show -(1 : Int) = -1 from rfl, cut_begin hl.1]
  exact q
noncomputable def spEnd : Sp := fun vs H Q _ => ∃ t : List Nat, vs = [T t] ∧ (1 ≤ t.length ∧ t.length ≤ 1000) ∧ Q (T (t.drop 1)) H
theorem ok_end_of {f : Addr} {fd : FuncData} (F : Fun K "end_of" "end_of" s_end_of f fd) (tt : Txt K mg ad) : FnOk P w K mg base (CX2 P w) 1 f fd ["word"] spEnd := by
 refine F.okN2 sc_end_of (fun vs H Q E h => ?_) (fun cdv A outer s H vs Q E hr h => ?_)
 ·obtain ⟨t, rfl, _⟩ := h
  rfl
 ·obtain ⟨t, rfl, hl, q⟩ := h
  have hs : sizeLine = 16777216 := sizeLine_eq
  refine ⟨_, (pss_one (ps_ret (pe_slice sl_T (pv 0) (po_some pe_int) po_none))), ?_⟩
  refine ⟨_, rfl, _, rfl, _, rfl, (by omega), ?_⟩
  have e : cutL t (some 1) none = t.drop 1 := cutL_from (k := 1) hl.1
  rw [e]
  exact q

theorem same_upd {H : Hp} {D : Addr} {o : HO} (h : H D = none) : Same H (upd H D o) := fun b u e => by rw [upd_ne (ne_of_none e h)]; exact e
theorem named {H G : Hp} (s : Same H G) : ∃ H', H' = G ∧ Same H H' := ⟨G, rfl, s⟩
theorem namedD {H G : Hp} {D : Addr} {o : HO} (s : Same H (upd G D o)) : ∃ H', H' = upd G D o ∧ Same H H' ∧ H' D = some o := ⟨_, rfl, s, upd_same⟩
noncomputable def Sq (K : PySem.W.Frag) (H : Hp) (p : Addr) (xs : List V) : Prop := SqL K H p xs ∨ SqT K H p xs
theorem Sq.on {K : PySem.W.Frag} {H H' : Hp} {p : Addr} {xs : List V} (h : Sq K H p xs) (s : Same H H') : Sq K H' p xs := h.elim (fun z => .inl (s.seq z)) fun z => .inr (tupOn s z)
noncomputable def beg (l : List Nat) : List Nat := l.take (l.length - 1)
noncomputable def Abc (x : List Nat) : Prop := ∀ c ∈ x, 97 ≤ c ∧ c < 103
theorem inV_T {t : List Nat} : ∀ {ls : List (List Nat)}, inV (T t) (ls.map T) = decide (t ∈ ls)
 | [] => by simp [inV]
 | l :: ls => by
  have ih := @inV_T t ls
  have e : inV (T t) ((l :: ls).map T) = (eqV (T l) (T t) || inV (T t) (ls.map T)) := rfl
  have e2 : eqV (T l) (T t) = decide (t = l) := by
   show (tx l == tx t) = decide (t = l)
   rw [Bool.eq_iff_iff, beq_iff_eq, decide_eq_true_iff]
   exact ⟨fun h => (tx_inj h).symm, fun h => by rw [h]⟩
  rw [e, ih, e2, Bool.eq_iff_iff, Bool.or_eq_true, decide_eq_true_iff, decide_eq_true_iff, decide_eq_true_iff, List.mem_cons]
theorem map_id_T (ls : List (List Nat)) : (ls.map T).map (fun v => v) = ls.map T := List.map_id _

theorem ok_NoRing_init {f : Addr} {fd : FuncData} (F : Fun K "__init__" "NoRing.__init__" s_NoRing_init f fd) (tt : Txt K mg ad) : FnOk P w K mg base (CX2 P w) 1 f fd ["self", "words", "paper"] (spInitE ad.NoRing "paper") := by
 refine F.okN2 sc_NoRing_init (fun vs H Q E h => ?_) (fun cdv A outer s H vs Q E hr h => ?_)
 ·obtain ⟨a, v1, v, rfl, _⟩ := h
  rfl
 ·obtain ⟨a, v1, v, rfl, ha, q⟩ := h
  refine ⟨_, (pss_cons (ps_expr (pe_init0 tt.bi_OnceError tt.xi_NoRing.choose_spec (pa_cons (pv 0) (pa_cons (pv 1) pa_nil))))
   (pss_one (ps_exset tt.xi_NoRing.choose_spec tt.na_NoRing_paper (pv 0) (pv 2)))), ?_⟩
  refine ⟨_, rfl, _, rfl, a, v1, rfl, ha, ?_⟩
  refine ⟨_, rfl, _, rfl, a, rfl, upd_same, fun dx hdx => ?_⟩
  have hda : dx ≠ a := fun z => by rw [z, upd_same] at hdx; cases hdx
  rw [upd_ne hda] at hdx
  have e : upd (upd (upd H a (ExB a ad.NoRing none)) dx (.xd [("paper", v)])) a (ExB a ad.NoRing (some dx)) = upd (upd H dx (.xd [("paper", v)])) a (ExB a ad.NoRing (some dx)) := by
   funext b
   by_cases hb : b = a
   ·rw [hb, upd_same, upd_same]
   ·rw [upd_ne hb, upd_ne hb]
    by_cases hb2 : b = dx
    ·rw [hb2, upd_same, upd_same]
    ·rw [upd_ne hb2, upd_ne hb2, upd_ne hb]
  show Q .non (upd (upd (upd H a (ExB a ad.NoRing none)) dx (.xd [("paper", v)])) a (ExB a ad.NoRing (some dx)))
  rw [e]
  exact q dx hdx

noncomputable def IsP (ms : List (List Nat)) (z : List Nat) : Prop := ∃ w ∈ ms, z = beg w ∨ z = w.drop 1
theorem few_len1 {k : Nat} {ls ps : List (List Nat)} {p : List Nat} (h : FewN k ls) (hn : ps.Nodup) (hm : ∀ z ∈ ps, z = p ∨ IsP ls z) : ps.length ≤ k + 1 := by
 obtain ⟨qs, h1, h2⟩ := h
 have := Hg.nd_len (ms := p :: qs) hn fun z hz => by
  rcases hm z hz with rfl | ⟨w, hw, rfl | rfl⟩
  ·exact List.mem_cons_self ..
  ·exact List.mem_cons_of_mem _ (h2 w hw).1
  ·exact List.mem_cons_of_mem _ (h2 w hw).2
 rw [List.length_cons] at this
 omega
theorem few64 {ls ps : List (List Nat)} {p : List Nat} (h : Few ls) (hn : ps.Nodup) (hm : ∀ z ∈ ps, z = p ∨ IsP ls z) : ps.length < 64 := by
 have := few_len1 h hn hm
 omega
noncomputable def spPieces (C : Addr) : Sp := fun vs H Q _ => ∃ (x tp : Addr) (n : Nat) (ms : List (List Nat)), vs = [.ref x] ∧ WebAt C H x tp n ms ∧ WebOk ms n ∧
 ∀ (D : Addr) (ps : List (List Nat)) (H' : Hp), H D = none → Same H H' → H' D = some (.lst (ps.map T)) → ps.Pairwise (fun a b => ¬ b < a) → ps.Nodup → (∀ z, z ∈ ps ↔ IsP ms z) → Q (.ref D) H'
theorem ok_pieces {f : Addr} {fd : FuncData} (F : Fun K "pieces" "pieces" s_pieces f fd) (tt : Txt K mg ad) (C_begin_of : Cal P w K mg base (CX2 P w) "begin_of" 1 ["word"] spBegin) (C_end_of : Cal P w K mg base (CX2 P w) "end_of" 1 ["word"] spEnd) :
  FnOk P w K mg base (CX2 P w) 2 f fd ["web"] (spPieces ad.Web) := by
 refine F.okN2 sc_pieces (fun vs H Q E h => ?_) (fun cdv A outer s H vs Q E hr h => ?_)
 ·obtain ⟨x, tp, n, ms, rfl, _⟩ := h
  rfl
 ·obtain ⟨x, tp, n, ms, rfl, hW, hok, q⟩ := h
  have hs : sizeLine = 16777216 := sizeLine_eq
  obtain ⟨⟨dx, hx⟩, htp⟩ := id hW
  obtain ⟨hne, h64, hn, hxs, hnd⟩ := id hok
  have ulen : ∀ ls : List (List Nat), (uniq ls).length ≤ ls.length := fun ls => nubTo_len ls _
  refine ⟨_, (pss_one (ps_ret (pe_callB (call_sortedIS rfl) (by rfl) tt.b_sorted PyProof.Rows.boot_sorted (pa_cons (pe_op op_orI (pe_callTy (call_setI rfl) (by rfl) tt.b_set (by decide +kernel) (pa_cons (pe_comp cs_pieces_0 rfl (pi_tup (pe_fld (pv 0) rfl)) (fun cl C s' H' fp => (pe_cal C_begin_of hr pass2 (pa_cons (pv 0) pa_nil)))) pa_nil)) (pe_callTy (call_setI rfl) (by rfl) tt.b_set (by decide +kernel) (pa_cons (pe_comp cs_pieces_1 rfl (pi_tup (pe_fld (pv 0) rfl)) (fun cl C s' H' fp => (pe_cal C_end_of hr pass2 (pa_cons (pv 0) pa_nil)))) pa_nil))) pa_nil)))), ?_⟩
  refine ⟨_, rfl, x, ad.Web, dx, _, _, rfl, hx, tt.cl_Web, tt.na_Web_words, flds_w _ _, tp, rfl, ⟨_, SqT.of htp⟩, ?_⟩
  refine compG (fun v => T (beg (unT v))) (reads_tup (SqT.of htp)) (by rw [List.length_map]; omega) (fun v H2 hv s2 N hN => ?_) fun D1 H2 hD1 s2 hd2 => ?_
  ·obtain ⟨l, hl, rfl⟩ := List.mem_map.mp hv
   have hll := (hxs l hl).1
   have z := hN H2 (Same.refl _)
   rw [unT_T] at z
   exact ⟨_, rfl, l, rfl, ⟨by omega, by omega⟩, z⟩
  rw [map_unT (f := fun l => T (beg l)), show ms.map (fun l => T (beg l)) = (ms.map beg).map T by rw [List.map_map]; rfl] at hd2
  refine ⟨D1, ms.map beg, rfl, SqL.of hd2, (by rw [List.length_map]; omega), fun S1 hS1 => ?_⟩
  have s3 := s2.trans (same_upd (o := SetI w S1 (uniq (ms.map beg))) hS1)
  have hd3 : upd H2 S1 (SetI w S1 (uniq (ms.map beg))) S1 = some (SetI w S1 (uniq (ms.map beg))) := upd_same
  refine ⟨_, rfl, x, ad.Web, dx, _, _, rfl, s3 x _ hx, tt.cl_Web, tt.na_Web_words, flds_w _ _, tp, rfl, ⟨_, SqT.of (s3 tp _ htp)⟩, ?_⟩
  refine compG (fun v => T ((unT v).drop 1)) (reads_tup (SqT.of (s3 tp _ htp))) (by rw [List.length_map]; omega) (fun v H4 hv s4 N hN => ?_) fun D2 H4 hD2 s4 hd4 => ?_
  ·obtain ⟨l, hl, rfl⟩ := List.mem_map.mp hv
   have hll := (hxs l hl).1
   have z := hN H4 (Same.refl _)
   rw [unT_T] at z
   exact ⟨_, rfl, l, rfl, ⟨by omega, by omega⟩, z⟩
  rw [map_unT (f := fun l => T (l.drop 1)), show ms.map (fun l => T (l.drop 1)) = (ms.map fun l => l.drop 1).map T by rw [List.map_map]; rfl] at hd4
  refine ⟨D2, ms.map (fun l => l.drop 1), rfl, SqL.of hd4, (by rw [List.length_map]; omega), fun S2 hS2 => ?_⟩
  have s5 := same_upd (o := SetI w S2 (uniq (ms.map fun l => l.drop 1))) hS2
  have l1 := ulen (ms.map beg)
  have l2 := ulen (ms.map fun l => l.drop 1)
  rw [List.length_map] at l1 l2
  have hS1' := s5 S1 _ (s4 S1 _ hd3)
  have ne12 : S1 ≠ S2 := fun z => by
   have g := s4 S1 _ hd3
   rw [z, hS2] at g
   cases g
  refine ⟨S1, S2, _, _, rfl, rfl, ne12, hS1', upd_same, (fun z => ?_), (by omega), fun D5 qs hD5 hqn hql hqm => ?_⟩
  ·obtain ⟨m0, hm0⟩ : ∃ m0, m0 ∈ ms := List.exists_mem_of_ne_nil _ hne
   have : beg m0 ∈ uniq (ms.map beg) := (uniq_mem _ _).mpr (List.mem_map_of_mem hm0)
   rw [z] at this
   cases this
  have s6 := same_upd (o := SetI w D5 qs) hD5
  refine ⟨D5, qs, rfl, upd_same, (few64 (p := []) hok.2.2.1.2 hqn fun z hz => .inr ?few), fun ps D6 hD6 hp6 hw6 => ?_⟩
  case few =>
   rw [hqm, uniq_mem, uniq_mem, List.mem_map, List.mem_map] at hz
   rcases hz with ⟨l, hl, rfl⟩ | ⟨l, hl, rfl⟩
   ·exact ⟨l, hl, .inl rfl⟩
   ·exact ⟨l, hl, .inr rfl⟩
  have s7 := same_upd (o := .lst (ps.map T)) hD6
  have sall := s3.trans (s4.trans (s5.trans (s6.trans s7)))
  have hD6' : H D6 = none := by
   cases e : H D6 with
   | none => rfl
   | some o =>
    have g := (s3.trans (s4.trans (s5.trans s6))) D6 o e
    exact absurd (g.symm.trans hD6) (fun z => nomatch z)
  refine q D6 ps _ hD6' sall upd_same hw6 (hp6.nodup_iff.mpr hqn) fun z => ?_
  rw [hp6.mem_iff, hqm, uniq_mem, uniq_mem, List.mem_map, List.mem_map]
  constructor
  ·rintro (⟨l, hl, rfl⟩ | ⟨l, hl, rfl⟩)
   ·exact ⟨l, hl, .inl rfl⟩
   ·exact ⟨l, hl, .inr rfl⟩
  ·rintro ⟨l, hl, rfl | rfl⟩
   ·exact .inl ⟨l, hl, rfl⟩
   ·exact .inr ⟨l, hl, rfl⟩

noncomputable def exc (ms so : List (List Nat)) : Int := ((ms.filter fun l => decide (beg l ∈ so)).length : Int) - ((ms.filter fun l => decide (l.drop 1 ∈ so)).length : Int)
noncomputable def spExcess (K : PySem.W.Frag) (C : Addr) : Sp := fun vs H Q _ => ∃ (x tp b : Addr) (n : Nat) (ms so : List (List Nat)), vs = [.ref x, .ref b] ∧ WebAt C H x tp n ms ∧ WebOk ms n ∧ Sq K H b (so.map T) ∧ ∀ (H' : Hp), Same H H' → Q (.int (exc ms so)) H'
theorem ok_excess {f : Addr} {fd : FuncData} (F : Fun K "excess" "excess" s_excess f fd) (tt : Txt K mg ad) (C_begin_of : Cal P w K mg base (CX2 P w) "begin_of" 1 ["word"] spBegin) (C_end_of : Cal P w K mg base (CX2 P w) "end_of" 1 ["word"] spEnd) :
  FnOk P w K mg base (CX2 P w) 2 f fd ["web", "some"] (spExcess K ad.Web) := by
 refine F.okN2 sc_excess (fun vs H Q E h => ?_) (fun cdv A outer s H vs Q E hr h => ?_)
 ·obtain ⟨x, tp, b, n, ms, so, rfl, _⟩ := h
  rfl
 ·obtain ⟨x, tp, b, n, ms, so, rfl, hW, hok, hB, q⟩ := h
  have hs : sizeLine = 16777216 := sizeLine_eq
  obtain ⟨⟨dx, hx⟩, htp⟩ := id hW
  obtain ⟨hne, h64, hn, hxs, hnd⟩ := id hok
  refine ⟨_, (pss_cons (ps_setCompf (i := 2) cs_excess_0 rfl (pi_tup (pe_fld (pv 0) rfl)) (fun cl C s' H' fp => (pt_cmpR (op_in_seqK K rfl) (pe_cal C_begin_of hr pass2 (pa_cons (pv 0) pa_nil)) (pv 2) (by with_unfolding_all rfl))) (fun cl C s' H' fp => (pv 0)) sc_excess.nd rfl rfl)
   (pss_cons (ps_setCompf (i := 3) cs_excess_1 rfl (pi_tup (pe_fld (pv 0) rfl)) (fun cl C s' H' fp => (pt_cmpR (op_in_seqK K rfl) (pe_cal C_end_of hr pass2 (pa_cons (pv 0) pa_nil)) (pv 2) (by with_unfolding_all rfl))) (fun cl C s' H' fp => (pv 0)) sc_excess.nd rfl rfl)
   (pss_one (ps_ret (pe_op op_sub (pe_callB call_len_seq (by rfl) tt.b_len PySem.boot_len (pa_cons (pv 2) pa_nil)) (pe_callB call_len_seq (by rfl) tt.b_len PySem.boot_len (pa_cons (pv 3) pa_nil))))))), ?_⟩
  refine ⟨_, rfl, x, ad.Web, dx, _, _, rfl, hx, tt.cl_Web, tt.na_Web_words, flds_w _ _, tp, rfl, ⟨_, SqT.of htp⟩, ?_⟩
  refine compFG (fun v => decide (beg (unT v) ∈ so)) (fun v => v) (reads_tup (SqT.of htp)) (by rw [List.length_map]; omega) (fun v H2 hv s2 N hN => ?_) (fun v H2 hv hp s2 N hN => ?_) fun D1 H2 hD1 s2 hd2 => ?_
  ·obtain ⟨l, hl, rfl⟩ := List.mem_map.mp hv
   have hll := (hxs l hl).1
   have z := hN H2 (Same.refl _)
   rw [unT_T] at z
   refine ⟨_, rfl, l, rfl, ⟨by omega, by omega⟩, _, rfl, b, _, rfl, hB.on s2, rfl, all_flat so, _, rfl, ?_⟩
   show N (inV (T (beg l)) (so.map T)) H2
   rw [inV_T]
   exact z
  ·exact ⟨_, rfl, hN H2 (Same.refl _)⟩
  rw [show (ms.map T).filter (fun v => decide (beg (unT v) ∈ so)) = (ms.filter fun l => decide (beg l ∈ so)).map T from filter_unT (p := fun l => decide (beg l ∈ so)) ms, map_id_T] at hd2
  refine ⟨_, rfl, x, ad.Web, dx, _, _, rfl, s2 x _ hx, tt.cl_Web, tt.na_Web_words, flds_w _ _, tp, rfl, ⟨_, SqT.of (s2 tp _ htp)⟩, ?_⟩
  refine compFG (fun v => decide ((unT v).drop 1 ∈ so)) (fun v => v) (reads_tup (SqT.of (s2 tp _ htp))) (by rw [List.length_map]; omega) (fun v H3 hv s3 N hN => ?_) (fun v H3 hv hp s3 N hN => ?_) fun D2 H3 hD2 s3 hd3 => ?_
  ·obtain ⟨l, hl, rfl⟩ := List.mem_map.mp hv
   have hll := (hxs l hl).1
   have z := hN H3 (Same.refl _)
   rw [unT_T] at z
   refine ⟨_, rfl, l, rfl, ⟨by omega, by omega⟩, _, rfl, b, _, rfl, (hB.on s2).on s3, rfl, all_flat so, _, rfl, ?_⟩
   show N (inV (T (l.drop 1)) (so.map T)) H3
   rw [inV_T]
   exact z
  ·exact ⟨_, rfl, hN H3 (Same.refl _)⟩
  rw [show (ms.map T).filter (fun v => decide ((unT v).drop 1 ∈ so)) = (ms.filter fun l => decide (l.drop 1 ∈ so)).map T from filter_unT (p := fun l => decide (l.drop 1 ∈ so)) ms, map_id_T] at hd3
  refine ⟨_, rfl, D1, _, rfl, .inl (SqL.of (s3 D1 _ hd2)), _, rfl, D2, _, rfl, .inl (SqL.of hd3), _, _, rfl, rfl, ?_⟩
  rw [List.length_map, List.length_map]
  exact q H3 (s2.trans s3)

theorem itP {c A B : Prop} [Decidable c] (hc : c) (h : A) : if c then A else B := by rw [if_pos hc]; exact h
theorem itN {c A B : Prop} [Decidable c] (hc : ¬ c) (h : B) : if c then A else B := by rw [if_neg hc]; exact h
noncomputable abbrev En (l : List Nat) : List Nat := l.drop 1
noncomputable abbrev Rc (ms : List (List Nat)) (p z : List Nat) : Prop := Hg.Rch beg En ms p z
theorem val_tKs {t : List Nat} {v : V} : ∀ {ls : List (List Nat)}, valV (tKs ls v) (Sum.inr (tx t)) = if t ∈ ls then some v else none
 | [] => by simp [tKs, valV]
 | l :: ls => by
  have ih := @val_tKs t v ls
  unfold tKs valV at ih ⊢
  rw [List.map_cons, List.find?_cons]
  by_cases e : l = t
  ·subst e
   simp
  ·have e2 : ¬ (Sum.inr (tx l) : Key) = Sum.inr (tx t) := fun z => e (tx_inj (Sum.inr.inj z))
   have e3 : ¬ t = l := fun z => e z.symm
   simp only [e2, decide_false, List.mem_cons, e3, false_or]
   exact ih
theorem put_tKs {t : List Nat} {v : V} {ls : List (List Nat)} : putK (tKs ls v) (Sum.inr (tx t)) v = tKs (Hg.addT ls t) v := by
 have e : ((tKs ls v).any fun kv => decide (kv.1 = Sum.inr (tx t))) = decide (t ∈ ls) := by
  rw [Bool.eq_iff_iff, List.any_eq_true, decide_eq_true_iff]
  constructor
  ·rintro ⟨kv, h1, h2⟩
   obtain ⟨l, hl, rfl⟩ := List.mem_map.mp h1
   have := tx_inj (Sum.inr.inj (of_decide_eq_true h2))
   exact this ▸ hl
  ·exact fun h => ⟨_, List.mem_map_of_mem h, decide_eq_true rfl⟩
 unfold putK Hg.addT
 rw [e]
 by_cases h : t ∈ ls
 ·rw [if_pos (decide_eq_true h), if_pos h]
  conv => rhs; rw [← List.map_id (tKs ls v)]
  refine List.map_congr_left fun kv hkv => ?_
  obtain ⟨l, _, rfl⟩ := List.mem_map.mp hkv
  split
  ·rfl
  ·rfl
 ·rw [if_neg (by rw [decide_eq_false h]; exact Bool.false_ne_true), if_neg h]
  unfold tKs
  rw [List.map_append]
  rfl
theorem tKs_keys (ls : List (List Nat)) (v : V) : (tKs ls v).map (·.1) = ls.map fun t => Sum.inr (tx t) := by
 unfold tKs
 rw [List.map_map]
 rfl
theorem tKs_len (ls : List (List Nat)) (v : V) : (tKs ls v).length = ls.length := by unfold tKs; rw [List.length_map]
theorem rc_or {ms : List (List Nat)} {p z : List Nat} (h : Rc ms p z) : z = p ∨ IsP ms z := by
 rcases Hg.rch_in h with rfl | g
 ·exact .inl rfl
 ·rcases List.mem_append.mp g with g | g
  ·obtain ⟨l, hl, e⟩ := List.mem_map.mp g
   exact .inr ⟨l, hl, .inl e.symm⟩
  ·obtain ⟨l, hl, e⟩ := List.mem_map.mp g
   exact .inr ⟨l, hl, .inr e.symm⟩
noncomputable def spHBy (K : PySem.W.Frag) : Sp := fun vs H Q _ => ∃ (a : Addr) (ms : List (List Nat)) (p : List Nat), vs = [.ref a, T p] ∧ SqT K H a (ms.map T) ∧ (ms.length ≤ 64 ∧ ∀ x ∈ ms, 1 ≤ x.length ∧ x.length ≤ 1000) ∧
 ∀ (D : Addr) (H' : Hp) (ls : List (List Nat)), H D = none → Same H H' → H' D = some (.dK (tKs ls (.bl true))) → ls.Nodup → (∀ z, z ∈ ls ↔ Rc ms p z) → Q (.ref D) H'
theorem ok_hanging_by {f : Addr} {fd : FuncData} (F : Fun K "hanging_by" "hanging_by" s_hanging_by f fd) (tt : Txt K mg ad) (C_begin_of : Cal P w K mg base (CX2 P w) "begin_of" 1 ["word"] spBegin) (C_end_of : Cal P w K mg base (CX2 P w) "end_of" 1 ["word"] spEnd) :
  FnOk P w K mg base (CX2 P w) 2 f fd ["words", "piece"] (spHBy K) := by
 refine F.okN2 sc_hanging_by (fun vs H Q E h => ?_) (fun cdv A outer s H vs Q E hr h => ?_)
 ·obtain ⟨a, ms, p, rfl, _⟩ := h
  rfl
 ·obtain ⟨a, ms, p, rfl, hS, ⟨h64, hxl⟩, q⟩ := h
  have hs : sizeLine = 16777216 := sizeLine_eq
  refine ⟨_, (pss_cons (ps_set (i := 2) sc_hanging_by.nd rfl (Or.inl rfl) (pe_disp (pps_cons (pv 1) pe_bl pps_nil) rfl rfl (fun z => nomatch z) (by decide)))
   (pss_cons (ps_set (i := 3) sc_hanging_by.nd rfl (Or.inl rfl) pe_int)
   (pss_cons (ps_while PassesOwn.never (pt_cmpR op_lt (pv 3) (pe_callB call_lenD (by rfl) tt.b_len PySem.boot_len (pa_cons (pv 2) pa_nil)) (nomark _)) (pss_cons (ps_set (i := 3) sc_hanging_by.nd rfl (Or.inl rfl) (pe_callB call_lenD (by rfl) tt.b_len PySem.boot_len (pa_cons (pv 2) pa_nil)))
   (pss_one (ps_for PassesOwn.never rfl (pi_tup (pv 0)) (pg_name (i := 4) sc_hanging_by.nd rfl (Or.inl rfl)) (pss_one (ps_if (PW.pt (pw_or (pt_cmp (pc_din (hu_of hr) (pe_cal C_begin_of hr pass2 (pa_cons (pv 4) pa_nil)) (pv 2))) (pw_or1 (pt_cmp (pc_din (hu_of hr) (pe_cal C_end_of hr pass2 (pa_cons (pv 4) pa_nil)) (pv 2)))))) (pss_cons (ps_dput (hu_of hr) (pv 2) (pe_cal C_begin_of hr pass2 (pa_cons (pv 4) pa_nil)) pe_bl rfl)
   (pss_one (ps_dput (hu_of hr) (pv 2) (pe_cal C_end_of hr pass2 (pa_cons (pv 4) pa_nil)) pe_bl rfl))) pss_nil))))))
   (pss_one (ps_ret (pv 2)))))), ?_⟩
  intro D hD
  refine ⟨_, rfl, upd_same, [(Sum.inr (tx p), .bl true)], rfl, (by show 1 ≤ 15; decide), ?_⟩
  have sD : Same H (upd H D (.dK (tKs [p] (.bl true)))) := same_upd hD
  have e1 : upd (upd H D (.dK [])) D (.dK (mergeK [] [(Sum.inr (tx p), .bl true)])) = upd H D (.dK (tKs [p] (.bl true))) := by
   rw [upd_upd]
   rfl
  rw [e1]
  refine ⟨fun m σ H2 => ∃ (fs : List (List Nat)) (kn : Nat) (v4 : Option V), m = 2 * ms.length + 2 - kn ∧ Same H H2 ∧ H2 D = some (.dK (tKs fs (.bl true))) ∧ fs.Nodup ∧ p ∈ fs ∧ (∀ z ∈ fs, Rc ms p z) ∧ kn ≤ fs.length ∧ (kn = fs.length → ∀ x ∈ ms, Hg.Cl beg En fs x) ∧ σ = [some (.ref a), some (T p), some (.ref D), some (.int (kn : Nat)), v4],
   ⟨_, [p], 0, none, rfl, sD, upd_same, by simp, by simp, (fun z hz => by rw [List.mem_singleton.mp hz]; exact .self), Nat.zero_le _, (fun z => nomatch z), rfl⟩, ?_⟩
  rintro m σ H2 ⟨fs, kn, v4, hm, s2, hd2, hnd, hp, hrc, hkn, hcl, rfl⟩
  have hfl := Hg.len_le hnd hrc
  refine ⟨_, rfl, _, rfl, D, _, rfl, hd2, _, _, rfl, rfl, _, rfl, ?_⟩
  rw [tKs_len]
  refine ite2 (fun h0 => ?_) (fun h0 => ?_)
  ·have h0' : kn < fs.length := by have := of_decide_eq_true h0; omega
   refine ⟨fun σ' H' => ∃ m' < m, ∃ (fs : List (List Nat)) (kn : Nat) (v4 : Option V), m' = 2 * ms.length + 2 - kn ∧ Same H H' ∧ H' D = some (.dK (tKs fs (.bl true))) ∧ fs.Nodup ∧ p ∈ fs ∧ (∀ z ∈ fs, Rc ms p z) ∧ kn ≤ fs.length ∧ (kn = fs.length → ∀ x ∈ ms, Hg.Cl beg En fs x) ∧ σ' = [some (.ref a), some (T p), some (.ref D), some (.int (kn : Nat)), v4], fun σ' H' z => z, ?_⟩
   refine ⟨_, rfl, D, _, rfl, hd2, ?_⟩
   rw [tKs_len]
   refine ⟨_, rfl, a, rfl, ⟨_, tupOn s2 hS⟩, ?_⟩
   refine for_tup (K := K) (a := a) (xs := ms.map T) (fun i σ H3 => Same H H3 ∧ ∃ (ls : List (List Nat)) (v4 : Option V), H3 D = some (.dK (tKs ls (.bl true))) ∧ Hg.Pass beg En ms p fs i ls ∧ σ = [some (.ref a), some (T p), some (.ref D), some (.int (fs.length : Nat)), v4]) ⟨s2, fs, v4, hd2, .zero hnd hrc, rfl⟩ (fun i σ H3 _ h => tupOn h.1 hS) ?_ ?_
   ·rintro i y σ H3 hi ⟨s3, ls, v4, hd3, hps, rfl⟩
    obtain ⟨x, hx, rfl⟩ : ∃ x, ms[i]? = some x ∧ T x = y := by rw [List.getElem?_map] at hi; exact Option.map_eq_some_iff.mp hi
    have hxx := hxl x (List.mem_of_getElem? hx)
    have hdx : ∀ t : List Nat, DGet H3 D (T t) (if t ∈ ls then some (.bl true) else none) := fun t => by have g := DGet.k (k := Sum.inr (tx t)) hd3; rwa [val_tKs] at g
    have l3 := Hg.len_le hps.nd hps.rch
    have sameD : ∀ {G : Hp} {o1 o2 : HO}, Same H G → Same H (upd (upd G D o1) D o2) := fun sg b o e => by
     rw [upd_ne (ne_of_none e hD), upd_ne (ne_of_none e hD)]
     exact sg b o e
    refine ⟨_, rfl, x, rfl, hxx, _, rfl, D, _, rfl, hdx _, _, rfl, ?_⟩
    by_cases hb : beg x ∈ ls
    ·refine itP (by show (if beg x ∈ ls then some (V.bl true) else none).isSome = true; rw [if_pos hb]; rfl) ?_
     refine ⟨_, rfl, _, rfl, x, rfl, hxx, D, _, rfl, DPut.k (k := Sum.inr (tx (beg x))) hd3 (by rw [tKs_len]; omega), ?_⟩
     rw [put_tKs]
     refine ⟨_, rfl, _, rfl, x, rfl, hxx, D, _, rfl, DPut.k (k := Sum.inr (tx (En x))) upd_same (by rw [tKs_len]; have := Hg.addT_len ls (beg x); omega), ?_⟩
     rw [put_tKs]
     exact ⟨sameD s3, _, some (T x), upd_same, hps.yes hx (.inl hb), rfl⟩
    ·refine itN (by show ¬ (if beg x ∈ ls then some (V.bl true) else none).isSome = true; rw [if_neg hb]; exact Bool.false_ne_true) ?_
     refine ⟨_, rfl, x, rfl, hxx, _, rfl, D, _, rfl, hdx _, _, rfl, ?_⟩
     by_cases he : En x ∈ ls
     ·refine itP (by show (if En x ∈ ls then some (V.bl true) else none).isSome = true; rw [if_pos he]; rfl) ?_
      refine ⟨_, rfl, _, rfl, x, rfl, hxx, D, _, rfl, DPut.k (k := Sum.inr (tx (beg x))) hd3 (by rw [tKs_len]; omega), ?_⟩
      rw [put_tKs]
      refine ⟨_, rfl, _, rfl, x, rfl, hxx, D, _, rfl, DPut.k (k := Sum.inr (tx (En x))) upd_same (by rw [tKs_len]; have := Hg.addT_len ls (beg x); omega), ?_⟩
      rw [put_tKs]
      exact ⟨sameD s3, _, some (T x), upd_same, hps.yes hx (.inr he), rfl⟩
     ·refine itN (by show ¬ (if En x ∈ ls then some (V.bl true) else none).isSome = true; rw [if_neg he]; exact Bool.false_ne_true) ?_
      exact ⟨s3, ls, some (T x), hd3, hps.no hx hb he, rfl⟩
   ·rintro σ H3 ⟨s3, ls, v4, hd3, hps, rfl⟩
    have l1 := hps.pre.length_le
    refine ⟨_, ?_, ls, fs.length, v4, rfl, s3, hd3, hps.nd, hps.pre.subset hp, hps.rch, l1, (fun e x hx => ?_), rfl⟩
    ·omega
    ·have hc := hps.cl e.symm x (by rw [List.length_map, List.take_length]; exact hx)
     rwa [hps.pre.eq_of_length e] at hc
  ·have h0' : kn = fs.length := by have z : ¬ ((kn : Int) < (fs.length : Int)) := fun z => h0 (decide_eq_true z); omega
   exact ⟨_, rfl, q D H2 fs hD s2 hd2 hnd fun z => ⟨hrc z, fun hz => hz.inside hp (hcl h0')⟩⟩

noncomputable def spHang (C : Addr) (ad : Adr) : Sp := fun vs H Q E => ∃ (x tp : Addr) (n : Nat) (ms : List (List Nat)) (p : List Nat), vs = [.ref x, T p] ∧ WebAt C H x tp n ms ∧ WebOk ms n ∧ (¬ IsP ms p → ∀ H', Same H H' → E (.ref ad.NoSuch) none H') ∧
 (IsP ms p → ∀ (D : Addr) (ps : List (List Nat)) (H' : Hp), H D = none → Same H H' → H' D = some (.lst (ps.map T)) → ps.Pairwise (fun a b => ¬ b < a) → ps.Nodup → (∀ z, z ∈ ps ↔ Rc ms p z) → Q (.ref D) H')
theorem back_none {H G : Hp} {D : Addr} (s : Same H G) (h : G D = none) : H D = none := by
 cases e : H D with
 | none => rfl
 | some o => exact absurd ((s D o e).symm.trans h) (fun z => nomatch z)
theorem ok_hanging {f : Addr} {fd : FuncData} (F : Fun K "hanging" "hanging" s_hanging f fd) (tt : Txt K mg ad) (C_pieces : Cal P w K mg base (CX2 P w) "pieces" 2 ["web"] (spPieces ad.Web)) (C_hanging_by : Cal P w K mg base (CX2 P w) "hanging_by" 2 ["words", "piece"] (spHBy K)) :
  FnOk P w K mg base (CX2 P w) 3 f fd ["web", "piece"] (spHang ad.Web ad) := by
 refine F.okX2 sc_hanging (fun vs H Q E h => ?_) (fun cdv A outer s H vs Q E hr h => ?_)
 ·obtain ⟨x, tp, n, ms, p, rfl, _⟩ := h
  rfl
 ·obtain ⟨x, tp, n, ms, p, rfl, hW, hok, xn, q⟩ := h
  have hs : sizeLine = 16777216 := sizeLine_eq
  obtain ⟨⟨dx, hx⟩, htp⟩ := id hW
  obtain ⟨hne, h64, hn, hxs, hnd⟩ := id hok
  refine ⟨_, (pss_cons (ps_if (pt_cmpR op_notIn_seq (pv 1) (pe_cal C_pieces hr pass2 (pa_cons (pv 0) pa_nil)) (by with_unfolding_all rfl)) (pss_one (ps_raise (E := fun cls H' => E cls none H') tt.x_NoSuch rfl (fun _ _ _ _ _ _ _ I hx q => raiseX2 I hx q) (pa_cons (pe_strT [116, 104, 101, 32, 119, 101, 98, 32, 104, 97, 115, 32, 110, 111, 32, 115, 117, 99, 104, 32, 112, 105, 101, 99, 101] (by decide +kernel)) pa_nil))) pss_nil)
   (pss_one (ps_ret (pe_callB (call_sortedDS rfl) (by rfl) tt.b_sorted PyProof.Rows.boot_sorted (pa_cons (pe_cal C_hanging_by hr pass2 (pa_cons (pe_fld (pv 0) rfl) (pa_cons (pv 1) pa_nil))) pa_nil))))), ?_⟩
  refine ⟨_, rfl, _, rfl, x, tp, n, ms, rfl, hW, hok, fun D1 ps H1 hD1 s1 hd1 hpw hpn hpm => ?_⟩
  refine ⟨D1, _, rfl, .inl (SqL.of hd1), rfl, all_flat ps, _, rfl, ?_⟩
  by_cases hp : p ∈ ps
  ·refine itN (by rw [inV_T, decide_eq_true hp]; exact Bool.false_ne_true) ?_
   refine ⟨_, rfl, x, ad.Web, dx, _, _, rfl, s1 x _ hx, tt.cl_Web, tt.na_Web_words, flds_w _ _, _, rfl, tp, ms, p, rfl, SqT.of (s1 tp _ htp), ⟨by omega, fun y hy => by have := (hxs y hy).1; omega⟩, fun D2 H2 ls hD2 s2 hd2 hln hlm => ?_⟩
   refine ⟨D2, ls, _, rfl, hd2, tKs_keys _ _, few64 hok.2.2.1.2 hln (fun z hz => rc_or ((hlm z).mp hz)), fun qs D3 hD3 hp3 hw3 => ?_⟩
   exact q ((hpm p).mp hp) D3 qs _ (back_none (s1.trans s2) hD3) (s1.trans (s2.trans (same_upd hD3))) upd_same hw3 (hp3.nodup_iff.mpr hln) fun z => by rw [hp3.mem_iff, hlm]
  ·refine itP (by rw [inV_T, decide_eq_false hp]; rfl) ?_
   exact ⟨(by show 1 ≤ sizeLine; omega), xn (fun z => hp ((hpm p).mpr z)) H1 s1⟩

noncomputable def Right (ms so : List (List Nat)) : Prop := so ≠ [] ∧ (∀ z ∈ so, IsP ms z) ∧ so.Pairwise (fun a b => ¬ b < a) ∧ so.Nodup
noncomputable def spRM (K : PySem.W.Frag) (C : Addr) : Sp := fun vs H Q _ => ∃ (x tp b : Addr) (n : Nat) (ms so : List (List Nat)), vs = [.ref x, .ref b] ∧ WebAt C H x tp n ms ∧ WebOk ms n ∧ SqT K H b (so.map T) ∧ so.length ≤ 300 ∧ ∀ (r : Bool) (H' : Hp), (r = true ↔ Right ms so) → Same H H' → Q (.bl r) H'
theorem right_of {ms ps so qs : List (List Nat)} (hpm : ∀ z, z ∈ ps ↔ IsP ms z) (h0 : so ≠ []) (hst : so.filter (fun l => !decide (l ∈ ps)) = []) (hq : qs.Perm (uniq so)) (hw : qs.Pairwise (fun a b => ¬ b < a)) : so = qs ↔ Right ms so := by
 constructor
 ·intro e
  refine ⟨h0, fun z hz => (hpm z).mp ?_, e ▸ hw, ?_⟩
  ·have := List.filter_eq_nil_iff.mp hst z hz
   simpa using this
  ·rw [e]; exact hq.nodup_iff.mpr (uniq_nodup so)
 ·rintro ⟨_, _, g1, g2⟩
  exact Wd.sorted_same ((List.perm_ext_iff_of_nodup g2 (hq.nodup_iff.mpr (uniq_nodup so))).mpr fun z => by rw [hq.mem_iff, uniq_mem]) g1 hw
theorem ok_is_right_made {f : Addr} {fd : FuncData} (F : Fun K "is_right_made" "is_right_made" s_is_right_made f fd) (tt : Txt K mg ad) (C_pieces : Cal P w K mg base (CX2 P w) "pieces" 2 ["web"] (spPieces ad.Web)) :
  FnOk P w K mg base (CX2 P w) 3 f fd ["web", "some"] (spRM K ad.Web) := by
 refine F.okN2 sc_is_right_made (fun vs H Q E h => ?_) (fun cdv A outer s H vs Q E hr h => ?_)
 ·obtain ⟨x, tp, b, n, ms, so, rfl, _⟩ := h
  rfl
 ·obtain ⟨x, tp, b, n, ms, so, rfl, hW, hok, hB, hsl, q⟩ := h
  have hs : sizeLine = 16777216 := sizeLine_eq
  have hu := Nat.lt_of_succ_lt (hu_of hr)
  refine ⟨_, (pss_cons (ps_set (i := 2) sc_is_right_made.nd rfl (Or.inr rfl) (pe_cal C_pieces hr pass2 (pa_cons (pv 0) pa_nil)))
   (pss_cons (ps_setCompf (i := 3) cs_is_right_made_0 rfl (pi_tup (pv 1)) (fun cl C s' H' fp => (pt_cmpR (op_notIn_seqK K rfl) (pv 0) (pv 3) (by with_unfolding_all rfl))) (fun cl C s' H' fp => (pv 0)) sc_is_right_made.nd rfl rfl)
   (pss_one (ps_ret (pe_and (pe_cmpR op_gt (pe_callB call_len_seq (by rfl) tt.b_len PySem.boot_len (pa_cons (pv 1) pa_nil)) pe_int (nomark _)) (pe_and (pe_cmpR (op_eq_LT hu) (pv 3) (pe_lst pa_nil) (nomark _)) (pe_one (pe_cmpR (op_eq_LT hu) (pe_callTy call_list_of (by rfl) tt.b_list (by decide +kernel) (pa_cons (pv 1) pa_nil)) (pe_callB (call_sortedIS rfl) (by rfl) tt.b_sorted PyProof.Rows.boot_sorted (pa_cons (pe_callTy (call_setTuI rfl) (by rfl) tt.b_set (by decide +kernel) (pa_cons (pv 1) pa_nil)) pa_nil)) (nomark _))))))))), ?_⟩
  refine ⟨_, rfl, x, tp, n, ms, rfl, hW, hok, fun D1 ps H1 hD1 s1 hd1 hpw hpn hpm => ?_⟩
  refine ⟨_, rfl, b, rfl, ⟨_, tupOn s1 hB⟩, ?_⟩
  refine compFG (fun v => !decide (unT v ∈ ps)) (fun v => v) (reads_tup (tupOn s1 hB)) (by rw [List.length_map]; omega) (fun v H2 hv s2 N hN => ?_) (fun v H2 hv hp s2 N hN => ?_) fun D2 H2 hD2 s2 hd2 => ?_
  ·obtain ⟨l, hl, rfl⟩ := List.mem_map.mp hv
   have z := hN H2 (Same.refl _)
   rw [unT_T] at z
   refine ⟨_, rfl, _, rfl, D1, _, rfl, .inl (SqL.of (s2 D1 _ hd1)), rfl, all_flat ps, _, rfl, ?_⟩
   show N (!inV (T l) (ps.map T)) H2
   rw [inV_T]
   exact z
  ·exact ⟨_, rfl, hN H2 (Same.refl _)⟩
  rw [show (so.map T).filter (fun v => !decide (unT v ∈ ps)) = (so.filter fun l => !decide (l ∈ ps)).map T from filter_unT (p := fun l => !decide (l ∈ ps)) so, map_id_T] at hd2
  have s02 := s1.trans s2
  refine ⟨_, rfl, b, _, rfl, .inr (tupOn s02 hB), _, _, rfl, rfl, _, rfl, ?_⟩
  rw [List.length_map]
  by_cases h0 : so = []
  ·refine itN (fun z => ?_) ?_
   ·have := of_decide_eq_true z
    rw [h0] at this
    simp at this
   ·exact q false H2 ⟨fun z => (nomatch z), fun z => absurd h0 z.1⟩ s02
  ·have hl0 : 0 < so.length := List.length_pos_iff.mpr h0
   refine itP (decide_eq_true (by omega)) ?_
   refine ⟨_, rfl, (by show 0 ≤ sizeLine; omega), fun p0 hp0 => ?_⟩
   have t0 := same_upd (o := .lst []) hp0
   refine ⟨D2, p0, so.filter (fun l => !decide (l ∈ ps)), [], rfl, rfl, SqL.of (t0 D2 _ hd2), SqL.of upd_same, _, rfl, ?_⟩
   by_cases hst : so.filter (fun l => !decide (l ∈ ps)) = []
   ·refine itP (decide_eq_true hst) ?_
    have s03 := s02.trans t0
    refine ⟨_, rfl, b, _, rfl, .inr (tupOn s03 hB), fun D3 hD3 => ?_⟩
    have t3 := same_upd (o := .lst (so.map T)) hD3
    refine ⟨_, rfl, b, so, rfl, tupOn (s03.trans t3) hB, (by omega), fun S hSn => ?_⟩
    have t4 := same_upd (o := SetI w S (uniq so)) hSn
    have ul := nubTo_len so so.length
    refine ⟨S, _, rfl, upd_same, few64 (p := []) hok.2.2.1.2 (uniq_nodup so) (fun z hz => .inr ((hpm z).mp (Decidable.byContradiction fun hc => List.filter_eq_nil_iff.mp hst z ((uniq_mem _ _).mp hz) (by rw [decide_eq_false hc]; rfl)))), fun qs D5 hD5 hp5 hw5 => ?_⟩
    have t5 := same_upd (o := .lst (qs.map T)) hD5
    refine ⟨D3, D5, so, qs, rfl, rfl, SqL.of ((t4.trans t5) D3 _ upd_same), SqL.of upd_same, ?_⟩
    exact q (decide (so = qs)) _ (decide_eq_true_iff.trans (right_of hpm h0 hst hp5 hw5)) (s03.trans (t3.trans (t4.trans t5)))
   ·refine itN (fun z => hst (of_decide_eq_true z)) ?_
    refine q false _ ⟨fun z => (nomatch z), fun z => absurd (List.filter_eq_nil_iff.mpr fun l hl => ?_) hst⟩ (s02.trans t0)
    rw [decide_eq_true ((hpm l).mpr (z.2.1 l hl))]
    exact Bool.false_ne_true

noncomputable def Apart (ms so : List (List Nat)) (k : Nat) : Prop := so.length < k ∧ ∀ l ∈ ms, (beg l ∈ so ↔ l.drop 1 ∈ so)
noncomputable def spAp (K : PySem.W.Frag) (C : Addr) : Sp := fun vs H Q _ => ∃ (x tp b : Addr) (n : Nat) (ms so : List (List Nat)), vs = [.ref x, .ref b] ∧ WebAt C H x tp n ms ∧ WebOk ms n ∧ SqT K H b (so.map T) ∧ so.length ≤ 300 ∧ ∀ (r : Bool) (ps : List (List Nat)) (H' : Hp), ps.Pairwise (fun a b => ¬ b < a) → ps.Nodup → (∀ z, z ∈ ps ↔ IsP ms z) → (r = true ↔ Apart ms so ps.length) → Same H H' → Q (.bl r) H'
theorem ok_is_apart {f : Addr} {fd : FuncData} (F : Fun K "is_apart" "is_apart" s_is_apart f fd) (tt : Txt K mg ad) (C_pieces : Cal P w K mg base (CX2 P w) "pieces" 2 ["web"] (spPieces ad.Web)) (C_begin_of : Cal P w K mg base (CX2 P w) "begin_of" 1 ["word"] spBegin) (C_end_of : Cal P w K mg base (CX2 P w) "end_of" 1 ["word"] spEnd) :
  FnOk P w K mg base (CX2 P w) 3 f fd ["web", "some"] (spAp K ad.Web) := by
 refine F.okN2 sc_is_apart (fun vs H Q E h => ?_) (fun cdv A outer s H vs Q E hr h => ?_)
 ·obtain ⟨x, tp, b, n, ms, so, rfl, _⟩ := h
  rfl
 ·obtain ⟨x, tp, b, n, ms, so, rfl, hW, hok, hB, hsl, q⟩ := h
  have hs : sizeLine = 16777216 := sizeLine_eq
  have hu := Nat.lt_of_succ_lt (hu_of hr)
  obtain ⟨⟨dx, hx⟩, htp⟩ := id hW
  obtain ⟨hne, h64, hn, hxs, hnd⟩ := id hok
  refine ⟨_, (pss_cons (ps_setCompf (i := 2) cs_is_apart_0 rfl (pi_tup (pe_fld (pv 0) rfl)) (fun cl C s' H' fp => (pt_cmpR op_ne_B (pe_cmpR (op_in_seqK K rfl) (pe_cal C_begin_of hr pass2 (pa_cons (pv 0) pa_nil)) (pv 2) (by with_unfolding_all rfl)) (pe_cmpR (op_in_seqK K rfl) (pe_cal C_end_of hr pass2 (pa_cons (pv 0) pa_nil)) (pv 2) (by with_unfolding_all rfl)) (nomark _))) (fun cl C s' H' fp => (pv 0)) sc_is_apart.nd rfl rfl)
   (pss_one (ps_ret (pe_and (pe_cmpR op_lt (pe_callB call_len_seq (by rfl) tt.b_len PySem.boot_len (pa_cons (pv 1) pa_nil)) (pe_callB call_len_seq (by rfl) tt.b_len PySem.boot_len (pa_cons (pe_cal C_pieces hr pass2 (pa_cons (pv 0) pa_nil)) pa_nil)) (nomark _)) (pe_one (pe_cmpR (op_eq_LT hu) (pv 2) (pe_lst pa_nil) (nomark _))))))), ?_⟩
  refine ⟨_, rfl, x, ad.Web, dx, _, _, rfl, hx, tt.cl_Web, tt.na_Web_words, flds_w _ _, tp, rfl, ⟨_, SqT.of htp⟩, ?_⟩
  refine compFG (fun v => !decide (decide (beg (unT v) ∈ so) = decide ((unT v).drop 1 ∈ so))) (fun v => v) (reads_tup (SqT.of htp)) (by rw [List.length_map]; omega) (fun v H2 hv s2 N hN => ?_) (fun v H2 hv hp s2 N hN => ?_) fun D2 H2 hD2 s2 hd2 => ?_
  ·obtain ⟨l, hl, rfl⟩ := List.mem_map.mp hv
   have hll := (hxs l hl).1
   have z := hN H2 (Same.refl _)
   rw [unT_T, ← inV_T, ← inV_T] at z
   exact ⟨_, rfl, l, rfl, ⟨by omega, by omega⟩, _, rfl, b, _, rfl, .inr (tupOn s2 hB), rfl, all_flat so, _, rfl, l, rfl, ⟨by omega, by omega⟩, _, rfl, b, _, rfl, .inr (tupOn s2 hB), rfl, all_flat so, _, rfl, _, rfl, _, rfl, z⟩
  ·exact ⟨_, rfl, hN H2 (Same.refl _)⟩
  rw [show (ms.map T).filter (fun v => !decide (decide (beg (unT v) ∈ so) = decide ((unT v).drop 1 ∈ so))) = (ms.filter fun l => !decide (decide (beg l ∈ so) = decide (l.drop 1 ∈ so))).map T from filter_unT (p := fun l => !decide (decide (beg l ∈ so) = decide (l.drop 1 ∈ so))) ms, map_id_T] at hd2
  refine ⟨_, rfl, b, _, rfl, .inr (tupOn s2 hB), _, rfl, x, tp, n, ms, rfl, hW.on s2, hok, fun D1 ps H3 hD1 s3 hd3 hpw hpn hpm => ?_⟩
  refine ⟨D1, _, rfl, .inl (SqL.of hd3), _, _, rfl, rfl, _, rfl, ?_⟩
  rw [List.length_map, List.length_map]
  have s03 := s2.trans s3
  by_cases h0 : so.length < ps.length
  ·refine itP (decide_eq_true (by omega)) ?_
   refine ⟨_, rfl, (by show 0 ≤ sizeLine; omega), fun p0 hp0 => ?_⟩
   have t0 := same_upd (o := .lst []) hp0
   refine ⟨D2, p0, ms.filter (fun l => !decide (decide (beg l ∈ so) = decide (l.drop 1 ∈ so))), [], rfl, rfl, SqL.of (t0 D2 _ (s3 D2 _ hd2)), SqL.of upd_same, ?_⟩
   refine q (decide _) ps _ hpw hpn hpm ?_ (s03.trans t0)
   rw [decide_eq_true_iff, List.filter_eq_nil_iff]
   constructor
   ·refine fun g => ⟨h0, fun l hl => ?_⟩
    have g := g l hl
    rw [Bool.not_eq_true', Bool.not_eq_false, decide_eq_true_iff, Bool.eq_iff_iff, decide_eq_true_iff, decide_eq_true_iff] at g
    exact g
   ·intro g l hl
    rw [Bool.not_eq_true', Bool.not_eq_false, decide_eq_true_iff, Bool.eq_iff_iff, decide_eq_true_iff, decide_eq_true_iff]
    exact g.2 l hl
  ·refine itN (fun z => h0 (by have := of_decide_eq_true z; omega)) ?_
   exact q false ps H3 hpw hpn hpm ⟨fun z => (nomatch z), fun z => absurd z.1 h0⟩ s03

noncomputable def unev : List Nat := [117, 110, 101, 118, 101, 110]
noncomputable def apar : List Nat := [97, 112, 97, 114, 116]
noncomputable def Shows (m : Nat) (ms so : List (List Nat)) (kd : List Nat) (k : Nat) : Prop := Right ms so ∧ ((kd = unev ∧ (m : Int) < (if exc ms so < 0 then - exc ms so else exc ms so)) ∨ (kd = apar ∧ Apart ms so k))
noncomputable def spShow (K : PySem.W.Frag) (C : Addr) (m : Nat) : Sp := fun vs H Q _ => ∃ (x tp pp b : Addr) (n : Nat) (ms so ps : List (List Nat)) (kd : List Nat), vs = [.ref x, .ref pp] ∧ WebAt C H x tp n ms ∧ WebOk ms n ∧ SqT K H pp [T kd, .ref b] ∧ SqT K H b (so.map T) ∧ so.length ≤ 300 ∧ ps.Nodup ∧ (∀ z, z ∈ ps ↔ IsP ms z) ∧ ∀ (r : Bool) (H' : Hp), (r = true ↔ Shows m ms so kd ps.length) → Same H H' → Q (.bl r) H'

theorem ok_shows_no_row {f : Addr} {fd : FuncData} (F : Fun K "shows_no_row" "shows_no_row" s_shows_no_row f fd) (tt : Txt K mg ad) (C_is_right_made : Cal P w K mg base (CX2 P w) "is_right_made" 3 ["web", "some"] (spRM K ad.Web)) (C_excess : Cal P w K mg base (CX2 P w) "excess" 2 ["web", "some"] (spExcess K ad.Web)) (C_is_apart : Cal P w K mg base (CX2 P w) "is_apart" 3 ["web", "some"] (spAp K ad.Web)) :
  FnOk P w K mg base (CX2 P w) 4 f fd ["web", "paper"] (spShow K ad.Web 1) := by
 refine F.okN2 sc_shows_no_row (fun vs H Q E h => ?_) (fun cdv A outer s H vs Q E hr h => ?_)
 ·obtain ⟨x, tp, pp, b, n, ms, so, ps, kd, rfl, _⟩ := h
  rfl
 ·obtain ⟨x, tp, pp, b, n, ms, so, ps, kd, rfl, hW, hok, hP, hB, hsl, hpn, hpm, q⟩ := h
  have hs : sizeLine = 16777216 := sizeLine_eq
  refine ⟨_, (pss_cons (ps_if (pt_not (pt_val (pe_cal C_is_right_made hr pass2 (pa_cons (pv 0) (pa_cons (pe_ix ix_tup (pv 1) pe_int (fun _ _ => rfl)) pa_nil))))) (pss_one (ps_ret pe_bl)) pss_nil)
   (pss_cons (ps_if (pt_cmpR op_eq_T (pe_ix ix_tup (pv 1) pe_int (fun _ _ => rfl)) (pe_strT [117, 110, 101, 118, 101, 110] (by decide +kernel)) (nomark _)) (pss_one (ps_ret (pe_cmpR op_gt (pe_callB call_abs (by rfl) tt.b_abs PyProof.Rows.boot_abs (pa_cons (pe_cal C_excess hr pass2 (pa_cons (pv 0) (pa_cons (pe_ix ix_tup (pv 1) pe_int (fun _ _ => rfl)) pa_nil))) pa_nil)) pe_int (nomark _)))) pss_nil)
   (pss_one (ps_ret (pe_and (pe_cmpR op_eq_T (pe_ix ix_tup (pv 1) pe_int (fun _ _ => rfl)) (pe_strT [97, 112, 97, 114, 116] (by decide +kernel)) (nomark _)) (pe_one (pe_cal C_is_apart hr pass2 (pa_cons (pv 0) (pa_cons (pe_ix ix_tup (pv 1) pe_int (fun _ _ => rfl)) pa_nil))))))))), ?_⟩
  refine ⟨_, rfl, _, rfl, pp, _, _, _, rfl, rfl, hP, rfl, x, tp, b, n, ms, so, rfl, hW, hok, hB, hsl, fun r1 H1 hr1 s1 => ?_⟩
  refine ⟨_, rfl, ?_⟩
  have hR : Right ms so ↔ r1 = true := hr1.symm
  have hW1 := hW.on s1
  have hP1 := tupOn s1 hP
  have hB1 := tupOn s1 hB
  cases r1 with
  | false =>
   refine itP rfl ?_
   exact q false H1 ⟨fun z => (nomatch z), fun z => absurd (hR.mp z.1) Bool.false_ne_true⟩ s1
  | true =>
   refine itN Bool.false_ne_true ?_
   have hRt := hR.mpr rfl
   refine ⟨_, rfl, pp, _, _, _, rfl, rfl, hP1, rfl, _, rfl, _, rfl, _, rfl, ?_⟩
   by_cases hk : kd = unev
   ·refine itP (decide_eq_true hk) ?_
    refine ⟨_, rfl, _, rfl, pp, _, _, _, rfl, rfl, hP1, rfl, x, tp, b, n, ms, so, rfl, hW1, hok, .inr hB1, fun H2 s2 => ?_⟩
    refine ⟨_, rfl, _, _, rfl, rfl, q (decide ((1 : Int) < (if exc ms so < 0 then - exc ms so else exc ms so))) H2 ?_ (s1.trans s2)⟩
    rw [decide_eq_true_iff]
    constructor
    ·exact fun z => ⟨hRt, .inl ⟨hk, z⟩⟩
    ·exact fun z => z.2.elim (fun g => g.2) fun g => absurd (hk.symm.trans g.1) (by decide)
   ·refine itN (fun z => hk (of_decide_eq_true z)) ?_
    refine ⟨_, rfl, pp, _, _, _, rfl, rfl, hP1, rfl, _, rfl, _, rfl, _, rfl, ?_⟩
    by_cases ha : kd = apar
    ·refine itP (decide_eq_true ha) ?_
     refine ⟨_, rfl, _, rfl, pp, _, _, _, rfl, rfl, hP1, rfl, x, tp, b, n, ms, so, rfl, hW1, hok, hB1, hsl, fun r2 ps2 H2 hw2 hn2 hm2 hr2 s2 => ?_⟩
     have el : ps2.length = ps.length := ((List.perm_ext_iff_of_nodup hn2 hpn).mpr fun z => by rw [hm2, hpm]).length_eq
     rw [el] at hr2
     exact q r2 H2 (hr2.trans ⟨fun z => ⟨hRt, .inr ⟨ha, z⟩⟩, fun z => z.2.elim (fun g => absurd g.1 hk) fun g => g.2⟩) (s1.trans s2)
    ·refine itN (fun z => ha (of_decide_eq_true z)) ?_
     exact q false H1 ⟨fun z => (nomatch z), fun z => z.2.elim (fun g => absurd g.1 hk) fun g => absurd g.1 ha⟩ s1
noncomputable def deg (ls : List (List Nat)) (p : List Nat) : Int := ((ls.filter fun l => decide (beg l = p)).length : Int) - ((ls.filter fun l => decide (l.drop 1 = p)).length : Int)

noncomputable def Kt (kvs : List (Key × V)) (ks : List (List Nat)) : Prop := kvs.map (·.1) = ks.map (fun t => Sum.inr (tx t)) ∧ ks.Nodup
theorem Kt.some {kvs : List (Key × V)} {ks : List (List Nat)} (h : Kt kvs ks) (z : List Nat) : (valV kvs (Sum.inr (tx z))).isSome = true ↔ z ∈ ks := by
 constructor
 ·intro g
  obtain ⟨v, hv⟩ := Option.isSome_iff_exists.mp g
  have := valV_in hv
  rw [h.1] at this
  obtain ⟨t, ht, e⟩ := List.mem_map.mp this
  exact tx_inj (Sum.inr.inj e) ▸ ht
 ·intro g
  cases e : valV kvs (Sum.inr (tx z)) with
  | some v => rfl
  | none =>
   have := valV_not e
   rw [h.1] at this
   exact absurd (List.mem_map_of_mem g) this
theorem Kt.put {kvs : List (Key × V)} {ks : List (List Nat)} (h : Kt kvs ks) (t : List Nat) (v : V) : Kt (putK kvs (Sum.inr (tx t)) v) (Hg.addT ks t) := by
 refine ⟨?_, Hg.addT_nd h.2⟩
 have e := h.some t
 unfold Hg.addT
 by_cases ht : t ∈ ks
 ·rw [if_pos ht]
  have ha : (kvs.any fun kv => decide (kv.1 = Sum.inr (tx t))) = true := by
   obtain ⟨u, hu⟩ := Option.isSome_iff_exists.mp (e.mpr ht)
   obtain ⟨kv, h1, h2⟩ := List.mem_map.mp (valV_in hu)
   exact List.any_eq_true.mpr ⟨kv, h1, decide_eq_true h2⟩
  unfold putK
  rw [if_pos ha, List.map_map, ← h.1]
  refine List.map_congr_left fun kv _ => ?_
  show (if kv.1 = Sum.inr (tx t) then (kv.1, v) else kv).1 = kv.1
  split <;> rfl
 ·rw [if_neg ht]
  have hn : valV kvs (Sum.inr (tx t)) = none := by
   cases g : valV kvs (Sum.inr (tx t)) with
   | none => rfl
   | some u => exact absurd (e.mp (by rw [g]; rfl)) ht
  rw [putK_new v hn, List.map_append, List.map_append, h.1]
  rfl
theorem IsP.snoc {ls : List (List Nat)} {x z : List Nat} : IsP (ls ++ [x]) z ↔ IsP ls z ∨ z = beg x ∨ z = x.drop 1 := by
 constructor
 ·rintro ⟨l, hl, g⟩
  rcases List.mem_append.mp hl with e | e
  ·exact .inl ⟨l, e, g⟩
  ·rw [List.mem_singleton.mp e] at g
   exact .inr g
 ·rintro (⟨l, hl, g⟩ | g)
  ·exact ⟨l, List.mem_append.mpr (.inl hl), g⟩
  ·exact ⟨x, List.mem_append.mpr (.inr (List.mem_singleton.mpr rfl)), g⟩
theorem deg_snoc (ls : List (List Nat)) (x z : List Nat) : deg (ls ++ [x]) z = deg ls z + (if beg x = z then 1 else 0) - (if x.drop 1 = z then 1 else 0) := by
 unfold deg
 rw [List.filter_append, List.filter_append, List.length_append, List.length_append, List.filter_cons, List.filter_cons, List.filter_nil, List.filter_nil]
 by_cases h1 : beg x = z
 ·rw [if_pos (decide_eq_true h1), if_pos h1]
  by_cases h2 : x.drop 1 = z
  ·rw [if_pos (decide_eq_true h2), if_pos h2, List.length_singleton]; omega
  ·rw [if_neg (fun q => h2 (of_decide_eq_true q)), if_neg h2, List.length_singleton, List.length_nil]; omega
 ·rw [if_neg (fun q => h1 (of_decide_eq_true q)), if_neg h1]
  by_cases h2 : x.drop 1 = z
  ·rw [if_pos (decide_eq_true h2), if_pos h2, List.length_singleton, List.length_nil]; omega
  ·rw [if_neg (fun q => h2 (of_decide_eq_true q)), if_neg h2, List.length_nil]; omega
set_option genInjectivity false in
structure DegAt (kvs : List (Key × V)) (ks ls : List (List Nat)) : Prop where
 kt : Kt kvs ks
 mem : ∀ z, z ∈ ks ↔ IsP ls z
 val : ∀ z, (valV kvs (Sum.inr (tx z))).getD (.int 0) = .int (deg ls z)
theorem tx_key {a b : List Nat} : ((Sum.inr (tx a) : Key) = Sum.inr (tx b)) ↔ a = b := ⟨fun h => tx_inj (Sum.inr.inj h), fun h => by rw [h]⟩
theorem DegAt.snoc {kvs : List (Key × V)} {ks ls : List (List Nat)} (h : DegAt kvs ks ls) (x : List Nat) {g : Int} (hg : (valV (putK kvs (Sum.inr (tx (beg x))) (.int (deg ls (beg x) + 1))) (Sum.inr (tx (x.drop 1)))).getD (.int 0) = .int g) :
  DegAt (putK (putK kvs (Sum.inr (tx (beg x))) (.int (deg ls (beg x) + 1))) (Sum.inr (tx (x.drop 1))) (.int (g - 1))) (Hg.addT (Hg.addT ks (beg x)) (x.drop 1)) (ls ++ [x]) := by
 refine ⟨(h.kt.put _ _).put _ _, fun z => ?_, fun z => ?_⟩
 ·rw [Hg.addT_mem, Hg.addT_mem, h.mem, IsP.snoc]
  constructor
  ·rintro ((a | a) | a)
   ·exact .inl a
   ·exact .inr (.inl a)
   ·exact .inr (.inr a)
  ·rintro (a | a | a)
   ·exact .inl (.inl a)
   ·exact .inl (.inr a)
   ·exact .inr a
 ·rw [valV_put, deg_snoc]
  rw [valV_put] at hg
  by_cases e1 : z = x.drop 1
  ·subst e1
   rw [if_pos rfl, if_pos rfl]
   show V.int (g - 1) = _
   by_cases e2 : x.drop 1 = beg x
   ·rw [if_pos (tx_key.mpr e2)] at hg
    have hg' : deg ls (beg x) + 1 = g := V.int.inj hg
    rw [if_pos e2.symm, e2, ← hg']
   ·rw [if_neg (fun q => e2 (tx_key.mp q)), h.val] at hg
    have hg' : deg ls (x.drop 1) = g := V.int.inj hg
    rw [if_neg (fun q => e2 q.symm), ← hg']
    congr 1
    omega
  ·rw [if_neg (show ¬ (Sum.inr (tx z) : Key) = Sum.inr (tx (x.drop 1)) from fun q => e1 (tx_key.mp q)), valV_put, if_neg (show ¬ x.drop 1 = z from fun q => e1 q.symm)]
   by_cases e2 : z = beg x
   ·rw [if_pos (tx_key.mpr e2), if_pos e2.symm, e2]
    show V.int _ = V.int _
    congr 1
    omega
   ·rw [if_neg (show ¬ (Sum.inr (tx z) : Key) = Sum.inr (tx (beg x)) from fun q => e2 (tx_key.mp q)), h.val, if_neg (show ¬ beg x = z from fun q => e2 q.symm)]
    congr 1
    omega
noncomputable def spDegs (K : PySem.W.Frag) : Sp := fun vs H Q _ => ∃ (a : Addr) (ls : List (List Nat)), vs = [.ref a] ∧ SqL K H a (ls.map T) ∧ (ls.length ≤ 64 ∧ ∀ x ∈ ls, 1 ≤ x.length ∧ x.length ≤ 1000) ∧
 ∀ (D : Addr) (kvs : List (Key × V)) (ks : List (List Nat)) (H' : Hp), H D = none → Same H H' → H' D = some (.dK kvs) → DegAt kvs ks ls → Q (.ref D) H'
theorem ok__law_degrees {f : Addr} {fd : FuncData} (F : Fun K "_law_degrees" "_law_degrees" s__law_degrees f fd) (tt : Txt K mg ad) : FnOk P w K mg base (CX2 P w) 1 f fd ["words"] (spDegs K) := by
 refine F.okN2 sc__law_degrees (fun vs H Q E h => ?_) (fun cdv A outer s H vs Q E hr h => ?_)
 ·obtain ⟨a, ls, rfl, _⟩ := h
  rfl
 ·obtain ⟨a, ls, rfl, hS, ⟨h64, hxl⟩, q⟩ := h
  have hs : sizeLine = 16777216 := sizeLine_eq
  refine ⟨_, (pss_cons (ps_set (i := 1) sc__law_degrees.nd rfl (Or.inl rfl) pe_dnewK)
   (pss_cons (ps_for PassesOwn.never rfl (pi_list (pv 0)) (pg_name (i := 2) sc__law_degrees.nd rfl (Or.inl rfl)) (pss_cons (ps_dput (hu_of hr) (pv 1) (pe_slice sl_T (pv 2) po_none (po_some (pe_un un_neg pe_int))) (pe_op op_add (pe_dget2 (hu_of hr) (pv 1) (pe_slice sl_T (pv 2) po_none (po_some (pe_un un_neg pe_int))) pe_int ⟨rfl, rfl, rfl, rfl⟩) pe_int) rfl)
   (pss_one (ps_dput (hu_of hr) (pv 1) (pe_slice sl_T (pv 2) (po_some pe_int) po_none) (pe_op op_sub (pe_dget2 (hu_of hr) (pv 1) (pe_slice sl_T (pv 2) (po_some pe_int) po_none) pe_int ⟨rfl, rfl, rfl, rfl⟩) pe_int) rfl))))
   (pss_one (ps_ret (pv 1))))), ?_⟩
  intro D hD
  refine ⟨_, rfl, a, rfl, ⟨_, (same_upd hD).seq hS⟩, ?_⟩
  refine for_list (K := K) (a := a) (xs := ls.map T) (fun i σ H2 => Same H H2 ∧ ∃ (kvs : List (Key × V)) (ks : List (List Nat)) (v2 : Option V), H2 D = some (.dK kvs) ∧ DegAt kvs ks (ls.take i) ∧ kvs.length ≤ 2 * i ∧ σ = [some (.ref a), some (.ref D), v2])
   ⟨same_upd hD, [], [], none, upd_same, ⟨⟨rfl, by simp⟩, fun z => ⟨fun g => (nomatch g), fun ⟨l, hl, _⟩ => by rw [List.take_zero] at hl; cases hl⟩, fun z => rfl⟩, by simp, rfl⟩ (fun i σ H2 _ h => h.1.seq hS) ?_ ?_
  ·rintro i y σ H2 hi ⟨s2, kvs, ks, v2, hd2, hda, hkl, rfl⟩
   obtain ⟨x, hx, rfl⟩ : ∃ x, ls[i]? = some x ∧ T x = y := by rw [List.getElem?_map] at hi; exact Option.map_eq_some_iff.mp hi
   have hxx := hxl x (List.mem_of_getElem? hx)
   have cb : cutL x none (some (-(1 : Int))) = beg x := cut_begin hxx.1
   have ce : cutL x (some 1) none = x.drop 1 := cutL_from (k := 1) hxx.1
   have et : ls.take (i + 1) = ls.take i ++ [x] := by rw [List.take_add_one, hx]; rfl
   have hi64 : i < 64 := by rcases Nat.lt_or_ge i ls.length with z | z; omega; rw [List.getElem?_eq_none z] at hx; cases hx
   have g1 : DGet H2 D (T (cutL x none (some (-(1 : Int))))) (valV kvs (Sum.inr (tx (beg x)))) := by rw [cb]; exact DGet.k (k := Sum.inr (tx (beg x))) hd2
   have p1 : DPut H2 D (T (cutL x none (some (-(1 : Int))))) (.int (deg (ls.take i) (beg x) + 1)) (upd H2 D (.dK (putK kvs (Sum.inr (tx (beg x))) (.int (deg (ls.take i) (beg x) + 1))))) := by rw [cb]; exact DPut.k (k := Sum.inr (tx (beg x))) hd2 (by omega)
   refine ⟨_, rfl, D, rfl, .inl ⟨kvs, .inl hd2⟩, _, rfl, _, rfl, _, rfl, _, rfl, (by omega), _, g1, _, _, hda.val (beg x), rfl, _, rfl, _, rfl, _, rfl, _, rfl, _, rfl, (by omega), D, _, rfl, p1, ?_⟩
   obtain ⟨kv1, hkv1⟩ : ∃ kv1, kv1 = putK kvs (Sum.inr (tx (beg x))) (.int (deg (ls.take i) (beg x) + 1)) := ⟨_, rfl⟩
   have l1 := length_putK kvs (Sum.inr (tx (beg x))) (.int (deg (ls.take i) (beg x) + 1))
   obtain ⟨g, hg⟩ : ∃ g : Int, (valV kv1 (Sum.inr (tx (x.drop 1)))).getD (.int 0) = .int g := by
    rw [hkv1, valV_put]
    split
    ·exact ⟨_, rfl⟩
    ·exact ⟨_, hda.val _⟩
   have hda2 := hda.snoc x (g := g) (by rw [← hkv1]; exact hg)
   rw [← hkv1] at l1 hda2 ⊢
   obtain ⟨H3, hH3⟩ : ∃ H3, H3 = upd H2 D (.dK kv1) := ⟨_, rfl⟩
   have hd3 : H3 D = some (.dK kv1) := by rw [hH3]; exact upd_same
   rw [← hH3]
   have g2 : DGet H3 D (T (cutL x (some 1) none)) (valV kv1 (Sum.inr (tx (x.drop 1)))) := by rw [ce]; exact DGet.k (k := Sum.inr (tx (x.drop 1))) hd3
   have p2 : DPut H3 D (T (cutL x (some 1) none)) (.int (g - 1)) (upd H3 D (.dK (putK kv1 (Sum.inr (tx (x.drop 1))) (.int (g - 1))))) := by rw [ce]; exact DPut.k (k := Sum.inr (tx (x.drop 1))) hd3 (by omega)
   refine ⟨_, rfl, D, rfl, .inl ⟨kv1, .inl hd3⟩, _, rfl, _, rfl, _, rfl, (by omega), _, g2, _, _, hg, rfl, _, rfl, _, rfl, _, rfl, _, rfl, (by omega), D, _, rfl, p2, ?_⟩
   have l2 := length_putK kv1 (Sum.inr (tx (x.drop 1))) (.int (g - 1))
   refine ⟨fun b o e => ?_, _, _, some (T x), upd_same, by rw [et]; exact hda2, by omega, rfl⟩
   rw [upd_ne (ne_of_none e hD), hH3, upd_ne (ne_of_none e hD)]
   exact s2 b o e
  ·rintro σ H2 ⟨s2, kvs, ks, v2, hd2, hda, hkl, rfl⟩
   rw [List.length_map, List.take_length] at hda
   exact ⟨_, rfl, q D kvs ks H2 hD s2 hd2 hda⟩

noncomputable def spHangs (K : PySem.W.Frag) : Sp := fun vs H Q _ => ∃ (a : Addr) (ms : List (List Nat)) (p : List Nat), vs = [.ref a, T p] ∧ SqL K H a (ms.map T) ∧ ((ms.length ≤ 64 ∧ Few ms) ∧ ∀ x ∈ ms, 1 ≤ x.length ∧ x.length ≤ 1000) ∧
 ∀ (D : Addr) (ps : List (List Nat)) (H' : Hp), H D = none → Same H H' → H' D = some (.lst (ps.map T)) → ps.Pairwise (fun a b => ¬ b < a) → ps.Nodup → (∀ z, z ∈ ps ↔ Rc ms p z) → Q (.ref D) H'
theorem ok__law_hangs {f : Addr} {fd : FuncData} (F : Fun K "_law_hangs" "_law_hangs" s__law_hangs f fd) (tt : Txt K mg ad) :
  FnOk P w K mg base (CX2 P w) 1 f fd ["words", "first"] (spHangs K) := by
 refine F.okN2 sc__law_hangs (fun vs H Q E h => ?_) (fun cdv A outer s H vs Q E hr h => ?_)
 ·obtain ⟨a, ms, p, rfl, _⟩ := h
  rfl
 ·obtain ⟨a, ms, p, rfl, hS, ⟨h64, hxl⟩, q⟩ := h
  have hs : sizeLine = 16777216 := sizeLine_eq
  have hall : (Hg.allP beg En ms).length = 2 * ms.length := by unfold Hg.allP; rw [List.length_append, List.length_map, List.length_map]; omega
  refine ⟨_, (pss_cons (ps_set (i := 2) sc__law_hangs.nd rfl (Or.inl rfl) (pe_lst (pa_cons (pv 1) pa_nil)))
   (pss_cons (ps_set (i := 3) sc__law_hangs.nd rfl (Or.inl rfl) pe_bl)
   (pss_cons (ps_while PassesOwn.never (pt_val (pv 3)) (pss_cons (ps_set (i := 3) sc__law_hangs.nd rfl (Or.inl rfl) pe_bl)
   (pss_one (ps_for PassesOwn.never rfl (pi_list (pv 0)) (pg_name (i := 4) sc__law_hangs.nd rfl (Or.inl rfl)) (pss_one (ps_if (pt_cmpR op_ne_B (pe_cmpR op_in_seq (pe_slice sl_T (pv 4) po_none (po_some (pe_un un_neg pe_int))) (pv 2) (by with_unfolding_all rfl)) (pe_cmpR op_in_seq (pe_slice sl_T (pv 4) (po_some pe_int) po_none) (pv 2) (by with_unfolding_all rfl)) (nomark _)) (pss_cons (ps_set (i := 2) sc__law_hangs.nd rfl (Or.inl rfl) (pe_op op_catL (pv 2) (pe_lst (pa_cons (pe_slice sl_T (pv 4) po_none (po_some (pe_un un_neg pe_int))) (pa_cons (pe_slice sl_T (pv 4) (po_some pe_int) po_none) pa_nil)))))
   (pss_one (ps_set (i := 3) sc__law_hangs.nd rfl (Or.inl rfl) pe_bl))) pss_nil))))))
   (pss_one (ps_ret (pe_callB (call_sortedIS rfl) (by rfl) tt.b_sorted PyProof.Rows.boot_sorted (pa_cons (pe_callTy (call_setI rfl) (by rfl) tt.b_set (by decide +kernel) (pa_cons (pv 2) pa_nil)) pa_nil))))))), ?_⟩
  refine ⟨_, rfl, (by show 1 ≤ sizeLine; omega), fun D0 hD0 => ?_⟩
  refine ⟨fun m σ H2 => ∃ (Dm : Addr) (met : List (List Nat)) (ch : Bool) (v4 : Option V), m = 2 * Hg.miss (Hg.allP beg En ms) met + (if ch = true then 1 else 0) ∧ Same H H2 ∧ H2 Dm = some (.lst (met.map T)) ∧ p ∈ met ∧ (∀ z ∈ met, Rc ms p z) ∧ met.length + 2 * Hg.miss (Hg.allP beg En ms) met ≤ 257 ∧ (ch = false → ∀ x ∈ ms, Hg.Cl beg En met x) ∧ σ = [some (.ref a), some (T p), some (.ref Dm), some (.bl ch), v4],
   ⟨_, D0, [p], true, none, rfl, same_upd hD0, upd_same, by simp, (fun z hz => by rw [List.mem_singleton.mp hz]; exact .self), ?_, (fun z => nomatch z), rfl⟩, ?_⟩
  ·have : Hg.miss (Hg.allP beg En ms) [p] ≤ (Hg.allP beg En ms).length := List.length_filter_le ..
   show 1 + _ ≤ 257
   omega
  rintro m σ H2 ⟨Dm, met, ch, v4, hm, s2, hd2, hp, hrc, hml, hcl, rfl⟩
  refine ⟨_, rfl, _, rfl, ?_⟩
  refine ite2 (fun h0 => ?_) (fun h0 => ?_)
  ·subst h0
   refine ⟨fun σ' H' => ∃ m' < m, ∃ (Dm : Addr) (met : List (List Nat)) (ch : Bool) (v4 : Option V), m' = 2 * Hg.miss (Hg.allP beg En ms) met + (if ch = true then 1 else 0) ∧ Same H H' ∧ H' Dm = some (.lst (met.map T)) ∧ p ∈ met ∧ (∀ z ∈ met, Rc ms p z) ∧ met.length + 2 * Hg.miss (Hg.allP beg En ms) met ≤ 257 ∧ (ch = false → ∀ x ∈ ms, Hg.Cl beg En met x) ∧ σ' = [some (.ref a), some (T p), some (.ref Dm), some (.bl ch), v4], fun σ' H' z => z, ?_⟩
   refine ⟨_, rfl, a, rfl, ⟨_, s2.seq hS⟩, ?_⟩
   refine for_list (K := K) (a := a) (xs := ms.map T) (fun i σ H3 => Same H H3 ∧ ∃ (Dn : Addr) (ls : List (List Nat)) (ch : Bool) (v4 : Option V), H3 Dn = some (.lst (ls.map T)) ∧ Hg.Walk beg En ms p met i ls ch ∧ σ = [some (.ref a), some (T p), some (.ref Dn), some (.bl ch), v4]) ⟨s2, Dm, met, false, v4, hd2, .zero hrc, rfl⟩ (fun i σ H3 _ h => h.1.seq hS) ?_ ?_
   ·rintro i y σ H3 hi ⟨s3, Dn, ls, ch, v4, hd3, hwk, rfl⟩
    obtain ⟨x, hx, rfl⟩ : ∃ x, ms[i]? = some x ∧ T x = y := by rw [List.getElem?_map] at hi; exact Option.map_eq_some_iff.mp hi
    have hxx := hxl x (List.mem_of_getElem? hx)
    have cb : cutL x none (some (-(1 : Int))) = beg x := cut_begin hxx.1
    have ce : cutL x (some 1) none = En x := cutL_from (k := 1) hxx.1
    refine ⟨_, rfl, _, rfl, _, rfl, _, rfl, (by omega), _, rfl, Dn, _, rfl, .inl (SqL.of hd3), rfl, all_flat ls, _, rfl, _, rfl, _, rfl, (by omega), _, rfl, Dn, _, rfl, .inl (SqL.of hd3), rfl, all_flat ls, ?_⟩
    refine ⟨_, rfl, _, rfl, _, rfl, ?_⟩
    have e1 : (!decide (inV (T (cutL x none (some (-(1 : Int))))) (ls.map T) = inV (T (cutL x (some 1) none)) (ls.map T))) = true ↔ ¬ Hg.Cl beg En ls x := by
     rw [cb, ce, inV_T, inV_T, Bool.not_eq_true', decide_eq_false_iff_not]
     unfold Hg.Cl
     rw [Bool.eq_iff_iff, decide_eq_true_iff, decide_eq_true_iff]
    by_cases hc : Hg.Cl beg En ls x
    ·refine itN (fun z => e1.mp z hc) ?_
     exact ⟨s3, Dn, ls, ch, some (T x), hd3, hwk.keep hx hc, rfl⟩
    ·refine itP (e1.mpr hc) ?_
     have hll : ls.length ≤ 257 := by have := hwk.len; omega
     refine ⟨_, rfl, _, rfl, _, rfl, _, rfl, _, rfl, (by omega), _, rfl, _, rfl, _, rfl, (by omega), (by show 2 ≤ sizeLine; omega), fun p1 hp1 => ?_⟩
     have t1 := same_upd (o := .lst [T (cutL x none (some (-(1 : Int)))), T (cutL x (some 1) none)]) hp1
     refine ⟨Dn, p1, _, _, rfl, rfl, SqL.of (t1 Dn _ hd3), SqL.of upd_same, (by rw [List.length_map]; show _ + 2 ≤ sizeLine; omega), fun p2 hp2 => ?_⟩
     refine ⟨s3.trans (t1.trans (same_upd hp2)), p2, _, true, some (T x), ?_, hwk.add hx hc, rfl⟩
     rw [upd_same, ← cb, ← ce, List.map_append]
     rfl
   ·rintro σ H3 ⟨s3, Dn, ls, ch, v4, hd3, hwk, rfl⟩
    have hle := Hg.miss_le hwk.sub (Hg.allP beg En ms)
    have hlen := hwk.len
    refine ⟨_, ?_, Dn, ls, ch, v4, rfl, s3, hd3, hwk.sub p hp, hwk.rch, by omega, (fun e x hx => ?_), rfl⟩
    ·rw [hm]
     cases ch with
     | true => have := hwk.yes rfl; rw [if_pos rfl]; omega
     | false => rw [if_neg Bool.false_ne_true, if_pos rfl]; omega
    ·obtain ⟨e1, e2⟩ := hwk.no e
     rw [e1]
     exact e2 x (by rw [List.length_map, List.take_length]; exact hx)
  ·have hc : ch = false := by cases ch with | true => exact absurd rfl h0 | false => rfl
   refine ⟨_, rfl, Dm, met, rfl, SqL.of hd2, (by omega), fun S hSn => ?_⟩
   have ul := nubTo_len met met.length
   refine ⟨S, _, rfl, upd_same, few64 h64.2 (uniq_nodup met) (fun z hz => rc_or (hrc z ((uniq_mem _ _).mp hz))), fun qs D3 hD3 hp3 hw3 => ?_⟩
   have s4 := s2.trans (same_upd (o := SetI w S (uniq met)) hSn)
   exact q D3 qs _ (back_none s4 hD3) (s4.trans (same_upd hD3)) upd_same hw3 (hp3.nodup_iff.mpr (uniq_nodup met)) fun z => by
    rw [hp3.mem_iff, uniq_mem]
    exact ⟨hrc z, fun hz => hz.inside hp (hcl hc)⟩
theorem FewN.perm {k : Nat} {ls ms : List (List Nat)} (h : FewN k ls) (p : ms.Perm ls) : FewN k ms := h.sub fun w hw => p.mem_iff.mp hw

theorem WebOk.perm {ls ms : List (List Nat)} {n : Nat} (h : WebOk ls n) (p : ms.Perm ls) : WebOk ms n := ⟨fun z => h.1 (List.length_eq_zero_iff.mp (by rw [← p.length_eq, z]; rfl)), by rw [p.length_eq]; exact h.2.1, ⟨h.2.2.1.1, h.2.2.1.2.perm p⟩, fun x hx => h.2.2.2.1 x (p.mem_iff.mp hx), p.nodup_iff.mpr h.2.2.2.2⟩
theorem exc_perm {ls ms so : List (List Nat)} (p : ms.Perm ls) : exc ms so = exc ls so := by
 unfold exc
 rw [(p.filter fun l => decide (beg l ∈ so)).length_eq, (p.filter fun l => decide (l.drop 1 ∈ so)).length_eq]

noncomputable abbrev Pap := Option (List Nat × List (List Nat))
noncomputable def PapAt (H : Hp) (v : V) : Pap → Prop
 | none => v = .non
 | some (kd, so) => ∃ p b : Addr, v = .ref p ∧ H p = some (.tup [T kd, .ref b]) ∧ H b = some (.tup (so.map T))
theorem PapAt.on {H G : Hp} {v : V} {r : Pap} (s : Same H G) (h : PapAt H v r) : PapAt G v r := by
 cases r with
 | none => exact h
 | some y =>
  obtain ⟨p, b, h1, h2, h3⟩ := h
  exact ⟨p, b, h1, s p _ h2, s b _ h3⟩
noncomputable def Pcs (ms ev : List (List Nat)) : Prop := ev.Pairwise (fun a b => ¬ b < a) ∧ ev.Nodup ∧ ∀ z, z ∈ ev ↔ IsP ms z
theorem Pcs.uniq {ms ls ev eu : List (List Nat)} (h : Pcs ms ev) (g : Pcs ls eu) (p : ms.Perm ls) : ev = eu := Wd.sorted_same ((List.perm_ext_iff_of_nodup h.2.1 g.2.1).mpr fun z => by rw [h.2.2, g.2.2]; exact ⟨fun ⟨w, h1, h2⟩ => ⟨w, p.mem_iff.mp h1, h2⟩, fun ⟨w, h1, h2⟩ => ⟨w, p.mem_iff.mpr h1, h2⟩⟩) h.1 g.1
noncomputable def WhyA (ms ev : List (List Nat)) (r : Pap) : Prop := ∃ (z0 : List Nat) (so : List (List Nat)), ev[0]? = some z0 ∧ so.Pairwise (fun a b => ¬ b < a) ∧ so.Nodup ∧ (∀ z, z ∈ so ↔ Rc ms z0 z) ∧ r = if so.length = ev.length then none else some (apar, so)
theorem WhyA.uniq {ms ls ev : List (List Nat)} {r t : Pap} (h : WhyA ms ev r) (g : WhyA ls ev t) (p : ms.Perm ls) : r = t := by
 obtain ⟨z0, so, a1, a2, a3, a4, rfl⟩ := h
 obtain ⟨z1, su, b1, b2, b3, b4, rfl⟩ := g
 obtain rfl : z0 = z1 := Option.some.inj (a1.symm.trans b1)
 obtain rfl : so = su := Wd.sorted_same ((List.perm_ext_iff_of_nodup a3 b3).mpr fun z => by rw [a4, b4]; exact Hg.Rch.perm p) a2 b2
 rfl
noncomputable def spWhyA (C : Addr) : Sp := fun vs H Q _ => ∃ (x tp : Addr) (n : Nat) (ms : List (List Nat)), vs = [.ref x] ∧ WebAt C H x tp n ms ∧ WebOk ms n ∧
 ∀ (ev : List (List Nat)) (r : Pap) (v : V) (H' : Hp), Pcs ms ev → WhyA ms ev r → PapAt H' v r → Same H H' → Q v H'
theorem pcs_ne {ms ev : List (List Nat)} (h : Pcs ms ev) (hne : ms ≠ []) : ∃ z0, ev[0]? = some z0 ∧ IsP ms z0 := by
 obtain ⟨l, hl⟩ := List.exists_mem_of_ne_nil _ hne
 have hm := (h.2.2 (beg l)).mpr ⟨l, hl, .inl rfl⟩
 have h0 := List.length_pos_of_mem hm
 exact ⟨_, List.getElem?_eq_getElem h0, (h.2.2 _).mp (List.getElem_mem h0)⟩
theorem ok_why_apart {f : Addr} {fd : FuncData} (F : Fun K "why_apart" "why_apart" s_why_apart f fd) (tt : Txt K mg ad) (C_pieces : Cal P w K mg base (CX2 P w) "pieces" 2 ["web"] (spPieces ad.Web)) (C_hanging : Cal P w K mg base (CX2 P w) "hanging" 3 ["web", "piece"] (spHang ad.Web ad)) :
  FnOk P w K mg base (CX2 P w) 4 f fd ["web"] (spWhyA ad.Web) := by
 refine F.okN2 sc_why_apart (fun vs H Q E h => ?_) (fun cdv A outer s H vs Q E hr h => ?_)
 ·obtain ⟨x, tp, n, ms, rfl, _⟩ := h
  rfl
 ·obtain ⟨x, tp, n, ms, rfl, hW, hok, q⟩ := h
  have hs : sizeLine = 16777216 := sizeLine_eq
  refine ⟨_, (pss_cons (ps_set (i := 1) sc_why_apart.nd rfl (Or.inl rfl) (pe_cal C_pieces hr pass2 (pa_cons (pv 0) pa_nil)))
   (pss_cons (ps_set (i := 2) sc_why_apart.nd rfl (Or.inl rfl) (pe_cal C_hanging hr pass2 (pa_cons (pv 0) (pa_cons (pe_ix ix_list (pv 1) pe_int (fun _ _ => rfl)) pa_nil))))
   (pss_cons (ps_if (pt_cmpR op_eq_I (pe_callB call_len_seq (by rfl) tt.b_len PySem.boot_len (pa_cons (pv 2) pa_nil)) (pe_callB call_len_seq (by rfl) tt.b_len PySem.boot_len (pa_cons (pv 1) pa_nil)) (nomark _)) (pss_one (ps_ret pe_non)) pss_nil)
   (pss_one (ps_ret (pe_tup (pa_cons (pe_strT [97, 112, 97, 114, 116] (by decide +kernel)) (pa_cons (pe_callTy call_tuple_of (by rfl) tt.b_tuple (by decide +kernel) (pa_cons (pv 2) pa_nil)) pa_nil)))))))), ?_⟩
  refine ⟨_, rfl, x, tp, n, ms, rfl, hW, hok, fun D1 ev H1 hD1 s1 hd1 hpw hpn hpm => ?_⟩
  have hpc : Pcs ms ev := ⟨hpw, hpn, hpm⟩
  obtain ⟨z0, hz0, hz0p⟩ := pcs_ne hpc hok.1
  refine ⟨_, rfl, _, rfl, D1, _, _, _, rfl, rfl, SqL.of hd1, atI_nat (j := 0) (by rw [List.getElem?_map, hz0]; rfl), x, tp, n, ms, z0, rfl, hW.on s1, hok, fun z => absurd hz0p z, fun _ D2 so H2 hD2 s2 hd2 hw2 hn2 hm2 => ?_⟩
  have hwy : WhyA ms ev (if so.length = ev.length then none else some (apar, so)) := ⟨z0, so, hz0, hw2, hn2, hm2, rfl⟩
  have s12 := s1.trans s2
  refine ⟨_, rfl, D2, _, rfl, .inl (SqL.of hd2), _, rfl, D1, _, rfl, .inl (SqL.of (s2 D1 _ hd1)), _, rfl, _, rfl, _, rfl, ?_⟩
  rw [List.length_map, List.length_map]
  by_cases he : so.length = ev.length
  ·refine itP (decide_eq_true (by rw [he])) ?_
   rw [if_pos he] at hwy
   exact q ev none .non H2 hpc hwy rfl s12
  ·refine itN (fun z => he (by have := of_decide_eq_true z; omega)) ?_
   rw [if_neg he] at hwy
   refine ⟨_, rfl, D2, _, rfl, .inl ⟨SqL.of hd2, fun b hb => ?_⟩⟩
   have t3 := same_upd (o := .tup (so.map T)) hb
   refine ⟨(by show 2 ≤ sizeLine; omega), fun pp hpp => ?_⟩
   have t4 := same_upd (o := .tup [T apar, .ref b]) hpp
   exact q ev _ _ _ hpc hwy ⟨pp, b, rfl, upd_same, t4 b _ upd_same⟩ (s12.trans (t3.trans t4))

noncomputable def WhyR (ms ev : List (List Nat)) (r : Pap) : Prop := (∃ z, ev.find? (fun z => !decide (exc ms [z] = 0)) = some z ∧ r = some (unev, [z])) ∨ (ev.find? (fun z => !decide (exc ms [z] = 0)) = none ∧ WhyA ms ev r)
noncomputable def spWhyR (C : Addr) : Sp := fun vs H Q _ => ∃ (x tp : Addr) (n : Nat) (ms : List (List Nat)), vs = [.ref x] ∧ WebAt C H x tp n ms ∧ WebOk ms n ∧
 ∀ (ev : List (List Nat)) (r : Pap) (v : V) (H' : Hp), Pcs ms ev → WhyR ms ev r → PapAt H' v r → Same H H' → Q v H'
theorem find_snoc_none {p : List Nat → Bool} {ev : List (List Nat)} {i : Nat} {z : List Nat} (h : (ev.take i).find? p = none) (hz : ev[i]? = some z) : (p z = false → (ev.take (i + 1)).find? p = none) ∧ (p z = true → ev.find? p = some z) := by
 constructor
 ·intro hp
  rw [List.take_add_one, hz, List.find?_append, h]
  simp [hp]
 ·intro hp
  have e : ev = ev.take i ++ z :: ev.drop (i + 1) := by
   have g := (List.getElem?_eq_some_iff.mp hz)
   rw [← g.2, ← List.drop_eq_getElem_cons g.1, List.take_append_drop]
  rw [e, List.find?_append, h]
  simp [hp]
theorem ok_why_no_ring {f : Addr} {fd : FuncData} (F : Fun K "why_no_ring" "why_no_ring" s_why_no_ring f fd) (tt : Txt K mg ad) (C_pieces : Cal P w K mg base (CX2 P w) "pieces" 2 ["web"] (spPieces ad.Web)) (C_excess : Cal P w K mg base (CX2 P w) "excess" 2 ["web", "some"] (spExcess K ad.Web)) (C_why_apart : Cal P w K mg base (CX2 P w) "why_apart" 4 ["web"] (spWhyA ad.Web)) :
  FnOk P w K mg base (CX2 P w) 5 f fd ["web"] (spWhyR ad.Web) := by
 refine F.okN2 sc_why_no_ring (fun vs H Q E h => ?_) (fun cdv A outer s H vs Q E hr h => ?_)
 ·obtain ⟨x, tp, n, ms, rfl, _⟩ := h
  rfl
 ·obtain ⟨x, tp, n, ms, rfl, hW, hok, q⟩ := h
  have hs : sizeLine = 16777216 := sizeLine_eq
  refine ⟨_, (pss_cons (ps_for PassesOwn.never rfl (pi_list (pe_cal C_pieces hr pass2 (pa_cons (pv 0) pa_nil))) (pg_name (i := 1) sc_why_no_ring.nd rfl (Or.inl rfl)) (pss_one (ps_if (pt_cmpR op_ne_I (pe_cal C_excess hr pass2 (pa_cons (pv 0) (pa_cons (pe_lst (pa_cons (pv 1) pa_nil)) pa_nil))) pe_int (nomark _)) (pss_one (ps_ret (pe_tup (pa_cons (pe_strT [117, 110, 101, 118, 101, 110] (by decide +kernel)) (pa_cons (pe_tup (pa_cons (pv 1) pa_nil)) pa_nil))))) pss_nil)))
   (pss_one (ps_ret (pe_cal C_why_apart hr pass2 (pa_cons (pv 0) pa_nil))))), ?_⟩
  refine ⟨_, rfl, x, tp, n, ms, rfl, hW, hok, fun D1 ev H1 hD1 s1 hd1 hpw hpn hpm => ?_⟩
  have hpc : Pcs ms ev := ⟨hpw, hpn, hpm⟩
  refine ⟨D1, rfl, ⟨_, SqL.of hd1⟩, ?_⟩
  refine for_list (K := K) (a := D1) (xs := ev.map T) (fun i σ H2 => Same H1 H2 ∧ (ev.take i).find? (fun z => !decide (exc ms [z] = 0)) = none ∧ ∃ v1 : Option V, σ = [some (.ref x), v1]) ⟨Same.refl _, rfl, none, rfl⟩ (fun i σ H2 _ h => SqL.of (h.1 D1 _ hd1)) ?_ ?_
  ·rintro i y σ H2 hi ⟨s2, hfn, v1, rfl⟩
   obtain ⟨pc, hpc', rfl⟩ : ∃ pc, ev[i]? = some pc ∧ T pc = y := by rw [List.getElem?_map] at hi; exact Option.map_eq_some_iff.mp hi
   obtain ⟨fn, fy⟩ := find_snoc_none hfn hpc'
   refine ⟨_, rfl, _, rfl, (by show 1 ≤ sizeLine; omega), fun p3 hp3 => ?_⟩
   have t3 := same_upd (o := .lst ([pc].map T)) hp3
   refine ⟨x, tp, p3, n, ms, [pc], rfl, hW.on (s1.trans (s2.trans t3)), hok, .inl (SqL.of upd_same), fun H4 s4 => ?_⟩
   refine ⟨_, rfl, _, rfl, _, rfl, ?_⟩
   by_cases h0 : exc ms [pc] = 0
   ·refine itN (by rw [decide_eq_true h0]; exact Bool.false_ne_true) ?_
    exact ⟨s2.trans (t3.trans s4), fn (by rw [decide_eq_true h0]; rfl), some (T pc), rfl⟩
   ·refine itP (by rw [decide_eq_false h0]; rfl) ?_
    refine ⟨_, rfl, (by show 1 ≤ sizeLine; omega), fun b hb => ?_⟩
    have t5 := same_upd (o := .tup ([pc].map T)) hb
    refine ⟨(by show 2 ≤ sizeLine; omega), fun pp hpp => ?_⟩
    have t6 := same_upd (o := .tup [T unev, .ref b]) hpp
    exact q ev _ _ _ hpc (.inl ⟨pc, fy (by rw [decide_eq_false h0]; rfl), rfl⟩) ⟨pp, b, rfl, upd_same, t6 b _ upd_same⟩ (s1.trans (s2.trans (t3.trans (s4.trans (t5.trans t6)))))
  ·rintro σ H2 ⟨s2, hfn, v1, rfl⟩
   rw [List.length_map, List.take_length] at hfn
   refine ⟨_, rfl, x, tp, n, ms, rfl, hW.on (s1.trans s2), hok, fun eu r v H3 hpu hr' hv s3 => ?_⟩
   obtain rfl := hpu.uniq hpc (List.Perm.refl ms)
   exact q eu r v H3 hpc (.inr ⟨hfn, hr'⟩) hv (s1.trans (s2.trans s3))
theorem pieces_few {ls ev : List (List Nat)} (hn : ev.Nodup) (hm : ∀ z ∈ ev, IsP ls z) : ev.length ≤ 2 * ls.length := by
 have := Hg.nd_len (ms := ls.map beg ++ ls.map fun l => l.drop 1) hn fun z hz => by
  obtain ⟨l, hl, h⟩ := hm z hz
  rcases h with rfl | rfl
  ·exact List.mem_append.mpr (.inl (List.mem_map.mpr ⟨l, hl, rfl⟩))
  ·exact List.mem_append.mpr (.inr (List.mem_map.mpr ⟨l, hl, rfl⟩))
 rw [List.length_append, List.length_map, List.length_map] at this
 omega
noncomputable def abv (ms ev : List (List Nat)) : List (List Nat) := ev.filter fun z => decide (0 < exc ms [z])
noncomputable def WhyW (ms ev : List (List Nat)) (r : Pap) : Prop := (2 ≤ exc ms (abv ms ev) ∧ r = some (unev, abv ms ev)) ∨ (exc ms (abv ms ev) < 2 ∧ WhyA ms ev r)
noncomputable def spWhyW (C : Addr) : Sp := fun vs H Q _ => ∃ (x tp : Addr) (n : Nat) (ms : List (List Nat)), vs = [.ref x] ∧ WebAt C H x tp n ms ∧ WebOk ms n ∧
 ∀ (ev : List (List Nat)) (r : Pap) (v : V) (H' : Hp), Pcs ms ev → WhyW ms ev r → PapAt H' v r → Same H H' → Q v H'
theorem ok_why_no_row {f : Addr} {fd : FuncData} (F : Fun K "why_no_row" "why_no_row" s_why_no_row f fd) (tt : Txt K mg ad) (C_pieces : Cal P w K mg base (CX2 P w) "pieces" 2 ["web"] (spPieces ad.Web)) (C_excess : Cal P w K mg base (CX2 P w) "excess" 2 ["web", "some"] (spExcess K ad.Web)) (C_why_apart : Cal P w K mg base (CX2 P w) "why_apart" 4 ["web"] (spWhyA ad.Web)) :
  FnOk P w K mg base (CX2 P w) 5 f fd ["web"] (spWhyW ad.Web) := by
 refine F.okN2 sc_why_no_row (fun vs H Q E h => ?_) (fun cdv A outer s H vs Q E hr h => ?_)
 ·obtain ⟨x, tp, n, ms, rfl, _⟩ := h
  rfl
 ·obtain ⟨x, tp, n, ms, rfl, hW, hok, q⟩ := h
  have hs : sizeLine = 16777216 := sizeLine_eq
  refine ⟨_, (pss_cons (ps_setCompf (i := 1) cs_why_no_row_0 rfl (pi_list (pe_cal C_pieces hr pass2 (pa_cons (pv 0) pa_nil))) (fun cl C s' H' fp => (pt_cmpR op_gt (pe_cal C_excess hr pass2 (pa_cons (pv 1) (pa_cons (pe_lst (pa_cons (pv 0) pa_nil)) pa_nil))) pe_int (nomark _))) (fun cl C s' H' fp => (pv 0)) sc_why_no_row.nd rfl rfl)
   (pss_cons (ps_if (pt_cmpR op_ge (pe_cal C_excess hr pass2 (pa_cons (pv 0) (pa_cons (pv 1) pa_nil))) pe_int (nomark _)) (pss_one (ps_ret (pe_tup (pa_cons (pe_strT [117, 110, 101, 118, 101, 110] (by decide +kernel)) (pa_cons (pe_callTy call_tuple_of (by rfl) tt.b_tuple (by decide +kernel) (pa_cons (pv 1) pa_nil)) pa_nil))))) pss_nil)
   (pss_one (ps_ret (pe_cal C_why_apart hr pass2 (pa_cons (pv 0) pa_nil)))))), ?_⟩
  refine ⟨_, rfl, x, tp, n, ms, rfl, hW, hok, fun D1 ev H1 hD1 s1 hd1 hpw hpn hpm => ?_⟩
  have hpc : Pcs ms ev := ⟨hpw, hpn, hpm⟩
  have hel := pieces_few hpn fun z hz => (hpm z).mp hz
  have h64 := hok.2.1
  refine ⟨D1, rfl, ⟨_, SqL.of hd1⟩, ?_⟩
  refine compFG (fun v => decide (0 < exc ms [unT v])) (fun v => v) (reads_list (SqL.of hd1)) (by rw [List.length_map]; omega) (fun v H2 hv s2 N hN => ?_) (fun v H2 hv hp s2 N hN => ?_) fun D2 H2 hD2 s2 hd2 => ?_
  ·obtain ⟨l, hl, rfl⟩ := List.mem_map.mp hv
   refine ⟨_, rfl, _, rfl, (by show 1 ≤ sizeLine; omega), fun p3 hp3 => ?_⟩
   have t3 := same_upd (o := .lst ([l].map T)) hp3
   refine ⟨x, tp, p3, n, ms, [l], rfl, hW.on (s1.trans (s2.trans t3)), hok, .inl (SqL.of upd_same), fun H4 s4 => ?_⟩
   have z := hN H4 (t3.trans s4)
   rw [unT_T] at z
   exact ⟨_, _, rfl, rfl, _, rfl, z⟩
  ·exact ⟨_, rfl, hN H2 (Same.refl _)⟩
  rw [show (ev.map T).filter (fun v => decide (0 < exc ms [unT v])) = (abv ms ev).map T from filter_unT (p := fun l => decide (0 < exc ms [l])) ev, map_id_T] at hd2
  have s12 := s1.trans s2
  refine ⟨_, rfl, _, rfl, x, tp, D2, n, ms, abv ms ev, rfl, hW.on s12, hok, .inl (SqL.of hd2), fun H3 s3 => ?_⟩
  have s13 := s12.trans s3
  refine ⟨_, _, rfl, rfl, _, rfl, ?_⟩
  by_cases h2 : 2 ≤ exc ms (abv ms ev)
  ·refine itP (decide_eq_true h2) ?_
   refine ⟨_, rfl, D2, _, rfl, .inl ⟨SqL.of (s3 D2 _ hd2), fun b hb => ?_⟩⟩
   have t5 := same_upd (o := .tup ((abv ms ev).map T)) hb
   refine ⟨(by show 2 ≤ sizeLine; omega), fun pp hpp => ?_⟩
   have t6 := same_upd (o := .tup [T unev, .ref b]) hpp
   exact q ev _ _ _ hpc (.inl ⟨h2, rfl⟩) ⟨pp, b, rfl, upd_same, t6 b _ upd_same⟩ (s13.trans (t5.trans t6))
  ·refine itN (fun z => h2 (of_decide_eq_true z)) ?_
   refine ⟨_, rfl, x, tp, n, ms, rfl, hW.on s13, hok, fun eu r v H4 hpu hr' hv s4 => ?_⟩
   obtain rfl := hpu.uniq hpc (List.Perm.refl ms)
   exact q eu r v H4 hpc (.inr ⟨by omega, hr'⟩) hv (s13.trans s4)

noncomputable def spCell (K : PySem.W.Frag) : Sp := fun vs H Q _ => ∃ (a : Addr) (ns : List Int) (k : Nat), vs = [.ref a, .int (k : Nat)] ∧ SqL K H a (ns.map V.int) ∧ Q (.int (ns.getD k 0)) H
theorem ok__law_cell_at {f : Addr} {fd : FuncData} (F : Fun K "_law_cell_at" "_law_cell_at" s__law_cell_at f fd) (tt : Txt K mg ad) : FnOk P w K mg base (CX2 P w) 1 f fd ["script", "k"] (spCell K) := by
 refine F.okN2 sc__law_cell_at (fun vs H Q E h => ?_) (fun cdv A outer s H vs Q E hr h => ?_)
 ·obtain ⟨a, ns, k, rfl, _⟩ := h
  rfl
 ·obtain ⟨a, ns, k, rfl, hS, q⟩ := h
  refine ⟨_, (pss_cons (ps_if (pt_cmpR op_lt (pv 1) (pe_callB call_len_seq (by rfl) tt.b_len PySem.boot_len (pa_cons (pv 0) pa_nil)) (nomark _)) (pss_one (ps_ret (pe_ix ix_list (pv 0) (pv 1) (fun _ _ => rfl)))) pss_nil)
   (pss_one (ps_ret pe_int))), ?_⟩
  refine ⟨_, rfl, _, rfl, a, _, rfl, .inl hS, _, _, rfl, rfl, _, rfl, ?_⟩
  rw [List.length_map]
  refine ite2 (fun h0 => ?_) (fun h0 => ?_)
  ·have h1 : k < ns.length := by have := of_decide_eq_true h0; omega
   rw [List.getD_eq_getElem?_getD, List.getElem?_eq_getElem h1] at q
   exact ⟨_, rfl, _, rfl, a, _, _, _, rfl, rfl, hS, atI_nat (by rw [List.getElem?_map, List.getElem?_eq_getElem h1]; rfl), q⟩
  ·have h1 : ¬ k < ns.length := fun z => h0 (decide_eq_true (by omega))
   rw [List.getD_eq_getElem?_getD, List.getElem?_eq_none (by omega)] at q
   exact q

theorem beg_snoc (h : List Nat) (c : Nat) : beg (h ++ [c]) = h := by
 unfold beg
 rw [List.length_append, List.length_singleton, Nat.add_sub_cancel, List.take_left']
 rfl
noncomputable abbrev Tr (p : List Nat) (ls : List (List Nat)) (q : List Nat) : Prop := Hg.Tr beg En p ls q

theorem abc_at {s : Int} (h0 : 0 ≤ s) (h1 : s < 6) : ∃ c, atI [97, 98, 99, 100, 101, 102] s = some c ∧ 97 ≤ c ∧ c < 103 := by
 obtain ⟨m, hm⟩ := Int.eq_ofNat_of_zero_le h0
 have hm' : s = (m : Int) := hm
 subst hm'
 exact ⟨97 + m, atI_nat (abc6 (by omega)), by omega, by omega⟩
noncomputable def WL (ls : List (List Nat)) (n : Nat) : Prop := (∀ x ∈ ls, x.length = n ∧ Abc x) ∧ ls.Nodup
theorem WL.sub {ls ls' : List (List Nat)} {n : Nat} (h : WL ls n) (s : ls'.Sublist ls) : WL ls' n := ⟨fun x hx => h.1 x (s.subset hx), h.2.sublist s⟩
theorem WL.snoc {ls : List (List Nat)} {n : Nat} {t : List Nat} (h : WL ls n) (ht : t.length = n ∧ Abc t) (hn : ¬ t ∈ ls) : WL (ls ++ [t]) n := by
 refine ⟨fun x hx => ?_, List.nodup_append.mpr ⟨h.2, by simp, fun a ha b hb ee => hn ?_⟩⟩
 ·rcases List.mem_append.mp hx with z | z
  ·exact h.1 x z
  ·have e : x = t := by simpa using z
   subst e
   exact ht
 ·have hb' : b = t := by simpa using hb
  rw [← hb', ← ee]
  exact ha
theorem abc_take {k c : Nat} (h : c ∈ ([97, 98, 99, 100, 101, 102] : List Nat).take k) : 97 ≤ c ∧ c < 103 := by
 have := List.mem_of_mem_take h
 simp at this
 omega
noncomputable def spWalk (K : PySem.W.Frag) : Sp := fun vs H Q _ => ∃ (c : Addr) (ns : List Int) (k : Nat) (f0 : List Nat), vs = [.ref c, .int (k : Nat), T f0] ∧ SqL K H c (ns.map V.int) ∧ (ns.length ≤ 63 ∧ k ≤ 6 ∧ f0.length ≤ 10) ∧ Abc f0 ∧
 ∀ (D : Addr) (ls : List (List Nat)) (H' : Hp), Same H H' → H' D = some (.lst (ls.map T)) → WL ls (f0.length + 1) → ls.length ≤ ns.length → (∃ q0, Tr f0 ls q0) → Q (.ref D) H'
theorem ok__law_walk {f : Addr} {fd : FuncData} (F : Fun K "_law_walk" "_law_walk" s__law_walk f fd) (tt : Txt K mg ad) : FnOk P w K mg base (CX2 P w) 1 f fd ["cells", "kinds", "first"] (spWalk K) := by
 refine F.okN2 sc__law_walk (fun vs H Q E h => ?_) (fun cdv A outer s H vs Q E hr h => ?_)
 ·obtain ⟨c, ns, k, f0, rfl, _⟩ := h
  rfl
 ·obtain ⟨c, ns, k, f0, rfl, hS, hb, hf0, q⟩ := h
  have hs : sizeLine = 16777216 := sizeLine_eq
  have hnl : (ns.map V.int).length = ns.length := List.length_map ..
  refine ⟨_, (pss_cons (ps_set (i := 3) sc__law_walk.nd rfl (Or.inr rfl) (pe_lst pa_nil))
   (pss_cons (ps_set (i := 4) sc__law_walk.nd rfl (Or.inr rfl) (pv 2))
   (pss_cons (ps_for PassesOwn.never rfl (pi_list (pv 0)) (pg_name (i := 5) sc__law_walk.nd rfl (Or.inl rfl)) (pss_cons (ps_setCompf (i := 6) cs__law_walk_0 rfl (pi_str (pe_slice sl_T (pe_strT [97, 98, 99, 100, 101, 102] (by decide +kernel)) po_none (po_some (pv 1)))) (fun cl C s' H' fp => (pt_cmpR (op_notIn_seqK K rfl) (pe_op op_add_T (pv 5) (pv 0)) (pv 4) (by with_unfolding_all rfl))) (fun cl C s' H' fp => (pe_op op_add_T (pv 5) (pv 0))) sc__law_walk.nd rfl rfl)
   (pss_cons (ps_if (pt_cmpR op_eq_I (pe_callB call_len_seq (by rfl) tt.b_len PySem.boot_len (pa_cons (pv 6) pa_nil)) pe_int (nomark _)) (pss_one ps_break) pss_nil)
   (pss_cons (ps_set (i := 7) sc__law_walk.nd rfl (Or.inl rfl) (pe_ix ix_list (pv 6) (pe_op op_mod (pv 5) (pe_callB call_len_seq (by rfl) tt.b_len PySem.boot_len (pa_cons (pv 6) pa_nil))) (fun _ _ => rfl)))
   (pss_cons (ps_expr (pe_bm PySem.F.plainAttrs_list PySem.F.slot_list_append PySem.F.type_list_append mt_append (pv 3) (pa_cons (pv 7) pa_nil)))
   (pss_one (ps_set (i := 4) sc__law_walk.nd rfl (Or.inr rfl) (pe_slice sl_T (pv 7) (po_some pe_int) po_none))))))))
   (pss_one (ps_ret (pv 3)))))), ?_⟩
  refine ⟨(by show 0 ≤ sizeLine; omega), fun D hD => ?_⟩
  have s0 := same_upd (o := .lst []) hD
  refine ⟨_, rfl, ?_⟩
  refine ⟨_, rfl, c, rfl, ⟨_, s0.seq hS⟩, ?_⟩
  refine for_list (K := K) (a := c) (xs := ns.map V.int) (fun i σ H2 => Same H H2 ∧ ∃ (ls : List (List Nat)) (hh : List Nat) (v5 v6 v7 : Option V), H2 D = some (.lst (ls.map T)) ∧ WL ls (f0.length + 1) ∧ ls.length ≤ i ∧ hh.length = f0.length ∧ Abc hh ∧ Tr f0 ls hh ∧ σ = [some (.ref c), some (.int (k : Nat)), some (T f0), some (.ref D), some (T hh), v5, v6, v7])
   ⟨s0, [], f0, none, none, none, upd_same, ⟨fun x hx => (by simp at hx), List.nodup_nil⟩, Nat.le_refl _, rfl, hf0, rfl, rfl⟩ (fun i σ H2 _ h => h.1.seq hS) ?_ ?_
  ·rintro i y σ H2 hi ⟨s2, ls, hh, v5, v6, v7, hd, hwl, hl, hhl, hab, htr, rfl⟩
   have hi63 : i < ns.length := by have := (List.getElem?_eq_some_iff.mp hi).1; omega
   obtain ⟨z, rfl⟩ : ∃ z, y = V.int z := by
    obtain ⟨z, _, e⟩ := List.mem_map.mp (List.mem_of_getElem? hi)
    exact ⟨z, e.symm⟩
   refine ⟨_, rfl, _, rfl, _, rfl, (by show 6 ≤ sizeLine; omega), ?_⟩
   have ec : cutL [97, 98, 99, 100, 101, 102] none (some ((k : Nat) : Int)) = ([97, 98, 99, 100, 101, 102] : List Nat).take k := cutL_take _ _
   rw [ec]
   refine ⟨_, rfl, ?_⟩
   generalize hsg : ([97, 98, 99, 100, 101, 102] : List Nat).take k = sg
   have hsgl : sg.length ≤ 6 := by rw [← hsg, List.length_take]; exact Nat.min_le_right _ _
   have hsga : ∀ c ∈ sg, 97 ≤ c ∧ c < 103 := fun c hc => abc_take (by rw [hsg]; exact hc)
   refine compFG (vs := (sg.map fun c => [c]).map T) (fun v => !decide (hh ++ unT v ∈ ls)) (fun v => T (hh ++ unT v)) reads_text (by rw [List.length_map, List.length_map]; omega) (fun v H3 hv s3 N hN => ?_) (fun v H3 hv hp s3 N hN => ?_) fun D1 H3 hD1 s3 hd3 => ?_
   ·obtain ⟨l, hl', rfl⟩ := List.mem_map.mp hv
    obtain ⟨ch, hch, rfl⟩ := List.mem_map.mp hl'
    have g := hN H3 (Same.refl _)
    rw [unT_T] at g
    refine ⟨_, rfl, _, rfl, _, rfl, _, rfl, (by show hh.length + 1 ≤ sizeLine; omega), _, rfl, D, _, rfl, .inl (SqL.of (s3 D _ hd)), rfl, all_flat ls, _, rfl, ?_⟩
    show N (!inV (T (hh ++ [ch])) (ls.map T)) H3
    rw [inV_T]
    exact g
   ·obtain ⟨l, hl', rfl⟩ := List.mem_map.mp hv
    obtain ⟨ch, hch, rfl⟩ := List.mem_map.mp hl'
    have g := hN H3 (Same.refl _)
    rw [unT_T] at g
    exact ⟨_, rfl, _, rfl, _, rfl, _, rfl, (by show hh.length + 1 ≤ sizeLine; omega), g⟩
   obtain ⟨fr, hfr, hfm⟩ : ∃ fr : List (List Nat), (((sg.map fun c => [c]).map T).filter (fun v => !decide (hh ++ unT v ∈ ls))).map (fun v => T (hh ++ unT v)) = fr.map T ∧ ∀ t ∈ fr, (t.length = f0.length + 1 ∧ Abc t) ∧ ¬ t ∈ ls ∧ beg t = hh := by
    refine ⟨((sg.map fun c => [c]).filter fun l => !decide (hh ++ l ∈ ls)).map fun l => hh ++ l, ?_, fun t ht => ?_⟩
    ·rw [show ((sg.map fun c => [c]).map T).filter (fun v => !decide (hh ++ unT v ∈ ls)) = ((sg.map fun c => [c]).filter fun l => !decide (hh ++ l ∈ ls)).map T from filter_unT (p := fun l => !decide (hh ++ l ∈ ls)) _, map_unT (f := fun l => T (hh ++ l)), List.map_map]
     rfl
    ·obtain ⟨l, hl', rfl⟩ := List.mem_map.mp ht
     obtain ⟨h1, h2⟩ := List.mem_filter.mp hl'
     obtain ⟨ch, hch, rfl⟩ := List.mem_map.mp h1
     refine ⟨⟨by rw [List.length_append, hhl]; rfl, fun d hd' => ?_⟩, (fun z => by rw [decide_eq_true z] at h2; cases h2), beg_snoc hh ch⟩
     rcases List.mem_append.mp hd' with g | g
     ·exact hab d g
     ·have e : d = ch := by simpa using g
      subst e
      exact hsga d hch
   rw [hfr] at hd3
   have hfl : (fr.map T).length = fr.length := List.length_map ..
   refine ⟨_, rfl, D1, _, rfl, .inl (SqL.of hd3), _, rfl, _, rfl, _, rfl, ?_⟩
   rw [hfl]
   refine ite2 (fun h0 => ?_) (fun h0 => ?_)
   ·exact ⟨_, rfl, q D ls H3 (s2.trans s3) (s3 D _ hd) hwl (by omega) ⟨_, htr⟩⟩
   have hf0 : 0 < fr.length := by
    rcases Nat.eq_zero_or_pos fr.length with g | g
    ·exact absurd (decide_eq_true (by rw [g]; rfl)) h0
    ·exact g
   have z0 := Int.emod_nonneg z (show ((fr.length : Nat) : Int) ≠ 0 by omega)
   have z1 := Int.emod_lt_of_pos z (show (0 : Int) < ((fr.length : Nat) : Int) by omega)
   obtain ⟨m, hm, hml⟩ : ∃ m : Nat, z % ((fr.length : Nat) : Int) = (m : Int) ∧ m < fr.length := ⟨(z % ((fr.length : Nat) : Int)).toNat, by omega, by omega⟩
   obtain ⟨t, ht⟩ : ∃ t, fr[m]? = some t := ⟨_, List.getElem?_eq_getElem hml⟩
   obtain ⟨htn, htl, htb⟩ := hfm t (List.mem_of_getElem? ht)
   refine ⟨_, rfl, _, rfl, _, rfl, D1, _, rfl, .inl (SqL.of hd3), _, _, rfl, rfl, (by show (0 : Int) < (((fr.map T).length : Nat) : Int); omega), D1, _, _, _, rfl, rfl, SqL.of hd3, (by rw [hfl, hm]; exact atI_nat (by rw [List.getElem?_map, ht]; rfl)), ?_⟩
   refine ⟨_, rfl, .inl ⟨rfl, _, SqL.of (s3 D _ hd)⟩, _, rfl, D, _, _, rfl, rfl, s3 D _ hd, (by rw [List.length_map]; omega), ?_⟩
   have ed : cutL t (some 1) none = t.drop 1 := cutL_from (k := 1) (by omega)
   refine ⟨_, rfl, _, rfl, _, rfl, (by omega), ?_⟩
   refine ⟨(fun b o e => by rw [upd_ne (ne_of_none e hD)]; exact (s2.trans s3) b o e), ls ++ [t], t.drop 1, some (.int z), some (.ref D1), some (T t), by rw [List.map_append]; exact upd_same, hwl.snoc htn htl, by rw [List.length_append, List.length_singleton]; omega, by rw [List.length_drop]; omega, fun d hd' => htn.2 d (List.mem_of_mem_drop hd'), Hg.Tr.snoc (by rw [htb]; exact htr), ?_⟩
   rw [← ed]
   rfl
  ·rintro σ H2 ⟨s2, ls, hh, v5, v6, v7, hd, hwl, hl, hhl, hab, htr, rfl⟩
   exact ⟨_, rfl, q D ls H2 s2 hd hwl (by omega) ⟨_, htr⟩⟩

theorem few_tr {k : Nat} {p q : List Nat} {ls : List (List Nat)} (h : Tr p ls q) (hl : ls.length + 1 ≤ k) : FewN k ls := ⟨p :: ls.map En, by rw [List.length_cons, List.length_map]; omega, fun w hw => ⟨h.mem w hw, List.mem_cons_of_mem _ (List.mem_map.mpr ⟨w, hw, rfl⟩)⟩⟩

theorem rep_one (c : Nat) : ∀ n : Nat, Wd.rep n [c] = List.replicate n c
 | 0 => rfl
 | n + 1 => by
  have ih := rep_one c n
  unfold Wd.rep at ih ⊢
  rw [List.replicate_succ, List.flatten_cons, ih, List.replicate_succ]
  rfl
theorem rep_round (c : Nat) (n : Nat) : beg (Wd.rep n [c]) = (Wd.rep n [c]).drop 1 := by
 unfold beg
 rw [rep_one, List.length_replicate, List.take_replicate, List.drop_replicate, Nat.min_eq_left (by omega)]

theorem cutV_ints {ns : List Int} {lo hi : Option Int} : ∃ ms : List Int, cutV (ns.map V.int) lo hi = ms.map V.int := by
 refine ⟨(ns.drop (HT.sIx ns.length 0 lo)).take (HT.sIx ns.length ns.length hi - HT.sIx ns.length 0 lo), ?_⟩
 rw [cutV, List.length_map, List.map_take, List.map_drop]
theorem cutV_mid_len {xs : List V} {a b : Nat} : (cutV xs (some (a : Int)) (some (b : Int))).length ≤ b - a := by
 unfold cutV
 rw [HT.sIx_nat, HT.sIx_nat, List.length_take, List.length_drop]
 omega
theorem pickN {l : List Int} {lo hi : Int} (h : ∀ x ∈ l, lo ≤ x ∧ x ≤ hi) {z : Int} (h0 : 0 ≤ z) (h1 : z < l.length) : ∃ v : Int, atI (l.map V.int) z = some (.int v) ∧ lo ≤ v ∧ v ≤ hi := by
 obtain ⟨m, rfl⟩ : ∃ m : Nat, z = (m : Int) := ⟨z.toNat, by omega⟩
 have hm : m < l.length := by omega
 obtain ⟨a, b⟩ := h _ (List.getElem_mem hm)
 exact ⟨l[m], atI_nat (by rw [List.getElem?_map, List.getElem?_eq_getElem hm]; rfl), a, b⟩
theorem cutV_init {ls : List (List Nat)} : cutV (ls.map T) none (some (-1)) = (ls.take (ls.length - 1)).map T := by
 unfold cutV
 rw [HT.sIx_none, List.drop_zero, Nat.sub_zero, List.length_map, List.map_take]
 show (ls.map T).take (if (-1 : Int) < 0 then ((-1 : Int) + (ls.length : Int)).toNat else min (-1 : Int).toNat ls.length) = _
 rw [if_pos (by decide), show ((-1 : Int) + (ls.length : Int)).toNat = ls.length - 1 by omega]
theorem rep_a (n : Nat) : (Wd.rep n [97]).length = n ∧ Abc (Wd.rep n [97]) := by
 refine ⟨by rw [Wd.rep_len]; show n * 1 = n; omega, fun c hc => ?_⟩
 unfold Wd.rep at hc
 obtain ⟨l, h1, h2⟩ := List.mem_flatten.mp hc
 rw [List.eq_of_mem_replicate h1] at h2
 have e : c = 97 := by simpa using h2
 omega
theorem WL.one {n : Nat} {t : List Nat} (h : t.length = n ∧ Abc t) : WL [t] n := ⟨fun x hx => by rw [List.mem_singleton.mp hx]; exact h, by simp⟩
noncomputable def spRingWd (K : PySem.W.Frag) : Sp := fun vs H Q _ => ∃ (a : Addr) (ns : List Int) (mo : Nat), vs = [.ref a, .int 0, .int (mo : Nat)] ∧ mo ≤ 40 ∧ SqL K H a (ns.map V.int) ∧ ∀ (D : Addr) (ls : List (List Nat)) (n : Nat) (H' : Hp), Same H H' → H' D = some (.lst (ls.map T)) → WL ls n → (1 ≤ n ∧ n ≤ 5) → ls ≠ [] → ls.length ≤ mo ∨ ls.length ≤ 1 → (∃ f0, Tr f0 ls f0) → Q (.ref D) H'
theorem ok__law_ring_words {f : Addr} {fd : FuncData} (F : Fun K "_law_ring_words" "_law_ring_words" s__law_ring_words f fd) (tt : Txt K mg ad) (C__law_cell_at : Cal P w K mg base (CX2 P w) "_law_cell_at" 1 ["script", "k"] (spCell K)) (C__law_walk : Cal P w K mg base (CX2 P w) "_law_walk" 1 ["cells", "kinds", "first"] (spWalk K)) :
  FnOk P w K mg base (CX2 P w) 2 f fd ["script", "at", "most"] (spRingWd K) := by
 refine F.okN2 sc__law_ring_words (fun vs H Q E h => ?_) (fun cdv A outer s H vs Q E hr h => ?_)
 ·obtain ⟨a, ns, mo, rfl, _⟩ := h
  rfl
 ·obtain ⟨a, ns, mo, rfl, hmo, hS, q⟩ := h
  have hs : sizeLine = 16777216 := sizeLine_eq
  obtain ⟨nz, hnz, n1, n5⟩ := pickN (l := [2, 3, 1, 4, 2, 3, 5]) (lo := 1) (hi := 5) (by decide) (Int.emod_nonneg (ns.getD 0 0) (show (7 : Int) ≠ 0 by decide)) (Int.emod_lt_of_pos _ (show (0 : Int) < 7 by decide))
  obtain ⟨kz, hkz, k1, k6⟩ := pickN (l := [2, 3, 2, 2, 4, 6, 2, 1]) (lo := 1) (hi := 6) (by decide) (Int.emod_nonneg (ns.getD 1 0) (show (8 : Int) ≠ 0 by decide)) (Int.emod_lt_of_pos _ (show (0 : Int) < 8 by decide))
  obtain ⟨n, rfl⟩ : ∃ n : Nat, nz = (n : Int) := ⟨nz.toNat, by omega⟩
  obtain ⟨k, rfl⟩ : ∃ k : Nat, kz = (k : Int) := ⟨kz.toNat, by omega⟩
  refine ⟨_, (pss_cons (ps_set (i := 3) sc__law_ring_words.nd rfl (Or.inl rfl) (pe_ix ix_list (pe_lst (pa_cons pe_int (pa_cons pe_int (pa_cons pe_int (pa_cons pe_int (pa_cons pe_int (pa_cons pe_int (pa_cons pe_int pa_nil)))))))) (pe_op op_mod (pe_cal C__law_cell_at hr pass2 (pa_cons (pv 0) (pa_cons (pv 1) pa_nil))) pe_int) (fun _ _ => rfl)))
   (pss_cons (ps_set (i := 4) sc__law_ring_words.nd rfl (Or.inl rfl) (pe_ix ix_list (pe_lst (pa_cons pe_int (pa_cons pe_int (pa_cons pe_int (pa_cons pe_int (pa_cons pe_int (pa_cons pe_int (pa_cons pe_int (pa_cons pe_int pa_nil))))))))) (pe_op op_mod (pe_cal C__law_cell_at hr pass2 (pa_cons (pv 0) (pa_cons (pe_op op_add (pv 1) pe_int) pa_nil))) pe_int) (fun _ _ => rfl)))
   (pss_cons (ps_set (i := 5) sc__law_ring_words.nd rfl (Or.inl rfl) (pe_cal C__law_cell_at hr pass2 (pa_cons (pv 0) (pa_cons (pe_op op_add (pv 1) pe_int) pa_nil))))
   (pss_cons (ps_set (i := 6) sc__law_ring_words.nd rfl (Or.inl rfl) (pe_strT [] (by decide +kernel)))
   (pss_cons (ps_for PassesOwn.never rfl (pi_range1 (by rfl) tt.b_range (pa_cons (pe_op op_sub (pv 3) pe_int) pa_nil)) (pg_name (i := 7) sc__law_ring_words.nd rfl (Or.inl rfl)) (pss_cons (ps_set (i := 6) sc__law_ring_words.nd rfl (Or.inl rfl) (pe_op op_add_T (pv 6) (pe_ix ix_T (pe_strT [97, 98, 99, 100, 101, 102] (by decide +kernel)) (pe_op op_mod (pv 5) (pv 4)) (fun _ _ => rfl))))
   (pss_one (ps_set (i := 5) sc__law_ring_words.nd rfl (Or.inl rfl) (pe_op op_fdiv (pv 5) (pv 4))))))
   (pss_cons (ps_set (i := 8) sc__law_ring_words.nd rfl (Or.inl rfl) (pe_cal C__law_walk hr pass2 (pa_cons (pe_slice sl_list (pv 0) (po_some (pe_op op_add (pv 1) pe_int)) (po_some (pe_op op_add (pe_op op_add (pv 1) pe_int) (pv 2)))) (pa_cons (pv 4) (pa_cons (pv 6) pa_nil)))))
   (pss_cons (ps_while PassesOwn.never (PW.pt (pw_and (pt_cmpR op_gt (pe_callB call_len_seq (by rfl) tt.b_len PySem.boot_len (pa_cons (pv 8) pa_nil)) pe_int (nomark _)) (pw_and1 (pt_cmpR op_ne_T (pe_slice sl_T (pe_ix ix_list (pv 8) (pe_un un_neg pe_int) (fun _ _ => rfl)) (po_some pe_int) po_none) (pv 6) (nomark _))))) (pss_one (ps_set (i := 8) sc__law_ring_words.nd rfl (Or.inl rfl) (pe_slice sl_list (pv 8) po_none (po_some (pe_un un_neg pe_int))))))
   (pss_cons (ps_if (pt_cmpR op_eq_I (pe_callB call_len_seq (by rfl) tt.b_len PySem.boot_len (pa_cons (pv 8) pa_nil)) pe_int (nomark _)) (pss_one (ps_set (i := 8) sc__law_ring_words.nd rfl (Or.inl rfl) (pe_lst (pa_cons (pe_op op_mul_T (pe_strT [97] (by decide +kernel)) (pv 3)) pa_nil)))) pss_nil)
   (pss_one (ps_ret (pv 8))))))))))), ?_⟩
  refine ⟨(by show 7 ≤ sizeLine; omega), fun p1 hp1 => ?_⟩
  have s1 := same_upd (o := .lst [.int 2, .int 3, .int 1, .int 4, .int 2, .int 3, .int 5]) hp1
  refine ⟨_, rfl, _, rfl, a, ns, 0, rfl, s1.seq hS, _, _, rfl, rfl, (by show (0 : Int) < 7; decide), p1, _, _, _, rfl, rfl, SqL.of upd_same, hnz, ?_⟩
  refine ⟨(by show 8 ≤ sizeLine; omega), fun p2 hp2 => ?_⟩
  have s2 := s1.trans (same_upd (o := .lst [.int 2, .int 3, .int 2, .int 2, .int 4, .int 6, .int 2, .int 1]) hp2)
  refine ⟨_, rfl, _, rfl, _, _, rfl, rfl, a, ns, 1, rfl, s2.seq hS, _, _, rfl, rfl, (by show (0 : Int) < 8; decide), p2, _, _, _, rfl, rfl, SqL.of upd_same, hkz, ?_⟩
  obtain ⟨H2, hH2, s2⟩ := named s2
  rw [← hH2]
  refine ⟨_, rfl, _, rfl, _, _, rfl, rfl, a, ns, 2, rfl, s2.seq hS, ?_⟩
  refine ⟨_, rfl, _, _, rfl, rfl, _, rfl, by omega, by omega, ?_⟩
  rw [show (((n : Nat) : Int) - 1).toNat = n - 1 by omega]
  refine for_range (fun i σ H3 => H2 = H3 ∧ ∃ (d : Int) (t : List Nat) (v7 : Option V), t.length = i ∧ Abc t ∧ σ = [some (.ref a), some (.int 0), some (.int (mo : Nat)), some (.int (n : Nat)), some (.int (k : Nat)), some (.int d), some (T t), v7, none])
   ⟨rfl, ns.getD 2 0, [], none, rfl, (fun c hc => by simp at hc), rfl⟩ ?_ ?_
  ·rintro i σ H3 hi ⟨rfl, d, t, v7, ht, hab, rfl⟩
   have z0 := Int.emod_nonneg d (show ((k : Nat) : Int) ≠ 0 by omega)
   have z1 := Int.emod_lt_of_pos d (show (0 : Int) < ((k : Nat) : Int) by omega)
   obtain ⟨c, hc, c0, c1⟩ := abc_at z0 (by omega)
   refine ⟨_, rfl, _, rfl, _, rfl, _, _, rfl, rfl, (by show (0 : Int) < ((k : Nat) : Int); omega), _, rfl, _, rfl, (by show 6 ≤ sizeLine; omega), c, hc, _, rfl, _, rfl, (by show t.length + 1 ≤ sizeLine; omega), ?_⟩
   refine ⟨_, rfl, _, rfl, _, _, rfl, rfl, ⟨by omega, by omega⟩, ?_⟩
   refine ⟨rfl, d / ((k : Nat) : Int), t ++ [c], some (.int (0 + (i : Int))), by rw [List.length_append, ht]; rfl, fun e he => ?_, rfl⟩
   rcases List.mem_append.mp he with g | g
   ·exact hab e g
   ·have e' : e = c := by simpa using g
    subst e'
    exact ⟨c0, c1⟩
  ·rintro σ H3 ⟨rfl, d, f0, v7, hf, hab, rfl⟩
   obtain ⟨ds, hds⟩ : ∃ ds : List Int, cutV (ns.map V.int) (some ((3 : Nat) : Int)) (some ((3 + mo : Nat) : Int)) = ds.map V.int := cutV_ints
   have hdl : ds.length ≤ mo := by
    have e := congrArg List.length hds
    have e2 := cutV_mid_len (xs := ns.map V.int) (a := 3) (b := 3 + mo)
    rw [List.length_map] at e
    omega
   refine ⟨_, rfl, _, rfl, _, _, rfl, rfl, _, rfl, _, rfl, _, _, rfl, rfl, _, rfl, _, _, rfl, rfl, _, rfl, a, _, rfl, s2.seq hS, fun p4 hp4 => ?_⟩
   rw [show cutV (ns.map V.int) (some ((0 : Int) + 3)) (some ((0 : Int) + 3 + (mo : Nat))) = ds.map V.int by rw [← hds]; congr 2]
   have s4 := s2.trans (same_upd (o := .lst (ds.map V.int)) hp4)
   refine ⟨_, rfl, _, rfl, p4, ds, k, f0, rfl, SqL.of upd_same, ⟨by omega, by omega, by omega⟩, hab, fun D ls H5 s5 hd hwl hl htr => ?_⟩
   have hn' : f0.length + 1 = n := by omega
   rw [hn'] at hwl
   have s05 := s4.trans s5
   refine ⟨fun m σ H6 => ∃ (p : Addr) (ls' : List (List Nat)), m = ls'.length ∧ Same H H6 ∧ H6 p = some (.lst (ls'.map T)) ∧ WL ls' n ∧ ls'.length ≤ mo ∧ (∃ q0, Tr f0 ls' q0) ∧ σ = [some (.ref a), some (.int 0), some (.int (mo : Nat)), some (.int (n : Nat)), some (.int (k : Nat)), some (.int d), some (T f0), v7, some (.ref p)], ⟨ls.length, D, ls, rfl, s05, hd, hwl, by omega, htr, rfl⟩, ?_⟩
   rintro m σ H6 ⟨p, ls', hm, s6, hd6, hw6, hl6, htr6, rfl⟩
   have hml : (ls'.map T).length = ls'.length := List.length_map ..
   have fin : ∀ (D : Addr) (ls2 : List (List Nat)) (H' : Hp), Same H H' → H' D = some (.lst (ls2.map T)) → WL ls2 n → ls2 ≠ [] → ls2.length ≤ mo ∨ ls2.length ≤ 1 → (∃ f0, Tr f0 ls2 f0) → Q (.ref D) H' := fun D ls2 H' h1 h2 h3 h4 h5 h6 => q D ls2 n H' h1 h2 h3 ⟨by omega, by omega⟩ h4 h5 h6
   refine ⟨_, rfl, p, _, rfl, .inl (SqL.of hd6), _, _, rfl, rfl, _, rfl, ?_⟩
   rw [hml]
   refine ite2 (fun h0 => ?a) (fun h0 => ?b)
   case' a =>
    have h0' : 0 < ls'.length := by have := of_decide_eq_true h0; omega
    obtain ⟨t, ht⟩ : ∃ t, ls'[ls'.length - 1]? = some t := ⟨_, List.getElem?_eq_getElem (by omega)⟩
    have htl := (hw6.1 t (List.mem_of_getElem? ht)).1
    have hat : atI (ls'.map T) (-1) = some (T t) := by
     show (ixN (ls'.map T).length (-1)).bind _ = _
     rw [hml]
     unfold ixN
     rw [if_neg (by decide), if_pos (by omega), show ((-1 : Int) + ls'.length).toNat = ls'.length - 1 by omega]
     show (ls'.map T)[ls'.length - 1]? = _
     rw [List.getElem?_map, ht]
     rfl
    refine ⟨_, rfl, _, rfl, p, _, _, _, rfl, rfl, SqL.of hd6, hat, _, rfl, _, rfl, (by omega), _, rfl, _, rfl, _, rfl, _, rfl, ?_⟩
    refine ite2 (fun h1 => ?a1) (fun h1 => ?a2)
   case a1 =>
    refine ⟨_, fun σ' H' z => z, ?_⟩
    refine ⟨_, rfl, _, rfl, _, rfl, p, _, rfl, SqL.of hd6, fun p7 hp7 => ?_⟩
    rw [show cutV (ls'.map T) none (some (-(1 : Int))) = (ls'.take (ls'.length - 1)).map T from cutV_init]
    have htk : (ls'.take (ls'.length - 1)).length = ls'.length - 1 := by rw [List.length_take]; omega
    exact ⟨ls'.length - 1, by omega, p7, ls'.take (ls'.length - 1), htk.symm, s6.trans (same_upd hp7), upd_same, hw6.sub (List.take_sublist _ _), by omega, htr6.elim fun _ g => g.take _, rfl⟩
   case' a2 =>
    have hcl : ls' ≠ [] → ∃ f0, Tr f0 ls' f0 := fun _ => by
     obtain ⟨q0, g⟩ := htr6
     have e := g.last ht
     have e2 : t.drop 1 = f0 := by
      rw [← cutL_from (k := 1) (show 1 ≤ t.length by omega)]
      by_cases z : cutL t (some 1) none = f0
      ·exact z
      ·exact absurd (by rw [show decide (cutL t (some 1) none = f0) = false from decide_eq_false z]; rfl) h1
     rw [show q0 = f0 from e.trans e2] at g
     exact ⟨f0, g⟩
   case' b =>
    have hcl : ls' ≠ [] → ∃ f0, Tr f0 ls' f0 := fun z => absurd (decide_eq_true (by have := List.length_pos_iff.mpr z; omega)) h0
   all_goals
    refine ⟨_, rfl, p, _, rfl, .inl (SqL.of hd6), _, rfl, _, rfl, _, rfl, ?_⟩
    rw [hml]
    refine ite2 (fun h2 => ?_) (fun h2 => ?_)
    ·refine ⟨_, rfl, _, rfl, n, rfl, ⟨by omega, by show n * 1 ≤ sizeLine; omega⟩, (by show 1 ≤ sizeLine; omega), fun p7 hp7 => ?_⟩
     exact ⟨_, rfl, fin p7 [Wd.rep n [97]] _ (s6.trans (same_upd hp7)) upd_same (WL.one (rep_a n)) (by simp) (.inr (Nat.le_refl 1)) ⟨beg (Wd.rep n [97]), rfl, (rep_round 97 n).symm⟩⟩
    ·exact ⟨_, rfl, fin p ls' H6 s6 hd6 hw6 (fun z => h2 (decide_eq_true (by rw [z]; rfl))) (.inl hl6) (hcl fun z => h2 (decide_eq_true (by rw [z]; rfl)))⟩

noncomputable def ext (ws : List (List Nat)) (sg : List Nat) : List (List Nat) := ws.flatMap fun w => sg.map fun c => w ++ [c]
theorem ext_snoc (ws : List (List Nat)) (w : List Nat) (sg : List Nat) : ext (ws ++ [w]) sg = ext ws sg ++ sg.map fun c => w ++ [c] := by
 unfold ext
 rw [List.flatMap_append]
 simp
theorem ext_len (sg : List Nat) : ∀ ws : List (List Nat), (ext ws sg).length = ws.length * sg.length
 | [] => by simp [ext]
 | w :: ws => by
  have ih := ext_len sg ws
  unfold ext at ih ⊢
  rw [List.flatMap_cons, List.length_append, ih, List.length_map, List.length_cons, Nat.succ_mul, Nat.add_comm]
theorem ext_mem {ws : List (List Nat)} {sg : List Nat} {x : List Nat} (h : x ∈ ext ws sg) : ∃ w ∈ ws, ∃ c ∈ sg, x = w ++ [c] := by
 obtain ⟨w, hw, hx⟩ := List.mem_flatMap.mp h
 obtain ⟨c, hc, e⟩ := List.mem_map.mp hx
 exact ⟨w, hw, c, hc, e.symm⟩
theorem ext_nodup {sg : List Nat} (hs : sg.Nodup) : ∀ {ws : List (List Nat)}, ws.Nodup → (ext ws sg).Nodup
 | [], _ => List.nodup_nil
 | w :: ws, h => by
  rw [List.nodup_cons] at h
  have ih := ext_nodup hs h.2
  show (ext (w :: ws) sg).Nodup
  have e : ext (w :: ws) sg = (sg.map fun c => w ++ [c]) ++ ext ws sg := by unfold ext; rw [List.flatMap_cons]
  rw [e]
  refine List.nodup_append.mpr ⟨?_, ih, fun a ha b hb ee => h.1 ?_⟩
  ·refine List.pairwise_map.mpr (hs.imp fun hne z => hne ?_)
   have := List.append_cancel_left z
   simpa using this
  ·obtain ⟨c, hc, e1⟩ := List.mem_map.mp ha
   obtain ⟨w', hw', c', hc', e2⟩ := ext_mem hb
   have z : w ++ [c] = w' ++ [c'] := e1.trans (ee.trans e2)
   have z2 := (List.append_inj' z rfl).1
   rw [z2]
   exact hw'
theorem WL.ext {ws : List (List Nat)} {sg : List Nat} {i : Nat} (h : WL ws i) (hs : sg.Nodup) (ha : ∀ c ∈ sg, 97 ≤ c ∧ c < 103) : WL (ext ws sg) (i + 1) := by
 refine ⟨fun x hx => ?_, ext_nodup hs h.2⟩
 obtain ⟨w, hw, c, hc, rfl⟩ := ext_mem hx
 obtain ⟨h1, h2⟩ := h.1 w hw
 refine ⟨by rw [List.length_append, h1]; rfl, fun d hd => ?_⟩
 rcases List.mem_append.mp hd with g | g
 ·exact h2 d g
 ·have e : d = c := by simpa using g
  subst e
  exact ha d hc
noncomputable def spEvery : Sp := fun vs H Q _ => ∃ (k n : Nat), vs = [.int (k : Nat), .int (n : Nat)] ∧ (k ≤ 6 ∧ n ≤ 4) ∧ ∀ (D : Addr) (ls : List (List Nat)) (H' : Hp), H D = none → Same H H' → H' D = some (.lst (ls.map T)) → WL ls n → ls.length ≤ 2000 → Q (.ref D) H'
theorem ok__law_every {f : Addr} {fd : FuncData} (F : Fun K "_law_every" "_law_every" s__law_every f fd) (tt : Txt K mg ad) : FnOk P w K mg base (CX2 P w) 1 f fd ["kinds", "length"] spEvery := by
 refine F.okN2 sc__law_every (fun vs H Q E h => ?_) (fun cdv A outer s H vs Q E hr h => ?_)
 ·obtain ⟨k, n, rfl, _⟩ := h
  rfl
 ·obtain ⟨k, n, rfl, hb, q⟩ := h
  have hs : sizeLine = 16777216 := sizeLine_eq
  obtain ⟨sg, hsg, hsgl, hsga, hsgn⟩ : ∃ sg : List Nat, cutL [97, 98, 99, 100, 101, 102] none (some ((k : Nat) : Int)) = sg ∧ sg.length ≤ 6 ∧ (∀ c ∈ sg, 97 ≤ c ∧ c < 103) ∧ sg.Nodup :=
   ⟨_, cutL_take _ _, by rw [List.length_take]; exact Nat.min_le_right _ _, fun c hc => abc_take hc, (show ([97, 98, 99, 100, 101, 102] : List Nat).Nodup by decide).sublist (List.take_sublist _ _)⟩
  refine ⟨_, (pss_cons (ps_set (i := 2) sc__law_every.nd rfl (Or.inl rfl) (pe_lst (pa_cons (pe_strT [] (by decide +kernel)) pa_nil)))
   (pss_cons (ps_for PassesOwn.never rfl (pi_range1 (by rfl) tt.b_range (pa_cons (pv 1) pa_nil)) (pg_name (i := 3) sc__law_every.nd rfl (Or.inl rfl)) (pss_cons (ps_set (i := 4) sc__law_every.nd rfl (Or.inl rfl) (pe_lst pa_nil))
   (pss_cons (ps_for PassesOwn.never rfl (pi_list (pv 2)) (pg_name (i := 5) sc__law_every.nd rfl (Or.inr rfl)) (pss_one (ps_expr (pe_bm PySem.F.plainAttrs_list PySem.F.slot_list_extend PySem.F.type_list_extend mt_extend (pv 4) (pa_cons (pe_comp cs__law_every_0 rfl (pi_str (pe_slice sl_T (pe_strT [97, 98, 99, 100, 101, 102] (by decide +kernel)) po_none (po_some (pv 0)))) (fun cl C s' H' fp => (pe_op op_add_T (pv 6) (pv 0)))) pa_nil)))))
   (pss_one (ps_set (i := 2) sc__law_every.nd rfl (Or.inl rfl) (pv 4))))))
   (pss_one (ps_ret (pv 2))))), ?_⟩
  refine ⟨(by show 1 ≤ sizeLine; omega), fun p0 hp0 => ?_⟩
  refine ⟨_, rfl, _, rfl, by omega, by omega, ?_⟩
  rw [Int.toNat_natCast]
  refine for_range (fun i σ H2 => Same H H2 ∧ ∃ (p : Addr) (ls : List (List Nat)) (v3 v4 v5 : Option V), H p = none ∧ H2 p = some (.lst (ls.map T)) ∧ WL ls i ∧ ls.length ≤ 6 ^ i ∧ σ = [some (.int (k : Nat)), some (.int (n : Nat)), some (.ref p), v3, v4, v5])
   ⟨same_upd hp0, p0, [[]], none, none, none, hp0, upd_same, ⟨fun x hx => by rw [List.mem_singleton.mp hx]; exact ⟨rfl, fun c hc => by simp at hc⟩, by simp⟩, (by decide), rfl⟩ ?_ ?_
  ·rintro i σ H2 hi ⟨s2, p, ls, v3, v4, v5, hpn, hd, hwl, hl, rfl⟩
   have hl3 : ls.length ≤ 216 := Nat.le_trans hl (Nat.pow_le_pow_right (by decide) (show i ≤ 3 by omega))
   refine ⟨(by show 0 ≤ sizeLine; omega), fun D hD => ?_⟩
   have s3 := same_upd (o := .lst []) hD
   refine ⟨_, rfl, p, rfl, ⟨_, SqL.of (s3 p _ hd)⟩, ?_⟩
   refine for_list (K := K) (a := p) (xs := ls.map T) (fun j σ H3 => Same H2 H3 ∧ ∃ (v5 : Option V), H3 D = some (.lst ((ext (ls.take j) sg).map T)) ∧ σ = [some (.int (k : Nat)), some (.int (n : Nat)), some (.ref p), some (.int (0 + (i : Int))), some (.ref D), v5])
    ⟨s3, v5, upd_same, rfl⟩ (fun j σ H3 _ h => SqL.of (h.1 p _ hd)) ?_ ?_
   ·rintro j y σ H3 hj ⟨s4, v5, hd4, rfl⟩
    obtain ⟨wd, hwd, rfl⟩ : ∃ wd, ls[j]? = some wd ∧ y = T wd := by
     rw [List.getElem?_map] at hj
     obtain ⟨x, h1, h2⟩ := Option.map_eq_some_iff.mp hj
     exact ⟨x, h1, h2.symm⟩
    have hwdl := (hwl.1 wd (List.mem_of_getElem? hwd)).1
    refine ⟨_, rfl, .inl ⟨rfl, _, SqL.of hd4⟩, _, rfl, _, rfl, _, rfl, (by show 6 ≤ sizeLine; omega), ?_⟩
    rw [hsg]
    refine ⟨_, rfl, ?_⟩
    refine compG (vs := (sg.map fun c => [c]).map T) (fun v => T (wd ++ unT v)) reads_text (by rw [List.length_map, List.length_map]; omega) (fun v H5 hv s5 N hN => ?_) fun D1 H5 hD1 s5 hd5 => ?_
    ·obtain ⟨l, hl', rfl⟩ := List.mem_map.mp hv
     obtain ⟨ch, hch, rfl⟩ := List.mem_map.mp hl'
     have g := hN H5 (Same.refl _)
     rw [unT_T] at g
     exact ⟨_, rfl, _, rfl, _, rfl, _, rfl, (by show wd.length + 1 ≤ sizeLine; omega), g⟩
    rw [map_unT (f := fun l => T (wd ++ l)), List.map_map] at hd5
    have e5 : sg.map ((fun l => T (wd ++ l)) ∘ fun c => [c]) = (sg.map fun c => wd ++ [c]).map T := by rw [List.map_map]; rfl
    rw [e5] at hd5
    have hjl : j < ls.length := (List.getElem?_eq_some_iff.mp hwd).1
    have el := ext_len sg (ls.take j)
    have htk : (ls.take j).length ≤ 216 := by rw [List.length_take]; omega
    have hm : (ls.take j).length * sg.length ≤ 216 * 6 := Nat.mul_le_mul htk hsgl
    refine ⟨D, D1, _, _, rfl, rfl, s5 D _ hd4, hd5, (by rw [List.length_map, List.length_map, List.length_map, el]; omega), ?_⟩
    refine ⟨(fun b o e => by rw [upd_ne (ne_of_none e hD)]; exact (s4.trans s5) b o e), some (T wd), ?_, rfl⟩
    rw [List.take_add_one, hwd, show (some wd).toList = [wd] from rfl, ext_snoc, List.map_append]
    exact upd_same
   ·rintro σ H3 ⟨s4, v5', hd4, rfl⟩
    rw [List.length_map, List.take_length] at hd4
    refine ⟨_, rfl, ?_⟩
    have hDn : H D = none := by
     cases e : H D with
     | none => rfl
     | some o => exact absurd ((s2 D o e).symm.trans hD) (fun z => nomatch z)
    refine ⟨s2.trans s4, D, ext ls sg, some (.int (0 + (i : Int))), some (.ref D), v5', hDn, hd4, hwl.ext hsgn hsga, ?_, rfl⟩
    rw [ext_len, Nat.pow_succ]
    exact Nat.mul_le_mul hl hsgl
  ·rintro σ H2 ⟨s2, p, ls, v3, v4, v5, hpn, hd, hwl, hl, rfl⟩
   have hl4 : ls.length ≤ 1296 := Nat.le_trans hl (Nat.pow_le_pow_right (by decide) (show n ≤ 4 by omega))
   exact ⟨_, rfl, q p ls H2 hpn s2 hd hwl (by omega)⟩


noncomputable def spDigit : Sp := fun vs H Q _ => ∃ (cell : Int), vs = [.int cell, .int 20] ∧ ∀ (D : Addr) (ls : List (List Nat)) (n : Nat) (H' : Hp), Same H H' → H' D = some (.lst (ls.map T)) → WL ls n → (1 ≤ n ∧ n ≤ 5) → ls ≠ [] → ls.length ≤ 20 → Q (.ref D) H'
theorem ok__law_digit_words {f : Addr} {fd : FuncData} (F : Fun K "_law_digit_words" "_law_digit_words" s__law_digit_words f fd) (tt : Txt K mg ad) (C__law_every : Cal P w K mg base (CX2 P w) "_law_every" 1 ["kinds", "length"] spEvery) : FnOk P w K mg base (CX2 P w) 2 f fd ["cell", "most"] spDigit := by
 refine F.okN2 sc__law_digit_words (fun vs H Q E h => ?_) (fun cdv A outer s H vs Q E hr h => ?_)
 ·obtain ⟨cell, rfl, _⟩ := h
  rfl
 ·obtain ⟨cell, rfl, q⟩ := h
  have hs : sizeLine = 16777216 := sizeLine_eq
  obtain ⟨m, hm, hm9⟩ : ∃ m : Nat, cell % 9 = (m : Int) ∧ m < 9 := ⟨(cell % 9).toNat, by omega, by omega⟩
  obtain ⟨k, n, hpr, hk, hn⟩ : ∃ k n : Nat, ([(2, 2), (2, 3), (2, 4), (3, 2), (3, 3), (4, 2), (6, 1), (6, 2), (5, 2)] : List (Int × Int))[m]? = some (((k : Nat) : Int), ((n : Nat) : Int)) ∧ (1 ≤ k ∧ k ≤ 6) ∧ (1 ≤ n ∧ n ≤ 4) := by
   match m, hm9 with
   | 0, _ => exact ⟨2, 2, rfl, by decide, by decide⟩
   | 1, _ => exact ⟨2, 3, rfl, by decide, by decide⟩
   | 2, _ => exact ⟨2, 4, rfl, by decide, by decide⟩
   | 3, _ => exact ⟨3, 2, rfl, by decide, by decide⟩
   | 4, _ => exact ⟨3, 3, rfl, by decide, by decide⟩
   | 5, _ => exact ⟨4, 2, rfl, by decide, by decide⟩
   | 6, _ => exact ⟨6, 1, rfl, by decide, by decide⟩
   | 7, _ => exact ⟨6, 2, rfl, by decide, by decide⟩
   | 8, _ => exact ⟨5, 2, rfl, by decide, by decide⟩
  refine ⟨_, (pss_cons (ps_set (i := 2) sc__law_digit_words.nd rfl (Or.inl rfl) (pe_lst (pa_pairs [((_, _, _), (_, _, _), _, _), ((_, _, _), (_, _, _), _, _), ((_, _, _), (_, _, _), _, _), ((_, _, _), (_, _, _), _, _), ((_, _, _), (_, _, _), _, _), ((_, _, _), (_, _, _), _, _), ((_, _, _), (_, _, _), _, _), ((_, _, _), (_, _, _), _, _), ((_, _, _), (_, _, _), _, _)])))
   (pss_cons (ps_asg (pe_ix ix_list (pv 2) (pe_op op_mod (pv 0) pe_int) (fun _ _ => rfl)) (pg_tup rfl (pgs_cons (pg_name (i := 3) sc__law_digit_words.nd rfl (Or.inl rfl)) (pgs_cons (pg_name (i := 4) sc__law_digit_words.nd rfl (Or.inl rfl)) pgs_nil))))
   (pss_cons (ps_set (i := 5) sc__law_digit_words.nd rfl (Or.inl rfl) (pe_op op_fdiv (pv 0) pe_int))
   (pss_cons (ps_set (i := 6) sc__law_digit_words.nd rfl (Or.inl rfl) (pe_lst pa_nil))
   (pss_cons (ps_for PassesOwn.never rfl (pi_list (pe_cal C__law_every hr pass2 (pa_cN (pv 3) (pa_cN (pv 4) pa_nil)))) (pg_name (i := 7) sc__law_digit_words.nd rfl (Or.inl rfl)) (pss_cons (ps_if (PW.pt (pw_and (pt_cmpR op_eq_I (pe_op op_mod (pv 5) pe_int) pe_int (nomark _)) (pw_and1 (pt_cmpR op_lt (pe_callB call_len_seq (by rfl) tt.b_len PySem.boot_len (pa_cN (pv 6) pa_nil)) (pv 1) (nomark _))))) (pss_one (ps_expr (pe_bm PySem.F.plainAttrs_list PySem.F.slot_list_append PySem.F.type_list_append mt_append (pv 6) (pa_cN (pv 7) pa_nil)))) pss_nil)
   (pss_one (ps_set (i := 5) sc__law_digit_words.nd rfl (Or.inl rfl) (pe_op op_fdiv (pv 5) pe_int)))))
   (pss_cons (ps_if (pt_cmpR op_eq_I (pe_callB call_len_seq (by rfl) tt.b_len PySem.boot_len (pa_cN (pv 6) pa_nil)) pe_int (nomark _)) (pss_one (ps_set (i := 6) sc__law_digit_words.nd rfl (Or.inl rfl) (pe_lst (pa_cB (pe_op op_mul_T (pe_strT [97] (by decide +kernel)) (pv 4)) pa_nil)))) pss_nil)
   (pss_one (ps_ret (pv 6))))))))), ?_⟩
  refine pairs_use _ fun vs9 G9 hvl sG9 hv => ?_
  refine ⟨(by rw [hvl]; show 9 ≤ sizeLine; omega), fun ps hps => ?_⟩
  obtain ⟨tp, htp, hT⟩ := hv m _ hpr
  have s1 := sG9.trans (same_upd (o := .lst vs9) hps)
  have hTp := same_upd (o := .lst vs9) hps tp _ hT
  obtain ⟨H1, hH1, s1, hd1⟩ := namedD s1
  rw [← hH1] at hTp ⊢
  refine ⟨_, rfl, _, rfl, _, _, rfl, rfl, (by show (0 : Int) < 9; decide), ps, _, _, _, rfl, rfl, SqL.of hd1, (by rw [hm]; exact atI_nat htp), tp, _, rfl, SqT.of hTp, rfl, _, _, rfl, _, _, rfl, rfl, ?_⟩
  refine ⟨_, rfl, _, _, rfl, rfl, ⟨by decide, by decide⟩, ?_⟩
  refine ⟨(by show 0 ≤ sizeLine; omega), fun D hD => ?_⟩
  have s2 := s1.trans (same_upd (o := .lst []) hD)
  refine ⟨_, rfl, _, rfl, k, n, rfl, ⟨by omega, by omega⟩, fun De es He hDe se hde hwe hel => ⟨De, rfl, ⟨_, SqL.of hde⟩, ?_⟩⟩
  have hDD : De ≠ D := fun z => by rw [z] at hDe; exact absurd (upd_same.symm.trans hDe) (fun z => nomatch z)
  have hD0 : He D = some (.lst []) := se D _ upd_same
  have hHn : H D = none := by
   cases e : H D with
   | none => rfl
   | some o => exact absurd ((s1 D o e).symm.trans hD) (fun z => nomatch z)
  refine for_list (K := K) (a := De) (xs := es.map T) (fun i σ H3 => Same H H3 ∧ H3 De = some (.lst (es.map T)) ∧ ∃ (ls : List (List Nat)) (pt : Int) (v7 : Option V), H3 D = some (.lst (ls.map T)) ∧ ls.Sublist (es.take i) ∧ ls.length ≤ 20 ∧ σ = [some (.int cell), some (.int 20), some (.ref ps), some (.int (k : Nat)), some (.int (n : Nat)), some (.int pt), some (.ref D), v7])
   ⟨s2.trans se, hde, [], cell / 9, none, hD0, List.nil_sublist _, by decide, rfl⟩ (fun i σ H3 _ h => SqL.of h.2.1) ?_ ?_
  ·rintro i y σ H3 hi ⟨s3, hd3, ls, pt, v7, hdl, hsub, hl, rfl⟩
   obtain ⟨wd, hwd, rfl⟩ : ∃ wd, es[i]? = some wd ∧ y = T wd := by
    rw [List.getElem?_map] at hi
    obtain ⟨x, h1, h2⟩ := Option.map_eq_some_iff.mp hi
    exact ⟨x, h1, h2.symm⟩
   have hml : (ls.map T).length = ls.length := List.length_map ..
   have etk : es.take (i + 1) = es.take i ++ [wd] := by rw [List.take_add_one, hwd]; rfl
   refine ⟨_, rfl, _, _, rfl, rfl, (by show (0 : Int) < 2; decide), _, rfl, _, rfl, _, rfl, ?_⟩
   refine ite2 (fun h0 => ?_) (fun h0 => ?_)
   ·refine ⟨_, rfl, D, _, rfl, .inl (SqL.of hdl), _, rfl, _, _, rfl, rfl, _, rfl, ?_⟩
    rw [hml]
    refine ite2 (fun h1 => ?_) (fun h1 => ?_)
    ·have h40 : ls.length < 20 := by have := of_decide_eq_true h1; omega
     refine ⟨_, rfl, .inl ⟨rfl, _, SqL.of hdl⟩, _, rfl, D, _, _, rfl, rfl, hdl, (by rw [hml]; omega), ?_⟩
     refine ⟨_, rfl, _, _, rfl, rfl, ⟨by decide, by decide⟩, ?_⟩
     refine ⟨(fun b o e => by rw [upd_ne (ne_of_none e hHn)]; exact s3 b o e), by rw [upd_ne hDD]; exact hd3, ls ++ [wd], pt / 2, some (T wd), by rw [List.map_append]; exact upd_same, ?_, by rw [List.length_append, List.length_singleton]; omega, rfl⟩
     rw [etk]
     exact hsub.append (List.Sublist.refl _)
    ·refine ⟨_, rfl, _, _, rfl, rfl, ⟨by decide, by decide⟩, ?_⟩
     exact ⟨s3, hd3, ls, pt / 2, some (T wd), hdl, by rw [etk]; exact hsub.trans (List.sublist_append_left _ _), hl, rfl⟩
   ·refine ⟨_, rfl, _, _, rfl, rfl, ⟨by decide, by decide⟩, ?_⟩
    exact ⟨s3, hd3, ls, pt / 2, some (T wd), hdl, by rw [etk]; exact hsub.trans (List.sublist_append_left _ _), hl, rfl⟩
  ·rintro σ H3 ⟨s3, hd3, ls, pt, v7, hdl, hsub, hl, rfl⟩
   rw [List.length_map, List.take_length] at hsub
   have hml : (ls.map T).length = ls.length := List.length_map ..
   refine ⟨_, rfl, D, _, rfl, .inl (SqL.of hdl), _, rfl, _, rfl, _, rfl, ?_⟩
   rw [hml]
   refine ite2 (fun h2 => ?_) (fun h2 => ?_)
   ·refine ⟨_, rfl, _, rfl, n, rfl, ⟨by omega, by show n * 1 ≤ sizeLine; omega⟩, (by show 1 ≤ sizeLine; omega), fun p7 hp7 => ?_⟩
    exact ⟨_, rfl, q p7 [Wd.rep n [97]] n _ (s3.trans (same_upd hp7)) upd_same (WL.one (rep_a n)) ⟨by omega, by omega⟩ (by simp) (by show 1 ≤ 20; decide)⟩
   ·exact ⟨_, rfl, q D ls n H3 s3 hdl (hwe.sub hsub) ⟨by omega, by omega⟩ (fun z => h2 (decide_eq_true (by rw [z]; rfl))) hl⟩

theorem modN (d : Int) {n : Nat} (h : 0 < n) : ∃ m : Nat, d % ((n : Nat) : Int) = (m : Int) ∧ m < n := by
 have z0 := Int.emod_nonneg d (show ((n : Nat) : Int) ≠ 0 by omega)
 have z1 := Int.emod_lt_of_pos d (show (0 : Int) < ((n : Nat) : Int) by omega)
 exact ⟨(d % ((n : Nat) : Int)).toNat, by omega, by omega⟩
theorem cut_sub {α : Type} (l : List α) (m : Nat) : (l.take m ++ l.drop (m + 1)).Sublist l := by
 have h : (l.take m ++ l.drop (m + 1)).Sublist (l.take m ++ l.drop m) := (List.Sublist.refl _).append (by rw [← List.drop_drop]; exact List.drop_sublist _ _)
 rwa [List.take_append_drop] at h
theorem cutV_from {ls : List (List Nat)} {k : Nat} (h : k ≤ ls.length) : cutV (ls.map T) (some (k : Int)) none = (ls.drop k).map T := by
 unfold cutV
 rw [HT.sIx_nat, HT.sIx_none, List.length_map, Nat.min_eq_left h, ← List.map_drop, ← List.map_take, List.take_of_length_le (by rw [List.length_drop]; omega)]
theorem cutV_to {ls : List (List Nat)} {k : Nat} (h : k ≤ ls.length) : cutV (ls.map T) none (some (k : Int)) = (ls.take k).map T := by
 unfold cutV
 rw [HT.sIx_nat, HT.sIx_none, List.length_map, Nat.min_eq_left h, List.drop_zero, Nat.sub_zero, List.map_take]
noncomputable def spSomeW (K : PySem.W.Frag) : Sp := fun vs H Q _ => ∃ (a : Addr) (ns : List Int), vs = [.ref a, .int 0, .int 20] ∧ SqL K H a (ns.map V.int) ∧ ∀ (D : Addr) (ls : List (List Nat)) (n : Nat) (H' : Hp), Same H H' → H' D = some (.lst (ls.map T)) → WL ls n → (1 ≤ n ∧ n ≤ 5) → ls ≠ [] → ls.length ≤ 23 → FewN 40 ls → Q (.ref D) H'
theorem ok__law_some_words {f : Addr} {fd : FuncData} (F : Fun K "_law_some_words" "_law_some_words" s__law_some_words f fd) (tt : Txt K mg ad) (C__law_cell_at : Cal P w K mg base (CX2 P w) "_law_cell_at" 1 ["script", "k"] (spCell K)) (C__law_ring_words : Cal P w K mg base (CX2 P w) "_law_ring_words" 2 ["script", "at", "most"] (spRingWd K))
  (C__law_digit_words : Cal P w K mg base (CX2 P w) "_law_digit_words" 2 ["cell", "most"] spDigit) : FnOk P w K mg base (CX2 P w) 3 f fd ["script", "at", "most"] (spSomeW K) := by
 refine F.okN2 sc__law_some_words (fun vs H Q E h => ?_) (fun cdv A outer s H vs Q E hr h => ?_)
 ·obtain ⟨a, ns, rfl, _⟩ := h
  rfl
 ·obtain ⟨a, ns, rfl, hS, q⟩ := h
  have hs : sizeLine = 16777216 := sizeLine_eq
  refine ⟨_, (pss_cons (ps_set (i := 3) sc__law_some_words.nd rfl (Or.inl rfl) (pe_cal C__law_ring_words hr pass2 (pa_cons (pv 0) (pa_cons (pv 1) (pa_cons (pv 2) pa_nil)))))
   (pss_cons (ps_set (i := 4) sc__law_some_words.nd rfl (Or.inl rfl) (pe_op op_mod (pe_op op_fdiv (pe_cal C__law_cell_at hr pass2 (pa_cons (pv 0) (pa_cons (pv 1) pa_nil))) pe_int) pe_int))
   (pss_cons (ps_if (pt_cmpR op_eq_I (pv 4) pe_int (nomark _)) (pss_one (ps_ret (pe_cal C__law_digit_words hr pass2 (pa_cons (pe_cal C__law_cell_at hr pass2 (pa_cons (pv 0) (pa_cons (pe_op op_add (pv 1) pe_int) pa_nil))) (pa_cons (pv 2) pa_nil))))) pss_nil)
   (pss_cons (ps_set (i := 5) sc__law_some_words.nd rfl (Or.inl rfl) (pe_op op_fdiv (pe_cal C__law_cell_at hr pass2 (pa_cons (pv 0) (pa_cons (pe_op op_add (pv 1) pe_int) pa_nil))) pe_int))
   (pss_cons (ps_if (PW.pt (pw_and (pt_cmpR op_eq_I (pv 4) pe_int (nomark _)) (pw_and1 (pt_cmpR op_gt (pe_callB call_len_seq (by rfl) tt.b_len PySem.boot_len (pa_cons (pv 3) pa_nil)) pe_int (nomark _))))) (pss_one (ps_set (i := 3) sc__law_some_words.nd rfl (Or.inl rfl) (pe_slice sl_list (pv 3) (po_some pe_int) po_none))) pss_nil)
   (pss_cons (ps_if (pt_cmpR op_eq_I (pv 4) pe_int (nomark _)) (pss_cons (ps_set (i := 5) sc__law_some_words.nd rfl (Or.inl rfl) (pe_op op_mod (pv 5) (pe_op op_pow pe_int pe_int)))
   (pss_one (ps_for PassesOwn.never rfl (pi_range1 (by rfl) tt.b_range (pa_cons (pe_op op_add pe_int (pe_op op_mod (pv 5) pe_int)) pa_nil)) (pg_name (i := 6) sc__law_some_words.nd rfl (Or.inl rfl)) (pss_cons (ps_set (i := 7) sc__law_some_words.nd rfl (Or.inl rfl) (pe_strT [] (by decide +kernel)))
   (pss_cons (ps_for PassesOwn.never rfl (pi_range1 (by rfl) tt.b_range (pa_cons (pe_callB call_len_T (by rfl) tt.b_len PySem.boot_len (pa_cons (pe_ix ix_list (pv 3) pe_int (fun _ _ => rfl)) pa_nil)) pa_nil)) (pg_name (i := 8) sc__law_some_words.nd rfl (Or.inl rfl)) (pss_cons (ps_set (i := 9) sc__law_some_words.nd rfl (Or.inl rfl) (pe_op op_fdiv (pe_op op_add (pv 5) (pe_op op_mul (pv 6) (pv 6))) (pe_op op_add (pe_op op_add (pe_op op_add (pe_op op_mul (pe_op op_mul pe_int (pv 8)) (pv 8)) (pe_op op_mul pe_int (pv 8))) (pe_op op_mul pe_int (pv 6))) pe_int)))
   (pss_one (ps_set (i := 7) sc__law_some_words.nd rfl (Or.inl rfl) (pe_op op_add_T (pv 7) (pe_ix ix_T (pe_strT [97, 98, 99, 100, 101, 102] (by decide +kernel)) (pe_op op_mod (pv 9) pe_int) (fun _ _ => rfl)))))))
   (pss_one (ps_if (pt_cmpR op_notIn_seq (pv 7) (pv 3) (by with_unfolding_all rfl)) (pss_one (ps_set (i := 3) sc__law_some_words.nd rfl (Or.inl rfl) (pe_op op_catL (pv 3) (pe_lst (pa_cons (pv 7) pa_nil))))) pss_nil))))))) pss_nil)
   (pss_cons (ps_if (PW.pt (pw_and (pt_cmpR op_eq_I (pv 4) pe_int (nomark _)) (pw_and1 (pt_cmpR op_gt (pe_callB call_len_seq (by rfl) tt.b_len PySem.boot_len (pa_cons (pv 3) pa_nil)) pe_int (nomark _))))) (pss_cons (ps_set (i := 3) sc__law_some_words.nd rfl (Or.inl rfl) (pe_op op_catL (pe_slice sl_list (pv 3) po_none (po_some (pe_op op_mod (pv 5) (pe_callB call_len_seq (by rfl) tt.b_len PySem.boot_len (pa_cons (pv 3) pa_nil))))) (pe_slice sl_list (pv 3) (po_some (pe_op op_add (pe_op op_mod (pv 5) (pe_callB call_len_seq (by rfl) tt.b_len PySem.boot_len (pa_cons (pv 3) pa_nil))) pe_int)) po_none)))
   (pss_one (ps_set (i := 3) sc__law_some_words.nd rfl (Or.inl rfl) (pe_op op_catL (pe_slice sl_list (pv 3) po_none (po_some (pe_op op_mod (pe_op op_fdiv (pv 5) pe_int) (pe_callB call_len_seq (by rfl) tt.b_len PySem.boot_len (pa_cons (pv 3) pa_nil))))) (pe_slice sl_list (pv 3) (po_some (pe_op op_add (pe_op op_mod (pe_op op_fdiv (pv 5) pe_int) (pe_callB call_len_seq (by rfl) tt.b_len PySem.boot_len (pa_cons (pv 3) pa_nil))) pe_int)) po_none))))) pss_nil)
   (pss_one (ps_ret (pv 3)))))))))), ?_⟩
  refine ⟨_, rfl, _, rfl, _, rfl, a, ns, 20, rfl, (by decide), hS, fun p ls n H1 s1 hd hwl hn hne hl htr => ?_⟩
  have hl : ls.length ≤ 20 := by omega
  have hf : FewN 21 ls := htr.elim fun _ g => few_tr g (by omega)
  refine ⟨_, rfl, _, rfl, a, ns, 0, rfl, s1.seq hS, _, _, rfl, rfl, ⟨by decide, by decide⟩, _, _, rfl, rfl, (by show (0 : Int) < 5; decide), ?_⟩
  dsimp only
  generalize ns.getD 0 0 / 7 % 5 = wy
  refine ⟨_, rfl, _, rfl, _, rfl, _, rfl, ?_⟩
  refine ite2 (fun h4 => ?_) (fun h4 => ?_)
  ·exact ⟨_, rfl, _, rfl, _, _, rfl, rfl, a, ns, 1, rfl, s1.seq hS, _, rfl, _, rfl, fun D ls2 n2 H2 s2 hd2 hw2 hn2 hne2 hl2 => q D ls2 n2 H2 (s1.trans s2) hd2 hw2 hn2 hne2 (by omega) (FewN.len (by omega))⟩
  refine ⟨_, rfl, _, rfl, _, _, rfl, rfl, a, ns, 1, rfl, s1.seq hS, _, _, rfl, rfl, ⟨by decide, by decide⟩, ?_⟩
  dsimp only
  generalize ns.getD 1 0 / 8 = dr
  refine ⟨_, rfl, _, rfl, _, rfl, _, rfl, ?_⟩
  refine ite2 (fun h1 => ?a) (fun h1 => ?b)
  case' a =>
   refine ⟨_, rfl, p, _, rfl, .inl (SqL.of hd), _, _, rfl, rfl, _, rfl, ?_⟩
   rw [List.length_map]
   refine ite2 (fun h2 => ?a1) (fun h2 => ?a2)
  case' a1 =>
   have h2' : 1 < ls.length := by have := of_decide_eq_true h2; omega
   refine ⟨_, rfl, _, rfl, p, _, rfl, SqL.of hd, fun p3 hp3 => ?_⟩
   rw [show cutV (ls.map T) (some 1) none = (ls.drop 1).map T from cutV_from (k := 1) (by omega)]
   obtain ⟨H3, hH3, s3, hd3⟩ := namedD (s1.trans (same_upd (o := .lst ((ls.drop 1).map T)) hp3))
   rw [← hH3]
   obtain ⟨ls3, hd3, hw3, hne3, hl3, hf3⟩ : ∃ ls3 : List (List Nat), H3 p3 = some (.lst (ls3.map T)) ∧ WL ls3 n ∧ ls3 ≠ [] ∧ ls3.length ≤ 20 ∧ FewN 21 ls3 := ⟨ls.drop 1, hd3, hwl.sub (List.drop_sublist _ _), (fun z => by have := congrArg List.length z; rw [List.length_drop] at this; simp at this; omega), by rw [List.length_drop]; omega, hf.sub fun w hw => List.mem_of_mem_drop hw⟩
  case' a2 =>
   obtain ⟨H3, hH3, s3⟩ := named s1
   rw [← hH3]
   obtain ⟨p3, hp3, ls3, hd3, hw3, hne3, hl3, hf3⟩ : ∃ p3, p3 = p ∧ ∃ ls3 : List (List Nat), H3 p3 = some (.lst (ls3.map T)) ∧ WL ls3 n ∧ ls3 ≠ [] ∧ ls3.length ≤ 20 ∧ FewN 21 ls3 := ⟨p, rfl, ls, by rw [hH3]; exact hd, hwl, hne, hl, hf⟩
   rw [← hp3]
  case' b =>
   obtain ⟨H3, hH3, s3⟩ := named s1
   rw [← hH3]
   obtain ⟨p3, hp3, ls3, hd3, hw3, hne3, hl3, hf3⟩ : ∃ p3, p3 = p ∧ ∃ ls3 : List (List Nat), H3 p3 = some (.lst (ls3.map T)) ∧ WL ls3 n ∧ ls3 ≠ [] ∧ ls3.length ≤ 20 ∧ FewN 21 ls3 := ⟨p, rfl, ls, by rw [hH3]; exact hd, hwl, hne, hl, hf⟩
   rw [← hp3]
  all_goals
   refine ⟨_, rfl, _, rfl, _, rfl, _, rfl, ?_⟩
   refine ite2 (fun h5 => ?_) (fun h5 => ?_)
   rotate_left
   ·have h40 := hl3
    refine ⟨_, rfl, _, rfl, _, rfl, _, rfl, ?_⟩
    refine ite2 (fun h7 => ?_) (fun h7 => ?_)
    ·refine ⟨_, rfl, p3, _, rfl, .inl (SqL.of hd3), _, _, rfl, rfl, _, rfl, ?_⟩
     rw [List.length_map]
     refine ite2 (fun h8 => ?_) (fun h8 => ?_)
     ·have h2 : 2 < ls3.length := by have := of_decide_eq_true h8; omega
      obtain ⟨m, hm, hml⟩ := modN (dr) (show 0 < (ls3.map T).length by rw [List.length_map]; omega)
      rw [List.length_map] at hml
      have c1 : cutV (ls3.map T) none (some (dr % (((ls3.map T).length : Nat) : Int))) = (ls3.take m).map T := by rw [hm]; exact cutV_to (by omega)
      have c2 : cutV (ls3.map T) (some (dr % (((ls3.map T).length : Nat) : Int) + 1)) none = (ls3.drop (m + 1)).map T := by rw [hm]; exact cutV_from (k := m + 1) (by omega)
      refine ⟨_, rfl, _, rfl, _, rfl, p3, _, rfl, .inl (SqL.of hd3), _, _, rfl, rfl, (by show (0 : Int) < (((ls3.map T).length : Nat) : Int); rw [List.length_map]; omega), _, rfl, p3, _, rfl, SqL.of hd3, fun q1 hq1 => ?_⟩
      rw [c1]
      have t1 := same_upd (o := .lst ((ls3.take m).map T)) hq1
      refine ⟨_, rfl, _, rfl, _, rfl, p3, _, rfl, .inl (SqL.of (t1 p3 _ hd3)), _, _, rfl, rfl, (by show (0 : Int) < (((ls3.map T).length : Nat) : Int); rw [List.length_map]; omega), _, _, rfl, rfl, _, rfl, p3, _, rfl, SqL.of (t1 p3 _ hd3), fun q2 hq2 => ?_⟩
      rw [c2]
      have t2 := same_upd (o := .lst ((ls3.drop (m + 1)).map T)) hq2
      refine ⟨q1, q2, _, _, rfl, rfl, SqL.of (t2 q1 _ upd_same), SqL.of upd_same, (by rw [List.length_map, List.length_map, List.length_take, List.length_drop]; omega), fun q3 hq3 => ?_⟩
      have t3 := t1.trans (t2.trans (same_upd (o := .lst ((ls3.take m).map T ++ (ls3.drop (m + 1)).map T)) hq3))
      obtain ⟨H8, hH8, t3, hd8⟩ := namedD t3
      rw [← hH8]
      obtain ⟨ms, hms, hsub, hmsl⟩ : ∃ ms : List (List Nat), (ls3.take m).map T ++ (ls3.drop (m + 1)).map T = ms.map T ∧ ms.Sublist ls3 ∧ ms.length = ls3.length - 1 := ⟨ls3.take m ++ ls3.drop (m + 1), by rw [List.map_append], cut_sub _ _, by rw [List.length_append, List.length_take, List.length_drop]; omega⟩
      rw [hms] at hd8
      obtain ⟨m', hm', hml'⟩ := modN (dr / 7) (show 0 < (ms.map T).length by rw [List.length_map]; omega)
      rw [List.length_map] at hml'
      have c3 : cutV (ms.map T) none (some (dr / 7 % (((ms.map T).length : Nat) : Int))) = (ms.take m').map T := by rw [hm']; exact cutV_to (by omega)
      have c4 : cutV (ms.map T) (some (dr / 7 % (((ms.map T).length : Nat) : Int) + 1)) none = (ms.drop (m' + 1)).map T := by rw [hm']; exact cutV_from (k := m' + 1) (by omega)
      refine ⟨_, rfl, _, rfl, _, _, rfl, rfl, ⟨by decide, by decide⟩, _, rfl, q3, _, rfl, .inl (SqL.of hd8), _, _, rfl, rfl, (by show (0 : Int) < (((ms.map T).length : Nat) : Int); rw [List.length_map]; omega), _, rfl, q3, _, rfl, SqL.of hd8, fun q4 hq4 => ?_⟩
      rw [c3]
      have t4 := same_upd (o := .lst ((ms.take m').map T)) hq4
      refine ⟨_, rfl, _, rfl, _, _, rfl, rfl, ⟨by decide, by decide⟩, _, rfl, q3, _, rfl, .inl (SqL.of (t4 q3 _ hd8)), _, _, rfl, rfl, (by show (0 : Int) < (((ms.map T).length : Nat) : Int); rw [List.length_map]; omega), _, _, rfl, rfl, _, rfl, q3, _, rfl, SqL.of (t4 q3 _ hd8), fun q5 hq5 => ?_⟩
      rw [c4]
      have t5 := same_upd (o := .lst ((ms.drop (m' + 1)).map T)) hq5
      refine ⟨q4, q5, _, _, rfl, rfl, SqL.of (t5 q4 _ upd_same), SqL.of upd_same, (by rw [List.length_map, List.length_map, List.length_take, List.length_drop]; omega), fun q6 hq6 => ?_⟩
      have t6 := t4.trans (t5.trans (same_upd (o := .lst ((ms.take m').map T ++ (ms.drop (m' + 1)).map T)) hq6))
      have hl9 : (ms.take m' ++ ms.drop (m' + 1)).length = ms.length - 1 := by rw [List.length_append, List.length_take, List.length_drop]; omega
      exact ⟨_, rfl, q q6 (ms.take m' ++ ms.drop (m' + 1)) n _ ((s3).trans (t3.trans t6)) (by rw [List.map_append]; exact upd_same) ((hw3).sub ((cut_sub _ _).trans hsub)) hn (fun z => by rw [z] at hl9; simp at hl9; omega) (by omega) ((hf3.sub fun w hw => ((cut_sub _ _).trans hsub).subset hw).mono (by omega))⟩
     ·exact ⟨_, rfl, q p3 ls3 n _ s3 hd3 hw3 hn hne3 (by omega) (hf3.mono (by omega))⟩
    ·exact ⟨_, rfl, q p3 ls3 n _ s3 hd3 hw3 hn hne3 (by omega) (hf3.mono (by omega))⟩
   refine ⟨_, rfl, _, _, rfl, rfl, ⟨by decide, by decide, by decide⟩, _, _, rfl, rfl, (by show (0 : Int) < 10 ^ 9; decide), ?_⟩
   dsimp only
   generalize dr % 10 ^ Int.toNat 9 = d2
   refine ⟨_, rfl, _, _, rfl, rfl, (by show (0 : Int) < 3; decide), _, _, rfl, rfl, _, rfl, by omega, by omega, ?_⟩
   obtain ⟨N, hN, hN3⟩ : ∃ N : Nat, 1 + d2 % 3 = (N : Int) ∧ N ≤ 3 := ⟨(1 + d2 % 3).toNat, by omega, by omega⟩
   rw [hN, Int.toNat_natCast]
   refine for_range (fun i σ Hk => Same H Hk ∧ ∃ (pk : Addr) (lk : List (List Nat)) (v6 v7 v8 v9 : Option V), Hk pk = some (.lst (lk.map T)) ∧ WL lk n ∧ lk ≠ [] ∧ lk.length ≤ 20 + i ∧ FewN (21 + 2 * i) lk ∧ σ = [some (.ref a), some (.int 0), some (.int 20), some (.ref pk), some (.int wy), some (.int d2), v6, v7, v8, v9])
    ⟨s3, p3, ls3, none, none, none, none, hd3, hw3, hne3, by omega, hf3, rfl⟩ ?_ ?_
   ·rintro i σ Hk hi ⟨sk, pk, lk, v6, v7, v8, v9, hdk, hwk, hnek, hlk, hfk, rfl⟩
    obtain ⟨m0, hm0⟩ : ∃ m0, lk[0]? = some m0 := ⟨_, List.getElem?_eq_getElem (List.length_pos_iff.mpr hnek)⟩
    have hm0l := (hwk.1 m0 (List.mem_of_getElem? hm0)).1
    refine ⟨_, rfl, pk, _, _, _, rfl, rfl, SqL.of hdk, atI_nat (j := 0) (by rw [List.getElem?_map, hm0]; rfl), _, rfl, (by omega), _, rfl, by omega, by omega, ?_⟩
    rw [hm0l, Int.toNat_natCast]
    refine for_range (fun j σ Hj => Hk = Hj ∧ ∃ (t : List Nat) (v8 v9 : Option V), t.length = j ∧ Abc t ∧ σ = [some (.ref a), some (.int 0), some (.int 20), some (.ref pk), some (.int wy), some (.int d2), some (.int (0 + (i : Int))), some (T t), v8, v9])
     ⟨rfl, [], v8, v9, rfl, (fun c hc => by simp at hc), rfl⟩ ?_ ?_
    ·rintro j σ Hj hj ⟨rfl, t, v8, v9, ht, hab, rfl⟩
     obtain ⟨sq, hsq, sq0, sq1⟩ : ∃ sq : Int, 3 * (0 + (j : Int)) * (0 + (j : Int)) = sq ∧ 0 ≤ sq ∧ sq ≤ 75 := by
      rcases (show j = 0 ∨ j = 1 ∨ j = 2 ∨ j = 3 ∨ j = 4 by omega) with rfl | rfl | rfl | rfl | rfl <;> exact ⟨_, rfl, by decide, by decide⟩
     refine ⟨_, rfl, _, rfl, _, rfl, _, _, rfl, rfl, .inl ⟨by omega, by omega⟩, _, _, rfl, rfl, _, rfl, _, _, rfl, rfl, .inl ⟨by decide, by decide⟩, _, rfl, _, _, rfl, rfl, .inl ⟨by omega, by omega⟩, _, rfl, _, _, rfl, rfl, .inl ⟨by decide, by decide⟩, _, _, rfl, rfl, _, rfl, _, _, rfl, rfl, .inl ⟨by decide, by decide⟩, _, _, rfl, rfl, _, _, rfl, rfl, _, _, rfl, rfl,
      ⟨(by show (0 : Int) < 3 * (0 + (j : Int)) * (0 + (j : Int)) + 5 * (0 + (j : Int)) + 7 * (0 + (i : Int)) + 1; rw [hsq]; omega), (by show 3 * (0 + (j : Int)) * (0 + (j : Int)) + 5 * (0 + (j : Int)) + 7 * (0 + (i : Int)) + 1 < (1073741824 : Int); rw [hsq]; omega)⟩, ?_⟩
     dsimp only
     generalize (d2 + (0 + (i : Int)) * (0 + (i : Int))) / (3 * (0 + (j : Int)) * (0 + (j : Int)) + 5 * (0 + (j : Int)) + 7 * (0 + (i : Int)) + 1) = pt
     obtain ⟨c, hc, c0, c1⟩ := abc_at (Int.emod_nonneg pt (show (6 : Int) ≠ 0 by decide)) (Int.emod_lt_of_pos pt (show (0 : Int) < 6 by decide))
     refine ⟨_, rfl, _, rfl, _, _, rfl, rfl, (by show (0 : Int) < 6; decide), _, rfl, _, rfl, (by show 6 ≤ sizeLine; omega), c, hc, _, rfl, _, rfl, (by show t.length + 1 ≤ sizeLine; omega), ?_⟩
     refine ⟨rfl, t ++ [c], some (.int (0 + (j : Int))), some (.int pt), by rw [List.length_append, ht]; rfl, fun e he => ?_, rfl⟩
     rcases List.mem_append.mp he with g | g
     ·exact hab e g
     ·have e' : e = c := by simpa using g
      subst e'
      exact ⟨c0, c1⟩
    ·rintro σ Hj ⟨rfl, t, v8, v9, ht, hab, rfl⟩
     refine ⟨_, rfl, _, rfl, pk, _, rfl, .inl (SqL.of hdk), rfl, all_flat lk, _, rfl, ?_⟩
     refine ite2 (fun h0 => ?_) (fun h0 => ?_)
     ·have hni : ¬ t ∈ lk := fun z => by
       have h1 : (!inV (T t) (lk.map T)) = true := h0
       rw [inV_T, decide_eq_true z] at h1
       cases h1
      refine ⟨_, rfl, _, rfl, (by show 1 ≤ sizeLine; omega), fun q1 hq1 => ?_⟩
      have t1 := same_upd (o := .lst [T t]) hq1
      refine ⟨pk, q1, _, _, rfl, rfl, SqL.of (t1 pk _ hdk), SqL.of upd_same, (by rw [List.length_map]; show _ + 1 ≤ sizeLine; omega), fun q2 hq2 => ?_⟩
      exact ⟨sk.trans (t1.trans (same_upd hq2)), q2, lk ++ [t], some (.int (0 + (i : Int))), some (T t), v8, v9, by rw [List.map_append]; exact upd_same, hwk.snoc ⟨ht, hab⟩ hni, by simp, by rw [List.length_append, List.length_singleton]; omega, (hfk.app (FewN.len (k := 2) (ls := [t]) (by simp))).mono (by omega), rfl⟩
     ·exact ⟨sk, pk, lk, some (.int (0 + (i : Int))), some (T t), v8, v9, hdk, hwk, hnek, by omega, hfk.mono (by omega), rfl⟩
   ·rintro σ Hk ⟨sk, pk, lk, v6, v7, v8, v9, hdk, hwk, hnek, hlk, hfk, rfl⟩
    refine ⟨_, rfl, _, rfl, _, rfl, _, rfl, ?_⟩
    refine ite2 (fun h7 => ?_) (fun h7 => ?_)
    ·refine ⟨_, rfl, pk, _, rfl, .inl (SqL.of hdk), _, _, rfl, rfl, _, rfl, ?_⟩
     rw [List.length_map]
     refine ite2 (fun h8 => ?_) (fun h8 => ?_)
     ·have h2 : 2 < lk.length := by have := of_decide_eq_true h8; omega
      obtain ⟨m, hm, hml⟩ := modN (d2) (show 0 < (lk.map T).length by rw [List.length_map]; omega)
      rw [List.length_map] at hml
      have c1 : cutV (lk.map T) none (some (d2 % (((lk.map T).length : Nat) : Int))) = (lk.take m).map T := by rw [hm]; exact cutV_to (by omega)
      have c2 : cutV (lk.map T) (some (d2 % (((lk.map T).length : Nat) : Int) + 1)) none = (lk.drop (m + 1)).map T := by rw [hm]; exact cutV_from (k := m + 1) (by omega)
      refine ⟨_, rfl, _, rfl, _, rfl, pk, _, rfl, .inl (SqL.of hdk), _, _, rfl, rfl, (by show (0 : Int) < (((lk.map T).length : Nat) : Int); rw [List.length_map]; omega), _, rfl, pk, _, rfl, SqL.of hdk, fun q1 hq1 => ?_⟩
      rw [c1]
      have t1 := same_upd (o := .lst ((lk.take m).map T)) hq1
      refine ⟨_, rfl, _, rfl, _, rfl, pk, _, rfl, .inl (SqL.of (t1 pk _ hdk)), _, _, rfl, rfl, (by show (0 : Int) < (((lk.map T).length : Nat) : Int); rw [List.length_map]; omega), _, _, rfl, rfl, _, rfl, pk, _, rfl, SqL.of (t1 pk _ hdk), fun q2 hq2 => ?_⟩
      rw [c2]
      have t2 := same_upd (o := .lst ((lk.drop (m + 1)).map T)) hq2
      refine ⟨q1, q2, _, _, rfl, rfl, SqL.of (t2 q1 _ upd_same), SqL.of upd_same, (by rw [List.length_map, List.length_map, List.length_take, List.length_drop]; omega), fun q3 hq3 => ?_⟩
      have t3 := t1.trans (t2.trans (same_upd (o := .lst ((lk.take m).map T ++ (lk.drop (m + 1)).map T)) hq3))
      obtain ⟨H8, hH8, t3, hd8⟩ := namedD t3
      rw [← hH8]
      obtain ⟨ms, hms, hsub, hmsl⟩ : ∃ ms : List (List Nat), (lk.take m).map T ++ (lk.drop (m + 1)).map T = ms.map T ∧ ms.Sublist lk ∧ ms.length = lk.length - 1 := ⟨lk.take m ++ lk.drop (m + 1), by rw [List.map_append], cut_sub _ _, by rw [List.length_append, List.length_take, List.length_drop]; omega⟩
      rw [hms] at hd8
      obtain ⟨m', hm', hml'⟩ := modN (d2 / 7) (show 0 < (ms.map T).length by rw [List.length_map]; omega)
      rw [List.length_map] at hml'
      have c3 : cutV (ms.map T) none (some (d2 / 7 % (((ms.map T).length : Nat) : Int))) = (ms.take m').map T := by rw [hm']; exact cutV_to (by omega)
      have c4 : cutV (ms.map T) (some (d2 / 7 % (((ms.map T).length : Nat) : Int) + 1)) none = (ms.drop (m' + 1)).map T := by rw [hm']; exact cutV_from (k := m' + 1) (by omega)
      refine ⟨_, rfl, _, rfl, _, _, rfl, rfl, ⟨by decide, by decide⟩, _, rfl, q3, _, rfl, .inl (SqL.of hd8), _, _, rfl, rfl, (by show (0 : Int) < (((ms.map T).length : Nat) : Int); rw [List.length_map]; omega), _, rfl, q3, _, rfl, SqL.of hd8, fun q4 hq4 => ?_⟩
      rw [c3]
      have t4 := same_upd (o := .lst ((ms.take m').map T)) hq4
      refine ⟨_, rfl, _, rfl, _, _, rfl, rfl, ⟨by decide, by decide⟩, _, rfl, q3, _, rfl, .inl (SqL.of (t4 q3 _ hd8)), _, _, rfl, rfl, (by show (0 : Int) < (((ms.map T).length : Nat) : Int); rw [List.length_map]; omega), _, _, rfl, rfl, _, rfl, q3, _, rfl, SqL.of (t4 q3 _ hd8), fun q5 hq5 => ?_⟩
      rw [c4]
      have t5 := same_upd (o := .lst ((ms.drop (m' + 1)).map T)) hq5
      refine ⟨q4, q5, _, _, rfl, rfl, SqL.of (t5 q4 _ upd_same), SqL.of upd_same, (by rw [List.length_map, List.length_map, List.length_take, List.length_drop]; omega), fun q6 hq6 => ?_⟩
      have t6 := t4.trans (t5.trans (same_upd (o := .lst ((ms.take m').map T ++ (ms.drop (m' + 1)).map T)) hq6))
      have hl9 : (ms.take m' ++ ms.drop (m' + 1)).length = ms.length - 1 := by rw [List.length_append, List.length_take, List.length_drop]; omega
      exact ⟨_, rfl, q q6 (ms.take m' ++ ms.drop (m' + 1)) n _ ((sk).trans (t3.trans t6)) (by rw [List.map_append]; exact upd_same) ((hwk).sub ((cut_sub _ _).trans hsub)) hn (fun z => by rw [z] at hl9; simp at hl9; omega) (by omega) ((hfk.sub fun w hw => ((cut_sub _ _).trans hsub).subset hw).mono (by omega))⟩
     ·exact ⟨_, rfl, q pk lk n _ sk hdk hwk hn hnek (by omega) (hfk.mono (by omega))⟩
    ·exact ⟨_, rfl, q pk lk n _ sk hdk hwk hn hnek (by omega) (hfk.mono (by omega))⟩

noncomputable def sgs : List (List Nat) := [[97, 98, 99, 100, 101, 102], [102, 101, 100, 99, 98, 97], [99, 100, 101, 102, 97, 98]]
theorem sgs_at {sg : List Nat} (h : sg ∈ sgs) : ∀ m, m < 6 → ∃ d, sg[m]? = some d ∧ 97 ≤ d ∧ d < 103 := by
 have : ∀ sg ∈ sgs, ∀ m : Fin 6, ∃ d : Fin 103, sg[m.1]? = some d.1 ∧ 97 ≤ d.1 := by decide
 intro m hm
 obtain ⟨d, h1, h2⟩ := this sg h ⟨m, hm⟩
 exact ⟨d.1, h1, h2, d.2⟩
noncomputable def swp (sg : List Nat) (c : Nat) : Nat := sg.getD (c - 97) 97
theorem swp_at {sg : List Nat} (h : sg ∈ sgs) {c : Nat} (hc : 97 ≤ c ∧ c < 103) : atI sg ((c - 97 : Nat) : Int) = some (swp sg c) ∧ 97 ≤ swp sg c ∧ swp sg c < 103 := by
 obtain ⟨d, h1, h2, h3⟩ := sgs_at h (c - 97) (by omega)
 have e : swp sg c = d := by unfold swp; rw [List.getD_eq_getElem?_getD, h1]; rfl
 rw [e]
 exact ⟨atI_nat h1, h2, h3⟩
theorem sgs_pick {z : Int} (h0 : 0 ≤ z) (h1 : z < 3) : ∃ sg ∈ sgs, atI (sgs.map T) z = some (T sg) := by
 obtain ⟨m, rfl⟩ : ∃ m : Nat, z = (m : Int) := ⟨z.toNat, by omega⟩
 have hm : m < sgs.length := by show m < 3; omega
 exact ⟨sgs[m], List.getElem_mem hm, atI_nat (by rw [List.getElem?_map, List.getElem?_eq_getElem hm]; rfl)⟩
theorem flat_one {g : Nat → Nat} : ∀ l : List Nat, (l.map fun c => [g c]).flatten = l.map g
 | [] => rfl
 | c :: l => by rw [List.map_cons, List.flatten_cons, flat_one l]; rfl
theorem sgs_len {sg : List Nat} (h : sg ∈ sgs) : sg.length = 6 := by
 have : ∀ sg ∈ sgs, sg.length = 6 := by decide
 exact this sg h
theorem rep_b (n : Nat) : (Wd.rep n [98]).length = n ∧ Abc (Wd.rep n [98]) := by
 refine ⟨by rw [Wd.rep_len]; show n * 1 = n; omega, fun c hc => ?_⟩
 unfold Wd.rep at hc
 obtain ⟨l, h1, h2⟩ := List.mem_flatten.mp hc
 rw [List.eq_of_mem_replicate h1] at h2
 have e : c = 98 := by simpa using h2
 omega

theorem two_few {ls ls2 lw : List (List Nat)} {p : List Nat} {f : Nat → Nat} (hf : FewN 40 ls) (ht : ∃ q0, Tr p ls2 q0) (hl : ls2.length ≤ 20) (h : ∀ w ∈ lw, w ∈ ls ∨ ∃ x ∈ ls2, w = x.map f) : FewN 61 lw := by
 obtain ⟨q0, g⟩ := ht
 obtain ⟨ps, p1, p2⟩ := few_tr (k := 21) g (by omega)
 have g2 : FewN 21 (ls2.map (List.map f)) := ⟨ps.map (List.map f), by rw [List.length_map]; exact p1, fun w hw => by
  obtain ⟨x, hx, rfl⟩ := List.mem_map.mp hw
  obtain ⟨a, b⟩ := p2 x hx
  rw [List.length_map, ← List.map_take, ← List.map_drop]
  exact ⟨List.mem_map_of_mem a, List.mem_map_of_mem b⟩⟩
 exact (hf.app g2).sub fun w hw => (h w hw).elim (fun z => List.mem_append.mpr (.inl z)) fun ⟨x, hx, e⟩ => List.mem_append.mpr (.inr (e ▸ List.mem_map_of_mem hx))
noncomputable def spTwo (K : PySem.W.Frag) : Sp := fun vs H Q _ => ∃ (a : Addr) (ns : List Int), vs = [.ref a] ∧ SqL K H a (ns.map V.int) ∧ ∀ (D : Addr) (ls : List (List Nat)) (n : Nat) (H' : Hp), Same H H' → H' D = some (.lst (ls.map T)) → WL ls n → (1 ≤ n ∧ n ≤ 5) → ls ≠ [] → ls.length ≤ 63 → FewN 61 ls → Q (.ref D) H'
theorem ok__law_two_webs {f : Addr} {fd : FuncData} (F : Fun K "_law_two_webs" "_law_two_webs" s__law_two_webs f fd) (tt : Txt K mg ad) (C__law_cell_at : Cal P w K mg base (CX2 P w) "_law_cell_at" 1 ["script", "k"] (spCell K)) (C__law_walk : Cal P w K mg base (CX2 P w) "_law_walk" 1 ["cells", "kinds", "first"] (spWalk K))
  (C__law_some_words : Cal P w K mg base (CX2 P w) "_law_some_words" 3 ["script", "at", "most"] (spSomeW K)) : FnOk P w K mg base (CX2 P w) 4 f fd ["script"] (spTwo K) := by
 refine F.okN2 sc__law_two_webs (fun vs H Q E h => ?_) (fun cdv A outer s H vs Q E hr h => ?_)
 ·obtain ⟨a, ns, rfl, _⟩ := h
  rfl
 ·obtain ⟨a, ns, rfl, hS, q⟩ := h
  have hs : sizeLine = 16777216 := sizeLine_eq
  refine ⟨_, (pss_cons (ps_set (i := 1) sc__law_two_webs.nd rfl (Or.inl rfl) (pe_cal C__law_some_words hr pass2 (pa_cons (pe_slice sl_list (pv 0) (po_some pe_int) po_none) (pa_cons pe_int (pa_cons pe_int pa_nil)))))
   (pss_cons (ps_set (i := 2) sc__law_two_webs.nd rfl (Or.inl rfl) (pe_cal C__law_cell_at hr pass2 (pa_cons (pv 0) (pa_cons pe_int pa_nil))))
   (pss_cons (ps_if (pt_cmpR op_lt (pe_op op_mod (pv 2) pe_int) pe_int (nomark _)) (pss_one (ps_ret (pv 1))) pss_nil)
   (pss_cons (ps_set (i := 3) sc__law_two_webs.nd rfl (Or.inl rfl) (pe_callB call_len_T (by rfl) tt.b_len PySem.boot_len (pa_cons (pe_ix ix_list (pv 1) pe_int (fun _ _ => rfl)) pa_nil)))
   (pss_cons (ps_set (i := 4) sc__law_two_webs.nd rfl (Or.inr rfl) (pe_ix ix_list (pe_lst (pa_cons (pe_strT [97, 98, 99, 100, 101, 102] (by decide +kernel)) (pa_cons (pe_strT [102, 101, 100, 99, 98, 97] (by decide +kernel)) (pa_cons (pe_strT [99, 100, 101, 102, 97, 98] (by decide +kernel)) pa_nil)))) (pe_op op_mod (pe_op op_fdiv (pv 2) pe_int) pe_int) (fun _ _ => rfl)))
   (pss_cons (ps_for PassesOwn.never rfl (pi_list (pe_cal C__law_walk hr pass2 (pa_cons (pe_slice sl_list (pv 0) (po_some pe_int) (po_some pe_int)) (pa_cons (pe_op op_add pe_int (pe_op op_mod (pe_op op_fdiv (pv 2) pe_int) pe_int)) (pa_cons (pe_op op_mul_T (pe_strT [98] (by decide +kernel)) (pe_op op_sub (pv 3) pe_int)) pa_nil))))) (pg_name (i := 5) sc__law_two_webs.nd rfl (Or.inl rfl)) (pss_cons (ps_set (i := 6) sc__law_two_webs.nd rfl (Or.inl rfl) (pe_bm PySem.F.plainAttrs_str PySem.F.slot_str_join PySem.F.type_str_join mt_join (pe_strT [] (by decide +kernel)) (pa_cons (pe_comp cs__law_two_webs_0 rfl (pi_str (pv 5)) (fun cl C s' H' fp => (pe_ix ix_T (pv 5) (pe_bmK K rfl PySem.F.plainAttrs_str PySem.F.slot_str_index PySem.F.type_str_index mt_index6 (pe_strT [97, 98, 99, 100, 101, 102] (by decide +kernel)) (pa_cons (pv 0) pa_nil)) (fun _ _ => rfl)))) pa_nil)))
   (pss_one (ps_if (pt_cmpR op_notIn_seq (pv 6) (pv 1) (by with_unfolding_all rfl)) (pss_one (ps_set (i := 1) sc__law_two_webs.nd rfl (Or.inl rfl) (pe_op op_catL (pv 1) (pe_lst (pa_cons (pv 6) pa_nil))))) pss_nil))))
   (pss_one (ps_ret (pv 1))))))))), ?_⟩
  refine ⟨_, rfl, _, rfl, a, _, rfl, hS, fun p1 hp1 => ?_⟩
  obtain ⟨ds, hds⟩ : ∃ ds : List Int, cutV (ns.map V.int) (some 1) none = ds.map V.int := cutV_ints
  rw [hds]
  have t1 := same_upd (o := .lst (ds.map V.int)) hp1
  refine ⟨p1, ds, rfl, SqL.of upd_same, fun D ls n H1 s1 hd hwl hn hne hl hf => ?_⟩
  have s1 := t1.trans s1
  refine ⟨_, rfl, a, ns, 0, rfl, s1.seq hS, ?_⟩
  dsimp only
  generalize ns.getD 0 0 = cell
  refine ⟨_, rfl, _, _, rfl, rfl, (by show (0 : Int) < 4; decide), _, _, rfl, rfl, _, rfl, ?_⟩
  refine ite2 (fun h0 => ?_) (fun h0 => ?_)
  ·exact ⟨_, rfl, q D ls n H1 s1 hd hwl hn hne (by omega) (hf.mono (by omega))⟩
  have hl0 : 0 < ls.length := List.length_pos_iff.mpr hne
  obtain ⟨x0, hx0⟩ : ∃ x0, ls[0]? = some x0 := ⟨_, List.getElem?_eq_getElem hl0⟩
  have hx0l := (hwl.1 x0 (List.mem_of_getElem? hx0)).1
  refine ⟨_, rfl, D, _, _, _, rfl, rfl, SqL.of hd, atI_nat (j := 0) (by rw [List.getElem?_map, hx0]; rfl), _, rfl, (by omega), ?_⟩
  rw [hx0l]
  have z0 := Int.emod_nonneg (cell / 4) (show (3 : Int) ≠ 0 by decide)
  have z1 := Int.emod_lt_of_pos (cell / 4) (show (0 : Int) < 3 by decide)
  obtain ⟨sg, hsg, hat⟩ := sgs_pick z0 z1
  refine ⟨(by show 3 ≤ sizeLine; omega), fun p2 hp2 => ?_⟩
  have t2 := same_upd (o := .lst (sgs.map T)) hp2
  refine ⟨_, rfl, _, _, rfl, rfl, ⟨by decide, by decide⟩, _, _, rfl, rfl, (by show (0 : Int) < 3; decide), p2, _, _, _, rfl, rfl, SqL.of upd_same, hat, ?_⟩
  obtain ⟨H2, hH2, s2⟩ := named (s1.trans t2)
  have hd2 : H2 D = some (.lst (ls.map T)) := by rw [hH2]; exact t2 D _ hd
  rw [show upd H1 p2 (HO.lst [T [97, 98, 99, 100, 101, 102], T [102, 101, 100, 99, 98, 97], T [99, 100, 101, 102, 97, 98]]) = H2 from hH2.symm]
  refine ⟨_, rfl, _, rfl, _, rfl, a, _, rfl, s2.seq hS, fun p3 hp3 => ?_⟩
  obtain ⟨es, hes⟩ : ∃ es : List Int, cutV (ns.map V.int) (some ((10 : Nat) : Int)) (some ((30 : Nat) : Int)) = es.map V.int := cutV_ints
  have hel : es.length ≤ 20 := by
   have e := congrArg List.length hes
   have e2 := cutV_mid_len (xs := ns.map V.int) (a := 10) (b := 30)
   rw [List.length_map] at e
   omega
  rw [show cutV (ns.map V.int) (some (10 : Int)) (some (30 : Int)) = es.map V.int from hes]
  have t3 := same_upd (o := .lst (es.map V.int)) hp3
  obtain ⟨k, hk, hk6⟩ : ∃ k : Nat, 2 + cell / 12 % 2 = (k : Int) ∧ k ≤ 6 := ⟨(2 + cell / 12 % 2).toNat, by omega, by omega⟩
  refine ⟨_, rfl, _, _, rfl, rfl, ⟨by decide, by decide⟩, _, _, rfl, rfl, (by show (0 : Int) < 2; decide), _, _, rfl, rfl, _, rfl, _, _, rfl, rfl, _, rfl, n - 1, congrArg V.int (by omega), ⟨by omega, by show (n - 1) * 1 ≤ sizeLine; omega⟩, ?_⟩
  refine ⟨p3, es, k, Wd.rep (n - 1) [98], (by rw [← hk]; rfl), SqL.of upd_same, ⟨by omega, hk6, by rw [(rep_b _).1]; omega⟩, (rep_b _).2, fun D2 ls2 H5 s5 hd5 hwl5 hl5 htr5 => ?_⟩
  rw [(rep_b _).1, show n - 1 + 1 = n by omega] at hwl5
  refine ⟨D2, rfl, ⟨_, SqL.of hd5⟩, ?_⟩
  have s25 := t3.trans s5
  have s05 := s2.trans s25
  refine for_list (K := K) (a := D2) (xs := ls2.map T) (fun i σ H6 => Same H5 H6 ∧ ∃ (Dw : Addr) (lw : List (List Nat)) (v5 v6 : Option V), H6 Dw = some (.lst (lw.map T)) ∧ WL lw n ∧ lw ≠ [] ∧ lw.length ≤ 23 + i ∧ (∀ w ∈ lw, w ∈ ls ∨ ∃ x ∈ ls2, w = x.map (swp sg)) ∧ σ = [some (.ref a), some (.ref Dw), some (.int cell), some (.int (n : Nat)), some (T sg), v5, v6])
   ⟨Same.refl _, D, ls, none, none, s25 D _ hd2, hwl, hne, by omega, fun w hw => .inl hw, rfl⟩ (fun i σ H6 _ h => SqL.of (h.1 D2 _ hd5)) ?_ ?_
  ·rintro i y σ H6 hi ⟨s6, Dw, lw, v5, v6, hdw, hww, hnw, hlw, hin, rfl⟩
   obtain ⟨x, hx, rfl⟩ : ∃ x, ls2[i]? = some x ∧ T x = y := by rw [List.getElem?_map] at hi; exact Option.map_eq_some_iff.mp hi
   obtain ⟨hxl, hxa⟩ := hwl5.1 x (List.mem_of_getElem? hx)
   have hi2 : i < ls2.length := by rcases Nat.lt_or_ge i ls2.length with z | z; exact z; rw [List.getElem?_eq_none z] at hx; cases hx
   refine ⟨rfl, _, rfl, ?_⟩
   refine ⟨x, rfl, ?_⟩
   refine compG (fun v => T ((unT v).map (swp sg))) (reads_text (l := x)) (by rw [List.length_map, List.length_map, hxl]; omega) (fun v H7 hv s7 N hN => ?_) fun Dc H7 hDc s7 hdc => ?_
   ·obtain ⟨l, hl', rfl⟩ := List.mem_map.mp hv
    obtain ⟨c, hc, rfl⟩ := List.mem_map.mp hl'
    have hcc := hxa c hc
    obtain ⟨g1, g2, g3⟩ := swp_at hsg hcc
    have z := hN H7 (Same.refl _)
    rw [unT_T] at z
    exact ⟨_, rfl, rfl, _, rfl, rfl, c, rfl, ⟨by omega, by omega⟩, sg, rfl, _, rfl, (by rw [sgs_len hsg]; omega), _, g1, z⟩
   have e7 : (((x.map fun c => [c]).map T).map fun v => T ((unT v).map (swp sg))) = (x.map fun c => [swp sg c]).map T := by
    rw [List.map_map, List.map_map, List.map_map]
    refine List.map_congr_left fun c _ => ?_
    show T ((unT (T [c])).map (swp sg)) = T [swp sg c]
    rw [unT_T]
    rfl
   rw [e7] at hdc
   refine ⟨rfl, Dc, x.map fun c => [swp sg c], rfl, SqL.of hdc, (by rw [flat_one, List.length_map]; omega), ?_⟩
   rw [flat_one]
   refine ⟨_, rfl, _, rfl, Dw, _, rfl, .inl (SqL.of (s7 Dw _ hdw)), rfl, all_flat lw, _, rfl, ?_⟩
   refine ite2 (fun h0 => ?_) (fun h0 => ?_)
   ·have hni : ¬ x.map (swp sg) ∈ lw := fun z => by
     have h1 : (!inV (T (x.map (swp sg))) (lw.map T)) = true := h0
     rw [inV_T, decide_eq_true z] at h1
     cases h1
    refine ⟨_, rfl, _, rfl, (by show 1 ≤ sizeLine; omega), fun q1 hq1 => ?_⟩
    have u1 := same_upd (o := .lst [T (x.map (swp sg))]) hq1
    refine ⟨Dw, q1, _, _, rfl, rfl, SqL.of (u1 Dw _ (s7 Dw _ hdw)), SqL.of upd_same, (by rw [List.length_map]; show _ + 1 ≤ sizeLine; omega), fun q2 hq2 => ?_⟩
    exact ⟨s6.trans (s7.trans (u1.trans (same_upd hq2))), q2, lw ++ [x.map (swp sg)], some (T x), some (T (x.map (swp sg))), by rw [List.map_append]; exact upd_same, hww.snoc ⟨by rw [List.length_map, hxl], fun d hd => by obtain ⟨c, hc, rfl⟩ := List.mem_map.mp hd; exact (swp_at hsg (hxa c hc)).2⟩ hni, by simp, by rw [List.length_append, List.length_singleton]; omega, fun w hw => (List.mem_append.mp hw).elim (hin w) fun g => .inr ⟨x, List.mem_of_getElem? hx, List.mem_singleton.mp g⟩, rfl⟩
   ·exact ⟨s6.trans s7, Dw, lw, some (T x), some (T (x.map (swp sg))), s7 Dw _ hdw, hww, hnw, by omega, hin, rfl⟩
  ·rintro σ H6 ⟨s6, Dw, lw, v5, v6, hdw, hww, hnw, hlw, hin, rfl⟩
   rw [List.length_map] at hlw
   exact ⟨_, rfl, q Dw lw n H6 (s05.trans s6) hdw hww hn hnw (by omega) (two_few hf htr5 (by omega) hin)⟩

theorem tr_exc {p q : List Nat} {ls ms so : List (List Nat)} (h : Tr p ls q) (hp : ms.Perm ls) : exc ms so = (if p ∈ so then 1 else 0) - (if q ∈ so then 1 else 0) := by
 rw [exc_perm hp]
 have := Hg.Tr.exc (fun z => decide (z ∈ so)) h
 unfold exc
 simpa using this
theorem tr_all {p q : List Nat} {ls ms : List (List Nat)} (h : Tr p ls q) (hp : ms.Perm ls) {z0 z : List Nat} (h0 : IsP ms z0) (h1 : IsP ms z) : Rc ms z0 z := by
 have key : ∀ z, IsP ms z → Rc ms p z := fun z hz => by
  obtain ⟨l, hl, g⟩ := hz
  have := Hg.Tr.rch (ms := ms) (p := p) h (fun w hw => hp.mem_iff.mpr hw) .self l (hp.mem_iff.mp hl)
  rcases g with rfl | rfl
  ·exact this.1
  ·exact this.2
 exact (key z0 h0).symm.trans (key z h1)
theorem rc_isP {ms : List (List Nat)} {p z : List Nat} (hp : IsP ms p) (h : Rc ms p z) : IsP ms z := by
 rcases Hg.rch_in h with rfl | g
 ·exact hp
 ·rcases List.mem_append.mp g with g | g
  ·obtain ⟨l, hl, e⟩ := List.mem_map.mp g
   exact ⟨l, hl, .inl e.symm⟩
  ·obtain ⟨l, hl, e⟩ := List.mem_map.mp g
   exact ⟨l, hl, .inr e.symm⟩
theorem whyA_none {p q : List Nat} {ls ms ev : List (List Nat)} {r : Pap} (h : Tr p ls q) (hp : ms.Perm ls) (hc : Pcs ms ev) (hw : WhyA ms ev r) : r = none := by
 obtain ⟨z0, so, a1, a2, a3, a4, rfl⟩ := hw
 have hz0 := (hc.2.2 z0).mp (List.mem_of_getElem? a1)
 rw [if_pos]
 refine ((List.perm_ext_iff_of_nodup a3 hc.2.1).mpr fun z => ?_).length_eq
 rw [a4, hc.2.2]
 exact ⟨fun g => rc_isP hz0 g, fun g => tr_all h hp hz0 g⟩
theorem whyR_none {p : List Nat} {ls ms ev : List (List Nat)} {r : Pap} (h : Tr p ls p) (hp : ms.Perm ls) (hc : Pcs ms ev) (hw : WhyR ms ev r) : r = none := by
 rcases hw with ⟨z, hz, _⟩ | ⟨_, hw⟩
 ·have := List.find?_some hz
  rw [tr_exc h hp, Int.sub_self] at this
  exact absurd this (by decide)
 ·exact whyA_none h hp hc hw
theorem whyW_none {p q : List Nat} {ls ms ev : List (List Nat)} {r : Pap} (h : Tr p ls q) (hp : ms.Perm ls) (hc : Pcs ms ev) (hw : WhyW ms ev r) : r = none := by
 rcases hw with ⟨g, _⟩ | ⟨_, hw⟩
 ·rw [tr_exc h hp] at g
  split at g <;> split at g <;> omega
 ·exact whyA_none h hp hc hw

theorem rc_conn {ms : List (List Nat)} {p : List Nat} : (∀ e ∈ ms, Rc ms p (beg e)) ↔ Wd.Conn ms p := by
 constructor
 ·intro h χ hp hc e he
  have key : ∀ {z}, Rc ms p z → χ z := fun {z} hz => by
   induction hz with
   | self => exact hp
   | fw hw _ ih => exact (hc _ hw).mp ih
   | bw hw _ ih => exact (hc _ hw).mpr ih
  exact key (h e he)
 ·intro h e he
  exact h (fun z => Rc ms p z) .self (fun e he => ⟨fun z => .fw he z, fun z => .bw he z⟩) e he
theorem fl_split {f : List Nat → List Nat} {p : List Nat} {so : List (List Nat)} (hp : ¬ p ∈ so) : ∀ ms : List (List Nat), (ms.filter fun l => decide (f l ∈ p :: so)).length = (ms.filter fun l => decide (f l = p)).length + (ms.filter fun l => decide (f l ∈ so)).length
 | [] => rfl
 | l :: ms => by
  have ih := fl_split (f := f) hp ms
  rw [List.filter_cons, List.filter_cons, List.filter_cons]
  by_cases e : f l = p
  ·have hn : ¬ f l ∈ so := fun z => hp (e ▸ z)
   rw [if_pos (decide_eq_true (by rw [e]; exact List.mem_cons_self ..)), if_pos (decide_eq_true e), if_neg (by rw [decide_eq_false hn]; exact Bool.false_ne_true), List.length_cons, List.length_cons, ih]
   omega
  ·by_cases g : f l ∈ so
   ·rw [if_pos (decide_eq_true (List.mem_cons_of_mem _ g)), if_neg (by rw [decide_eq_false e]; exact Bool.false_ne_true), if_pos (decide_eq_true g), List.length_cons, List.length_cons, ih]
    omega
   ·have hn : ¬ f l ∈ p :: so := fun z => by
     rcases List.mem_cons.mp z with q | q
     ·exact e q
     ·exact g q
    rw [if_neg (by rw [decide_eq_false hn]; exact Bool.false_ne_true), if_neg (by rw [decide_eq_false e]; exact Bool.false_ne_true), if_neg (by rw [decide_eq_false g]; exact Bool.false_ne_true), ih]
theorem exc_sum {ms ls : List (List Nat)} (hp : ms.Perm ls) : ∀ {so : List (List Nat)}, so.Nodup → exc ms so = (so.map (deg ls)).sum
 | [], _ => by
  have e : ∀ f : List Nat → List Nat, (ms.filter fun l => decide (f l ∈ ([] : List (List Nat)))).length = 0 := fun f => by
   rw [List.length_eq_zero_iff, List.filter_eq_nil_iff]
   intro l _
   simp
  unfold exc
  rw [e beg, e fun l => l.drop 1]
  rfl
 | p :: so, h => by
  rw [List.nodup_cons] at h
  have ih := exc_sum hp h.2
  rw [List.map_cons, List.sum_cons, ← ih]
  unfold exc deg
  rw [fl_split (f := beg) h.1, fl_split (f := fun l => l.drop 1) h.1, (hp.filter fun l => decide (beg l = p)).length_eq, (hp.filter fun l => decide (l.drop 1 = p)).length_eq]
  omega

theorem deg_exc (ls : List (List Nat)) (z : List Nat) : deg ls z = exc ls [z] := by
 rw [exc_sum (List.Perm.refl ls) (by simp : [z].Nodup)]
 simp
noncomputable def spDue (K : PySem.W.Frag) : Sp := fun vs H Q _ => ∃ (a : Addr) (ls : List (List Nat)), vs = [.ref a] ∧ SqL K H a (ls.map T) ∧ ((ls.length ≤ 64 ∧ Few ls) ∧ ∀ x ∈ ls, 1 ≤ x.length ∧ x.length ≤ 1000) ∧ ls ≠ [] ∧
 ∀ (ev : List (List Nat)) (r : Pap) (v : V) (H' : Hp), Pcs ls ev → WhyW ls ev r → PapAt H' v r → Same H H' → Q v H'
theorem all_of_len {so ev : List (List Nat)} (hn : so.Nodup) (hs : ∀ z ∈ so, z ∈ ev) (hl : so.length = ev.length) : ∀ z ∈ ev, z ∈ so := fun z hz => by
 refine Decidable.byContradiction fun hc => ?_
 have := Hg.nd_len (ls := z :: so) (ms := ev) (List.nodup_cons.mpr ⟨hc, hn⟩) fun y hy => by
  rcases List.mem_cons.mp hy with rfl | g
  ·exact hz
  ·exact hs y g
 rw [List.length_cons] at this
 omega

theorem ok__law_due {f : Addr} {fd : FuncData} (F : Fun K "_law_due" "_law_due" s__law_due f fd) (tt : Txt K mg ad) (C__law_degrees : Cal P w K mg base (CX2 P w) "_law_degrees" 1 ["words"] (spDegs K)) (C__law_hangs : Cal P w K mg base (CX2 P w) "_law_hangs" 1 ["words", "first"] (spHangs K)) :
  FnOk P w K mg base (CX2 P w) 2 f fd ["words"] (spDue K) := by
 refine F.okN2 sc__law_due (fun vs H Q E h => ?_) (fun cdv A outer s H vs Q E hr h => ?_)
 ·obtain ⟨a, ls, rfl, _⟩ := h
  rfl
 ·obtain ⟨a, ls, rfl, hS, ⟨h64, hxl⟩, hne, q⟩ := h
  have hs : sizeLine = 16777216 := sizeLine_eq
  have hu := Nat.lt_of_succ_lt (hu_of hr)
  refine ⟨_, (pss_cons (ps_set (i := 1) sc__law_due.nd rfl (Or.inr rfl) (pe_cal C__law_degrees hr pass2 (pa_cons (pv 0) pa_nil)))
   (pss_cons (ps_set (i := 2) sc__law_due.nd rfl (Or.inl rfl) (pe_callB (call_sortedDS rfl) (by rfl) tt.b_sorted PyProof.Rows.boot_sorted (pa_cons (pv 1) pa_nil)))
   (pss_cons (ps_setCompf (i := 3) cs__law_due_0 rfl (pi_list (pv 2)) (fun cl C s' H' fp => (pt_cmpR op_gt (pe_dget (hu_of hr) (pv 2) (pv 0) (fun _ _ => rfl)) pe_int (nomark _))) (fun cl C s' H' fp => (pv 0)) sc__law_due.nd rfl rfl)
   (pss_cons (ps_if (pt_cmpR op_gt (pe_callB (call_sumX rfl) (by rfl) tt.b_sum PyProof.Rows.boot_sum (pa_cons (pe_comp cs__law_due_1 rfl (pi_list (pv 3)) (fun cl C s' H' fp => (pe_dget (hu_of hr) (pv 2) (pv 0) (fun _ _ => rfl)))) pa_nil)) pe_int (nomark _)) (pss_one (ps_ret (pe_tup (pa_cons (pe_strT [117, 110, 101, 118, 101, 110] (by decide +kernel)) (pa_cons (pe_callTy call_tuple_of (by rfl) tt.b_tuple (by decide +kernel) (pa_cons (pv 3) pa_nil)) pa_nil))))) pss_nil)
   (pss_cons (ps_set (i := 4) sc__law_due.nd rfl (Or.inl rfl) (pe_cal C__law_hangs hr pass2 (pa_cons (pv 0) (pa_cons (pe_ix ix_list (pv 2) pe_int (fun _ _ => rfl)) pa_nil))))
   (pss_cons (ps_if (pt_cmpR (op_eq_LT hu) (pv 4) (pv 2) (nomark _)) (pss_one (ps_ret pe_non)) pss_nil)
   (pss_one (ps_ret (pe_tup (pa_cons (pe_strT [97, 112, 97, 114, 116] (by decide +kernel)) (pa_cons (pe_callTy call_tuple_of (by rfl) tt.b_tuple (by decide +kernel) (pa_cons (pv 4) pa_nil)) pa_nil))))))))))), ?_⟩
  refine ⟨_, rfl, a, ls, rfl, hS, ⟨h64.1, hxl⟩, fun D1 kvs ks H1 hD1 s1 hd1 hda => ?_⟩
  refine ⟨_, rfl, D1, ks, kvs, rfl, hd1, hda.kt.1, few64 (p := []) h64.2 hda.kt.2 (fun z hz => .inr ((hda.mem z).mp hz)), fun ev D2 hD2 hp2 hw2 => ?_⟩
  have t2 := same_upd (o := .lst (ev.map T)) hD2
  have hpc : Pcs ls ev := ⟨hw2, hp2.nodup_iff.mpr hda.kt.2, fun z => by rw [hp2.mem_iff]; exact hda.mem z⟩
  obtain ⟨H2, hH2, s12, hd2⟩ := namedD t2
  rw [← hH2]
  have s02 := s1.trans s12
  have hel := pieces_few hpc.2.1 fun z hz => (hpc.2.2 z).mp hz
  have val : ∀ pc ∈ ev, valV kvs (Sum.inr (tx pc)) = some (.int (exc ls [pc])) := fun pc hpc' => by
   have g1 := hda.val pc
   have g2 := (hda.kt.some pc).mpr (hp2.mem_iff.mp hpc')
   obtain ⟨u, hu'⟩ := Option.isSome_iff_exists.mp g2
   rw [hu', deg_exc] at g1
   rw [hu']
   exact congrArg some g1
  refine ⟨_, rfl, D2, rfl, ⟨_, SqL.of hd2⟩, ?_⟩
  refine compFG (fun v => decide (0 < exc ls [unT v])) (fun v => v) (reads_list (SqL.of hd2)) (by rw [List.length_map]; omega) (fun v H3 hv s3 N hN => ?_) (fun v H3 hv hp s3 N hN => ?_) fun D3 H3 hD3 s3 hd3 => ?_
  ·obtain ⟨l, hl, rfl⟩ := List.mem_map.mp hv
   have z := hN H3 (Same.refl _)
   rw [unT_T] at z
   have g := DGet.k (k := Sum.inr (tx l)) ((s12.trans s3) D1 _ hd1)
   rw [val l hl] at g
   exact ⟨_, rfl, _, rfl, D1, _, rfl, g, _, _, rfl, rfl, _, rfl, z⟩
  ·exact ⟨_, rfl, hN H3 (Same.refl _)⟩
  rw [show (ev.map T).filter (fun v => decide (0 < exc ls [unT v])) = (abv ls ev).map T from filter_unT (p := fun l => decide (0 < exc ls [l])) ev, map_id_T] at hd3
  have hal := List.length_filter_le (fun z => decide (0 < exc ls [z])) ev
  have hal : (abv ls ev).length ≤ ev.length := hal
  have han : (abv ls ev).Nodup := hpc.2.1.filter _
  have s03 := s02.trans s3
  refine ⟨_, rfl, D3, rfl, ⟨_, SqL.of hd3⟩, ?_⟩
  refine compG (fun v => .int (exc ls [unT v])) (reads_list (SqL.of hd3)) (by rw [List.length_map]; omega) (fun v H4 hv s4 N hN => ?_) fun D4 H4 hD4 s4 hd4 => ?_
  ·obtain ⟨l, hl, rfl⟩ := List.mem_map.mp hv
   have z := hN H4 (Same.refl _)
   rw [unT_T] at z
   have g := DGet.k (k := Sum.inr (tx l)) ((s12.trans (s3.trans s4)) D1 _ hd1)
   rw [val l (List.mem_filter.mp hl).1] at g
   exact ⟨_, rfl, _, rfl, D1, _, rfl, g, z⟩
  rw [map_unT (f := fun l => .int (exc ls [l])), show (abv ls ev).map (fun l => V.int (exc ls [l])) = ((abv ls ev).map (deg ls)).map V.int by
   rw [List.map_map]
   exact List.map_congr_left fun l _ => by show V.int (exc ls [l]) = V.int (deg ls l); rw [deg_exc]] at hd4
  have s04 := s03.trans s4
  refine ⟨D4, _, rfl, SqL.of hd4, ?_⟩
  rw [← exc_sum (List.Perm.refl ls) han]
  refine ⟨_, _, rfl, rfl, _, rfl, ?_⟩
  by_cases h2 : 2 ≤ exc ls (abv ls ev)
  ·refine itP (decide_eq_true (by omega)) ?_
   refine ⟨_, rfl, D3, _, rfl, .inl ⟨SqL.of (s4 D3 _ hd3), fun b hb => ?_⟩⟩
   have t5 := same_upd (o := .tup ((abv ls ev).map T)) hb
   refine ⟨(by show 2 ≤ sizeLine; omega), fun pp hpp => ?_⟩
   have t6 := same_upd (o := .tup [T unev, .ref b]) hpp
   exact q ev _ _ _ hpc (.inl ⟨h2, rfl⟩) ⟨pp, b, rfl, upd_same, t6 b _ upd_same⟩ (s04.trans (t5.trans t6))
  ·refine itN (fun z => h2 (by have := of_decide_eq_true z; omega)) ?_
   obtain ⟨z0, hz0, hz0p⟩ := pcs_ne hpc hne
   have hd24 := (s3.trans s4) D2 _ hd2
   refine ⟨_, rfl, _, rfl, D2, _, _, _, rfl, rfl, SqL.of hd24, atI_nat (j := 0) (by rw [List.getElem?_map, hz0]; rfl), a, ls, z0, rfl, s04.seq hS, ⟨h64, hxl⟩, fun D5 so H5 hD5 s5 hd5 hw5 hn5 hm5 => ?_⟩
   have hwy : WhyA ls ev (if so.length = ev.length then none else some (apar, so)) := ⟨z0, so, hz0, hw5, hn5, hm5, rfl⟩
   have s05 := s04.trans s5
   refine ⟨_, rfl, _, rfl, D5, D2, so, ev, rfl, rfl, SqL.of hd5, SqL.of (s5 D2 _ hd24), _, rfl, ?_⟩
   by_cases he : so = ev
   ·refine itP (decide_eq_true he) ?_
    rw [if_pos (by rw [he])] at hwy
    exact q ev none .non H5 hpc (.inr ⟨by omega, hwy⟩) rfl s05
   ·refine itN (fun z => he (of_decide_eq_true z)) ?_
    rw [if_neg fun hl => he (Wd.sorted_same ((List.perm_ext_iff_of_nodup hn5 hpc.2.1).mpr fun z => ⟨fun g => (hpc.2.2 z).mpr (rc_isP hz0p ((hm5 z).mp g)), fun g => all_of_len hn5 (fun y hy => (hpc.2.2 y).mpr (rc_isP hz0p ((hm5 y).mp hy))) hl z g⟩) hw5 hpc.1)] at hwy
    refine ⟨_, rfl, D5, _, rfl, .inl ⟨SqL.of hd5, fun b hb => ?_⟩⟩
    have t5 := same_upd (o := .tup (so.map T)) hb
    refine ⟨(by show 2 ≤ sizeLine; omega), fun pp hpp => ?_⟩
    have t6 := same_upd (o := .tup [T apar, .ref b]) hpp
    exact q ev _ _ _ hpc (.inr ⟨by omega, hwy⟩) ⟨pp, b, rfl, upd_same, t6 b _ upd_same⟩ (s05.trans (t5.trans t6))

noncomputable def WayOf (us ms : List (List Nat)) (p q : List Nat) : Prop := Hg.Tr Wd.beg Wd.fin p us q ∧ us.Perm ms
theorem way_exc {us ms : List (List Nat)} {p q z : List Nat} (h : WayOf us ms p q) : exc ms [z] = (if p = z then 1 else 0) - (if q = z then 1 else 0) := by
 have := tr_exc (so := [z]) (show Tr p us q from h.1) h.2.symm
 rw [this]
 simp only [List.mem_singleton]
theorem way_isP {us ms : List (List Nat)} {p q : List Nat} (h : WayOf us ms p q) (hne : ms ≠ []) : IsP ms p ∧ IsP ms q := by
 have hu : us ≠ [] := fun z => hne (List.perm_nil.mp (z ▸ h.2).symm)
 constructor
 ·cases us with
  | nil => exact absurd rfl hu
  | cons w us => exact ⟨w, h.2.mem_iff.mp (List.mem_cons_self ..), .inl h.1.1.symm⟩
 ·have e := Wd.Tr.lst h.1 hu
  have hm : Wd.lst us ∈ us := by
   unfold Wd.lst
   have h0 := List.length_pos_iff.mpr hu
   rw [List.getD_eq_getElem?_getD, List.getElem?_eq_getElem (by omega)]
   exact List.getElem_mem (by omega)
  exact ⟨_, h.2.mem_iff.mp hm, .inr e⟩

theorem exc_cnt {ms : List (List Nat)} {v : List Nat} : exc ms [v] = ((Wd.cnt Wd.beg ms v : Nat) : Int) - ((Wd.cnt Wd.fin ms v : Nat) : Int) := by
 unfold exc Wd.cnt
 simp only [List.mem_singleton]
 rfl
theorem cnt_no {ms : List (List Nat)} {v : List Nat} {g : List Nat → List Nat} (h : ∀ l ∈ ms, g l ≠ v) : Wd.cnt g ms v = 0 := by
 unfold Wd.cnt
 rw [List.length_eq_zero_iff, List.filter_eq_nil_iff]
 exact fun l hl z => h l hl (of_decide_eq_true z)
theorem whyA_conn {ms ev : List (List Nat)} (hc : Pcs ms ev) (hw : WhyA ms ev none) : ∃ z0, IsP ms z0 ∧ Wd.Conn ms z0 := by
 obtain ⟨z0, so, h0, _, hsn, hsm, e⟩ := hw
 have hz0 := (hc.2.2 z0).mp (List.mem_of_getElem? h0)
 have hl : so.length = ev.length := Classical.byContradiction fun z => by rw [if_neg z] at e; cases e
 refine ⟨z0, hz0, rc_conn.mp fun l hl' => (hsm _).mp ?_⟩
 exact Wd.full hsn (fun x hx => (hc.2.2 x).mpr (rc_isP hz0 ((hsm x).mp hx))) (by omega) ((hc.2.2 _).mpr ⟨l, hl', .inl rfl⟩)

theorem exc_cons {ms so : List (List Nat)} {z : List Nat} (h : z ∉ so) : exc ms (z :: so) = exc ms [z] + exc ms so := by
 have key : ∀ (g : List Nat → List Nat), (ms.filter fun l => decide (g l ∈ z :: so)).length = (ms.filter fun l => decide (g l ∈ [z])).length + (ms.filter fun l => decide (g l ∈ so)).length := fun g => by
  induction ms with
  | nil => rfl
  | cons l r ih =>
   rw [List.filter_cons, List.filter_cons, List.filter_cons]
   by_cases h1 : g l = z
   ·have h2 : g l ∉ so := h1 ▸ h
    rw [if_pos (by simp [h1]), if_pos (by simp [h1]), if_neg (by simp [h2]), List.length_cons, List.length_cons, ih]
    omega
   ·by_cases h2 : g l ∈ so
    ·rw [if_pos (by simp [h2]), if_neg (by simp [h1]), if_pos (by simp [h2]), List.length_cons, List.length_cons, ih]
     omega
    ·rw [if_neg (by simp [h1, h2]), if_neg (by simp [h1]), if_neg (by simp [h2]), ih]
 have k1 := key beg
 have k2 := key fun l => l.drop 1
 unfold exc
 omega
theorem exc_nil {ms : List (List Nat)} : exc ms [] = 0 := by
 unfold exc
 simp
theorem exc_split {ms : List (List Nat)} (p : List Nat → Bool) : ∀ {ev : List (List Nat)}, ev.Nodup → exc ms ev = exc ms (ev.filter p) + exc ms (ev.filter fun z => !p z)
 | [], _ => by rw [List.filter_nil, List.filter_nil, exc_nil]; rfl
 | z :: r, h => by
  obtain ⟨h1, h2⟩ := List.nodup_cons.mp h
  have ih := exc_split (ms := ms) p h2
  rw [exc_cons h1, List.filter_cons, List.filter_cons]
  cases hp : p z
  ·rw [if_neg Bool.false_ne_true, if_pos (by rfl), exc_cons fun y => h1 (List.mem_filter.mp y).1]
   omega
  ·rw [if_pos rfl, if_neg (by decide), exc_cons fun y => h1 (List.mem_filter.mp y).1]
   omega
theorem exc_pos {ms : List (List Nat)} : ∀ {so : List (List Nat)}, so.Nodup → (∀ z ∈ so, 1 ≤ exc ms [z]) → ((so.length : Nat) : Int) ≤ exc ms so
 | [], _, _ => by rw [exc_nil]; decide
 | z :: r, h, hp => by
  obtain ⟨h1, h2⟩ := List.nodup_cons.mp h
  have ih := exc_pos h2 fun y hy => hp y (List.mem_cons_of_mem _ hy)
  have := hp z (List.mem_cons_self ..)
  rw [exc_cons h1, List.length_cons]
  omega
theorem exc_neg {ms : List (List Nat)} : ∀ {so : List (List Nat)}, so.Nodup → (∀ z ∈ so, exc ms [z] ≤ 0) → exc ms so ≤ 0 ∧ (exc ms so = 0 → ∀ z ∈ so, exc ms [z] = 0) ∧ (exc ms so = -1 → ∃ q ∈ so, exc ms [q] = -1 ∧ ∀ y ∈ so, y ≠ q → exc ms [y] = 0)
 | [], _, _ => by
  refine ⟨by rw [exc_nil]; decide, fun _ z hz => (by cases hz), fun e => ?_⟩
  rw [exc_nil] at e
  cases e
 | z :: r, h, hp => by
  obtain ⟨h1, h2⟩ := List.nodup_cons.mp h
  obtain ⟨i1, i2, i3⟩ := exc_neg h2 fun y hy => hp y (List.mem_cons_of_mem _ hy)
  have hz := hp z (List.mem_cons_self ..)
  rw [exc_cons h1]
  refine ⟨by omega, fun e y hy => ?_, fun e => ?_⟩
  ·rcases List.mem_cons.mp hy with rfl | hy
   ·omega
   ·exact i2 (by omega) y hy
  ·by_cases hz0 : exc ms [z] = 0
   ·obtain ⟨q, hq, g1, g2⟩ := i3 (by omega)
    refine ⟨q, List.mem_cons_of_mem _ hq, g1, fun y hy hyq => ?_⟩
    rcases List.mem_cons.mp hy with rfl | hy
    ·exact hz0
    ·exact g2 y hy hyq
   ·refine ⟨z, List.mem_cons_self .., by omega, fun y hy hyq => ?_⟩
    rcases List.mem_cons.mp hy with rfl | hy
    ·exact absurd rfl hyq
    ·exact i2 (by omega) y hy
theorem exc_all {ms ev : List (List Nat)} (h : Pcs ms ev) : exc ms ev = 0 := by
 have k1 : (ms.filter fun l => decide (beg l ∈ ev)) = ms := List.filter_eq_self.mpr fun l hl => decide_eq_true ((h.2.2 _).mpr ⟨l, hl, .inl rfl⟩)
 have k2 : (ms.filter fun l => decide (l.drop 1 ∈ ev)) = ms := List.filter_eq_self.mpr fun l hl => decide_eq_true ((h.2.2 _).mpr ⟨l, hl, .inr rfl⟩)
 unfold exc
 rw [k1, k2]
 omega
theorem conn_any {ms : List (List Nat)} {z p : List Nat} (h : Wd.Conn ms z) (hp : IsP ms p) : Wd.Conn ms p := fun χ hs hc => by
 refine h χ (Classical.byContradiction fun hz => ?_) hc
 have hn := h (fun v => ¬ χ v) hz fun e he => not_congr (hc e he)
 obtain ⟨l, hl, rfl | rfl⟩ := hp
 ·exact hn l hl hs
 ·exact hn l hl ((hc l hl).mpr hs)
theorem why_row {ms ev : List (List Nat)} (hc : Pcs ms ev) (hw : WhyW ms ev none) : ∃ us p q, WayOf us ms p q := by
 rcases hw with ⟨_, e⟩ | ⟨hlt, hA⟩
 ·cases e
 obtain ⟨z0, hz0, hcon⟩ := whyA_conn hc hA
 have hall := exc_all hc
 have hsp := exc_split (ms := ms) (fun z => decide (0 < exc ms [z])) hc.2.1
 rw [hall] at hsp
 have hnn : (ev.filter fun z => !decide (0 < exc ms [z])).Nodup := hc.2.1.filter _
 have hpp : (abv ms ev).Nodup := hc.2.1.filter _
 have hln := exc_pos (ms := ms) hpp fun z hz => by have := of_decide_eq_true (List.mem_filter.mp hz).2; omega
 obtain ⟨n1, n2, n3⟩ := exc_neg (ms := ms) hnn fun z hz => by
  have := (List.mem_filter.mp hz).2
  rw [Bool.not_eq_true', decide_eq_false_iff_not] at this
  omega
 have hno : ∀ v, ¬ IsP ms v → Wd.cnt Wd.beg ms v = Wd.cnt Wd.fin ms v := fun v hv => by rw [cnt_no (g := Wd.beg) fun l hl z => hv ⟨l, hl, .inl z.symm⟩, cnt_no (g := Wd.fin) fun l hl z => hv ⟨l, hl, .inr z.symm⟩]
 have habv : exc ms (ev.filter fun z => decide (0 < exc ms [z])) = exc ms (abv ms ev) := rfl
 have fin' : ∀ p q, IsP ms p → (∀ v, IsP ms v → exc ms [v] = (if v = p then 1 else 0) - (if v = q then 1 else 0)) → (¬ IsP ms q → False) → ∃ us p q, WayOf us ms p q := fun p q hp he hq => by
  have hb : Wd.Bal ms p q := fun v => by
   by_cases hv : IsP ms v
   ·have h0 := he v hv
    rw [exc_cnt] at h0
    by_cases h1 : v = p
    ·rw [if_pos h1] at h0 ⊢
     by_cases h2 : v = q
     ·rw [if_pos h2] at h0 ⊢
      omega
     ·rw [if_neg h2] at h0 ⊢
      omega
    ·rw [if_neg h1] at h0 ⊢
     by_cases h2 : v = q
     ·rw [if_pos h2] at h0 ⊢
      omega
     ·rw [if_neg h2] at h0 ⊢
      omega
   ·have := hno v hv
    rw [this, if_neg (fun z : v = q => hq (z ▸ hv)), if_neg (fun z : v = p => hv (z ▸ hp))]
  obtain ⟨us, h1, h2⟩ := Wd.euler hb (conn_any hcon hp)
  exact ⟨us, p, q, h2, h1⟩
 match hab : abv ms ev, hln with
 | [], _ =>
  rw [habv, hab, exc_nil] at hsp
  have hz := n2 (by omega)
  refine fin' z0 z0 hz0 (fun v hv => ?_) (fun z => z hz0)
  have : exc ms [v] = 0 := by
   refine hz v (List.mem_filter.mpr ⟨(hc.2.2 v).mpr hv, ?_⟩)
   rw [Bool.not_eq_true', decide_eq_false_iff_not]
   intro y
   have : v ∈ abv ms ev := List.mem_filter.mpr ⟨(hc.2.2 v).mpr hv, decide_eq_true y⟩
   rw [hab] at this
   cases this
  omega
 | [p], h1 =>
  rw [hab] at hlt
  rw [habv, hab] at hsp
  have h1' : (1 : Int) ≤ exc ms [p] := h1
  obtain ⟨q, hq, g1, g2⟩ := n3 (by omega)
  have hpm : p ∈ abv ms ev := by rw [hab]; simp
  have hpe := List.mem_filter.mp hpm
  have hqe := List.mem_filter.mp hq
  have hpq : p ≠ q := fun z => by rw [z] at h1'; omega
  refine fin' p q ((hc.2.2 p).mp hpe.1) (fun v hv => ?_) (fun z => z ((hc.2.2 q).mp hqe.1))
  by_cases hvp : v = p
  ·subst hvp
   rw [if_pos rfl, if_neg hpq]
   omega
  ·rw [if_neg hvp]
   by_cases hvq : v = q
   ·subst hvq
    rw [if_pos rfl]
    omega
   ·rw [if_neg hvq]
    refine g2 v (List.mem_filter.mpr ⟨(hc.2.2 v).mpr hv, ?_⟩) hvq
    rw [Bool.not_eq_true', decide_eq_false_iff_not]
    intro y
    have : v ∈ abv ms ev := List.mem_filter.mpr ⟨(hc.2.2 v).mpr hv, decide_eq_true y⟩
    rw [hab] at this
    exact hvp (List.mem_singleton.mp this)
 | p :: p2 :: r, h1 =>
  rw [hab] at hlt
  rw [List.length_cons, List.length_cons] at h1
  omega
noncomputable def spEnds (C : Addr) (ad : Adr) : Sp := fun vs H Q E => ∃ (x tp : Addr) (n : Nat) (ms : List (List Nat)), vs = [.ref x] ∧ WebAt C H x tp n ms ∧ WebOk ms n ∧ (∀ us p q, WayOf us ms p q → ∀ (v : V) (H' : Hp), Same H H' → (p = q → v = .non) → (p ≠ q → ∃ d, v = .ref d ∧ H' d = some (.tup [T p, T q])) → Q v H') ∧
 (∀ ev r v dx H', Pcs ms ev → WhyW ms ev r → r ≠ none → Same H H' → PapAt H' v r → H' dx = some (.xd [("paper", v)]) → E (.ref ad.NoRing) (some dx) H')
theorem ok_row_ends {f : Addr} {fd : FuncData} (F : Fun K "row_ends" "row_ends" s_row_ends f fd) (tt : Txt K mg ad) (C_NoRing_init : Cxi P w K mg base "NoRing" ad.NoRing "paper" 1 ["self", "words", "paper"]) (C_why_no_row : Cal P w K mg base (CX2 P w) "why_no_row" 5 ["web"] (spWhyW ad.Web)) (C_why_no_ring : Cal P w K mg base (CX2 P w) "why_no_ring" 5 ["web"] (spWhyR ad.Web)) (C_pieces : Cal P w K mg base (CX2 P w) "pieces" 2 ["web"] (spPieces ad.Web)) (C_excess : Cal P w K mg base (CX2 P w) "excess" 2 ["web", "some"] (spExcess K ad.Web)) :
  FnOk P w K mg base (CX2 P w) 6 f fd ["web"] (spEnds ad.Web ad) := by
 refine F.okX2 sc_row_ends (fun vs H Q E h => ?_) (fun cdv A outer s H vs Q E hr h => ?_)
 ·obtain ⟨x, tp, n, ms, rfl, _⟩ := h
  rfl
 ·obtain ⟨x, tp, n, ms, rfl, hW, hok, qq, qe⟩ := h
  have hs : sizeLine = 16777216 := sizeLine_eq
  have h64 := hok.2.1
  refine ⟨_, (pss_cons (ps_set (i := 1) sc_row_ends.nd rfl (Or.inl rfl) (pe_cal C_why_no_row hr pass2 (pa_cons (pv 0) pa_nil)))
   (pss_cons (ps_if (pt_cmp (pc_notN (pv 1))) (pss_one (ps_rai C_NoRing_init ownX rfl hr (fun pins σ H s a dx I hx q => raiseXI pins σ H s a dx I hx q) (pa_cons (pe_strT [116, 104, 101, 32, 119, 101, 98, 32, 104, 97, 115, 32, 110, 111, 32, 114, 111, 119] (by decide +kernel)) (pa_cons (pv 1) pa_nil)))) pss_nil)
   (pss_cons (ps_if (pt_cmp (pc_isN (pe_cal C_why_no_ring hr pass2 (pa_cons (pv 0) pa_nil)))) (pss_one (ps_ret pe_non)) pss_nil)
   (pss_cons (ps_setCompf (i := 2) cs_row_ends_0 rfl (pi_list (pe_cal C_pieces hr pass2 (pa_cons (pv 0) pa_nil))) (fun cl C s' H' fp => (pt_cmpR op_gt (pe_cal C_excess hr pass2 (pa_cons (pv 1) (pa_cons (pe_lst (pa_cons (pv 0) pa_nil)) pa_nil))) pe_int (nomark _))) (fun cl C s' H' fp => (pv 0)) sc_row_ends.nd rfl rfl)
   (pss_cons (ps_setCompf (i := 3) cs_row_ends_1 rfl (pi_list (pe_cal C_pieces hr pass2 (pa_cons (pv 0) pa_nil))) (fun cl C s' H' fp => (pt_cmpR op_lt (pe_cal C_excess hr pass2 (pa_cons (pv 1) (pa_cons (pe_lst (pa_cons (pv 0) pa_nil)) pa_nil))) pe_int (nomark _))) (fun cl C s' H' fp => (pv 0)) sc_row_ends.nd rfl rfl)
   (pss_one (ps_ret (pe_tup (pa_cons (pe_ix ix_list (pv 2) pe_int (fun _ _ => rfl)) (pa_cons (pe_ix ix_list (pv 3) pe_int (fun _ _ => rfl)) pa_nil)))))))))), ?_⟩
  refine ⟨_, rfl, x, tp, n, ms, rfl, hW, hok, fun ev r v H1 hpc hwy hv s1 => ?_⟩
  cases r with
  | some pr =>
   obtain ⟨kd, so⟩ := pr
   have hvn : v ≠ .non := fun z => by
    obtain ⟨p1, b1, e1, _⟩ := hv
    rw [z] at e1
    cases e1
   refine ⟨_, rfl, _, rfl, itP (by rw [decide_eq_false hvn]; rfl) ?_⟩
   refine ⟨_, rfl, _, _, rfl, fun d hd => ?_⟩
   exact qe ev _ v d _ hpc hwy (fun z => by cases z) (s1.trans (same_upd hd)) (hv.on (same_upd hd)) upd_same
  | none =>
   obtain rfl : v = .non := hv
   obtain ⟨us, p, q', hway⟩ := why_row hpc hwy
   have q := qq us p q' hway
   have htr : Tr p us q' := hway.1
   have hpm := hway.2.symm
   refine ⟨_, rfl, _, rfl, iteF ?_⟩
   refine ⟨_, rfl, x, tp, n, ms, rfl, hW.on s1, hok, fun ev2 r2 v2 H2 hpc2 hwy2 hv2 s2 => ?_⟩
   have s12 := s1.trans s2
   by_cases hpq : p = q'
   ·subst hpq
    obtain rfl := whyR_none htr hpm hpc2 hwy2
    obtain rfl : v2 = .non := hv2
    refine ⟨_, rfl, iteT ?_⟩
    exact q .non H2 s12 (fun _ => rfl) (fun z => absurd rfl z)
   ·obtain ⟨hp1, hq1⟩ := way_isP hway hok.1
    have hv3 : v2 ≠ .non := fun z => by
     have hex : ¬ exc ms [p] = 0 := by rw [way_exc hway, if_pos rfl, if_neg (fun z => hpq z.symm)]; decide
     rcases hwy2 with ⟨y, _, rfl⟩ | ⟨g, _⟩
     ·obtain ⟨p1, b1, e1, _⟩ := hv2
      rw [z] at e1
      cases e1
     ·have := List.find?_eq_none.mp g p ((hpc2.2.2 p).mpr hp1)
      rw [decide_eq_false hex] at this
      exact this rfl
    refine ⟨_, rfl, itN (by rw [decide_eq_false hv3]; exact Bool.false_ne_true) ?_⟩
    have key : ∀ (ev : List (List Nat)) (z : List Nat) (g : List Nat → Bool), ev.Nodup → z ∈ ev → (∀ y ∈ ev, g y = true ↔ y = z) → ev.filter g = [z] := fun ev z g h1 h2 h3 => Wd.filter_one h1 h2 h3
    refine ⟨_, rfl, x, tp, n, ms, rfl, hW.on s12, hok, fun D1 e1 H3 hD1 s3 hd3 hpw hpn hpm1 => ?_⟩
    have hel := pieces_few hpn fun z hz => (hpm1 z).mp hz
    have s13 := s12.trans s3
    refine ⟨D1, rfl, ⟨_, SqL.of hd3⟩, ?_⟩
    refine compFG (fun v => decide (0 < exc ms [unT v])) (fun v => v) (reads_list (SqL.of hd3)) (by rw [List.length_map]; omega) (fun v G hv sg N hN => ?_) (fun v G hv hp sg N hN => ?_) fun D2 H4 hD2 s4 hd4 => ?_
    ·obtain ⟨l, hl, rfl⟩ := List.mem_map.mp hv
     refine ⟨_, rfl, _, rfl, (by show 1 ≤ sizeLine; omega), fun p3 hp3 => ?_⟩
     have t3 := same_upd (o := .lst ([l].map T)) hp3
     refine ⟨x, tp, p3, n, ms, [l], rfl, hW.on (s13.trans (sg.trans t3)), hok, .inl (SqL.of upd_same), fun H4 s4 => ?_⟩
     have z := hN H4 (t3.trans s4)
     rw [unT_T] at z
     exact ⟨_, _, rfl, rfl, _, rfl, z⟩
    ·exact ⟨_, rfl, hN G (Same.refl _)⟩
    rw [show (e1.map T).filter (fun v => decide (0 < exc ms [unT v])) = (e1.filter fun l => decide (0 < exc ms [l])).map T from filter_unT (p := fun l => decide (0 < exc ms [l])) e1, map_id_T, key e1 p _ hpn ((hpm1 p).mpr hp1) (fun y _ => by
     rw [decide_eq_true_iff, way_exc hway]
     by_cases h1 : p = y
     ·subst h1
      rw [if_pos rfl, if_neg (fun z => hpq z.symm)]
      simp
     ·rw [if_neg h1]
      exact ⟨fun z => by split at z <;> omega, fun z => absurd z.symm h1⟩)] at hd4
    have s14 := s13.trans s4
    refine ⟨_, rfl, x, tp, n, ms, rfl, hW.on s14, hok, fun D3 e2 H5 hD3 s5 hd5 hpw2 hpn2 hpm2 => ?_⟩
    have hel2 := pieces_few hpn2 fun z hz => (hpm2 z).mp hz
    have s15 := s14.trans s5
    refine ⟨D3, rfl, ⟨_, SqL.of hd5⟩, ?_⟩
    refine compFG (fun v => decide (exc ms [unT v] < 0)) (fun v => v) (reads_list (SqL.of hd5)) (by rw [List.length_map]; omega) (fun v G hv sg N hN => ?_) (fun v G hv hp sg N hN => ?_) fun D4 H6 hD4 s6 hd6 => ?_
    ·obtain ⟨l, hl, rfl⟩ := List.mem_map.mp hv
     refine ⟨_, rfl, _, rfl, (by show 1 ≤ sizeLine; omega), fun p3 hp3 => ?_⟩
     have t3 := same_upd (o := .lst ([l].map T)) hp3
     refine ⟨x, tp, p3, n, ms, [l], rfl, hW.on (s15.trans (sg.trans t3)), hok, .inl (SqL.of upd_same), fun H4 s4 => ?_⟩
     have z := hN H4 (t3.trans s4)
     rw [unT_T] at z
     exact ⟨_, _, rfl, rfl, _, rfl, z⟩
    ·exact ⟨_, rfl, hN G (Same.refl _)⟩
    rw [show (e2.map T).filter (fun v => decide (exc ms [unT v] < 0)) = (e2.filter fun l => decide (exc ms [l] < 0)).map T from filter_unT (p := fun l => decide (exc ms [l] < 0)) e2, map_id_T, key e2 q' _ hpn2 ((hpm2 q').mpr hq1) (fun y _ => by
     rw [decide_eq_true_iff, way_exc hway]
     by_cases h1 : q' = y
     ·subst h1
      rw [if_pos rfl, if_neg hpq]
      simp
     ·rw [if_neg h1]
      exact ⟨fun z => by split at z <;> omega, fun z => absurd z.symm h1⟩)] at hd6
    refine ⟨_, rfl, D2, _, _, _, rfl, rfl, SqL.of (s6 D2 _ (s5 D2 _ hd4)), atI_nat (j := 0) rfl, _, rfl, D4, _, _, _, rfl, rfl, SqL.of hd6, atI_nat (j := 0) rfl, (by show 2 ≤ sizeLine; omega), fun d hd => ?_⟩
    exact q _ _ (s15.trans (s6.trans (same_upd hd))) (fun z => absurd z hpq) (fun _ => ⟨d, rfl, upd_same⟩)
theorem look_one (F : Str) (v : V) : List.lookup F [(F, v)] = some v := by
 have h : (F == F) = true := beq_iff_eq.mpr rfl
 simp only [List.lookup, h]

noncomputable def spRefusal (C : Addr) : Sp := fun vs H Q _ => ∃ (x tp : Addr) (n : Nat) (ms : List (List Nat)), vs = [.ref x] ∧ WebAt C H x tp n ms ∧ WebOk ms n ∧ (∀ us p q, ¬ WayOf us ms p q) ∧ ∀ (ev : List (List Nat)) (kd : List Nat) (so : List (List Nat)) (v : V) (pp : Addr) (H' : Hp), Pcs ms ev → WhyW ms ev (some (kd, so)) → Same H H' → PapAt H' v (some (kd, so)) → H' pp = some (.tup [v, .bl true]) → Q (.ref pp) H'
theorem ok__law_refusal {f : Addr} {fd : FuncData} (F : Fun K "_law_refusal" "_law_refusal" s__law_refusal f fd) (tt : Txt K mg ad) (C_row_ends : Cal P w K mg base (CX2 P w) "row_ends" 6 ["web"] (spEnds ad.Web ad)) : FnOk P w K mg base (CX2 P w) 7 f fd ["web"] (spRefusal ad.Web) := by
 refine F.okX2 sc__law_refusal (fun vs H Q E h => ?_) (fun cdv A outer s H vs Q E hr h => ?_)
 ·obtain ⟨x, tp, n, ms, rfl, _⟩ := h
  rfl
 ·obtain ⟨x, tp, n, ms, rfl, hW, hok, hno, q⟩ := h
  have hs : sizeLine = 16777216 := sizeLine_eq
  refine ⟨_, (pss_cons (ps_set (i := 1) sc__law_refusal.nd rfl (Or.inl rfl) (pe_tup pa_nil))
   (pss_cons (ps_try2 ownX (py_call2 C_row_ends hr (pa_cons (pv 0) pa_nil)) (ph_as2 (i := 2) tt.m_NoRing sc__law_refusal.nd rfl rfl (fun a => (pss_cons (ps_set (i := 3) sc__law_refusal.nd rfl (Or.inl rfl) (pe_not (pe_callB (call_isinstDs K rfl) (by rfl) tt.b_isinstance PyProof.Rows.boot_isinstance (pa_cons (pv 2) (pa_cons (pe_tup (pa_cons (pe_glob (v := .ref ad.BadDeed) (by rfl) tt.m_BadDeed rfl) (pa_cons (pe_glob (v := .ref ad.BadKinds) (by rfl) tt.m_BadKinds rfl) (pa_cons (pe_glob (v := .ref ad.BadRule) (by rfl) tt.m_BadRule rfl) (pa_cons (pe_glob (v := .ref ad.BadText) (by rfl) tt.m_BadText rfl) (pa_cons (pe_glob (v := .ref ad.BadWord) (by rfl) tt.m_BadWord rfl) (pa_cons (pe_glob (v := .ref ad.NoSuch) (by rfl) tt.m_NoSuch rfl) (pa_cons (pe_glob (v := .ref ad.NotOne) (by rfl) tt.m_NotOne rfl) (pa_cons (pe_glob (v := .ref ad.TooMany) (by rfl) tt.m_TooMany rfl) pa_nil))))))))) pa_nil)))))
   (pss_one (ps_set (i := 1) sc__law_refusal.nd rfl (Or.inl rfl) (pe_tup (pa_cons (pe_xfld K rfl (pv 2)) (pa_cons (pe_and (pe_callB (call_isinstD K rfl) (by rfl) tt.b_isinstance PyProof.Rows.boot_isinstance (pa_cons (pv 2) (pa_cons (pe_glob (v := .ref ad.OnceError) (by rfl) tt.m_OnceError rfl) pa_nil))) (pe_one (pv 3))) pa_nil))))))) ph_nil2))
   (pss_one (ps_ret (pv 1))))), ?_⟩
  refine ⟨(by show 0 ≤ sizeLine; omega), fun p0 hp0 => ?_⟩
  have t0 := same_upd (o := .tup []) hp0
  refine ⟨_, rfl, x, tp, n, ms, rfl, hW.on t0, hok, fun us p q' hway => absurd hway (hno us p q'), fun ev r v dx H1 hpc hwy hr1 s1 hv hdx => ?_⟩
  refine .inl ⟨tt.q_o, fun a hna => ?_⟩
  have t1 := same_upd (o := ExD a (.ref ad.NoRing) (some dx)) hna
  refine ⟨_, rfl, (by show 8 ≤ sizeLine; omega), fun t ht => ?_⟩
  have t2 := same_upd (o := .tup [.ref ad.BadDeed, .ref ad.BadKinds, .ref ad.BadRule, .ref ad.BadText, .ref ad.BadWord, .ref ad.NoSuch, .ref ad.NotOne, .ref ad.TooMany]) ht
  refine ⟨a, ad.NoRing, t, some dx, [ad.BadDeed, ad.BadKinds, ad.BadRule, ad.BadText, ad.BadWord, ad.NoSuch, ad.NotOne, ad.TooMany], false, rfl, upd_same, t2 a _ upd_same, tt.n_NoRing, tt.q_a, _, rfl, ?_⟩
  have t12 := t1.trans t2
  have hA := t2 a _ (upd_same (H := H1) (a := a) (o := ExD a (.ref ad.NoRing) (some dx)))
  have hX := t12 dx _ hdx
  have hv2 := hv.on t12
  cases r with
  | none => exact absurd rfl hr1
  | some pr =>
   obtain ⟨kd, so⟩ := pr
   obtain ⟨p1, b1, rfl, hp1, hb1⟩ := id hv2
   refine ⟨_, rfl, a, ad.NoRing, dx, _, .ref p1, rfl, hA, hX, tt.n_NoRing, tt.na_NoRing_paper, tt.hd_NoRing, look_one _ _, ?_⟩
   refine ⟨_, rfl, a, ad.NoRing, some dx, .ref ad.OnceError, .ref ad.OnceError, true, rfl, rfl, hA, tt.n_NoRing, tt.q_b, _, rfl, iteT ?_⟩
   refine ⟨_, rfl, (by show 2 ≤ sizeLine; omega), fun pp hpp => ?_⟩
   have t3 := same_upd (o := .tup [.ref p1, .bl true]) hpp
   exact ⟨_, rfl, q ev kd so _ pp _ hpc hwy (t0.trans (s1.trans (t12.trans t3))) (hv2.on t3) upd_same⟩

noncomputable def spTrail (K : PySem.W.Frag) : Sp := fun vs H Q _ => ∃ (a : Addr) (ns : List Int), vs = [.ref a] ∧ SqL K H a (ns.map V.int) ∧ ∀ (D : Addr) (ls : List (List Nat)) (n : Nat) (H' : Hp), Same H H' → H' D = some (.lst (ls.map T)) → WL ls n → (1 ≤ n ∧ n ≤ 5) → ls ≠ [] → ls.length ≤ 30 → (∃ f0 q0, Tr f0 ls q0) → Q (.ref D) H'
theorem ok__law_trail {f : Addr} {fd : FuncData} (F : Fun K "_law_trail" "_law_trail" s__law_trail f fd) (tt : Txt K mg ad) (C__law_cell_at : Cal P w K mg base (CX2 P w) "_law_cell_at" 1 ["script", "k"] (spCell K)) (C__law_walk : Cal P w K mg base (CX2 P w) "_law_walk" 1 ["cells", "kinds", "first"] (spWalk K)) : FnOk P w K mg base (CX2 P w) 2 f fd ["script"] (spTrail K) := by
 refine F.okN2 sc__law_trail (fun vs H Q E h => ?_) (fun cdv A outer s H vs Q E hr h => ?_)
 ·obtain ⟨a, ns, rfl, _⟩ := h
  rfl
 ·obtain ⟨a, ns, rfl, hS, q⟩ := h
  have hs : sizeLine = 16777216 := sizeLine_eq
  refine ⟨_, (pss_cons (ps_set (i := 1) sc__law_trail.nd rfl (Or.inl rfl) (pe_cal C__law_walk hr pass2 (pa_cons (pe_slice sl_list (pv 0) (po_some pe_int) (po_some pe_int)) (pa_cons (pe_op op_add pe_int (pe_op op_mod (pe_cal C__law_cell_at hr pass2 (pa_cons (pv 0) (pa_cons pe_int pa_nil))) pe_int)) (pa_cons (pe_slice sl_T (pe_strT [97, 98] (by decide +kernel)) po_none (po_some (pe_op op_mod (pe_cal C__law_cell_at hr pass2 (pa_cons (pv 0) (pa_cons pe_int pa_nil))) pe_int))) pa_nil)))))
   (pss_cons (ps_if (pt_cmpR op_eq_I (pe_callB call_len_seq (by rfl) tt.b_len PySem.boot_len (pa_cons (pv 1) pa_nil)) pe_int (nomark _)) (pss_one (ps_set (i := 1) sc__law_trail.nd rfl (Or.inl rfl) (pe_lst (pa_cons (pe_strT [98] (by decide +kernel)) pa_nil)))) pss_nil)
   (pss_one (ps_ret (pv 1))))), ?_⟩
  refine ⟨_, rfl, _, rfl, _, rfl, a, _, rfl, hS, fun p1 hp1 => ?_⟩
  obtain ⟨ds, hds⟩ : ∃ ds : List Int, cutV (ns.map V.int) (some ((3 : Nat) : Int)) (some ((33 : Nat) : Int)) = ds.map V.int := cutV_ints
  have hdl : ds.length ≤ 30 := by
   have e := congrArg List.length hds
   have e2 := cutV_mid_len (xs := ns.map V.int) (a := 3) (b := 33)
   rw [List.length_map] at e
   omega
  rw [show cutV (ns.map V.int) (some (3 : Int)) (some (33 : Int)) = ds.map V.int from hds]
  have t1 := same_upd (o := .lst (ds.map V.int)) hp1
  refine ⟨_, rfl, a, ns, 1, rfl, t1.seq hS, ?_⟩
  dsimp only
  generalize ns.getD 1 0 = c1
  refine ⟨_, _, rfl, rfl, (by show (0 : Int) < 3; decide), _, _, rfl, rfl, ?_⟩
  refine ⟨_, rfl, a, ns, 2, rfl, t1.seq hS, ?_⟩
  dsimp only
  generalize ns.getD 2 0 = c2
  obtain ⟨m, hm⟩ : ∃ m : Nat, c2 % 3 = (m : Int) := ⟨(c2 % 3).toNat, by omega⟩
  have hm3 : m < 3 := by omega
  refine ⟨_, _, rfl, rfl, (by show (0 : Int) < 3; decide), _, rfl, _, rfl, (by show 2 ≤ sizeLine; omega), ?_⟩
  rw [show cutL [97, 98] none (some (c2 % 3)) = ([97, 98] : List Nat).take m by rw [hm]; exact cutL_to (by show m ≤ 2; omega)]
  have hab : Abc (([97, 98] : List Nat).take m) := fun c hc => by
   have := List.mem_of_mem_take hc
   simp at this
   omega
  have hfl : (([97, 98] : List Nat).take m).length ≤ 2 := by rw [List.length_take]; exact Nat.min_le_right ..
  obtain ⟨k, hk, hk6⟩ : ∃ k : Nat, 2 + c1 % 3 = (k : Int) ∧ k ≤ 6 := ⟨(2 + c1 % 3).toNat, by omega, by omega⟩
  generalize ([97, 98] : List Nat).take m = f0 at hab hfl
  refine ⟨p1, ds, k, f0, (by rw [← hk]; rfl), SqL.of upd_same, ⟨by omega, hk6, by omega⟩, hab, fun D ls H5 s5 hd hwl hl htr => ?_⟩
  have s05 := t1.trans s5
  refine ⟨_, rfl, D, _, rfl, .inl (SqL.of hd), _, rfl, _, rfl, _, rfl, ?_⟩
  rw [List.length_map]
  refine ite2 (fun h2 => ?_) (fun h2 => ?_)
  ·refine ⟨(by show 1 ≤ sizeLine; omega), fun p7 hp7 => ?_⟩
   exact ⟨_, rfl, q p7 [[98]] 1 _ (s05.trans (same_upd hp7)) upd_same (WL.one ⟨rfl, fun c hc => by
    have e : c = 98 := by simpa using hc
    omega⟩) ⟨by omega, by omega⟩ (by simp) (by simp) ⟨[], [], rfl, rfl⟩⟩
  ·exact ⟨_, rfl, q D ls _ H5 s05 hd hwl ⟨by omega, by omega⟩ (fun z => h2 (decide_eq_true (by rw [z]; rfl))) (by omega) (htr.elim fun q0 g => ⟨f0, q0, g⟩)⟩

theorem abv_perm {ms ls ev : List (List Nat)} (p : ms.Perm ls) : abv ms ev = abv ls ev := by
 unfold abv
 congr 1
 funext z
 rw [exc_perm p]
theorem WhyW.uniq {ms ls ev : List (List Nat)} {r t : Pap} (h : WhyW ms ev r) (g : WhyW ls ev t) (p : ms.Perm ls) : r = t := by
 unfold WhyW at h
 rw [exc_perm p, abv_perm p] at h
 rcases h with ⟨a1, rfl⟩ | ⟨a1, a2⟩
 ·rcases g with ⟨b1, rfl⟩ | ⟨b1, b2⟩
  ·rfl
  ·omega
 ·rcases g with ⟨b1, rfl⟩ | ⟨b1, b2⟩
  ·omega
  ·exact a2.uniq b2 p

theorem why_showsW {ms ev so : List (List Nat)} {kd : List Nat} (hc : Pcs ms ev) (h : WhyW ms ev (some (kd, so))) : Shows 1 ms so kd ev.length ∧ so.length ≤ ev.length := by
 rcases h with ⟨h2, e⟩ | ⟨_, z0, su, a1, a2, a3, a4, e⟩
 ·obtain ⟨rfl, rfl⟩ := Prod.mk.inj (Option.some.inj e)
  refine ⟨⟨⟨fun z => by rw [z, exc_nil] at h2; omega, fun y hy => (hc.2.2 y).mp (List.mem_filter.mp hy).1, hc.1.filter _, hc.2.1.filter _⟩, .inl ⟨rfl, ?_⟩⟩, List.length_filter_le ..⟩
  show (1 : Int) < _
  split <;> omega
 ·have hz0 := (hc.2.2 z0).mp (List.mem_of_getElem? a1)
  split at e
  ·exact nomatch e
  ·rename_i hl
   obtain ⟨rfl, rfl⟩ := Prod.mk.inj (Option.some.inj e)
   have hsub : ∀ z ∈ so, z ∈ ev := fun z hz => (hc.2.2 z).mpr (rc_isP hz0 ((a4 z).mp hz))
   have hle := Hg.nd_len a3 hsub
   refine ⟨⟨⟨fun g => ?_, fun z hz => (hc.2.2 z).mp (hsub z hz), a2, a3⟩, .inr ⟨rfl, by omega, fun l hl => ?_⟩⟩, hle⟩
   ·have : z0 ∈ so := (a4 z0).mpr .self
    rw [g] at this
    exact nomatch this
   ·rw [a4, a4]
    exact ⟨fun g => .fw hl g, fun g => .bw hl g⟩
theorem papSame {K : PySem.W.Frag} {H : Hp} {v u : V} {r : Pap} (h : PapAt H v r) (g : PapAt H u r) : (v = .non ∧ u = .non) ∨ ∃ (p b D F : Addr) (kd : List Nat) (ls : List (List Nat)), v = .ref p ∧ u = .ref b ∧ SqT K H p [T kd, .ref D] ∧ SqT K H b [T kd, .ref F] ∧ SqT K H D (ls.map T) ∧ SqT K H F (ls.map T) := by
 cases r with
 | none => exact .inl ⟨h, g⟩
 | some y =>
  obtain ⟨p, b, h1, h2, h3⟩ := h
  obtain ⟨p', b', g1, g2, g3⟩ := g
  exact .inr ⟨p, p', b, b', y.1, y.2, h1, g1, SqT.of h2, SqT.of g2, SqT.of h3, SqT.of g3⟩

noncomputable def Wds (H : Hp) (W : Addr) (ls : List (List Nat)) (n : Nat) : Prop := H W = some (.lst (ls.map T)) ∧ WL ls n ∧ (1 ≤ n ∧ n ≤ 5) ∧ ls ≠ [] ∧ ls.length ≤ 63 ∧ Few ls
noncomputable def spLaw (K : PySem.W.Frag) : Sp := fun vs H Q _ => ∃ (a : Addr) (ns : List Int), vs = [.ref a] ∧ SqL K H a (ns.map V.int) ∧ ns.length ≤ 63 ∧ ∀ H', Q (.bl true) H'
theorem ok_law {f : Addr} {fd : FuncData} (F : Fun K "law" "law" s_law f fd) (tt : Txt K mg ad) (C__law_two_webs : Cal P w K mg base (CX2 P w) "_law_two_webs" 4 ["script"] (spTwo K)) (C__law_cell_at : Cal P w K mg base (CX2 P w) "_law_cell_at" 1 ["script", "k"] (spCell K)) (C__law_trail : Cal P w K mg base (CX2 P w) "_law_trail" 2 ["script"] (spTrail K)) (C_Web_init : Cam P w K mg base (CX2 P w) "Web" ad.Web 5 ["self", "words"] (spWebI K ad.Web))
  (C__law_due : Cal P w K mg base (CX2 P w) "_law_due" 2 ["words"] (spDue K)) (C_why_no_row : Cal P w K mg base (CX2 P w) "why_no_row" 5 ["web"] (spWhyW ad.Web)) (C_shows_no_row : Cal P w K mg base (CX2 P w) "shows_no_row" 4 ["web", "paper"] (spShow K ad.Web 1)) (C__law_refusal : Cal P w K mg base (CX2 P w) "_law_refusal" 7 ["web"] (spRefusal ad.Web)) (C__law_degrees : Cal P w K mg base (CX2 P w) "_law_degrees" 1 ["words"] (spDegs K)) (C_row_ends : Cal P w K mg base (CX2 P w) "row_ends" 6 ["web"] (spEnds ad.Web ad)) :
  FnOk P w K mg base (CX2 P w) 8 f fd ["script"] (spLaw K) := by
 refine F.okN2 sc_law (fun vs H Q E h => ?_) (fun cdv A outer s H vs Q E hr h => ?_)
 ·obtain ⟨a, ns, rfl, _⟩ := h
  rfl
 ·obtain ⟨a, ns, rfl, hS, hlen, q⟩ := h
  have hs : sizeLine = 16777216 := sizeLine_eq
  have hu := Nat.lt_of_succ_lt (hu_of hr)
  refine ⟨_, (pss_cons (ps_set (i := 1) sc_law.nd rfl (Or.inl rfl) (pe_cal C__law_two_webs hr pass2 (pa_cons (pv 0) pa_nil)))
   (pss_cons (ps_wk (t' := (fun D σ H => ∃ (a W : Addr) (n : Nat) (ns : List Int) (ls : List (List Nat)), σ = [some (.ref a), some (.ref W), none, none, none, none, none, none] ∧ SqL K H a (ns.map V.int) ∧ Wds H W ls n ∧ ∀ (W : Addr) (n : Nat) (ls : List (List Nat)) (H' : Hp), Same H H' → Wds H' W ls n → D.nx [some (.ref a), some (.ref W), none, none, none, none, none, none] H')) (ps_if (pt_cmpR op_eq_I (pe_op op_mod (pe_cal C__law_cell_at hr pass2 (pa_cons (pv 0) (pa_cons pe_int pa_nil))) pe_int) pe_int (nomark _)) (pss_one (ps_set (i := 1) sc_law.nd rfl (Or.inl rfl) (pe_cal C__law_trail hr pass2 (pa_cons (pv 0) pa_nil)))) pss_nil) ?rA)
   (pss_cons (ps_set (i := 2) sc_law.nd rfl (Or.inl rfl) (pe_mak C_Web_init hr pass2 (pa_cons (pv 1) pa_nil)))
   (pss_cons (ps_set (i := 3) sc_law.nd rfl (Or.inl rfl) (pe_cal C__law_due hr pass2 (pa_cons (pv 1) pa_nil)))
   (pss_cons (ps_if (pt_cmpR (op_ne_P (hu_of hr)) (pe_cal C_why_no_row hr pass2 (pa_cons (pv 2) pa_nil)) (pv 3) (nomark _)) (pss_one (ps_ret pe_bl)) pss_nil)
   (pss_cons (ps_if (pt_cmp (pc_notN (pv 3))) (pss_one (ps_ret (pe_and (pe_cmpR op_isB (pe_cal C_shows_no_row hr pass2 (pa_cons (pv 2) (pa_cons (pe_cal C_why_no_row hr pass2 (pa_cons (pv 2) pa_nil)) pa_nil))) pe_bl (nomark _)) (pe_one (pe_cmpR (op_eq_PB K rfl (Nat.lt_of_le_of_lt (Nat.add_le_add_left (by decide : 2 ≤ 64) _) hr.units)) (pe_cal C__law_refusal hr pass2 (pa_cons (pv 2) pa_nil)) (pe_tup (pa_cons (pv 3) (pa_cons pe_bl pa_nil))) (nomark _)))))) pss_nil)
   (pss_cons (ps_set (i := 4) sc_law.nd rfl (Or.inr rfl) (pe_cal C__law_degrees hr pass2 (pa_cons (pv 1) pa_nil)))
   (pss_cons (ps_setCompf (i := 5) cs_law_0 rfl (pi_list (pe_callB (call_sortedDS rfl) (by rfl) tt.b_sorted PyProof.Rows.boot_sorted (pa_cons (pv 4) pa_nil))) (fun cl C s' H' fp => (pt_cmpR op_gt (pe_dget (hu_of hr) (pv 5) (pv 0) (fun _ _ => rfl)) pe_int (nomark _))) (fun cl C s' H' fp => (pv 0)) sc_law.nd rfl rfl)
   (pss_cons (ps_setCompf (i := 6) cs_law_1 rfl (pi_list (pe_callB (call_sortedDS rfl) (by rfl) tt.b_sorted PyProof.Rows.boot_sorted (pa_cons (pv 4) pa_nil))) (fun cl C s' H' fp => (pt_cmpR op_lt (pe_dget (hu_of hr) (pv 5) (pv 0) (fun _ _ => rfl)) pe_int (nomark _))) (fun cl C s' H' fp => (pv 0)) sc_law.nd rfl rfl)
   (pss_cons (ps_set (i := 7) sc_law.nd rfl (Or.inl rfl) (pe_cal C_row_ends hr pass2 (pa_cons (pv 2) pa_nil)))
   (pss_cons (ps_if (pt_cmpR op_eq_I (pe_callB call_len_seq (by rfl) tt.b_len PySem.boot_len (pa_cons (pv 5) pa_nil)) pe_int (nomark _)) (pss_one (ps_ret (pe_cmp (pc_isN (pv 7))))) pss_nil)
   (pss_one (ps_ret (pe_and (pe_callB call_isinst (by rfl) tt.b_isinstance PyProof.Rows.boot_isinstance (pa_cons (pv 7) (pa_cons (pe_bltn (v := .ty "tuple") (u := .type "tuple") (by rfl) tt.b_tuple (by decide +kernel) rfl) pa_nil))) (pe_one (pe_cmpR (op_eq_TU (hu_of hr)) (pv 7) (pe_tup (pa_cons (pe_ix ix_list (pv 5) pe_int (fun _ _ => rfl)) (pa_cons (pe_ix ix_list (pv 6) pe_int (fun _ _ => rfl)) pa_nil))) (nomark _))))))))))))))))), ?_⟩
  case rA =>
   rintro D σ H ⟨a, W, n, ns, ls, rfl, hS, hw, nxt⟩
   refine ⟨_, rfl, a, ns, 0, rfl, hS, _, _, rfl, rfl, (by show (0 : Int) < 4; decide), _, rfl, _, rfl, _, rfl, ?_⟩
   refine ite2 (fun h0 => ?_) (fun h0 => ?_)
   ·refine ⟨_, rfl, a, ns, rfl, hS, fun D1 l1 n1 H1 s1 hd1 hwl1 hn1 hne1 hl1 htr1 => ?_⟩
    exact nxt D1 n1 l1 H1 s1 ⟨hd1, hwl1, hn1, hne1, by omega, htr1.elim fun _ g => g.elim fun _ g => few_tr g (by omega)⟩
   ·exact nxt W n ls H (Same.refl _) hw
  refine ⟨_, rfl, a, ns, rfl, hS, fun W ls n H1 s1 hd hwl hn hne hl63 hf => ?_⟩
  refine ⟨a, W, n, ns, ls, rfl, s1.seq hS, ⟨hd, hwl, hn, hne, hl63, hf⟩, fun D n ls H3 s3 hw => ?_⟩
  obtain ⟨hd, hwl, hn, hne, hl63, hf⟩ := hw
  have hok : WebOk ls n := ⟨hne, by omega, ⟨⟨by omega, by omega⟩, hf⟩, hwl.1, hwl.2⟩
  refine ⟨_, rfl, ?_⟩
  intro x dx nx ndx nex
  have u4 : Same H3 (upd (upd H3 dx (.own x)) x (.ins ad.Web dx [])) := fun b o e => by
   rw [upd_ne (ne_of_none e nx), upd_ne (ne_of_none e ndx)]
   exact e
  refine ⟨x, dx, D, ls, n, rfl, upd_same, SqL.of (u4 D _ hd), hok, fun tp ms H4 hp4 hw4 k4 hx4 ht4 => ⟨rfl, ?_⟩⟩
  have s4 : Same H3 H4 := fun b o e => k4 b o (u4 b o e) (ne_of_none e nx)
  have hW : WebAt ad.Web H4 x tp n ms := ⟨⟨dx, hx4⟩, ht4⟩
  have hokm := hok.perm hp4
  have hxl : ∀ l ∈ ls, 1 ≤ l.length ∧ l.length ≤ 1000 := fun l hl => by have := (hwl.1 l hl).1; omega
  have hd4 := s4 D _ hd
  refine ⟨_, rfl, D, ls, rfl, SqL.of hd4, ⟨⟨by omega, hf⟩, hxl⟩, hne, fun ev r v H5 hpc hwy hv s5 => ?_⟩
  refine ⟨_, rfl, x, tp, n, ms, rfl, hW.on s5, hokm, fun ev2 r2 v2 H6 hpc2 hwy2 hv2 s6 => ?_⟩
  obtain rfl : ev = ev2 := (hpc2.uniq hpc hp4).symm
  obtain rfl : r = r2 := (hwy2.uniq hwy hp4).symm
  refine ⟨_, rfl, papSame hv2 (hv.on s6), _, rfl, itN Bool.false_ne_true ?_⟩
  have s46 := s5.trans s6
  have hv6 := hv.on s6
  have hel := pieces_few hpc.2.1 fun z hz => (hpc.2.2 z).mp hz
  cases r with
  | some y =>
   obtain ⟨kd, so⟩ := y
   have hvn : v ≠ .non := fun z => by
    obtain ⟨p1, b1, e1, _⟩ := hv
    rw [z] at e1
    cases e1
   refine ⟨_, rfl, _, rfl, itP (by rw [decide_eq_false hvn]; rfl) ?_⟩
   refine ⟨_, rfl, _, rfl, x, tp, n, ms, rfl, hW.on s46, hokm, fun ev3 r3 v3 H7 hpc3 hwy3 hv3 s7 => ?_⟩
   obtain rfl : ev = ev3 := (hpc3.uniq hpc hp4).symm
   obtain rfl : some (kd, so) = r3 := (hwy3.uniq hwy hp4).symm
   obtain ⟨p3, b3, rfl, g1, g2⟩ := id hv3
   obtain ⟨hsh, hsl⟩ := why_showsW hpc2 hwy2
   refine ⟨x, tp, p3, b3, n, ms, so, ev, kd, rfl, hW.on (s46.trans s7), hokm, SqT.of g1, SqT.of g2, (by omega), hpc2.2.1, hpc2.2.2, fun r1 H8 hr1 s8 => ?_⟩
   obtain rfl : r1 = true := hr1.mpr hsh
   refine ⟨_, rfl, _, rfl, _, rfl, iteT ?_⟩
   refine ⟨_, rfl, x, tp, n, ms, rfl, hW.on (s46.trans (s7.trans s8)), hokm, fun us p q' hway => ?_, fun ev4 kd4 so4 v4 pp H9 hpc4 hwy4 s9 hv4 hpp => ?_⟩
   ·have := whyW_none (show Tr p us q' from hway.1) hway.2.symm hpc2 hwy2
    cases this
   obtain rfl : ev = ev4 := (hpc4.uniq hpc hp4).symm
   obtain ⟨rfl, rfl⟩ : kd = kd4 ∧ so = so4 := Prod.mk.inj (Option.some.inj (hwy4.uniq hwy hp4).symm)
   refine ⟨_, rfl, (by show 2 ≤ sizeLine; omega), fun p5 hp5 => ?_⟩
   obtain ⟨p4, b4, rfl, k1, k2⟩ := id hv4
   obtain ⟨p6, b6, rfl, j1, j2⟩ := id (hv6.on (s7.trans (s8.trans s9)))
   have t5 := same_upd (o := .tup [.ref p6, .bl true]) hp5
   exact ⟨pp, p5, p4, p6, b4, b6, true, kd, so, rfl, rfl, SqT.of (t5 pp _ hpp), SqT.of upd_same, SqT.of (t5 p4 _ k1), SqT.of (t5 p6 _ j1), SqT.of (t5 b4 _ k2), SqT.of (t5 b6 _ j2), q _⟩
  | none =>
   obtain rfl : v = .non := hv
   refine ⟨_, rfl, _, rfl, iteF ?_⟩
   have hd6 := s46 D _ hd4
   refine ⟨_, rfl, D, ls, rfl, SqL.of hd6, ⟨by omega, hxl⟩, fun D3 kvs ks H7 hD7 s7 hd7 hda => ?_⟩
   have hks : ks.length < 64 := few64 (p := []) hf hda.kt.2 (fun z hz => .inr ((hda.mem z).mp hz))
   have val : ∀ pc ∈ ks, valV kvs (Sum.inr (tx pc)) = some (.int (exc ms [pc])) := fun pc hpc' => by
    have g1 := hda.val pc
    have g2 := (hda.kt.some pc).mpr hpc'
    obtain ⟨u, hu'⟩ := Option.isSome_iff_exists.mp g2
    rw [hu', deg_exc, ← exc_perm hp4] at g1
    rw [hu']
    exact congrArg some g1
   have sub : ∀ {es : List (List Nat)}, es.Perm ks → es.Pairwise (fun a b => ¬ b < a) → es = ev := fun {es} hp hw => Wd.sorted_same ((List.perm_ext_iff_of_nodup (hp.nodup_iff.mpr hda.kt.2) hpc.2.1).mpr fun z => by rw [hp.mem_iff, hda.mem, hpc.2.2]) hw hpc.1
   refine ⟨_, rfl, D3, ks, kvs, rfl, hd7, hda.kt.1, hks, fun e8 D8 hD8 hp8 hw8 => ?_⟩
   obtain rfl := sub hp8 hw8
   have t8 := same_upd (o := .lst (e8.map T)) hD8
   refine ⟨D8, rfl, ⟨_, SqL.of upd_same⟩, ?_⟩
   refine compFG (fun v => decide (0 < exc ms [unT v])) (fun v => v) (reads_list (SqL.of upd_same)) (by rw [List.length_map]; omega) (fun v G hv sg N hN => ?_) (fun v G hv hp sg N hN => ?_) fun D9 H9 hD9 s9 hd9 => ?_
   ·obtain ⟨l, hl, rfl⟩ := List.mem_map.mp hv
    have z := hN G (Same.refl _)
    rw [unT_T] at z
    have g := DGet.k (k := Sum.inr (tx l)) ((t8.trans sg) D3 _ hd7)
    rw [val l (hp8.mem_iff.mp hl)] at g
    exact ⟨_, rfl, _, rfl, D3, _, rfl, g, _, _, rfl, rfl, _, rfl, z⟩
   ·exact ⟨_, rfl, hN G (Same.refl _)⟩
   rw [show (e8.map T).filter (fun v => decide (0 < exc ms [unT v])) = (e8.filter fun l => decide (0 < exc ms [l])).map T from filter_unT (p := fun l => decide (0 < exc ms [l])) e8, map_id_T] at hd9
   have s79 := t8.trans s9
   refine ⟨_, rfl, D3, ks, kvs, rfl, s79 D3 _ hd7, hda.kt.1, hks, fun e10 D10 hD10 hp10 hw10 => ?_⟩
   obtain rfl := sub hp10 hw10
   have t10 := same_upd (o := .lst (e10.map T)) hD10
   refine ⟨D10, rfl, ⟨_, SqL.of upd_same⟩, ?_⟩
   refine compFG (fun v => decide (exc ms [unT v] < 0)) (fun v => v) (reads_list (SqL.of upd_same)) (by rw [List.length_map]; omega) (fun v G hv sg N hN => ?_) (fun v G hv hp sg N hN => ?_) fun D11 H11 hD11 s11 hd11 => ?_
   ·obtain ⟨l, hl, rfl⟩ := List.mem_map.mp hv
    have z := hN G (Same.refl _)
    rw [unT_T] at z
    have g := DGet.k (k := Sum.inr (tx l)) ((s79.trans (t10.trans sg)) D3 _ hd7)
    rw [val l (hp10.mem_iff.mp hl)] at g
    exact ⟨_, rfl, _, rfl, D3, _, rfl, g, _, _, rfl, rfl, _, rfl, z⟩
   ·exact ⟨_, rfl, hN G (Same.refl _)⟩
   rw [show (e10.map T).filter (fun v => decide (exc ms [unT v] < 0)) = (e10.filter fun l => decide (exc ms [l] < 0)).map T from filter_unT (p := fun l => decide (exc ms [l] < 0)) e10, map_id_T] at hd11
   have s911 := t10.trans s11
   have s411 := s46.trans (s7.trans (s79.trans s911))
   refine ⟨_, rfl, x, tp, n, ms, rfl, hW.on s411, hokm, fun us p q' hway v H12 s12 h1 h2 => ?_, fun ev5 r5 v5 d5 H12 hpc5 hwy5 hr5 _ _ _ => ?_⟩
   ·have hd9' := (s911.trans s12) D9 _ hd9
    have hd11' := s12 D11 _ hd11
    refine ⟨_, rfl, D9, _, rfl, .inl (SqL.of hd9'), _, rfl, _, rfl, _, rfl, ?_⟩
    rw [List.length_map]
    by_cases hpq : p = q'
    ·obtain rfl := h1 hpq
     have hnil : e10.filter (fun l => decide (0 < exc ms [l])) = [] := List.filter_eq_nil_iff.mpr fun z _ => by
      rw [way_exc hway, hpq, Int.sub_self]
      decide
     refine itP (decide_eq_true (by rw [hnil]; rfl)) ?_
     exact ⟨_, rfl, q _⟩
    ·obtain ⟨d, rfl, hd12⟩ := h2 hpq
     obtain ⟨hp1, hq1⟩ := way_isP hway hokm.1
     have e1 : e10.filter (fun l => decide (0 < exc ms [l])) = [p] := Wd.filter_one hpc2.2.1 ((hpc2.2.2 p).mpr hp1) fun y _ => by
      rw [decide_eq_true_iff, way_exc hway]
      by_cases h1 : p = y
      ·subst h1
       rw [if_pos rfl, if_neg (fun z => hpq z.symm)]
       simp
      ·rw [if_neg h1]
       exact ⟨fun z => by split at z <;> omega, fun z => absurd z.symm h1⟩
     have e2 : e10.filter (fun l => decide (exc ms [l] < 0)) = [q'] := Wd.filter_one hpc2.2.1 ((hpc2.2.2 q').mpr hq1) fun y _ => by
      rw [decide_eq_true_iff, way_exc hway]
      by_cases h1 : q' = y
      ·subst h1
       rw [if_pos rfl, if_neg hpq]
       simp
      ·rw [if_neg h1]
       exact ⟨fun z => by split at z <;> omega, fun z => absurd z.symm h1⟩
     rw [e1] at hd9' ⊢
     rw [e2] at hd11'
     refine itN (fun z => absurd (of_decide_eq_true z) (by rw [List.length_singleton]; decide)) ?_
     refine ⟨_, rfl, _, _, _, _, rfl, .tup hd12, kit_same _, _, rfl, iteT ?_⟩
     refine ⟨_, rfl, _, rfl, D9, _, _, _, rfl, rfl, SqL.of hd9', atI_nat (j := 0) rfl, _, rfl, D11, _, _, _, rfl, rfl, SqL.of hd11', atI_nat (j := 0) rfl, (by show 2 ≤ sizeLine; omega), fun pt hpt => ?_⟩
     have tt' := same_upd (o := .tup [T p, T q']) hpt
     exact ⟨d, pt, [p, q'], rfl, rfl, SqT.of (tt' d _ hd12), SqT.of upd_same, q _⟩
   ·obtain rfl := hpc5.uniq hpc2 (List.Perm.refl ms)
    exact hr5 (hwy5.uniq hwy2 (List.Perm.refl ms))

end
theorem all_mk {l : PySem.W.OpenLaw} {w : World} {K : PySem.W.Frag} {h : Heap} {mg : Str → Option Value} {fa : Addr} (X : K.In h) (G : h.Ns mainGlobals mg) (hfa : mg "law" = some (.ref fa))
  {f_0 : Addr} {od_0 an_0 : Option Addr} {sl_0 : Array (Option Value)} {oc_0 kV_0 dc_0 pm_0 cd_0 ct_0 : Value}
  {f_1 : Addr} {od_1 an_1 : Option Addr} {sl_1 : Array (Option Value)} {oc_1 kV_1 dc_1 pm_1 cd_1 ct_1 : Value}
  {f_2 : Addr} {od_2 an_2 : Option Addr} {sl_2 : Array (Option Value)} {oc_2 kV_2 dc_2 pm_2 cd_2 ct_2 : Value}
  {f_3 : Addr} {od_3 an_3 : Option Addr} {sl_3 : Array (Option Value)} {oc_3 kV_3 dc_3 pm_3 cd_3 ct_3 : Value}
  {f_4 : Addr} {od_4 an_4 : Option Addr} {sl_4 : Array (Option Value)} {oc_4 kV_4 dc_4 pm_4 cd_4 ct_4 : Value}
  {f_5 : Addr} {od_5 an_5 : Option Addr} {sl_5 : Array (Option Value)} {oc_5 kV_5 dc_5 pm_5 cd_5 ct_5 : Value}
  {f_6 : Addr} {od_6 an_6 : Option Addr} {sl_6 : Array (Option Value)} {oc_6 kV_6 dc_6 pm_6 cd_6 ct_6 : Value}
  {f_7 : Addr} {od_7 an_7 : Option Addr} {sl_7 : Array (Option Value)} {oc_7 kV_7 dc_7 pm_7 cd_7 ct_7 : Value}
  {f_8 : Addr} {od_8 an_8 : Option Addr} {sl_8 : Array (Option Value)} {oc_8 kV_8 dc_8 pm_8 cd_8 ct_8 : Value}
  {f_9 : Addr} {od_9 an_9 : Option Addr} {sl_9 : Array (Option Value)} {oc_9 kV_9 dc_9 pm_9 cd_9 ct_9 : Value}
  {f_10 : Addr} {od_10 an_10 : Option Addr} {sl_10 : Array (Option Value)} {oc_10 kV_10 dc_10 pm_10 cd_10 ct_10 : Value}
  {f_11 : Addr} {od_11 an_11 : Option Addr} {sl_11 : Array (Option Value)} {oc_11 kV_11 dc_11 pm_11 cd_11 ct_11 : Value}
  {f_12 : Addr} {od_12 an_12 : Option Addr} {sl_12 : Array (Option Value)} {oc_12 kV_12 dc_12 pm_12 cd_12 ct_12 : Value}
  {f_13 : Addr} {od_13 an_13 : Option Addr} {sl_13 : Array (Option Value)} {oc_13 kV_13 dc_13 pm_13 cd_13 ct_13 : Value}
  {f_14 : Addr} {od_14 an_14 : Option Addr} {sl_14 : Array (Option Value)} {oc_14 kV_14 dc_14 pm_14 cd_14 ct_14 : Value}
  {f_15 : Addr} {od_15 an_15 : Option Addr} {sl_15 : Array (Option Value)} {oc_15 kV_15 dc_15 pm_15 cd_15 ct_15 : Value}
  {f_16 : Addr} {od_16 an_16 : Option Addr} {sl_16 : Array (Option Value)} {oc_16 kV_16 dc_16 pm_16 cd_16 ct_16 : Value}
  {f_17 : Addr} {od_17 an_17 : Option Addr} {sl_17 : Array (Option Value)} {oc_17 kV_17 dc_17 pm_17 cd_17 ct_17 : Value}
  {f_18 : Addr} {od_18 an_18 : Option Addr} {sl_18 : Array (Option Value)} {oc_18 kV_18 dc_18 pm_18 cd_18 ct_18 : Value}
  {f_19 : Addr} {od_19 an_19 : Option Addr} {sl_19 : Array (Option Value)} {oc_19 kV_19 dc_19 pm_19 cd_19 ct_19 : Value}
  {f_20 : Addr} {od_20 an_20 : Option Addr} {sl_20 : Array (Option Value)} {oc_20 kV_20 dc_20 pm_20 cd_20 ct_20 : Value}
  {f_21 : Addr} {od_21 an_21 : Option Addr} {sl_21 : Array (Option Value)} {oc_21 kV_21 dc_21 pm_21 cd_21 ct_21 : Value}
  {f_22 : Addr} {od_22 an_22 : Option Addr} {sl_22 : Array (Option Value)} {oc_22 kV_22 dc_22 pm_22 cd_22 ct_22 : Value}
  {f_23 : Addr} {od_23 an_23 : Option Addr} {sl_23 : Array (Option Value)} {oc_23 kV_23 dc_23 pm_23 cd_23 ct_23 : Value}
  {f_24 : Addr} {od_24 an_24 : Option Addr} {sl_24 : Array (Option Value)} {oc_24 kV_24 dc_24 pm_24 cd_24 ct_24 : Value}
  {f_25 : Addr} {od_25 an_25 : Option Addr} {sl_25 : Array (Option Value)} {oc_25 kV_25 dc_25 pm_25 cd_25 ct_25 : Value}
  {f_26 : Addr} {od_26 an_26 : Option Addr} {sl_26 : Array (Option Value)} {oc_26 kV_26 dc_26 pm_26 cd_26 ct_26 : Value}
  {f_27 : Addr} {od_27 an_27 : Option Addr} {sl_27 : Array (Option Value)} {oc_27 kV_27 dc_27 pm_27 cd_27 ct_27 : Value}
  {f_28 : Addr} {od_28 an_28 : Option Addr} {sl_28 : Array (Option Value)} {oc_28 kV_28 dc_28 pm_28 cd_28 ct_28 : Value}
  {f_29 : Addr} {od_29 an_29 : Option Addr} {sl_29 : Array (Option Value)} {oc_29 kV_29 dc_29 pm_29 cd_29 ct_29 : Value}
  {f_30 : Addr} {od_30 an_30 : Option Addr} {sl_30 : Array (Option Value)} {oc_30 kV_30 dc_30 pm_30 cd_30 ct_30 : Value}
  {f_31 : Addr} {od_31 an_31 : Option Addr} {sl_31 : Array (Option Value)} {oc_31 kV_31 dc_31 pm_31 cd_31 ct_31 : Value}
  {f_32 : Addr} {od_32 an_32 : Option Addr} {sl_32 : Array (Option Value)} {oc_32 kV_32 dc_32 pm_32 cd_32 ct_32 : Value}
  {c_OnceError : Addr}
  {c_NoRing : Addr}
  {c_Web : Addr}
  {c_BadDeed : Addr}
  {c_BadKinds : Addr}
  {c_BadRule : Addr}
  {c_BadText : Addr}
  {c_BadWord : Addr}
  {c_NoSuch : Addr}
  {c_NotOne : Addr}
  {c_TooMany : Addr}
  {u_LETTERS : Value}
  {u_LONGEST : Value}
  {u_MOST_OF_A_WEB : Value}
  {u_LONGEST_OF_A_WEB : Value}
  (a_0 : PySem.W.nsIn K mainGlobals "looked_kinds" = some (some (.ref f_0))) (l_0 : K.lookup f_0 = some ⟨oc_0, od_0, .func (PySem.W.fnOf "looked_kinds" "looked_kinds" (defArgs s_looked_kinds) (defBody s_looked_kinds) (defScope s_looked_kinds) .none kV_0 dc_0 pm_0 an_0 cd_0 ct_0), sl_0⟩) (c_0 : PySem.W.codeIn K cd_0 "looked_kinds" = true) (k_0 : PySem.W.keepIn K (.ref f_0) = true)
  (a_1 : PySem.W.nsIn K mainGlobals "looked_length" = some (some (.ref f_1))) (l_1 : K.lookup f_1 = some ⟨oc_1, od_1, .func (PySem.W.fnOf "looked_length" "looked_length" (defArgs s_looked_length) (defBody s_looked_length) (defScope s_looked_length) .none kV_1 dc_1 pm_1 an_1 cd_1 ct_1), sl_1⟩) (c_1 : PySem.W.codeIn K cd_1 "looked_length" = true) (k_1 : PySem.W.keepIn K (.ref f_1) = true)
  (a_2 : PySem.W.nsIn K mainGlobals "letters" = some (some (.ref f_2))) (l_2 : K.lookup f_2 = some ⟨oc_2, od_2, .func (PySem.W.fnOf "letters" "letters" (defArgs s_letters) (defBody s_letters) (defScope s_letters) .none kV_2 dc_2 pm_2 an_2 cd_2 ct_2), sl_2⟩) (c_2 : PySem.W.codeIn K cd_2 "letters" = true) (k_2 : PySem.W.keepIn K (.ref f_2) = true)
  (a_3 : PySem.W.nsIn K mainGlobals "looked" = some (some (.ref f_3))) (l_3 : K.lookup f_3 = some ⟨oc_3, od_3, .func (PySem.W.fnOf "looked" "looked" (defArgs s_looked) (defBody s_looked) (defScope s_looked) .none kV_3 dc_3 pm_3 an_3 cd_3 ct_3), sl_3⟩) (c_3 : PySem.W.codeIn K cd_3 "looked" = true) (k_3 : PySem.W.keepIn K (.ref f_3) = true)
  (a_4 : PySem.W.nsIn K mainGlobals "looked_web" = some (some (.ref f_4))) (l_4 : K.lookup f_4 = some ⟨oc_4, od_4, .func (PySem.W.fnOf "looked_web" "looked_web" (defArgs s_looked_web) (defBody s_looked_web) (defScope s_looked_web) .none kV_4 dc_4 pm_4 an_4 cd_4 ct_4), sl_4⟩) (c_4 : PySem.W.codeIn K cd_4 "looked_web" = true) (k_4 : PySem.W.keepIn K (.ref f_4) = true)
  (a_5 : PySem.W.findIn K (.ref c_Web) "__init__" = some (some (.ref f_5))) (l_5 : K.lookup f_5 = some ⟨oc_5, od_5, .func (PySem.W.fnOf "__init__" "Web.__init__" (defArgs s_Web_init) (defBody s_Web_init) (defScope s_Web_init) .none kV_5 dc_5 pm_5 an_5 cd_5 ct_5), sl_5⟩) (c_5 : PySem.W.codeIn K cd_5 "Web.__init__" = true) (k_5 : PySem.W.keepIn K (.ref f_5) = true) (i_Web_init : PySem.W.isFn K (.ref f_5) = true)
  (a_6 : PySem.W.findIn K (.ref c_NoRing) "__init__" = some (some (.ref f_6))) (l_6 : K.lookup f_6 = some ⟨oc_6, od_6, .func (PySem.W.fnOf "__init__" "NoRing.__init__" (defArgs s_NoRing_init) (defBody s_NoRing_init) (defScope s_NoRing_init) .none kV_6 dc_6 pm_6 an_6 cd_6 ct_6), sl_6⟩) (c_6 : PySem.W.codeIn K cd_6 "NoRing.__init__" = true) (k_6 : PySem.W.keepIn K (.ref f_6) = true) (i_NoRing_init : PySem.W.isFn K (.ref f_6) = true)
  (a_7 : PySem.W.nsIn K mainGlobals "begin_of" = some (some (.ref f_7))) (l_7 : K.lookup f_7 = some ⟨oc_7, od_7, .func (PySem.W.fnOf "begin_of" "begin_of" (defArgs s_begin_of) (defBody s_begin_of) (defScope s_begin_of) .none kV_7 dc_7 pm_7 an_7 cd_7 ct_7), sl_7⟩) (c_7 : PySem.W.codeIn K cd_7 "begin_of" = true) (k_7 : PySem.W.keepIn K (.ref f_7) = true)
  (a_8 : PySem.W.nsIn K mainGlobals "end_of" = some (some (.ref f_8))) (l_8 : K.lookup f_8 = some ⟨oc_8, od_8, .func (PySem.W.fnOf "end_of" "end_of" (defArgs s_end_of) (defBody s_end_of) (defScope s_end_of) .none kV_8 dc_8 pm_8 an_8 cd_8 ct_8), sl_8⟩) (c_8 : PySem.W.codeIn K cd_8 "end_of" = true) (k_8 : PySem.W.keepIn K (.ref f_8) = true)
  (a_9 : PySem.W.nsIn K mainGlobals "pieces" = some (some (.ref f_9))) (l_9 : K.lookup f_9 = some ⟨oc_9, od_9, .func (PySem.W.fnOf "pieces" "pieces" (defArgs s_pieces) (defBody s_pieces) (defScope s_pieces) .none kV_9 dc_9 pm_9 an_9 cd_9 ct_9), sl_9⟩) (c_9 : PySem.W.codeIn K cd_9 "pieces" = true) (k_9 : PySem.W.keepIn K (.ref f_9) = true)
  (a_10 : PySem.W.nsIn K mainGlobals "excess" = some (some (.ref f_10))) (l_10 : K.lookup f_10 = some ⟨oc_10, od_10, .func (PySem.W.fnOf "excess" "excess" (defArgs s_excess) (defBody s_excess) (defScope s_excess) .none kV_10 dc_10 pm_10 an_10 cd_10 ct_10), sl_10⟩) (c_10 : PySem.W.codeIn K cd_10 "excess" = true) (k_10 : PySem.W.keepIn K (.ref f_10) = true)
  (a_11 : PySem.W.nsIn K mainGlobals "hanging_by" = some (some (.ref f_11))) (l_11 : K.lookup f_11 = some ⟨oc_11, od_11, .func (PySem.W.fnOf "hanging_by" "hanging_by" (defArgs s_hanging_by) (defBody s_hanging_by) (defScope s_hanging_by) .none kV_11 dc_11 pm_11 an_11 cd_11 ct_11), sl_11⟩) (c_11 : PySem.W.codeIn K cd_11 "hanging_by" = true) (k_11 : PySem.W.keepIn K (.ref f_11) = true)
  (a_12 : PySem.W.nsIn K mainGlobals "hanging" = some (some (.ref f_12))) (l_12 : K.lookup f_12 = some ⟨oc_12, od_12, .func (PySem.W.fnOf "hanging" "hanging" (defArgs s_hanging) (defBody s_hanging) (defScope s_hanging) .none kV_12 dc_12 pm_12 an_12 cd_12 ct_12), sl_12⟩) (c_12 : PySem.W.codeIn K cd_12 "hanging" = true) (k_12 : PySem.W.keepIn K (.ref f_12) = true)
  (a_13 : PySem.W.nsIn K mainGlobals "is_right_made" = some (some (.ref f_13))) (l_13 : K.lookup f_13 = some ⟨oc_13, od_13, .func (PySem.W.fnOf "is_right_made" "is_right_made" (defArgs s_is_right_made) (defBody s_is_right_made) (defScope s_is_right_made) .none kV_13 dc_13 pm_13 an_13 cd_13 ct_13), sl_13⟩) (c_13 : PySem.W.codeIn K cd_13 "is_right_made" = true) (k_13 : PySem.W.keepIn K (.ref f_13) = true)
  (a_14 : PySem.W.nsIn K mainGlobals "is_apart" = some (some (.ref f_14))) (l_14 : K.lookup f_14 = some ⟨oc_14, od_14, .func (PySem.W.fnOf "is_apart" "is_apart" (defArgs s_is_apart) (defBody s_is_apart) (defScope s_is_apart) .none kV_14 dc_14 pm_14 an_14 cd_14 ct_14), sl_14⟩) (c_14 : PySem.W.codeIn K cd_14 "is_apart" = true) (k_14 : PySem.W.keepIn K (.ref f_14) = true)
  (a_15 : PySem.W.nsIn K mainGlobals "shows_no_row" = some (some (.ref f_15))) (l_15 : K.lookup f_15 = some ⟨oc_15, od_15, .func (PySem.W.fnOf "shows_no_row" "shows_no_row" (defArgs s_shows_no_row) (defBody s_shows_no_row) (defScope s_shows_no_row) .none kV_15 dc_15 pm_15 an_15 cd_15 ct_15), sl_15⟩) (c_15 : PySem.W.codeIn K cd_15 "shows_no_row" = true) (k_15 : PySem.W.keepIn K (.ref f_15) = true)
  (a_16 : PySem.W.nsIn K mainGlobals "why_apart" = some (some (.ref f_16))) (l_16 : K.lookup f_16 = some ⟨oc_16, od_16, .func (PySem.W.fnOf "why_apart" "why_apart" (defArgs s_why_apart) (defBody s_why_apart) (defScope s_why_apart) .none kV_16 dc_16 pm_16 an_16 cd_16 ct_16), sl_16⟩) (c_16 : PySem.W.codeIn K cd_16 "why_apart" = true) (k_16 : PySem.W.keepIn K (.ref f_16) = true)
  (a_17 : PySem.W.nsIn K mainGlobals "why_no_ring" = some (some (.ref f_17))) (l_17 : K.lookup f_17 = some ⟨oc_17, od_17, .func (PySem.W.fnOf "why_no_ring" "why_no_ring" (defArgs s_why_no_ring) (defBody s_why_no_ring) (defScope s_why_no_ring) .none kV_17 dc_17 pm_17 an_17 cd_17 ct_17), sl_17⟩) (c_17 : PySem.W.codeIn K cd_17 "why_no_ring" = true) (k_17 : PySem.W.keepIn K (.ref f_17) = true)
  (a_18 : PySem.W.nsIn K mainGlobals "why_no_row" = some (some (.ref f_18))) (l_18 : K.lookup f_18 = some ⟨oc_18, od_18, .func (PySem.W.fnOf "why_no_row" "why_no_row" (defArgs s_why_no_row) (defBody s_why_no_row) (defScope s_why_no_row) .none kV_18 dc_18 pm_18 an_18 cd_18 ct_18), sl_18⟩) (c_18 : PySem.W.codeIn K cd_18 "why_no_row" = true) (k_18 : PySem.W.keepIn K (.ref f_18) = true)
  (a_19 : PySem.W.nsIn K mainGlobals "row_ends" = some (some (.ref f_19))) (l_19 : K.lookup f_19 = some ⟨oc_19, od_19, .func (PySem.W.fnOf "row_ends" "row_ends" (defArgs s_row_ends) (defBody s_row_ends) (defScope s_row_ends) .none kV_19 dc_19 pm_19 an_19 cd_19 ct_19), sl_19⟩) (c_19 : PySem.W.codeIn K cd_19 "row_ends" = true) (k_19 : PySem.W.keepIn K (.ref f_19) = true)
  (a_20 : PySem.W.nsIn K mainGlobals "_law_cell_at" = some (some (.ref f_20))) (l_20 : K.lookup f_20 = some ⟨oc_20, od_20, .func (PySem.W.fnOf "_law_cell_at" "_law_cell_at" (defArgs s__law_cell_at) (defBody s__law_cell_at) (defScope s__law_cell_at) .none kV_20 dc_20 pm_20 an_20 cd_20 ct_20), sl_20⟩) (c_20 : PySem.W.codeIn K cd_20 "_law_cell_at" = true) (k_20 : PySem.W.keepIn K (.ref f_20) = true)
  (a_21 : PySem.W.nsIn K mainGlobals "_law_walk" = some (some (.ref f_21))) (l_21 : K.lookup f_21 = some ⟨oc_21, od_21, .func (PySem.W.fnOf "_law_walk" "_law_walk" (defArgs s__law_walk) (defBody s__law_walk) (defScope s__law_walk) .none kV_21 dc_21 pm_21 an_21 cd_21 ct_21), sl_21⟩) (c_21 : PySem.W.codeIn K cd_21 "_law_walk" = true) (k_21 : PySem.W.keepIn K (.ref f_21) = true)
  (a_22 : PySem.W.nsIn K mainGlobals "_law_ring_words" = some (some (.ref f_22))) (l_22 : K.lookup f_22 = some ⟨oc_22, od_22, .func (PySem.W.fnOf "_law_ring_words" "_law_ring_words" (defArgs s__law_ring_words) (defBody s__law_ring_words) (defScope s__law_ring_words) .none kV_22 dc_22 pm_22 an_22 cd_22 ct_22), sl_22⟩) (c_22 : PySem.W.codeIn K cd_22 "_law_ring_words" = true) (k_22 : PySem.W.keepIn K (.ref f_22) = true)
  (a_23 : PySem.W.nsIn K mainGlobals "_law_every" = some (some (.ref f_23))) (l_23 : K.lookup f_23 = some ⟨oc_23, od_23, .func (PySem.W.fnOf "_law_every" "_law_every" (defArgs s__law_every) (defBody s__law_every) (defScope s__law_every) .none kV_23 dc_23 pm_23 an_23 cd_23 ct_23), sl_23⟩) (c_23 : PySem.W.codeIn K cd_23 "_law_every" = true) (k_23 : PySem.W.keepIn K (.ref f_23) = true)
  (a_24 : PySem.W.nsIn K mainGlobals "_law_digit_words" = some (some (.ref f_24))) (l_24 : K.lookup f_24 = some ⟨oc_24, od_24, .func (PySem.W.fnOf "_law_digit_words" "_law_digit_words" (defArgs s__law_digit_words) (defBody s__law_digit_words) (defScope s__law_digit_words) .none kV_24 dc_24 pm_24 an_24 cd_24 ct_24), sl_24⟩) (c_24 : PySem.W.codeIn K cd_24 "_law_digit_words" = true) (k_24 : PySem.W.keepIn K (.ref f_24) = true)
  (a_25 : PySem.W.nsIn K mainGlobals "_law_some_words" = some (some (.ref f_25))) (l_25 : K.lookup f_25 = some ⟨oc_25, od_25, .func (PySem.W.fnOf "_law_some_words" "_law_some_words" (defArgs s__law_some_words) (defBody s__law_some_words) (defScope s__law_some_words) .none kV_25 dc_25 pm_25 an_25 cd_25 ct_25), sl_25⟩) (c_25 : PySem.W.codeIn K cd_25 "_law_some_words" = true) (k_25 : PySem.W.keepIn K (.ref f_25) = true)
  (a_26 : PySem.W.nsIn K mainGlobals "_law_degrees" = some (some (.ref f_26))) (l_26 : K.lookup f_26 = some ⟨oc_26, od_26, .func (PySem.W.fnOf "_law_degrees" "_law_degrees" (defArgs s__law_degrees) (defBody s__law_degrees) (defScope s__law_degrees) .none kV_26 dc_26 pm_26 an_26 cd_26 ct_26), sl_26⟩) (c_26 : PySem.W.codeIn K cd_26 "_law_degrees" = true) (k_26 : PySem.W.keepIn K (.ref f_26) = true)
  (a_27 : PySem.W.nsIn K mainGlobals "_law_hangs" = some (some (.ref f_27))) (l_27 : K.lookup f_27 = some ⟨oc_27, od_27, .func (PySem.W.fnOf "_law_hangs" "_law_hangs" (defArgs s__law_hangs) (defBody s__law_hangs) (defScope s__law_hangs) .none kV_27 dc_27 pm_27 an_27 cd_27 ct_27), sl_27⟩) (c_27 : PySem.W.codeIn K cd_27 "_law_hangs" = true) (k_27 : PySem.W.keepIn K (.ref f_27) = true)
  (a_28 : PySem.W.nsIn K mainGlobals "_law_two_webs" = some (some (.ref f_28))) (l_28 : K.lookup f_28 = some ⟨oc_28, od_28, .func (PySem.W.fnOf "_law_two_webs" "_law_two_webs" (defArgs s__law_two_webs) (defBody s__law_two_webs) (defScope s__law_two_webs) .none kV_28 dc_28 pm_28 an_28 cd_28 ct_28), sl_28⟩) (c_28 : PySem.W.codeIn K cd_28 "_law_two_webs" = true) (k_28 : PySem.W.keepIn K (.ref f_28) = true)
  (a_29 : PySem.W.nsIn K mainGlobals "_law_due" = some (some (.ref f_29))) (l_29 : K.lookup f_29 = some ⟨oc_29, od_29, .func (PySem.W.fnOf "_law_due" "_law_due" (defArgs s__law_due) (defBody s__law_due) (defScope s__law_due) .none kV_29 dc_29 pm_29 an_29 cd_29 ct_29), sl_29⟩) (c_29 : PySem.W.codeIn K cd_29 "_law_due" = true) (k_29 : PySem.W.keepIn K (.ref f_29) = true)
  (a_30 : PySem.W.nsIn K mainGlobals "_law_refusal" = some (some (.ref f_30))) (l_30 : K.lookup f_30 = some ⟨oc_30, od_30, .func (PySem.W.fnOf "_law_refusal" "_law_refusal" (defArgs s__law_refusal) (defBody s__law_refusal) (defScope s__law_refusal) .none kV_30 dc_30 pm_30 an_30 cd_30 ct_30), sl_30⟩) (c_30 : PySem.W.codeIn K cd_30 "_law_refusal" = true) (k_30 : PySem.W.keepIn K (.ref f_30) = true)
  (a_31 : PySem.W.nsIn K mainGlobals "_law_trail" = some (some (.ref f_31))) (l_31 : K.lookup f_31 = some ⟨oc_31, od_31, .func (PySem.W.fnOf "_law_trail" "_law_trail" (defArgs s__law_trail) (defBody s__law_trail) (defScope s__law_trail) .none kV_31 dc_31 pm_31 an_31 cd_31 ct_31), sl_31⟩) (c_31 : PySem.W.codeIn K cd_31 "_law_trail" = true) (k_31 : PySem.W.keepIn K (.ref f_31) = true)
  (a_32 : PySem.W.nsIn K mainGlobals "law" = some (some (.ref f_32))) (l_32 : K.lookup f_32 = some ⟨oc_32, od_32, .func (PySem.W.fnOf "law" "law" (defArgs s_law) (defBody s_law) (defScope s_law) .none kV_32 dc_32 pm_32 an_32 cd_32 ct_32), sl_32⟩) (c_32 : PySem.W.codeIn K cd_32 "law" = true) (k_32 : PySem.W.keepIn K (.ref f_32) = true)
  (z_abs : PySem.W.nsIn K mainGlobals "abs" = some none)
  (z_isinstance : PySem.W.nsIn K mainGlobals "isinstance" = some none)
  (z_len : PySem.W.nsIn K mainGlobals "len" = some none)
  (z_list : PySem.W.nsIn K mainGlobals "list" = some none)
  (z_range : PySem.W.nsIn K mainGlobals "range" = some none)
  (z_set : PySem.W.nsIn K mainGlobals "set" = some none)
  (z_sorted : PySem.W.nsIn K mainGlobals "sorted" = some none)
  (z_sum : PySem.W.nsIn K mainGlobals "sum" = some none)
  (z_tuple : PySem.W.nsIn K mainGlobals "tuple" = some none)
  (y_OnceError : PySem.W.nsIn K mainGlobals "OnceError" = some (some (.ref c_OnceError)))
  (y_NoRing : PySem.W.nsIn K mainGlobals "NoRing" = some (some (.ref c_NoRing)))
  (y_Web : PySem.W.nsIn K mainGlobals "Web" = some (some (.ref c_Web)))
  (y_BadDeed : PySem.W.nsIn K mainGlobals "BadDeed" = some (some (.ref c_BadDeed)))
  (y_BadKinds : PySem.W.nsIn K mainGlobals "BadKinds" = some (some (.ref c_BadKinds)))
  (y_BadRule : PySem.W.nsIn K mainGlobals "BadRule" = some (some (.ref c_BadRule)))
  (y_BadText : PySem.W.nsIn K mainGlobals "BadText" = some (some (.ref c_BadText)))
  (y_BadWord : PySem.W.nsIn K mainGlobals "BadWord" = some (some (.ref c_BadWord)))
  (y_NoSuch : PySem.W.nsIn K mainGlobals "NoSuch" = some (some (.ref c_NoSuch)))
  (y_NotOne : PySem.W.nsIn K mainGlobals "NotOne" = some (some (.ref c_NotOne)))
  (y_TooMany : PySem.W.nsIn K mainGlobals "TooMany" = some (some (.ref c_TooMany)))
  (e_BadKinds : PySem.W.excIn K c_BadKinds bmVE "ValueError.__new__" = true)
  (e_BadWord : PySem.W.excIn K c_BadWord bmVE "ValueError.__new__" = true)
  (e_TooMany : PySem.W.excIn K c_TooMany bmVE "ValueError.__new__" = true)
  (e_NoSuch : PySem.W.excIn K c_NoSuch bmVE "ValueError.__new__" = true)
  (n1_NoRing : PySem.W.findIn K (.ref c_NoRing) "__getattribute__" = some (some (.builtin "BaseException.__getattribute__")))
  (n2_NoRing : PySem.W.findIn K (.ref c_NoRing) "__getattr__" = some none)
  (n3_NoRing : PySem.W.findIn K (.ref c_NoRing) "__class__" = some (some (.builtin "object.__class__")))
  (n4_NoRing : PySem.W.specialIn K (.builtin "object.__class__") "__get__" = some (some (.builtin "getset_descriptor.__get__")))
  (n5_NoRing : PySem.W.takesIn K (.builtin "object.__class__") = some true)
  (n6_NoRing : PySem.W.mroIn K c_NoRing (.type "object") = some true)
  (n7_NoRing : PySem.W.mroIn K c_NoRing (.type "BaseException") = some true)
  (n8_NoRing : (PySem.W.clsIn K c_NoRing).isSome = true)
  (g_LETTERS : PySem.W.nsIn K mainGlobals "LETTERS" = some (some u_LETTERS)) (r_LETTERS : RelV (T [97, 98, 99, 100, 101, 102]) u_LETTERS)
  (g_LONGEST : PySem.W.nsIn K mainGlobals "LONGEST" = some (some u_LONGEST)) (r_LONGEST : RelV (.int 24) u_LONGEST)
  (g_MOST_OF_A_WEB : PySem.W.nsIn K mainGlobals "MOST_OF_A_WEB" = some (some u_MOST_OF_A_WEB)) (r_MOST_OF_A_WEB : RelV (.int 64) u_MOST_OF_A_WEB)
  (g_LONGEST_OF_A_WEB : PySem.W.nsIn K mainGlobals "LONGEST_OF_A_WEB" = some (some u_LONGEST_OF_A_WEB)) (r_LONGEST_OF_A_WEB : RelV (.int 8) u_LONGEST_OF_A_WEB)
  (q_o : PySem.W.exmOne K (.ref c_NoRing) (.ref c_NoRing) = some true)
  (q_b : PySem.W.kitOne K (.ref c_NoRing) (.ref c_OnceError) = some true)
  (q_a : PySem.W.kitAny K (.ref c_NoRing) [.ref c_BadDeed, .ref c_BadKinds, .ref c_BadRule, .ref c_BadText, .ref c_BadWord, .ref c_NoSuch, .ref c_NotOne, .ref c_TooMany] = some false)
  (pg_Web : PySem.W.plainGet K c_Web Str.empty = true) (hd_Web : PySem.W.hasDictIn K c_Web = true) (po_Web : PySem.W.plainOver K c_Web = true) (sa_Web : PySem.W.findIn K (.ref c_Web) "__setattr__" = some (some (.builtin "object.__setattr__"))) (mk_Web : PySem.W.makesIn K c_Web = true) (kc_Web : PySem.W.keepIn K (.ref c_Web) = true)
  (na_Web_words : PySem.W.findIn K (.ref c_Web) "words" = some none)
  (na_Web_length : PySem.W.findIn K (.ref c_Web) "length" = some none)
  (ei_NoRing : excIIn K c_NoRing f_6 = true) (sa_NoRing : PySem.W.findIn K (.ref c_NoRing) "__setattr__" = some (some (.builtin "object.__setattr__"))) (kc_NoRing : PySem.W.keepIn K (.ref c_NoRing) = true) (hd_NoRing : PySem.W.hasDictIn K c_NoRing = true) (na_NoRing_paper : PySem.W.findIn K (.ref c_NoRing) "paper" = some none)
  (bg_OnceError : PySem.W.specialIn K (.ref c_OnceError) "__getattribute__" = some (some (.builtin "type.__getattribute__"))) (br_OnceError : PySem.W.readsIn K c_OnceError (.type "type") = true) (bf_OnceError : PySem.W.findCls K (.ref c_OnceError) (.type "type") "__init__" = some (.val (.builtin "ValueError.__init__"))) :
  ∃ fd : FuncData, (∀ (s : Shared) (v : Value), BindsTo s fd ⟨[v], []⟩ [("script", v)]) ∧ ∀ base : Heap, K.In base → base.Ns mainGlobals mg → FnOk l.prog w K mg base (CX2 l.prog w) 8 fa fd ["script"] (spLaw K) := by
 have e := hfa.symm.trans (PySem.W.mg_of X G a_32)
 cases e
 have tt : Txt K mg ⟨c_OnceError, c_NoRing, c_Web, c_BadDeed, c_BadKinds, c_BadRule, c_BadText, c_BadWord, c_NoSuch, c_NotOne, c_TooMany, u_LETTERS, u_LONGEST, u_MOST_OF_A_WEB, u_LONGEST_OF_A_WEB⟩ := ⟨PySem.W.mg_none_of X G z_abs, PySem.W.mg_none_of X G z_isinstance, PySem.W.mg_none_of X G z_len, PySem.W.mg_none_of X G z_list, PySem.W.mg_none_of X G z_range, PySem.W.mg_none_of X G z_set, PySem.W.mg_none_of X G z_sorted, PySem.W.mg_none_of X G z_sum, PySem.W.mg_none_of X G z_tuple, PySem.W.mg_of X G y_OnceError, PySem.W.mg_of X G y_NoRing, PySem.W.mg_of X G y_Web, PySem.W.mg_of X G y_BadDeed, PySem.W.mg_of X G y_BadKinds, PySem.W.mg_of X G y_BadRule, PySem.W.mg_of X G y_BadText, PySem.W.mg_of X G y_BadWord, PySem.W.mg_of X G y_NoSuch, PySem.W.mg_of X G y_NotOne, PySem.W.mg_of X G y_TooMany, ⟨PySem.W.mg_of X G y_BadKinds, e_BadKinds⟩, ⟨PySem.W.mg_of X G y_BadWord, e_BadWord⟩, ⟨PySem.W.mg_of X G y_TooMany, e_TooMany⟩, ⟨PySem.W.mg_of X G y_NoSuch, e_NoSuch⟩, ⟨n1_NoRing, n2_NoRing, n3_NoRing, n4_NoRing, n5_NoRing, n6_NoRing, n7_NoRing, n8_NoRing⟩, PySem.W.mg_of X G g_LETTERS, r_LETTERS, PySem.W.mg_of X G g_LONGEST, r_LONGEST, PySem.W.mg_of X G g_MOST_OF_A_WEB, r_MOST_OF_A_WEB, PySem.W.mg_of X G g_LONGEST_OF_A_WEB, r_LONGEST_OF_A_WEB, q_o, q_b, q_a, ⟨pg_Web, hd_Web, po_Web, sa_Web⟩, na_Web_words, na_Web_length, ⟨_, ei_NoRing, i_NoRing_init, sa_NoRing⟩, hd_NoRing, na_NoRing_paper, ⟨PySem.W.mg_of X G y_OnceError, bg_OnceError, br_OnceError, bf_OnceError⟩⟩
 have F_0 := fun_mk (st := s_looked_kinds) l_0 c_0 k_0
 have b_0 := F_0.binds (ps := ["kinds"]) fun _ _ _ _ _ _ us hl => L2.on1 (C := fun us => bindArgs _ ⟨us, []⟩ = pure (List.zip _ us)) hl fun _ => rfl
 have F_1 := fun_mk (st := s_looked_length) l_1 c_1 k_1
 have b_1 := F_1.binds (ps := ["length", "kinds"]) fun _ _ _ _ _ _ us hl => L2.on2 (C := fun us => bindArgs _ ⟨us, []⟩ = pure (List.zip _ us)) hl fun _ _ => rfl
 have F_2 := fun_mk (st := s_letters) l_2 c_2 k_2
 have b_2 := F_2.binds (ps := ["kinds"]) fun _ _ _ _ _ _ us hl => L2.on1 (C := fun us => bindArgs _ ⟨us, []⟩ = pure (List.zip _ us)) hl fun _ => rfl
 have F_3 := fun_mk (st := s_looked) l_3 c_3 k_3
 have b_3 := F_3.binds (ps := ["word", "kinds"]) fun _ _ _ _ _ _ us hl => L2.on2 (C := fun us => bindArgs _ ⟨us, []⟩ = pure (List.zip _ us)) hl fun _ _ => rfl
 have F_4 := fun_mk (st := s_looked_web) l_4 c_4 k_4
 have b_4 := F_4.binds (ps := ["words"]) fun _ _ _ _ _ _ us hl => L2.on1 (C := fun us => bindArgs _ ⟨us, []⟩ = pure (List.zip _ us)) hl fun _ => rfl
 have F_5 := fun_mk (st := s_Web_init) l_5 c_5 k_5
 have b_5 := F_5.binds (ps := ["self", "words"]) fun _ _ _ _ _ _ us hl => L2.on2 (C := fun us => bindArgs _ ⟨us, []⟩ = pure (List.zip _ us)) hl fun _ _ => rfl
 have F_6 := fun_mk (st := s_NoRing_init) l_6 c_6 k_6
 have b_6 := F_6.binds (ps := ["self", "words", "paper"]) fun _ _ _ _ _ _ us hl => L2.on3 (C := fun us => bindArgs _ ⟨us, []⟩ = pure (List.zip _ us)) hl fun _ _ _ => rfl
 have F_7 := fun_mk (st := s_begin_of) l_7 c_7 k_7
 have b_7 := F_7.binds (ps := ["word"]) fun _ _ _ _ _ _ us hl => L2.on1 (C := fun us => bindArgs _ ⟨us, []⟩ = pure (List.zip _ us)) hl fun _ => rfl
 have F_8 := fun_mk (st := s_end_of) l_8 c_8 k_8
 have b_8 := F_8.binds (ps := ["word"]) fun _ _ _ _ _ _ us hl => L2.on1 (C := fun us => bindArgs _ ⟨us, []⟩ = pure (List.zip _ us)) hl fun _ => rfl
 have F_9 := fun_mk (st := s_pieces) l_9 c_9 k_9
 have b_9 := F_9.binds (ps := ["web"]) fun _ _ _ _ _ _ us hl => L2.on1 (C := fun us => bindArgs _ ⟨us, []⟩ = pure (List.zip _ us)) hl fun _ => rfl
 have F_10 := fun_mk (st := s_excess) l_10 c_10 k_10
 have b_10 := F_10.binds (ps := ["web", "some"]) fun _ _ _ _ _ _ us hl => L2.on2 (C := fun us => bindArgs _ ⟨us, []⟩ = pure (List.zip _ us)) hl fun _ _ => rfl
 have F_11 := fun_mk (st := s_hanging_by) l_11 c_11 k_11
 have b_11 := F_11.binds (ps := ["words", "piece"]) fun _ _ _ _ _ _ us hl => L2.on2 (C := fun us => bindArgs _ ⟨us, []⟩ = pure (List.zip _ us)) hl fun _ _ => rfl
 have F_12 := fun_mk (st := s_hanging) l_12 c_12 k_12
 have b_12 := F_12.binds (ps := ["web", "piece"]) fun _ _ _ _ _ _ us hl => L2.on2 (C := fun us => bindArgs _ ⟨us, []⟩ = pure (List.zip _ us)) hl fun _ _ => rfl
 have F_13 := fun_mk (st := s_is_right_made) l_13 c_13 k_13
 have b_13 := F_13.binds (ps := ["web", "some"]) fun _ _ _ _ _ _ us hl => L2.on2 (C := fun us => bindArgs _ ⟨us, []⟩ = pure (List.zip _ us)) hl fun _ _ => rfl
 have F_14 := fun_mk (st := s_is_apart) l_14 c_14 k_14
 have b_14 := F_14.binds (ps := ["web", "some"]) fun _ _ _ _ _ _ us hl => L2.on2 (C := fun us => bindArgs _ ⟨us, []⟩ = pure (List.zip _ us)) hl fun _ _ => rfl
 have F_15 := fun_mk (st := s_shows_no_row) l_15 c_15 k_15
 have b_15 := F_15.binds (ps := ["web", "paper"]) fun _ _ _ _ _ _ us hl => L2.on2 (C := fun us => bindArgs _ ⟨us, []⟩ = pure (List.zip _ us)) hl fun _ _ => rfl
 have F_16 := fun_mk (st := s_why_apart) l_16 c_16 k_16
 have b_16 := F_16.binds (ps := ["web"]) fun _ _ _ _ _ _ us hl => L2.on1 (C := fun us => bindArgs _ ⟨us, []⟩ = pure (List.zip _ us)) hl fun _ => rfl
 have F_17 := fun_mk (st := s_why_no_ring) l_17 c_17 k_17
 have b_17 := F_17.binds (ps := ["web"]) fun _ _ _ _ _ _ us hl => L2.on1 (C := fun us => bindArgs _ ⟨us, []⟩ = pure (List.zip _ us)) hl fun _ => rfl
 have F_18 := fun_mk (st := s_why_no_row) l_18 c_18 k_18
 have b_18 := F_18.binds (ps := ["web"]) fun _ _ _ _ _ _ us hl => L2.on1 (C := fun us => bindArgs _ ⟨us, []⟩ = pure (List.zip _ us)) hl fun _ => rfl
 have F_19 := fun_mk (st := s_row_ends) l_19 c_19 k_19
 have b_19 := F_19.binds (ps := ["web"]) fun _ _ _ _ _ _ us hl => L2.on1 (C := fun us => bindArgs _ ⟨us, []⟩ = pure (List.zip _ us)) hl fun _ => rfl
 have F_20 := fun_mk (st := s__law_cell_at) l_20 c_20 k_20
 have b_20 := F_20.binds (ps := ["script", "k"]) fun _ _ _ _ _ _ us hl => L2.on2 (C := fun us => bindArgs _ ⟨us, []⟩ = pure (List.zip _ us)) hl fun _ _ => rfl
 have F_21 := fun_mk (st := s__law_walk) l_21 c_21 k_21
 have b_21 := F_21.binds (ps := ["cells", "kinds", "first"]) fun _ _ _ _ _ _ us hl => L2.on3 (C := fun us => bindArgs _ ⟨us, []⟩ = pure (List.zip _ us)) hl fun _ _ _ => rfl
 have F_22 := fun_mk (st := s__law_ring_words) l_22 c_22 k_22
 have b_22 := F_22.binds (ps := ["script", "at", "most"]) fun _ _ _ _ _ _ us hl => L2.on3 (C := fun us => bindArgs _ ⟨us, []⟩ = pure (List.zip _ us)) hl fun _ _ _ => rfl
 have F_23 := fun_mk (st := s__law_every) l_23 c_23 k_23
 have b_23 := F_23.binds (ps := ["kinds", "length"]) fun _ _ _ _ _ _ us hl => L2.on2 (C := fun us => bindArgs _ ⟨us, []⟩ = pure (List.zip _ us)) hl fun _ _ => rfl
 have F_24 := fun_mk (st := s__law_digit_words) l_24 c_24 k_24
 have b_24 := F_24.binds (ps := ["cell", "most"]) fun _ _ _ _ _ _ us hl => L2.on2 (C := fun us => bindArgs _ ⟨us, []⟩ = pure (List.zip _ us)) hl fun _ _ => rfl
 have F_25 := fun_mk (st := s__law_some_words) l_25 c_25 k_25
 have b_25 := F_25.binds (ps := ["script", "at", "most"]) fun _ _ _ _ _ _ us hl => L2.on3 (C := fun us => bindArgs _ ⟨us, []⟩ = pure (List.zip _ us)) hl fun _ _ _ => rfl
 have F_26 := fun_mk (st := s__law_degrees) l_26 c_26 k_26
 have b_26 := F_26.binds (ps := ["words"]) fun _ _ _ _ _ _ us hl => L2.on1 (C := fun us => bindArgs _ ⟨us, []⟩ = pure (List.zip _ us)) hl fun _ => rfl
 have F_27 := fun_mk (st := s__law_hangs) l_27 c_27 k_27
 have b_27 := F_27.binds (ps := ["words", "first"]) fun _ _ _ _ _ _ us hl => L2.on2 (C := fun us => bindArgs _ ⟨us, []⟩ = pure (List.zip _ us)) hl fun _ _ => rfl
 have F_28 := fun_mk (st := s__law_two_webs) l_28 c_28 k_28
 have b_28 := F_28.binds (ps := ["script"]) fun _ _ _ _ _ _ us hl => L2.on1 (C := fun us => bindArgs _ ⟨us, []⟩ = pure (List.zip _ us)) hl fun _ => rfl
 have F_29 := fun_mk (st := s__law_due) l_29 c_29 k_29
 have b_29 := F_29.binds (ps := ["words"]) fun _ _ _ _ _ _ us hl => L2.on1 (C := fun us => bindArgs _ ⟨us, []⟩ = pure (List.zip _ us)) hl fun _ => rfl
 have F_30 := fun_mk (st := s__law_refusal) l_30 c_30 k_30
 have b_30 := F_30.binds (ps := ["web"]) fun _ _ _ _ _ _ us hl => L2.on1 (C := fun us => bindArgs _ ⟨us, []⟩ = pure (List.zip _ us)) hl fun _ => rfl
 have F_31 := fun_mk (st := s__law_trail) l_31 c_31 k_31
 have b_31 := F_31.binds (ps := ["script"]) fun _ _ _ _ _ _ us hl => L2.on1 (C := fun us => bindArgs _ ⟨us, []⟩ = pure (List.zip _ us)) hl fun _ => rfl
 have F_32 := fun_mk (st := s_law) l_32 c_32 k_32
 refine ⟨PySem.W.fnOf "law" "law" (defArgs s_law) (defBody s_law) (defScope s_law) .none kV_32 dc_32 pm_32 an_32 cd_32 ct_32, fun s v => .of_eq rfl, fun base _ _ => ?_⟩
 have C_0 : Cal l.prog w K mg base (CX2 l.prog w) "looked_kinds" 1 ["kinds"] (spKindsX _) := ⟨⟨_, _, ok_looked_kinds F_0 tt, PySem.W.mg_of X G a_0, F_0.kp, b_0⟩⟩
 have C_1 : Cal l.prog w K mg base (CX2 l.prog w) "looked_length" 2 ["length", "kinds"] (spLenX _) := ⟨⟨_, _, ok_looked_length F_1 tt C_0, PySem.W.mg_of X G a_1, F_1.kp, b_1⟩⟩
 have C_2 : Cal l.prog w K mg base (CX2 l.prog w) "letters" 2 ["kinds"] (spLettersX _) := ⟨⟨_, _, ok_letters F_2 tt C_0, PySem.W.mg_of X G a_2, F_2.kp, b_2⟩⟩
 have C_3 : Cal l.prog w K mg base (CX2 l.prog w) "looked" 3 ["word", "kinds"] (spLookedX _) := ⟨⟨_, _, ok_looked F_3 tt C_1 C_2, PySem.W.mg_of X G a_3, F_3.kp, b_3⟩⟩
 have C_4 : Cal l.prog w K mg base (CX2 l.prog w) "looked_web" 4 ["words"] (spWebL K) := ⟨⟨_, _, ok_looked_web F_4 tt C_3, PySem.W.mg_of X G a_4, F_4.kp, b_4⟩⟩
 have C_5 : Cam l.prog w K mg base (CX2 l.prog w) "Web" c_Web 5 ["self", "words"] (spWebI K _) := ⟨⟨_, _, ok_Web_init F_5 tt C_4, ⟨mk_Web, a_5, i_Web_init, kc_Web⟩, PySem.W.mg_of X G y_Web, b_5⟩⟩
 have C_6 : Cxi l.prog w K mg base "NoRing" c_NoRing "paper" 1 ["self", "words", "paper"] := ⟨⟨_, _, ok_NoRing_init F_6 tt, ⟨ei_NoRing, i_NoRing_init, sa_NoRing⟩, PySem.W.mg_of X G y_NoRing, kc_NoRing, b_6⟩⟩
 have C_7 : Cal l.prog w K mg base (CX2 l.prog w) "begin_of" 1 ["word"] spBegin := ⟨⟨_, _, ok_begin_of F_7 tt, PySem.W.mg_of X G a_7, F_7.kp, b_7⟩⟩
 have C_8 : Cal l.prog w K mg base (CX2 l.prog w) "end_of" 1 ["word"] spEnd := ⟨⟨_, _, ok_end_of F_8 tt, PySem.W.mg_of X G a_8, F_8.kp, b_8⟩⟩
 have C_9 : Cal l.prog w K mg base (CX2 l.prog w) "pieces" 2 ["web"] (spPieces c_Web) := ⟨⟨_, _, ok_pieces F_9 tt C_7 C_8, PySem.W.mg_of X G a_9, F_9.kp, b_9⟩⟩
 have C_10 : Cal l.prog w K mg base (CX2 l.prog w) "excess" 2 ["web", "some"] (spExcess K c_Web) := ⟨⟨_, _, ok_excess F_10 tt C_7 C_8, PySem.W.mg_of X G a_10, F_10.kp, b_10⟩⟩
 have C_11 : Cal l.prog w K mg base (CX2 l.prog w) "hanging_by" 2 ["words", "piece"] (spHBy K) := ⟨⟨_, _, ok_hanging_by F_11 tt C_7 C_8, PySem.W.mg_of X G a_11, F_11.kp, b_11⟩⟩
 have C_12 : Cal l.prog w K mg base (CX2 l.prog w) "hanging" 3 ["web", "piece"] (spHang c_Web _) := ⟨⟨_, _, ok_hanging F_12 tt C_9 C_11, PySem.W.mg_of X G a_12, F_12.kp, b_12⟩⟩
 have C_13 : Cal l.prog w K mg base (CX2 l.prog w) "is_right_made" 3 ["web", "some"] (spRM K c_Web) := ⟨⟨_, _, ok_is_right_made F_13 tt C_9, PySem.W.mg_of X G a_13, F_13.kp, b_13⟩⟩
 have C_14 : Cal l.prog w K mg base (CX2 l.prog w) "is_apart" 3 ["web", "some"] (spAp K c_Web) := ⟨⟨_, _, ok_is_apart F_14 tt C_9 C_7 C_8, PySem.W.mg_of X G a_14, F_14.kp, b_14⟩⟩
 have C_15 : Cal l.prog w K mg base (CX2 l.prog w) "shows_no_row" 4 ["web", "paper"] (spShow K c_Web 1) := ⟨⟨_, _, ok_shows_no_row F_15 tt C_13 C_10 C_14, PySem.W.mg_of X G a_15, F_15.kp, b_15⟩⟩
 have C_16 : Cal l.prog w K mg base (CX2 l.prog w) "why_apart" 4 ["web"] (spWhyA c_Web) := ⟨⟨_, _, ok_why_apart F_16 tt C_9 C_12, PySem.W.mg_of X G a_16, F_16.kp, b_16⟩⟩
 have C_17 : Cal l.prog w K mg base (CX2 l.prog w) "why_no_ring" 5 ["web"] (spWhyR c_Web) := ⟨⟨_, _, ok_why_no_ring F_17 tt C_9 C_10 C_16, PySem.W.mg_of X G a_17, F_17.kp, b_17⟩⟩
 have C_18 : Cal l.prog w K mg base (CX2 l.prog w) "why_no_row" 5 ["web"] (spWhyW c_Web) := ⟨⟨_, _, ok_why_no_row F_18 tt C_9 C_10 C_16, PySem.W.mg_of X G a_18, F_18.kp, b_18⟩⟩
 have C_19 : Cal l.prog w K mg base (CX2 l.prog w) "row_ends" 6 ["web"] (spEnds c_Web _) := ⟨⟨_, _, ok_row_ends F_19 tt C_6 C_18 C_17 C_9 C_10, PySem.W.mg_of X G a_19, F_19.kp, b_19⟩⟩
 have C_20 : Cal l.prog w K mg base (CX2 l.prog w) "_law_cell_at" 1 ["script", "k"] (spCell K) := ⟨⟨_, _, ok__law_cell_at F_20 tt, PySem.W.mg_of X G a_20, F_20.kp, b_20⟩⟩
 have C_21 : Cal l.prog w K mg base (CX2 l.prog w) "_law_walk" 1 ["cells", "kinds", "first"] (spWalk K) := ⟨⟨_, _, ok__law_walk F_21 tt, PySem.W.mg_of X G a_21, F_21.kp, b_21⟩⟩
 have C_22 : Cal l.prog w K mg base (CX2 l.prog w) "_law_ring_words" 2 ["script", "at", "most"] (spRingWd K) := ⟨⟨_, _, ok__law_ring_words F_22 tt C_20 C_21, PySem.W.mg_of X G a_22, F_22.kp, b_22⟩⟩
 have C_23 : Cal l.prog w K mg base (CX2 l.prog w) "_law_every" 1 ["kinds", "length"] spEvery := ⟨⟨_, _, ok__law_every F_23 tt, PySem.W.mg_of X G a_23, F_23.kp, b_23⟩⟩
 have C_24 : Cal l.prog w K mg base (CX2 l.prog w) "_law_digit_words" 2 ["cell", "most"] spDigit := ⟨⟨_, _, ok__law_digit_words F_24 tt C_23, PySem.W.mg_of X G a_24, F_24.kp, b_24⟩⟩
 have C_25 : Cal l.prog w K mg base (CX2 l.prog w) "_law_some_words" 3 ["script", "at", "most"] (spSomeW K) := ⟨⟨_, _, ok__law_some_words F_25 tt C_20 C_22 C_24, PySem.W.mg_of X G a_25, F_25.kp, b_25⟩⟩
 have C_26 : Cal l.prog w K mg base (CX2 l.prog w) "_law_degrees" 1 ["words"] (spDegs K) := ⟨⟨_, _, ok__law_degrees F_26 tt, PySem.W.mg_of X G a_26, F_26.kp, b_26⟩⟩
 have C_27 : Cal l.prog w K mg base (CX2 l.prog w) "_law_hangs" 1 ["words", "first"] (spHangs K) := ⟨⟨_, _, ok__law_hangs F_27 tt, PySem.W.mg_of X G a_27, F_27.kp, b_27⟩⟩
 have C_28 : Cal l.prog w K mg base (CX2 l.prog w) "_law_two_webs" 4 ["script"] (spTwo K) := ⟨⟨_, _, ok__law_two_webs F_28 tt C_20 C_21 C_25, PySem.W.mg_of X G a_28, F_28.kp, b_28⟩⟩
 have C_29 : Cal l.prog w K mg base (CX2 l.prog w) "_law_due" 2 ["words"] (spDue K) := ⟨⟨_, _, ok__law_due F_29 tt C_26 C_27, PySem.W.mg_of X G a_29, F_29.kp, b_29⟩⟩
 have C_30 : Cal l.prog w K mg base (CX2 l.prog w) "_law_refusal" 7 ["web"] (spRefusal c_Web) := ⟨⟨_, _, ok__law_refusal F_30 tt C_19, PySem.W.mg_of X G a_30, F_30.kp, b_30⟩⟩
 have C_31 : Cal l.prog w K mg base (CX2 l.prog w) "_law_trail" 2 ["script"] (spTrail K) := ⟨⟨_, _, ok__law_trail F_31 tt C_20 C_21, PySem.W.mg_of X G a_31, F_31.kp, b_31⟩⟩
 exact ok_law F_32 tt C_28 C_20 C_31 C_5 C_29 C_18 C_15 C_30 C_26 C_19
theorem walk {l : PySem.W.OpenLaw} {q : Program} {loose : List Str} {XP : (Str → Option Value) → Heap → Prop} {YP : World → Heap → Prop} {d : DefRec} {K : Params → PySem.W.Frag} (hn : l.most = some 63) (hdf : d.params.defaults = [])
  (hY : ∀ (w : World) (h : Heap), YP w h → (K w.params).In h)
  (F : ∀ (w : World) (mg : Str → Option Value) (fa : Addr) (h : Heap), (K w.params).In h → h.Ns mainGlobals mg → mg d.name = some (.ref fa) →
   ∃ fd : FuncData, (∀ (s : Shared) (u : Value), BindsTo s fd ⟨[u], []⟩ [("script", u)]) ∧ ∀ base : Heap, (K w.params).In base → base.Ns mainGlobals mg → FnOk l.prog w (K w.params) mg base (CX2 l.prog w) 8 fa fd ["script"] (spLaw (K w.params))) :
  PySem.W.WalkO q loose XP YP l.row.toRowW d [] (fun f vs => PySem.call f vs) :=
 L2.walk_of (n := 63) (k := 8) (x := "script") (CX := fun w => CX2 l.prog w) (sp := fun w => spLaw (K w.params)) hn (by decide) hdf ⟨rfl, by decide, by decide⟩ hY F (fun _ _ a ns hl _ hS => ⟨a, ns, rfl, hS, hl, fun _ => rfl⟩) fun _ _ _ _ _ ⟨_, _, _, _, _, _, _, z⟩ => z
end K21
theorem PySem.W.Fast.tw2614994160677021920 : True := trivial
theorem PySem.W.Fast.tw13297998547677817216 : True := trivial
theorem PySem.W.Fast.tw6802739092734563904 : True := trivial
theorem PySem.W.Fast.tw5630447253063127872 : True := trivial
theorem PySem.W.Fast.tw4559784812858230785 : True := trivial
theorem PySem.W.Fast.tw5374780136288434305 : True := trivial
theorem PySem.W.Fast.tw17953225541643412897 : True := trivial
theorem PySem.W.Fast.tw3693004718082661889 : True := trivial
theorem PySem.W.Fast.tw16403295030257848897 : True := trivial
theorem PySem.W.Fast.tw11397820673982290497 : True := trivial
theorem PySem.W.Fast.tw14565670232834651841 : True := trivial
theorem PySem.W.Fast.tw3370469721168828161 : True := trivial
theorem PySem.W.Fast.tw5534043198084211457 : True := trivial
theorem PySem.W.Fast.tw8085328937837751394 : True := trivial
theorem PySem.W.Fast.tw5137324653588571394 : True := trivial
theorem PySem.W.Fast.tw2252102261927816546 : True := trivial
theorem PySem.W.Fast.tw2575188413642989795 : True := trivial
theorem PySem.W.Fast.tw13780773500874390947 : True := trivial
theorem PySem.W.Fast.tw14679210193139017347 : True := trivial
theorem PySem.W.Fast.tw4759986923897808835 : True := trivial
theorem PySem.W.Fast.tw3236175883783320676 : True := trivial
theorem PySem.W.Fast.tw16614412626802279556 : True := trivial
theorem PySem.W.Fast.tw3357330751917443396 : True := trivial
theorem PySem.W.Fast.tw10884224310810168836 : True := trivial
theorem PySem.W.Fast.tw15349829770424878788 : True := trivial
theorem PySem.W.Fast.tw1109097981813171940 : True := trivial
theorem PySem.W.Fast.tw11482705208712242948 : True := trivial
theorem PySem.W.Fast.tw14473622598546139972 : True := trivial
theorem PySem.W.Fast.tw2134461926748418020 : True := trivial
theorem PySem.W.Fast.tw7387344506565440517 : True := trivial
theorem PySem.W.Fast.tw14092732761331580005 : True := trivial
theorem PySem.W.Fast.tw6419243504402961605 : True := trivial
theorem PySem.W.Fast.tw9511119439878432133 : True := trivial
theorem PySem.W.Fast.tw11421753933070100165 : True := trivial
theorem PySem.W.Fast.tw9986699142075598693 : True := trivial
theorem PySem.W.Fast.tw2898146658030487718 : True := trivial
theorem PySem.W.Fast.tw5355543255345574343 : True := trivial
theorem PySem.W.Fast.tw10826821942986847751 : True := trivial
theorem PySem.W.Fast.tw4021115755979580935 : True := trivial
theorem PySem.W.Fast.tw9504165594114966247 : True := trivial
theorem PySem.W.Fast.tw14167925800718140327 : True := trivial
theorem PySem.W.Fast.tw4614578629744612295 : True := trivial
theorem PySem.W.Fast.tw16197872930398127400 : True := trivial
theorem PySem.W.Fast.tw13526453426868652360 : True := trivial
theorem PySem.W.Fast.tw13479586131699155560 : True := trivial
theorem PySem.W.Fast.tw1001456179206203016 : True := trivial
theorem PySem.W.Fast.tw13851524671890775720 : True := trivial
theorem PySem.W.Fast.tw2486315443284339432 : True := trivial
theorem PySem.W.Fast.tw7657214696282489608 : True := trivial
theorem PySem.W.Fast.tw18429793783889008905 : True := trivial
theorem PySem.W.Fast.tw2785892081084043561 : True := trivial
theorem PySem.W.Fast.tw12819837527882129737 : True := trivial
theorem PySem.W.Fast.tw16612647077321893289 : True := trivial
theorem PySem.W.Fast.tw4232444484642024233 : True := trivial
theorem PySem.W.Fast.tw10109270541366329578 : True := trivial
theorem PySem.W.Fast.tw14772521653429167658 : True := trivial
theorem PySem.W.Fast.tw15873877960212485866 : True := trivial
theorem PySem.W.Fast.tw5624865099351743434 : True := trivial
theorem PySem.W.Fast.tw2271528818892918827 : True := trivial
theorem PySem.W.Fast.tw12439753293932316875 : True := trivial
theorem PySem.W.Fast.tw5600183559081878763 : True := trivial
theorem PySem.W.Fast.tw13393761640423680235 : True := trivial
theorem PySem.W.Fast.tw16591945213228379595 : True := trivial
theorem PySem.W.Fast.tw11538158375764704811 : True := trivial
theorem PySem.W.Fast.tw1113410456117416555 : True := trivial
theorem PySem.W.Fast.tw8734111133917622251 : True := trivial
theorem PySem.W.Fast.tw6092185545437545516 : True := trivial
theorem PySem.W.Fast.tw11920285926948340812 : True := trivial
theorem PySem.W.Fast.tw17542791289971357004 : True := trivial
theorem PySem.W.Fast.tw14919359660266558892 : True := trivial
theorem PySem.W.Fast.tw8609014797543834188 : True := trivial
theorem PySem.W.Fast.tw12697602180459522860 : True := trivial
theorem PySem.W.Fast.tw1021465974383981613 : True := trivial
theorem PySem.W.Fast.tw4346796896801146925 : True := trivial
theorem PySem.W.Fast.tw5632794275993223245 : True := trivial
theorem PySem.W.Fast.tw16333296427063648333 : True := trivial
theorem PySem.W.Fast.tw4339808332877385837 : True := trivial
theorem PySem.W.Fast.tw3206287274435284237 : True := trivial
theorem PySem.W.Fast.tw6594876481919400301 : True := trivial
theorem PySem.W.Fast.tw12554116518286215629 : True := trivial
theorem PySem.W.Fast.tw10081362326606473709 : True := trivial
theorem PySem.W.Fast.tw15734440855262424589 : True := trivial
theorem PySem.W.Fast.tw16644352094579345005 : True := trivial
theorem PySem.W.Fast.tw2097855837894793837 : True := trivial
theorem PySem.W.Fast.tw9995399873517467373 : True := trivial
theorem PySem.W.Fast.tw10820188836523622157 : True := trivial
theorem PySem.W.Fast.tw333577295332964109 : True := trivial
theorem PySem.W.Fast.tw10859126025672434509 : True := trivial
theorem PySem.W.Fast.tw11533155223239181165 : True := trivial
theorem PySem.W.Fast.tw17673011738886240205 : True := trivial
theorem PySem.W.Fast.tw4915021627265219565 : True := trivial
theorem PySem.W.Fast.tw1917148989268664526 : True := trivial
theorem PySem.W.Fast.tw3547187681390255470 : True := trivial
theorem PySem.W.Fast.tw7262724593046052334 : True := trivial
theorem PySem.W.Fast.tw7065776055409912879 : True := trivial
theorem PySem.W.Fast.tw698339810745435759 : True := trivial
theorem PySem.W.Fast.tw13427763383172137615 : True := trivial
theorem PySem.W.Fast.tw15726200452489425679 : True := trivial
theorem PySem.W.Fast.tw7924442252125211888 : True := trivial
theorem PySem.W.Fast.tw11539855366413635056 : True := trivial
theorem PySem.W.Fast.tw10306801860325898736 : True := trivial
theorem PySem.W.Fast.tw11524017733677690512 : True := trivial
theorem PySem.W.Fast.tw906724862385296336 : True := trivial
theorem PySem.W.Fast.tw14071052481573966161 : True := trivial
theorem PySem.W.Fast.tw13988543823611463409 : True := trivial
theorem PySem.W.Fast.tw10936644744546128753 : True := trivial
theorem PySem.W.Fast.tw2831977247096808594 : True := trivial
theorem PySem.W.Fast.tw18110731365978751282 : True := trivial
theorem PySem.W.Fast.tw15011272971526357426 : True := trivial
theorem PySem.W.Fast.tw12896906298765318866 : True := trivial
theorem PySem.W.Fast.tw5402564845005624819 : True := trivial
theorem PySem.W.Fast.tw1901647815473087123 : True := trivial
theorem PySem.W.Fast.tw9343815036080002867 : True := trivial
theorem PySem.W.Fast.tw15425903469943837491 : True := trivial
theorem PySem.W.Fast.tw11875447651318923091 : True := trivial
theorem PySem.W.Fast.tw15918671828883349684 : True := trivial
theorem PySem.W.Fast.tw11378682997040811668 : True := trivial
theorem PySem.W.Fast.tw14774054097852231444 : True := trivial
theorem PySem.W.Fast.tw17477679348360658836 : True := trivial
theorem PySem.W.Fast.tw812805239309327445 : True := trivial
theorem PySem.W.Fast.tw6245903682842287221 : True := trivial
theorem PySem.W.Fast.tw1879208182997542133 : True := trivial
theorem PySem.W.Fast.tw8295492168668965269 : True := trivial
theorem PySem.W.Fast.tw3852423988550014549 : True := trivial
theorem PySem.W.Fast.tw7023287128571910773 : True := trivial
theorem PySem.W.Fast.tw6371250653431714517 : True := trivial
theorem PySem.W.Fast.tw11545146600194438037 : True := trivial
theorem PySem.W.Fast.tw2691996193815900085 : True := trivial
theorem PySem.W.Fast.tw12309782859939419125 : True := trivial
theorem PySem.W.Fast.tw11432775140582870005 : True := trivial
theorem PySem.W.Fast.tw1683973594342176982 : True := trivial
theorem PySem.W.Fast.tw12380208574487749910 : True := trivial
theorem PySem.W.Fast.tw9107637697215975766 : True := trivial
theorem PySem.W.Fast.tw12717284314971393398 : True := trivial
theorem PySem.W.Fast.tw14975870116473720246 : True := trivial
theorem PySem.W.Fast.tw9423186225596428790 : True := trivial
theorem PySem.W.Fast.tw18309003499909834390 : True := trivial
theorem PySem.W.Fast.tw2407750233371605686 : True := trivial
theorem PySem.W.Fast.tw108167102716893910 : True := trivial
theorem PySem.W.Fast.tw13217119489996435190 : True := trivial
theorem PySem.W.Fast.tw5111794996938522614 : True := trivial
theorem PySem.W.Fast.tw16611764241726283863 : True := trivial
theorem PySem.W.Fast.tw18445652247285110935 : True := trivial
theorem PySem.W.Fast.tw18398222843926951223 : True := trivial
theorem PySem.W.Fast.tw4924263582936823000 : True := trivial
theorem PySem.W.Fast.tw2568116841265734904 : True := trivial
theorem PySem.W.Fast.tw4967131322574587672 : True := trivial
theorem PySem.W.Fast.te3347740748552786776 : True := trivial
theorem PySem.W.Fast.tw12588638846935569272 : True := trivial
theorem PySem.W.Fast.tw5071758388105913240 : True := trivial
theorem PySem.W.Fast.tw4297553582873194521 : True := trivial
theorem PySem.W.Fast.tw9296152581697732505 : True := trivial
theorem PySem.W.Fast.tw4891347513166393754 : True := trivial
theorem PySem.W.Fast.tw16152006611047924218 : True := trivial
theorem PySem.W.Fast.tw16309704082184622714 : True := trivial
theorem PySem.W.Fast.tw281978586398091930 : True := trivial
theorem PySem.W.Fast.tw8244702946874293146 : True := trivial
theorem PySem.W.Fast.tw314174006200357882 : True := trivial
theorem PySem.W.Fast.tw13557904295002775579 : True := trivial
theorem PySem.W.Fast.tw4314869341463980059 : True := trivial
theorem PySem.W.Fast.tw8921312849100549147 : True := trivial
theorem PySem.W.Fast.tw14617849963209695323 : True := trivial
theorem PySem.W.Fast.tw1372137103668250779 : True := trivial
theorem PySem.W.Fast.tw2751646494141151579 : True := trivial
theorem PySem.W.Fast.tw13295000142572758491 : True := trivial
theorem PySem.W.Fast.tw8490240366623798747 : True := trivial
theorem PySem.W.Fast.tw9388086192459279899 : True := trivial
theorem PySem.W.Fast.tw3962161508938809051 : True := trivial
theorem PySem.W.Fast.tw8428857938704289627 : True := trivial
theorem PySem.W.Fast.tw12404648100504962971 : True := trivial
theorem PySem.W.Fast.tw13762614425115012059 : True := trivial
theorem PySem.W.Fast.tw11275997536159450107 : True := trivial
theorem PySem.W.Fast.tw10698584918733117596 : True := trivial
theorem PySem.W.Fast.tw672233350189194460 : True := trivial
theorem PySem.W.Fast.tw3818691001188030780 : True := trivial
theorem PySem.W.Fast.tw9414426779267553820 : True := trivial
theorem PySem.W.Fast.tw7433869778333191900 : True := trivial
theorem PySem.W.Fast.tw2957859833898557212 : True := trivial
theorem PySem.W.Fast.tw4436076960002437948 : True := trivial
theorem PySem.W.Fast.tw8076627685296535484 : True := trivial
theorem PySem.W.Fast.tw1906230962055125980 : True := trivial
theorem PySem.W.Fast.tw2301523655962060764 : True := trivial
theorem PySem.W.Fast.tw18251237687483072573 : True := trivial
theorem PySem.W.Fast.tw9356797709980428605 : True := trivial
theorem PySem.W.Fast.tw7697526466320597501 : True := trivial
theorem PySem.W.Fast.tw10529130103829429757 : True := trivial
theorem PySem.W.Fast.tw17752745727834805149 : True := trivial
theorem PySem.W.Fast.tw4122352073434681341 : True := trivial
theorem PySem.W.Fast.tw14572837514088900766 : True := trivial
theorem PySem.W.Fast.tw13281107852932124382 : True := trivial
theorem PySem.W.Fast.tw12404920290538618718 : True := trivial
theorem PySem.W.Fast.tw9814727175475823614 : True := trivial
theorem PySem.W.Fast.tw9513748884721037375 : True := trivial
theorem PySem.W.Fast.tw9813319305213570303 : True := trivial
theorem PySem.W.Fast.tw6058200837965050111 : True := trivial
theorem PySem.W.Fast.tw11043992613677351327 : True := trivial
theorem PySem.W.Fast.tw2569796486402471711 : True := trivial
theorem PySem.W.Fast.tw18106227163195329407 : True := trivial
def PySem.W.Fast.tw1307304620455678293 := PySem.Challenge.pw_onceround_k21_whole_row_ends
theorem PySem.W.Fast.te1307304620455678293 : PySem.Challenge.pw_onceround_k21_whole_row_ends = PySem.W.Fast.tw1307304620455678293 := rfl
open PySem PySem.W PyProof.Rows
set_option maxRecDepth 100000 in
set_option maxHeartbeats 0 in
theorem PySem.Challenge.cw_onceround_k21_whole_row_ends_holds : PySem.Challenge.rw_onceround_k21_whole_row_ends.Holds := by
  w_on; o_law; k_head; (case hw => w_witness2)
  k_fill
  refine K21.walk (l := PySem.Challenge.rw_onceround_k21_whole_row_ends) rfl rfl (fun w h Y => PySem.W.kIn_of Y) ?F
  case F =>
    intro w mg fa h KX G hmg
    refine' K21.all_mk KX G hmg ?a_0 ?l_0 ?c_0 ?k_0 ?a_1 ?l_1 ?c_1 ?k_1 ?a_2 ?l_2 ?c_2 ?k_2 ?a_3 ?l_3 ?c_3 ?k_3 ?a_4 ?l_4 ?c_4 ?k_4 ?a_5 ?l_5 ?c_5 ?k_5 ?i_Web_init ?a_6 ?l_6 ?c_6 ?k_6 ?i_NoRing_init ?a_7 ?l_7 ?c_7 ?k_7 ?a_8 ?l_8 ?c_8 ?k_8 ?a_9 ?l_9 ?c_9 ?k_9 ?a_10 ?l_10 ?c_10 ?k_10 ?a_11 ?l_11 ?c_11 ?k_11 ?a_12 ?l_12 ?c_12 ?k_12 ?a_13 ?l_13 ?c_13 ?k_13 ?a_14 ?l_14 ?c_14 ?k_14 ?a_15 ?l_15 ?c_15 ?k_15 ?a_16 ?l_16 ?c_16 ?k_16 ?a_17 ?l_17 ?c_17 ?k_17 ?a_18 ?l_18 ?c_18 ?k_18 ?a_19 ?l_19 ?c_19 ?k_19 ?a_20 ?l_20 ?c_20 ?k_20 ?a_21 ?l_21 ?c_21 ?k_21 ?a_22 ?l_22 ?c_22 ?k_22 ?a_23 ?l_23 ?c_23 ?k_23 ?a_24 ?l_24 ?c_24 ?k_24 ?a_25 ?l_25 ?c_25 ?k_25 ?a_26 ?l_26 ?c_26 ?k_26 ?a_27 ?l_27 ?c_27 ?k_27 ?a_28 ?l_28 ?c_28 ?k_28 ?a_29 ?l_29 ?c_29 ?k_29 ?a_30 ?l_30 ?c_30 ?k_30 ?a_31 ?l_31 ?c_31 ?k_31 ?a_32 ?l_32 ?c_32 ?k_32 ?z_abs ?z_isinstance ?z_len ?z_list ?z_range ?z_set ?z_sorted ?z_sum ?z_tuple ?y_OnceError ?y_NoRing ?y_Web ?y_BadDeed ?y_BadKinds ?y_BadRule ?y_BadText ?y_BadWord ?y_NoSuch ?y_NotOne ?y_TooMany ?e_BadKinds ?e_BadWord ?e_TooMany ?e_NoSuch ?n1_NoRing ?n2_NoRing ?n3_NoRing ?n4_NoRing ?n5_NoRing ?n6_NoRing ?n7_NoRing ?n8_NoRing ?g_LETTERS ?r_LETTERS ?g_LONGEST ?r_LONGEST ?g_MOST_OF_A_WEB ?r_MOST_OF_A_WEB ?g_LONGEST_OF_A_WEB ?r_LONGEST_OF_A_WEB ?q_o ?q_b ?q_a ?pg_Web ?hd_Web ?po_Web ?sa_Web ?mk_Web ?kc_Web ?na_Web_words ?na_Web_length ?ei_NoRing ?sa_NoRing ?kc_NoRing ?hd_NoRing ?na_NoRing_paper ?bg_OnceError ?br_OnceError ?bf_OnceError
    (case y_OnceError => k_is)
    (case y_NoRing => k_is)
    (case y_Web => k_is)
    (case a_0 => k_is)
    (case l_0 => k_is)
    (case c_0 => k_is)
    (case k_0 => k_is)
    (case a_1 => k_is)
    (case l_1 => k_is)
    (case c_1 => k_is)
    (case k_1 => k_is)
    (case a_2 => k_is)
    (case l_2 => k_is)
    (case c_2 => k_is)
    (case k_2 => k_is)
    (case a_3 => k_is)
    (case l_3 => k_is)
    (case c_3 => k_is)
    (case k_3 => k_is)
    (case a_4 => k_is)
    (case l_4 => k_is)
    (case c_4 => k_is)
    (case k_4 => k_is)
    (case a_5 => k_is)
    (case l_5 => k_is)
    (case c_5 => k_is)
    (case k_5 => k_is)
    (case a_6 => k_is)
    (case l_6 => k_is)
    (case c_6 => k_is)
    (case k_6 => k_is)
    (case a_7 => k_is)
    (case l_7 => k_is)
    (case c_7 => k_is)
    (case k_7 => k_is)
    (case a_8 => k_is)
    (case l_8 => k_is)
    (case c_8 => k_is)
    (case k_8 => k_is)
    (case a_9 => k_is)
    (case l_9 => k_is)
    (case c_9 => k_is)
    (case k_9 => k_is)
    (case a_10 => k_is)
    (case l_10 => k_is)
    (case c_10 => k_is)
    (case k_10 => k_is)
    (case a_11 => k_is)
    (case l_11 => k_is)
    (case c_11 => k_is)
    (case k_11 => k_is)
    (case a_12 => k_is)
    (case l_12 => k_is)
    (case c_12 => k_is)
    (case k_12 => k_is)
    (case a_13 => k_is)
    (case l_13 => k_is)
    (case c_13 => k_is)
    (case k_13 => k_is)
    (case a_14 => k_is)
    (case l_14 => k_is)
    (case c_14 => k_is)
    (case k_14 => k_is)
    (case a_15 => k_is)
    (case l_15 => k_is)
    (case c_15 => k_is)
    (case k_15 => k_is)
    (case a_16 => k_is)
    (case l_16 => k_is)
    (case c_16 => k_is)
    (case k_16 => k_is)
    (case a_17 => k_is)
    (case l_17 => k_is)
    (case c_17 => k_is)
    (case k_17 => k_is)
    (case a_18 => k_is)
    (case l_18 => k_is)
    (case c_18 => k_is)
    (case k_18 => k_is)
    (case a_19 => k_is)
    (case l_19 => k_is)
    (case c_19 => k_is)
    (case k_19 => k_is)
    (case a_20 => k_is)
    (case l_20 => k_is)
    (case c_20 => k_is)
    (case k_20 => k_is)
    (case a_21 => k_is)
    (case l_21 => k_is)
    (case c_21 => k_is)
    (case k_21 => k_is)
    (case a_22 => k_is)
    (case l_22 => k_is)
    (case c_22 => k_is)
    (case k_22 => k_is)
    (case a_23 => k_is)
    (case l_23 => k_is)
    (case c_23 => k_is)
    (case k_23 => k_is)
    (case a_24 => k_is)
    (case l_24 => k_is)
    (case c_24 => k_is)
    (case k_24 => k_is)
    (case a_25 => k_is)
    (case l_25 => k_is)
    (case c_25 => k_is)
    (case k_25 => k_is)
    (case a_26 => k_is)
    (case l_26 => k_is)
    (case c_26 => k_is)
    (case k_26 => k_is)
    (case a_27 => k_is)
    (case l_27 => k_is)
    (case c_27 => k_is)
    (case k_27 => k_is)
    (case a_28 => k_is)
    (case l_28 => k_is)
    (case c_28 => k_is)
    (case k_28 => k_is)
    (case a_29 => k_is)
    (case l_29 => k_is)
    (case c_29 => k_is)
    (case k_29 => k_is)
    (case a_30 => k_is)
    (case l_30 => k_is)
    (case c_30 => k_is)
    (case k_30 => k_is)
    (case a_31 => k_is)
    (case l_31 => k_is)
    (case c_31 => k_is)
    (case k_31 => k_is)
    (case a_32 => k_is)
    (case l_32 => k_is)
    (case c_32 => k_is)
    (case k_32 => k_is)
    (case z_abs => k_is)
    (case z_isinstance => k_is)
    (case z_len => k_is)
    (case z_list => k_is)
    (case z_range => k_is)
    (case z_set => k_is)
    (case z_sorted => k_is)
    (case z_sum => k_is)
    (case z_tuple => k_is)
    (case y_BadDeed => k_is)
    (case y_BadKinds => k_is)
    (case y_BadRule => k_is)
    (case y_BadText => k_is)
    (case y_BadWord => k_is)
    (case y_NoSuch => k_is)
    (case y_NotOne => k_is)
    (case y_TooMany => k_is)
    (case e_BadKinds => kernel_rfl)
    (case e_BadWord => kernel_rfl)
    (case e_TooMany => kernel_rfl)
    (case e_NoSuch => kernel_rfl)
    (case n1_NoRing => k_is)
    (case n2_NoRing => k_is)
    (case n3_NoRing => k_is)
    (case n4_NoRing => k_is)
    (case n5_NoRing => k_is)
    (case n6_NoRing => k_is)
    (case n7_NoRing => k_is)
    (case n8_NoRing => kernel_rfl)
    (case g_LETTERS => k_is)
    (case r_LETTERS => exact ⟨_, rfl⟩)
    (case g_LONGEST => k_is)
    (case r_LONGEST => exact ⟨_, rfl⟩)
    (case g_MOST_OF_A_WEB => k_is)
    (case r_MOST_OF_A_WEB => exact ⟨_, rfl⟩)
    (case g_LONGEST_OF_A_WEB => k_is)
    (case r_LONGEST_OF_A_WEB => exact ⟨_, rfl⟩)
    (case q_o => kts_exm)
    (case q_b => kit_is)
    (case q_a => kit_is)
    (case pg_Web => k_is)
    (case hd_Web => k_is)
    (case po_Web => k_is)
    (case sa_Web => k_is)
    (case mk_Web => k_is)
    (case kc_Web => k_is)
    (case na_Web_words => k_is)
    (case na_Web_length => k_is)
    (case ei_NoRing => kernel_rfl)
    (case sa_NoRing => k_is)
    (case kc_NoRing => k_is)
    (case hd_NoRing => k_is)
    (case na_NoRing_paper => k_is)
    (case bg_OnceError => kernel_rfl)
    (case br_OnceError => kernel_rfl)
    (case bf_OnceError => kernel_rfl)
    (case i_Web_init => k_is)
    (case i_NoRing_init => k_is)
#print axioms PySem.Challenge.cw_onceround_k21_whole_row_ends_holds
